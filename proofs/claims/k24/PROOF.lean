import PyProof.Rows.All
import Wide.All
import OpenK.AllK
import Wide.FinOn
import Open.Tops
import Lean
import PyProof.EqAt
import PyProof.EqKinds
import PyProof.TupleCall
import PyProof.ExcInit
import PyProof.ExcClass3
import PyProof.ExcBaseAll.ValueError
import PyProof.InstStoreFacts
import KE.KTryMore
import PyProof.RulesAs
import PyProof.NsDelKeeps
import PyProof.Rows.SortRuns
import KE.KDictSum
import KE.KSortTup
import PyProof.Rows.SetFrom
import PyProof.Rows.MinMaxN
import KE.KDictOf
import KE.KDictList
import PySem.Challenge.RW_beamtender_k24_play_full
set_option genSizeOf false
set_option bootstrap.genMatcherCode false
set_option Elab.async false
set_option linter.all false
set_option maxRecDepth 100000
set_option maxHeartbeats 4000000
namespace PySem.W.Fast
def tw3494790336622791477:=()
def tw15536343108287694871:=()
def tw11857704561511936598:=()
def tw15752777336655377611:=()
def tw17477964225710263558:=()
def tw14909222468634073597:=()
def tw6307372215152092878:=()
def tw1294872539189351102:=()
def tw7237534449651285625:=()
def tw14848026642332231369:=()
def tw10443972115167685737:=()
def tw9454596663663417057:=()
def tw16124907296705905126:=()
def tw17984828250133696484:=()
def tw9067880156794877461:=()
def tw3053039681705907590:=()
def tw10671703017435314962:=()
def tw7856366617642422951:=()
def tw5984143708942506367:=()
def tw18405930110733475709:=()
def tw10907921588547254137:=()
def tw12956959381625706810:=()
def tw1152981414993886155:=()
def tw7202855037154246143:=()
def tw18272578698108203428:=()
def tw10663524056049230594:=()
def tw2467528430711677637:=()
def tw6287023359698139569:=()
def tw13918070900721017462:=()
def tw18412536637008336101:=()
def tw17976260235993306699:=()
def tw18008403900301762646:=()
def tw9411876675700126472:=()
def tw14678072303138634297:=()
def tw5821911006821443499:=()
def tw13938373448573225456:=()
def tw10633027821192320760:=()
def tw8964479381270053676:=()
def tw9599814098166041113:=()
def tw14622875301053106882:=()
def tw16628238818213800457:=()
def tw18122505570158028760:=()
def tw12613960377730603896:=()
def tw16293240915958999274:=()
def tw10553553139812338481:=()
def tw7436801061771752070:=()
def tw16300821235226906413:=()
def tw7024217113650771631:=()
def tw5268945621321606819:=()
def tw8683761304018220842:=()
def tw15925265949448558729:=()
def tw8154386272651081202:=()
def tw3890045312479836345:=()
def tw5064875532240029374:=()
def tw8289201723033672784:=()
def tw17272878522769818577:=()
def tw6823255452266843197:=()
def tw2911320888559986973:=()
def tw1445692441522581213:=()
def tw14905249040276316220:=()
def tw3512349219367216684:=()
def tw5432035734325582079:=()
def tw4599408916308314879:=()
def tw9437125512719922277:=()
def tw8653984309956016162:=()
def tw2490022422658820593:=()
def tw1845818362578280308:=()
def tw15484327021457262774:=()
def tw15722570886316303471:=()
def tw12307263872765737386:=()
def tw16601209679299077434:=()
def tw14259238945965199361:=()
def tw18289631012114666751:=()
def tw6583059497908401695:=()
def tw6534638269923451698:=()
def tw18267388806484754249:=()
def tw8620533275595119947:=()
def tw13937447743923076125:=()
def tw4304239475801117149:=()
def tw4316502217705610182:=()
def tw13092458314787671302:=()
def tw13289688069668668681:=()
def tw12910276793347104840:=()
def tw5117503310810416566:=()
def tw103882420914111513:=()
def tw2820001725760277863:=()
def tw1028674323301138617:=()
def tw6292772210794946620:=()
def tw10717283139417537689:=()
def tw16016550133085892538:=()
def tw11364337024742858680:=()
def tw17052796983068791434:=()
def tw13330442626456223456:=()
def tw15078077610679079894:=()
def tw7046939658872891319:=()
def tw657412986481394591:=()
def tw8388551247895793903:=()
def tw8890067713494089578:=()
def tw7714284404807913830:=()
def tw12502990643044651330:=()
def tw2997100427077911204:=()
def tw6635356975490421724:=()
def tw15635021653711906561:=()
def tw13980391716373973125:=()
def tw16274425047615367574:=()
def tw4517699912411949365:=()
def tw9408222747589952149:=()
def tw1000842258696149368:=()
def tw15549063411931563809:=()
def tw3178918529748216085:=()
def tw3315807339538290543:=()
def tw6990771862922980847:=()
def tw12544126094507759576:=()
def tw6634899264410076467:=()
def tw510508489687345004:=()
def tw94312369156794807:=()
def tw7702557359998385182:=()
def tw3104085137606496750:=()
def tw13940807443798281087:=()
def tw18058020925672519607:=()
def tw2730991201691382297:=()
def tw15631277070633500900:=()
def tw15865710152223597601:=()
def tw11152937896425033067:=()
def tw16919948864608603538:=()
def tw7081219217070067141:=()
def tw7167577888936402910:=()
def tw9197304658949117301:=()
def tw15960876296514698637:=()
def tw5435949670003172306:=()
def tw14568153936693026545:=()
def tw16496239058014000790:=()
def tw1275438384871646307:=()
def tw12738888062330648496:=()
def tw10820806771485820009:=()
def tw4062561085211183239:=()
def tw10973713330888040641:=()
def tw11314678246958923041:=()
def tw2344292890008453064:=()
def tw9280559720540160438:=()
def tw7993358469165024741:=()
def tw9507497468520644574:=()
def tw3450276488458835093:=()
def tw11299500888830994319:=()
def tw15946059240643880343:=()
def tw2504313450237132770:=()
def tw5618704081367992974:=()
def tw7602320758946591936:=()
def tw11370362293830285689:=()
def tw16738802809170340383:=()
def tw7250266115057885554:=()
def tw16077915678027328600:=()
def tw12124372697101007219:=()
def tw5822687539928157022:=()
def tw9617132747901357244:=()
def tw10698064970625755929:=()
def tw6906358602825296887:=()
def tw16265753608964126237:=()
def tw9817034422625372291:=()
def tw16491373875333170620:=()
def tw345614751814102749:=()
def tw8199544070925167628:=()
def tw4011314796010634301:=()
def tw13715859635340528996:=()
def tw2376146251339899467:=()
def tw12703518704471188779:=()
def tw15089149639592806085:=()
def tw8863032751403379839:=()
def tw12762170892830866863:=()
def tw2100303338328872314:=()
def tw10323030359388251718:=()
def tw14352405326576224817:=()
def tw12620750862402277421:=()
def tw6055733791399981480:=()
def tw15040187060045286449:=()
def tw14370623580232250223:=()
def tw6138748847494444489:=()
def tw5393993317531125005:=()
def tw13284986261401224365:=()
def tw14149134608102500887:=()
def tw14168097292776707022:=()
def tw5099782730629757621:=()
def tw9716621485308279651:=()
def tw9513884694578321976:=()
def tw964025291714068046:=()
def tw3882083040895872235:=()
def tw4698872473200378980:=()
def tw8462681007095224893:=()
def tw10636932806721120778:=()
def tw4181922629742367180:=()
def tw9551405537285381099:=()
def tw12781270545668495627:=()
def tw9855546673499806938:=()
def tw5417864108911599316:=()
def tw2955376334476329085:=()
def tw12401827627117488271:=()
def tw7627212981247519944:=()
def tw1583082192504555227:=()
def tw3950208620310107622:=()
def tw1703398147701914194:=()
def tw5899196017250092262:=()
def tw13395928122616157352:=()
def tw18395447249889284424:=()
def tw7991381263852058442:=()
def tw8206308077353077152:=()
def tw13886701811110005027:=()
def tw4607666237618533621:=()
def tw15699863016569598264:=()
def tw5814548082606291424:=()
def tw6832014229881987696:=()
def tw10405599694063812739:=()
def tw6384380429368410037:=()
def tw1887009147814325085:=()
def tw3682201383558988232:=()
def tw234708281142473747:=()
def tw11070642299167359730:=()
def tw6881704362152558297:=()
def tw2611873140177220868:=()
def tw3019469949455086360:=()
def tw2815197545554746675:=()
def tw11684820928529727840:=()
def tw3153598760386040636:=()
def tw12272734062397362457:=()
def tw13729778500139187802:=()
def tw690076699259883706:=()
def tw17485055340540243352:=()
def tw4957002753913949090:=()
def tw15989004983770298846:=()
def tw6219350956196092624:=()
def tw10295489694689422546:=()
def tw4258499475166030357:=()
def tw4967620232448868771:=()
def tw9218870538010551065:=()
def tw10682301958158965649:=()
def tw11908060083009463949:=()
def tw2873906900865933853:=()
def tw320137766859689576:=()
def tw4740779726407543000:=()
def tw106625873526075968:=()
def tw16328061554116807395:=()
def tw12267645336050823156:=()
def tw17440565668709887607:=()
def tw17688860007147443142:=()
def tw16177564472515902282:=()
def tw12854131776258026056:=()
def tw16712202820130727285:=()
def tw16621055288179733572:=()
def tw2576865675407354130:=()
def tw15603082487305424121:=()
def tw9774171697980739067:=()
def tw13042987009090369755:=()
def tw18127286466306570104:=()
def tw3723177373317537601:=()
def tw2791225963907702458:=()
def tw7691898122354419227:=()
def tw7394711482365575798:=()
def tw17290972964042678537:=()
def tw9254505162750572084:=()
def tw10683490133551891102:=()
def tw6003258108348354880:=()
def tw12585168246023265348:=()
def tw11594446826732008288:=()
def tw10903336093356984243:=()
def tw7235606131348083305:=()
def tw6495966422785669206:=()
def tw6372348885402806909:=()
def tw5472503011569244256:=()
def tw4741379270892838527:=()
def tw6327129590609866705:=()
def tw3013017930218729373:=()
def tw17730509932181441153:=()
def tw15822585218116058443:=()
def tw4660974710332887931:=()
def tw12651480319358766588:=()
def tw15200283316858162990:=()
def tw18262652103830669830:=()
def tw11078359832463643296:=()
def tw7827199926834777277:=()
def tw10267624684649909220:=()
def tw13558348420056965489:=()
def tw12107526965478557161:=()
def tw745352489645978357:=()
def tw13787976772580409567:=()
def tw8310924538936311254:=()
def tw1468086669501970598:=()
def tw15408855724385353760:=()
def tw6400503971435075644:=()
def tw7060202860672180828:=()
def tw2121349194463633830:=()
def tw17258161852213530925:=()
def tw7471782390009903681:=()
def tw4098889890243815929:=()
def tw13913515062690201963:=()
def tw1932415249604858339:=()
def tw4965868089462060063:=()
def tw17053860226579071322:=()
def tw15027230264651535303:=()
def tw12698112638984492008:=()
def tw17257756357986011854:=()
def tw6215533152039126534:=()
def tw4811901259312654301:=()
def tw8066867726715957376:=()
def tw3687594823114701914:=()
def tw5957374806781909904:=()
def tw7153372282856021588:=()
def tw3830430188680812704:=()
def tw3065183089253288475:=()
def tw10996526213340549019:=()
def tw3933184146734922484:=()
def tw12210542442915399151:=()
def tw4550551621403207681:=()
def tw8339506708182586647:=()
def tw6413828415916323946:=()
def tw3950468068174259121:=()
def tw1435658892294650183:=()
def tw11408032075819563114:=()
def tw16122719051663199940:=()
def tw18429356701781453102:=()
def tw13401354008174147642:=()
def tw10891832162847521679:=()
def tw17319465659006786200:=()
def tw10444024752661012937:=()
def tw5307621015708992375:=()
def tw15328714800068425390:=()
def tw1492534315095241964:=()
def tw9975440970417669999:=()
def tw8251602390916239078:=()
def tw12752150830553017451:=()
def tw5355366707231505081:=()
def tw12949322264152296818:=()
def tw7763899285281672527:=()
def tw15184719589391248835:=()
def tw1011886094808034365:=()
def tw946860814155284815:=()
def tw10115618877673005015:=()
def tw9010099809741596245:=()
def tw8440458137534088382:=()
def tw8179984010025559478:=()
def tw1916129475366820216:=()
def tw16357710459693451616:=()
def tw16693665330406178084:=()
def tw7913487494982484974:=()
def tw8799843197480935225:=()
def tw1541844247297520286:=()
def tw11920347305827331542:=()
def tw9577353047086436272:=()
def tw6221288335226394357:=()
def tw8358301076202330920:=()
def tw9825204371644591898:=()
def tw14319998673970433405:=()
def tw17843169904580934029:=()
def tw411974920610325560:=()
def tw11035741090231338881:=()
def tw16571092839454270792:=()
def tw3959295344381382892:=()
def tw9955913986758740559:=()
def tw6456229382141864479:=()
def tw1020594836707305216:=()
def tw14677674703312933230:=()
def tw9016096609202252766:=()
def tw11536218870955491037:=()
def tw6060218190050778635:=()
def tw3310003191857137361:=()
def tw7501313016683694444:=()
def tw529854329468910250:=()
def tw665817556643461201:=()
def tw10884504835522081619:=()
def tw12884345898040493565:=()
def tw13727869218938716840:=()
def tw243014645851030326:=()
def tw3761220389164215930:=()
def tw2660240500735174058:=()
def tw12568553590447402063:=()
def tw14511448695305008439:=()
def tw8231027407842749250:=()
def tw7665099563914829251:=()
def tw2211392441463003465:=()
def tw12273328002279823398:=()
def tw12473246741174196860:=()
def tw10959502279142616385:=()
def tw9178179058778410696:=()
def tw11230721723131433943:=()
def tw2664406493659040729:=()
def tw502495836982246989:=()
def tw8527514369018007257:=()
def tw12671018709270084346:=()
def tw15097151832389050100:=()
def tw11099970509632848620:=()
def tw7583253911553056191:=()
def tw9737242364353111794:=()
def tw10502333760148425580:=()
def tw5245458672508240684:=()
def tw4174351403395228357:=()
def tw14901276094066464836:=()
def tw17944799468427730365:=()
def tw1514344064824093552:=()
def tw11081201899694047314:=()
def tw6562163041563323974:=()
def tw7585699332345302173:=()
def tw14604571660382628760:=()
def tw12991364490781070965:=()
def tw15110016688105263360:=()
def tw13537983921936202266:=()
def tw1080543337418065352:=()
def tw13839079010758941282:=()
def tw13280436945506912963:=()
def tw10926737936791278328:=()
def tw3569682346032787453:=()
def tw47161570704036718:=()
def tw7439883640280057394:=()
def tw5861541601230951947:=()
def tw14156178658299049237:=()
def tw15900320810049575337:=()
def tw3230255935634896069:=()
def tw14793528613841356241:=()
def tw5898995299599593840:=()
def tw12277332928456287399:=()
def tw13943940324916339923:=()
def tw309385545636862894:=()
def tw4500830113821270154:=()
def tw7665518572684538450:=()
def tw10265172942697640106:=()
def tw251300949455718942:=()
def tw5311949027486367893:=()
def tw9979345423554215016:=()
def tw17831479145759565942:=()
def tw11584462806950388552:=()
def tw10447469443959813410:=()
def tw2488668148265196763:=()
def tw15690082421701309362:=()
def tw11584437843894268061:=()
def tw13861638413835968133:=()
def tw7007480984082095211:=()
def tw11867774271635991182:=()
def tw13342077861458292948:=()
def tw4029000634431701355:=()
def tw12021309773596684918:=()
def tw11070629219782796279:=()
def tw15583261048998747082:=()
def tw12082984467767432189:=()
def tw8730214639264383543:=()
def tw18440469551446415907:=()
def tw8133356010422923449:=()
def tw7265332195313137301:=()
def tw4090890459014202459:=()
def tw6004625546920555698:=()
def tw15904199594167711245:=()
def tw4631560925069724547:=()
def tw16960749861441929826:=()
def tw15621976337650108401:=()
def tw8205921478930665647:=()
def tw5095241650374078947:=()
def tw11435391619590941314:=()
def tw7171795642936334445:=()
def tw11403076821752195099:=()
def tw550970613757312479:=()
def tw16117101471947578159:=()
def tw8124644221008253179:=()
def tw10404248668069894984:=()
def tw17539524990856458832:=()
def tw6441725991987630624:=()
def tw15383817708442787579:=()
def tw9640275783446171127:=()
def tw6021518616687916795:=()
def tw17833299349283812095:=()
def tw9487836372720062715:=()
def tw12185636834206920843:=()
def tw3268749869809907918:=()
def tw7194236489510154445:=()
def tw967181451958306903:=()
def tw524048258799688333:=()
def tw13112545718370287331:=()
def tw5398983549539484722:=()
def tw8954937720878738642:=()
def tw3928190779004742125:=()
def tw8759779739261265001:=()
def tw16303290952775889906:=()
def tw12763405279172489904:=()
def tw14195979810670126923:=()
def tw2154145614821177048:=()
def tw12253003181905998971:=()
def tw5789531465213741093:=()
def tw6773530256975149701:=()
def tw10674909896736814064:=()
def tw3973855673088287084:=()
def tw14698416519950074807:=()
def tw16836811406650566717:=()
def tw13354989398945762970:=()
def tw7176615548978978305:=()
def tw7164401465345759305:=()
def tw14404858087532498792:=()
def tw2982073985316677885:=()
def tw1706671325077604251:=()
def tw12434623591825852099:=()
def tw16650694349510481960:=()
def tw2555765356103515764:=()
def tw7784344898248670515:=()
def tw7919678704030120392:=()
def tw9660912392891133213:=()
def tw13702891178513515200:=()
def tw10344600693680649153:=()
def tw917337710372036723:=()
def tw11371428006593430020:=()
def tw15920540932329065186:=()
def tw7968951724926223929:=()
def tw3423665176513870012:=()
def tw11446110343686128798:=()
def tw3310474441111162943:=()
def tw5075138786544600868:=()
def tw14153967976283286783:=()
def tw17486924553695584823:=()
def tw13549170709803225205:=()
def tw4432696882315497185:=()
def tw16447386301716905953:=()
def tw15750463272130842748:=()
def tw2524090735876988561:=()
def tw7969766742950106731:=()
def tw4478221943781944084:=()
def tw14870904656566379462:=()
def tw16569931499038282646:=()
def tw13426165663420723542:=()
def tw14820718122027986871:=()
def tw13202563430854603687:=()
def tw7206778218585899309:=()
def tw15829146534619486502:=()
def tw12792605756621036232:=()
def tw17651009731352378086:=()
def tw12139359464509512641:=()
def tw16762623236577580084:=()
def tw7926501758438157998:=()
def tw3702636365320745834:=()
def tw10536315786308224165:=()
def tw14792473070074900555:=()
def tw14373597996661344341:=()
def tw15093368838134435:=()
def tw1773169158880882427:=()
def tw6225532646710409926:=()
def tw16881123178058997748:=()
def tw11281166094575822959:=()
def tw16107666608751028353:=()
def tw10768007242653255701:=()
def tw11314527338411894176:=()
def tw4944619957281068203:=()
def tw5286631185430878847:=()
def tw11690546079099957906:=()
def tw333248365107832312:=()
def tw4603454429747954337:=()
def tw7307169189179478989:=()
def tw12967348301036314611:=()
def tw12995501554110903693:=()
def tw3344264856214762453:=()
def tw11135430593145654385:=()
def tw1809605570951312235:=()
def tw8995606092004679833:=()
def tw6591068968677951190:=()
def tw4147172054237745600:=()
def tw16863946444375655495:=()
def tw17732300699792209884:=()
def tw17785670394790641944:=()
def tw5421079637615113093:=()
def tw15672374552946108175:=()
def tw17871783018722114982:=()
def tw5201439970778346952:=()
def tw9143438935812720737:=()
def tw14236634364658081537:=()
def tw5187851378665936109:=()
def tw18208548051911198538:=()
def tw18023315080647246177:=()
def tw13656641336819677139:=()
def tw17095139741727789705:=()
def tw8229999116681756232:=()
def tw4713069534419796162:=()
def tw364469574641551040:=()
def tw7010526503082130429:=()
def tw13152590778591533176:=()
def tw15382510762436192212:=()
def tw9490309155736654723:=()
def tw12772585543002508241:=()
def tw17868243287415312093:=()
def tw14843347528962581828:=()
def tw2363476461658947551:=()
def tw10797328515250830899:=()
def tw14733206643531474862:=()
def tw17199159853307523207:=()
def tw11433929975891882672:=()
def tw6725825616237840880:=()
def tw8881223281460589460:=()
def tw17644102203623948242:=()
def tw14835577465991547960:=()
def tw16052925329391691182:=()
def tw997224137280953189:=()
def tw2986853603175758542:=()
def tw13758886572044511055:=()
def tw6934088958044369265:=()
def tw12993480101637167594:=()
def tw992578291410507126:=()
def tw13361512355217181844:=()
def tw4643641504793591570:=()
def tw9497405924168858852:=()
def tw4877520079002938526:=()
def tw1495706088296548418:=()
def tw6031122854090520158:=()
def tw10608706364209625476:=()
def tw9140988504525319348:=()
def tw7397810502203696631:=()
def tw13462262104740601851:=()
def tw3906453053357832964:=()
def tw15671616451417279977:=()
def tw11264357567346939185:=()
def tw18093989898940529549:=()
def tw702434908443484134:=()
def tw13614203293442473197:=()
def tw13320229121842498971:=()
def tw10729357167079503072:=()
def tw5553697080074124688:=()
def tw2891220202907601008:=()
def tw3813410779409231638:=()
def tw3861606038893987337:=()
def tw13946348057117374256:=()
def tw3907586277253645097:=()
def tw5274323582478993231:=()
def tw9261912173675001780:=()
def tw3664616630974729063:=()
def tw12764176105014554140:=()
def tw2016363088339311255:=()
def tw4351698689999212943:=()
def tw12679218988453564108:=()
def tw5135736572065235579:=()
def tw4474616014057159464:=()
def tw10773560197866110006:=()
def tw4390279131836267088:=()
def tw2011555492112828246:=()
def tw7623038827320487181:=()
def tw8935234141450513339:=()
def tw16675341003553534651:=()
def tw10519803351992640348:=()
def tw749535203436275088:=()
def tw16406280931205194270:=()
def tw5201177504743588063:=()
def tw2146441801159321955:=()
def tw18293733909171823212:=()
def tw11083148007498289306:=()
def tw10949506091610597739:=()
def tw16641453272553709830:=()
def tw1203876397815184991:=()
def tw7405962837535278410:=()
def tw15773070554968225377:=()
def tw2868388387182049889:=()
def tw12731276180364625750:=()
def tw17445749835807171932:=()
def tw3892339713924144158:=()
def tw7098733711066978957:=()
def tw5144439909583942213:=()
def tw1085576644555162150:=()
end PySem.W.Fast
open_shared Tp for PySem.Challenge.pw_beamtender_k24_play_full leaving 1
section
local macro_rules|`(tactic|omega)=>`(tactic|first|lia|omega (config:={}))
set_option hygiene false
set_option compiler.extract_closed false
namespace L2
open PySem PySem.Spec PyProof.Rows
abbrev _root_.VP:=Value->Shared->Prop
abbrev _root_.Qa:=@List.length_map
abbrev _root_.Qb:=@wpAny_bind
abbrev _root_.Qc:=@Heap.get?_push_of_some
abbrev _root_.Qd:=@wpAny_pure
abbrev _root_.Qe:=@List.getElem?_eq_getElem
abbrev _root_.Qf:=@decide_eq_false
abbrev _root_.Qg:=@decide_eq_true
abbrev _root_.Qh:=@if_neg
abbrev _root_.Qi:=@List.length_append
abbrev _root_.Qj:=@Nat.le_refl
abbrev _root_.Qk:=@List.map_append
abbrev _root_.Ql:=@List.length_cons
abbrev _root_.Qm:=@Heap.get?_push_size
abbrev _root_.Qn:=@List.size_toArray
abbrev _root_.Qo:=@if_pos
abbrev _root_.Qp:=@Heap.lt_size
abbrev _root_.Qq:=@List.mem_cons
abbrev _root_.Qr:=@PySem.boot_len
abbrev _root_.Qs:=@List.getD_eq_getElem?_getD
abbrev _root_.Qt:=@List.mem_of_getElem?
abbrev _root_.Qu:=@List.mem_cons_of_mem
abbrev _root_.Qv:=@List.map_cons
abbrev _root_.Qw:=@Bool.false_ne_true
abbrev _root_.Qx:=@PyProof.Rows.boot_isinstance
abbrev _root_.Qy:=@List.eq_nil_of_length_eq_zero
abbrev _root_.Qz:=@Nat.ne_of_lt
abbrev _root_.QA:=@Option.some.inj
abbrev _root_.QB:=@List.mem_append
abbrev _root_.QC:=@PySem.F.plainAttrs_list
abbrev _root_.QD:=@Nat.zero_le
abbrev _root_.QE:=@Array.length_toList
abbrev _root_.QF:=@List.mem_cons_self
abbrev _root_.QG:=@List.getElem?_append_right
abbrev _root_.QH:=@Nat.lt_of_lt_of_le
abbrev _root_.QI:=@List.mem_singleton
abbrev _root_.QJ:=@Nat.le_trans
abbrev _root_.QK:=@List.mem_append_right
abbrev _root_.QL:=@PySem.F.type_list_append
abbrev _root_.QM:=@PySem.F.slot_list_append
abbrev _root_.QN:=@List.mem_map
abbrev _root_.QO:=@of_decide_eq_true
abbrev _root_.QP:=@List.take_succ
abbrev _root_.QQ:=@List.getElem?_map
abbrev _root_.QR:=@List.take_length
abbrev _root_.QS:=@List.not_mem_nil
abbrev _root_.QT:=@List.length_take
abbrev _root_.QU:=@List.append_assoc
abbrev _root_.QV:=@PyProof.Rows.boot_tuple
abbrev _root_.QW:=@List.length_set
abbrev _root_.QX:=@List.getElem?_eq_some_iff
abbrev _root_.QY:=@Nat.lt_or_ge
abbrev _root_.QZ:=@Nat.le_of_lt
abbrev _root_.Za:=@Int.emod_lt_of_pos
abbrev _root_.Zb:=@PyProof.Rows.boot_str
abbrev _root_.Zc:=@Int.emod_nonneg
abbrev _root_.Zd:=@List.take_of_length_le
abbrev _root_.Ze:=@wpS_bind
abbrev _root_.Zf:=@List.getElem?_eq_none
abbrev _root_.Zg:=@wpAny_mono
abbrev _root_.Zh:=@List.lookup_cons
abbrev _root_.Zi:=@Int.toNat_natCast
abbrev _root_.Zj:=@List.getElem?_append_left
abbrev _root_.Zk:=@Bool.false_eq_true
abbrev _root_.Zl:=@PySem.F.plainAttrs_str
abbrev _root_.Zm:=@Heap.get?_update_self
abbrev _root_.Zn:=@List.map_map
abbrev _root_.Zo:=@Heap.get?_update_other
abbrev _root_.Zp:=@PyProof.Rows.boot_abs
abbrev _root_.Zq:=@List.length_singleton
abbrev _root_.Zr:=@Heap.size_push
abbrev _root_.Zs:=@List.length_nil
abbrev _root_.Zt:=@List.append_nil
abbrev _root_.Zu:=@wpS_pure
abbrev _root_.Zv:=@PyProof.Rows.boot_list
abbrev _root_.Zw:=@List.length_reverse
abbrev _root_.Zx:=@Nat.min_eq_left
abbrev _root_.Zy:=@List.pairwise_iff_getElem
abbrev _root_.Zz:=@List.getElem_mem
abbrev _root_.ZA:=@List.reverse_cons
abbrev _root_.ZB:=@List.replicate_succ
abbrev _root_.ZC:=@List.length_zipWith
abbrev _root_.ZD:=@Array.getElem?_eq_some_iff
abbrev _root_.ZE:=@Array.getElem?_toList
abbrev _root_.ZF:=@List.mem_append_left
abbrev _root_.ZG:=@Nat.lt_irrefl
abbrev _root_.ZH:=@PySem.F.slot_tuple_count
abbrev _root_.ZI:=@call_meets
abbrev _root_.ZJ:=@getElem?_pos
abbrev _root_.ZK:=@List.mem_replicate
abbrev _root_.ZL:=@List.filter_append
noncomputable abbrev Key:=Sum Int Str
noncomputable def zT2:Key->Value->Bool
 | .inl k,v=>Value.isInt k v
 | .inr x,v=>Value.isStrOf x v
noncomputable def keyH (w:World):Key->Int
 | .inl k=>hashInt k
 | .inr x=>hashStr w x
theorem zi1:∀ {k:Key} {v:Value},zT2 k v=true->(∃i t,k=Sum.inl i/\v=Value.int i t)\/(∃x t,k=Sum.inr x/\v=Value.str x t)
 | .inl i,v,h=>by
   obtain⟨t,e⟩:=Value.isInt_shape (k:=i) (v:=v) h;exact .inl ⟨i,t,rfl,e⟩
 | .inr x,v,h=>by
   obtain⟨t,e⟩:=Value.isStrOf_shape (x:=x) (v:=v) h;exact .inr ⟨x,t,rfl,e⟩
theorem keyIs_int (i:Int)(t:Tok):zT2 (.inl i) (.int i t)=true:=by simp[zT2,Value.isInt]
theorem keyIs_str (x:Str)(t:Tok):zT2 (.inr x) (.str x t)=true:=by simp[zT2,Value.isStrOf]
theorem key_ll (a b:Int):decide ((Sum.inl a:Key)=Sum.inl b)=(a == b):=by
 by_cases e:a=b
 . subst e;simp
 . have h:¬ (Sum.inl a:Key)=Sum.inl b:=λq=>e (Sum.inl.inj q)
   rw[Qf h];exact(beq_eq_false_iff_ne.mpr e).symm
theorem key_rr (a b:Str):decide ((Sum.inr a:Key)=Sum.inr b)=decide (a=b):=by
 by_cases e:a=b
 . subst e;simp
 . have h:¬ (Sum.inr a:Key)=Sum.inr b:=λq=>e (Sum.inr.inj q)
   rw[Qf h,Qf e]
theorem key_lr (a:Int)(b:Str):decide ((Sum.inl a:Key)=Sum.inr b)=false:=Qf (λq=>nomatch q)
theorem key_rl (a:Str)(b:Int):decide ((Sum.inr a:Key)=Sum.inl b)=false:=Qf (λq=>nomatch q)
noncomputable def zk6 (prog:Program)(w:World):PySem.KeyKind prog w Key where
 is:=zT2
 hash:=keyH w
 inj:=λv a b ha hb=>by
   rcases zi1 ha with⟨i,t,rfl,rfl⟩ | ⟨x,t,rfl,rfl⟩
   . rcases zi1 hb with⟨j,u,rfl,e⟩ | ⟨y,u,rfl,e⟩
     . injection e with e1 _;rw[e1]
     . exact nomatch e
   . rcases zi1 hb with⟨j,u,rfl,e⟩ | ⟨y,u,rfl,e⟩
     . exact nomatch e
     . injection e with e1 _;rw[e1]
 byValue:=λk v h=>by
   rcases zi1 h with⟨i,t,rfl,rfl⟩ | ⟨x,t,rfl,rfl⟩<;>rfl
 pyHash:=λhv h=>by
   rcases zi1 hv with⟨i,t,rfl,rfl⟩ | ⟨x,t,rfl,rfl⟩
   . exact wpAny_pyHash_int h
   . exact wpAny_pyHash_str h
 eqBool:=λhu hv h=>by
   rcases zi1 hu with⟨i,t,rfl,rfl⟩ | ⟨x,t,rfl,rfl⟩
   . rcases zi1 hv with⟨j,u,rfl,rfl⟩ | ⟨y,u,rfl,rfl⟩
     . rw[key_ll] at h;exact wpAny_eqBool_int h
     . rw[key_lr] at h;exact SeqAt.EqAt.int_str i t y u _ _ _ _ h
   . rcases zi1 hv with⟨j,u,rfl,rfl⟩ | ⟨y,u,rfl,rfl⟩
     . rw[key_rl] at h;exact SeqAt.EqAt.str_int x t j u _ _ _ _ h
     . rw[key_rr] at h;exact wpAny_eqBool_str h
 «strs»:=λk x t v h=>by
   rcases zi1 h with⟨i,u,rfl,e⟩ | ⟨y,u,rfl,e⟩
   . exact nomatch e
   . injection e with e1 _
     subst e1
     cases v<;>rfl
theorem mixKind_int (prog:Program)(w:World)(i:Int)(t:Tok):(zk6 prog w).is (.inl i) (.int i t)=true:=keyIs_int i t
theorem mixKind_str (prog:Program)(w:World)(x:Str)(t:Tok):(zk6 prog w).is (.inr x) (.str x t)=true:=keyIs_str x t
inductive V where
 | non | bl (b:Bool) | int (i:Int) | str (x:Str) | byt (b:Array UInt8) | flt (b:UInt64) | ref (a:Addr) | ty (n:String)
 deriving DecidableEq
noncomputable def RelV:V->Value->Prop
 | .non,u=>u=Value.none
 | .bl b,u=>u=Value.bool b
 | .int i,u=>∃t,u=Value.int i t
 | .str x,u=>∃t,u=Value.str x t
 | .byt b,u=>∃t,u=Value.bytes b t
 | .flt b,u=>∃t,u=Value.float b t
 | .ref a,u=>u=Value.ref a
 | .ty n,u=>u=Value.type n
abbrev Vals:List V->List Value->Prop:=Paired RelV
theorem Vals.length {xs:List V}{us:List Value}(r:Vals xs us):xs.length=us.length:=Paired.length r
theorem Vals.get:∀ {a:List V} {b:List Value} {i:Nat} {x:V},Vals a b->a[i]?=some x->∃u,b[i]?=some u/\RelV x u
 | _,_,_,_,.nil,e=>by simp at e
 | _,_,0,_,.cons r _,e=>by simp at e;subst e;exact⟨_,rfl,r⟩
 | _,_,i+1,x,.cons _ t,e=>by
   obtain⟨u,c,d⟩:=Vals.get (i:=i) (x:=x) t (by simpa using e);exact⟨u,by simpa using c,d⟩
theorem Vals.set {x:V}{u:Value}(r:RelV x u):∀ {a:List V} {b:List Value} (i:Nat),Vals a b->Vals (a.set i x) (b.set i u)
 | _,_,_,.nil=>.nil
 | _,_,0,.cons _ t=>.cons r t
 | _,_,i+1,.cons q t=>.cons q (Vals.set r i t)
theorem Vals.append:∀ {a b:List V} {c d:List Value},Vals a c->Vals b d->Vals (a++b) (c++d)
 | _,_,_,_,.nil,s=>s
 | _,_,_,_,.cons r t,s=>.cons r (Vals.append t s)
theorem Vals.take:∀ {a:List V} {b:List Value} (n:Nat),Vals a b->Vals (a.take n) (b.take n)
 | _,_,0,_=>.nil
 | _,_,_+1,.nil=>.nil
 | _,_,n+1,.cons r t=>.cons r (Vals.take n t)
theorem Vals.drop:∀ {a:List V} {b:List Value} (n:Nat),Vals a b->Vals (a.drop n) (b.drop n)
 | _,_,0,r=>r
 | _,_,_+1,.nil=>.nil
 | _,_,n+1,.cons _ t=>Vals.drop n t
noncomputable def RelO:Option V->Option Value->Prop
 | some v,some u=>RelV v u
 | none,none=>True
 | _,_=>False
def KV {κ:Type}:List (κ×V)->List (κ×Value)->Prop:=Paired λ(p:κ×V) (q:κ×Value)=>p.1=q.1/\RelV p.2 q.2
noncomputable def kV:Key->V
 | .inl i=>.int i
 | .inr x=>.str x
inductive HO where
 | lst (xs:List V)
 | tup (xs:List V)
 | dK (kvs:List (Key×V)) | dT (kvs:List (List Key×V))
 | set (S:Int->Bool) (n:Nat)
 | ins (C dx:Addr) (fs:List (Str×V))
 | own (x:Addr)
 | xd (fs:List (Str×V))
 | met (f x:Addr)
 | rng (lo hi:Int)
 | frz (o:Obj) (u:HO)
 | tbl (ps:Array Value)
 | ext (φ:Heap->Prop)
noncomputable abbrev Hp:=Addr->Option HO
noncomputable def upd (H:Hp)(a:Addr)(o:HO):Hp:=λb=>if b=a then some o else H b
theorem za4 {H:Hp}{a:Addr}{o:HO}:upd H a o a=some o:=by unfold upd;rw[Qo rfl]
theorem za8 {H:Hp}{a b:Addr}{o:HO}(h:b≠a):upd H a o b=H b:=by unfold upd;rw[Qh h]
theorem zh4 {H:Hp}{a:Addr}{o u:HO}:upd (upd H a o) a u=upd H a u:=by
 funext b;unfold upd;split<;>rfl
theorem zD7 {H:Hp}{a b:Addr}{o u:HO}(h:H a=some o)(h':H b=some u)(d:o≠u):a≠b:=by
 intro e;subst e;rw[h] at h';exact d (QA h')
theorem za9 {H:Hp}{a b:Addr}{o:HO}(h:H a=some o)(h':H b=none):a≠b:=by
 intro e;subst e;rw[h] at h';cases h'
def TupD (h:Heap) (a:Addr) (items:Array Value):Prop:=∃o,h.get? a=some o/\o.cls = .type "tuple"/\o.dict=none/\∃n,o.data = .seq items n
theorem TupD.isTup {h:Heap}{a:Addr}{items:Array Value}(x:TupD h a items):IsTup h a items:=let⟨o,e,c,_,n,d⟩:=x;⟨o,e,c,n,d⟩
theorem TupD.new (h:Heap) (items:Array Value):TupD (h.push { cls:=.type "tuple",data:=.seq items }) h.objs.size items:=⟨_,Qm _ rfl,rfl,rfl,_,rfl⟩
section
variable (P:Program) (w:World)
noncomputable def zg1 (H:Hp)(h:Heap)(a:Addr):HO->Prop
 | .lst xs=>xs.length<=sizeLine/\∃(its:List Value) (n:Nat),Vals xs its/\h.get? a=some { cls:=.type "list",data:=.seq its.toArray n }
 | .tup xs=>xs.length<=sizeLine/\∃its:List Value,Vals xs its/\TupD h a its.toArray
 | .dK kvs=>kvs.length<=sizeLine/\(a == sysModules)=false/\∃vs,KV kvs vs/\h.DictOf (zk6 P w) a vs
 | .dT kvs=>kvs.length<=sizeLine/\(a == sysModules)=false/\∃xs:List (List Key×Addr×Value),
     Paired (λ(p:List Key×V) (q:List Key×Addr×Value)=>p.1=q.1/\H q.2.1=some (.tup (p.1.map kV))/\RelV p.2 q.2.2) kvs xs ∧
     ∃o es ep,h.get? a=some o/\o.ExactDict/\o.data = .dict es ep/\es.toList=xs.map (entryOfKey (tupleKind (zk6 P w)))/\(xs.map (·.1)).Nodup
 | .set S n=>h.SetOf (intKind P w) a S n
 | .ins C dx fs=>H dx=some (.own a)/\fs.length<=1000/\dx≠a/\h.get? a=some (W.instObj C dx) ∧
     ∃mA,h.Ns1 dx mA/\(∀f,RelO (fs.lookup f) (mA f))/\PySem.Within mA (fs.map (·.1))
 | .own _=>∃o,h.get? a=some o
 | .xd fs=>fs.length<=1000/\∃mA,h.Ns1 a mA/\(∀f,RelO (fs.lookup f) (mA f))/\PySem.Within mA (fs.map (·.1))
 | .rng lo hi=>∃t u v,h.get? a=some { cls:=.type "range",data:=.fields #[.int lo t,.int hi u,.int 1 v] }
 | .frz o u=>h.get? a=some o/\zg1 H h a u
 | .tbl ps=>h.get? a=some { cls:=.none,data:=.fields ps }
 | .met f x=>h.get? a=some (W.methodObj (.ref f) (.ref x))
 | .ext φ=>φ h/\(∃o,h.get? a=some o)/\∀h1 h2:Heap,φ h1->(∀o,h1.get? a=some o->h2.get? a=some o)->φ h2
def HOk (H:Hp)(h:Heap):Prop:=∀a o,H a=some o->zg1 P w H h a o
end
section
variable {P:Program} {w:World} {H H':Hp} {h h':Heap} {a:Addr} {o:HO}
theorem zg1.lt (x:zg1 P w H h a o):a<h.objs.size:=by
 cases o with
 | lst c=>obtain⟨_,_,_,_,e⟩:=x;exact Qp e
 | tup c=>obtain⟨_,_,_,_,e,_⟩:=x;exact Qp e
 | dK b=>obtain⟨_,_,_,_,o,_,_,e,_⟩:=x;exact Qp e
 | dT b=>obtain⟨_,_,_,_,o,_,_,e,_⟩:=x;exact Qp e
 | set S n=>obtain⟨o,_,_,_,e,_⟩:=x;exact Qp e
 | ins C d fs=>obtain⟨_,_,_,e,_⟩:=x;exact Qp e
 | own y=>obtain⟨_,e⟩:=x;exact Qp e
 | xd fs=>obtain⟨_,_,⟨_,_,_,e,_⟩,_⟩:=x;exact Qp e
 | rng g i=>obtain⟨_,_,_,e⟩:=x;exact Qp e
 | frz j u=>obtain⟨e,_⟩:=x;exact Qp e
 | tbl k=>exact Qp (show h.get? a=some _ from x)
 | met f y=>exact Qp (show h.get? a=some _ from x)
 | ext l=>obtain⟨_,⟨_,e⟩,_⟩:=x;exact Qp e
theorem Paired.mapP {e g:Type}{F G:e->g->Prop}:∀ {c:List e} {d:List g},Paired F c d->(∀a b,F a b->G a b)->Paired G c d
 | _,_,.nil,_=>.nil
 | _,_,.cons r t,f=>.cons (f _ _ r) (Paired.mapP t f)
theorem zg1.stay (x:zg1 P w H h a o)(k:∀b u,(b=a\/H b=some (.own a))->h.get? b=some u->h'.get? b=some u)
   (F:∀b,H b=some (.own a)->H' b=some (.own a)) (G:∀b l,H b=some (.tup l)->H' b=some (.tup l)):zg1 P w H' h' a o:=by
 induction o with
 | lst l=>obtain⟨z,m,n,r,e⟩:=x;exact⟨z,m,n,r,k _ _ (.inl rfl) e⟩
 | tup l=>obtain⟨z,m,r,g,e,c⟩:=x;exact⟨z,m,r,g,k _ _ (.inl rfl) e,c⟩
 | dK E=>obtain⟨z,y,I,r,g,i,j,e,c⟩:=x;exact⟨z,y,I,r,g,i,j,k _ _ (.inl rfl) e,c⟩
 | dT E =>
   obtain⟨z,y,l,r,g,i,j,e,c⟩:=x;exact⟨z,y,l,Paired.mapP r λp q z=>⟨z.1,G _ _ z.2.1,z.2.2⟩,g,i,j,k _ _ (.inl rfl) e,c⟩
 | set S n=>obtain⟨g,i,j,t,e,c⟩:=x;exact⟨g,i,j,t,k _ _ (.inl rfl) e,c⟩
 | ins C M fs =>
   obtain⟨d,z,J,e,s,⟨A,i,j,K,c⟩,r⟩:=x;exact⟨F _ d,z,J,k _ _ (.inl rfl) e,s,⟨A,i,j,k _ _ (.inr d) K,c⟩,r⟩
 | own y=>obtain⟨g,e⟩:=x;exact⟨g,k _ _ (.inl rfl) e⟩
 | xd fs=>obtain⟨z,s,⟨A,i,j,e,c⟩,r⟩:=x;exact⟨z,s,⟨A,i,j,k _ _ (.inl rfl) e,c⟩,r⟩
 | rng N O=>obtain⟨t,u,v,e⟩:=x;exact⟨t,u,v,k _ _ (.inl rfl) e⟩
 | frz g u L=>obtain⟨e,q⟩:=x;exact⟨k _ _ (.inl rfl) e,L q⟩
 | tbl B =>
   have e:h.get? a=some { cls:=.none,data:=.fields B }:=x;show h'.get? a=some { cls:=.none,data:=.fields B };exact k a _ (.inl rfl) e
 | met f y =>
   have e:h.get? a=some (W.methodObj (.ref f) (.ref y)):=x;show h'.get? a=some (W.methodObj (.ref f) (.ref y));exact k a _ (.inl rfl) e
 | ext Q=>obtain⟨p,⟨o,e⟩,D⟩:=x;exact⟨D _ _ p λo q=>k _ _ (.inl rfl) q,⟨o,k _ _ (.inl rfl) e⟩,D⟩
theorem HOk.lt (x:HOk P w H h)(e:H a=some o):a<h.objs.size:=(x a o e).lt
theorem HOk.fresh (x:HOk P w H h)(e:h.objs.size<=a):H a=none:=by
 cases q:H a with
 | none=>rfl
 | some u=>exact absurd (QH (x.lt q) e) (ZG _)
theorem HOk.kept (x:HOk P w H h)(k:∀b u,h.get? b=some u->h'.get? b=some u):HOk P w H h':=λa o e =>
 (x a o e).stay (λb u _ q=>k b u q) (λ_ q=>q) λ_ _ q=>q
theorem HOk.laid (x:HOk P w H h)(k:∀b u,h.get? b=some u->h'.get? b=some u)(g:h.objs.size<=a)(new:zg1 P w (upd H a o) h' a o):HOk P w (upd H a o) h':=λb u e=>by
 have d:=x.fresh g;by_cases f:b=a
 . subst f;rw[za4] at e;cases e;exact new
 . rw[za8 f] at e
   exact(x b u e).stay (λc v _ q=>k c v q) (λc q=>by rw[za8 (za9 q d)];exact q) λc i q=>by rw[za8 (za9 q d)];exact q
end
def Rd (H:Hp)(a:Addr)(u:HO):Prop:=H a=some u\/∃o,H a=some (.frz o u)
theorem Rd.ok {P:Program}{w:World}{H:Hp}{h:Heap}{a:Addr}{u:HO}(r:Rd H a u)(x:HOk P w H h):zg1 P w H h a u:=by
 rcases r with r | ⟨o,r⟩
 . exact x a u r
 . obtain⟨_,q⟩:=x a _ r
   exact q
noncomputable def Mut:Option HO->Prop
 | some (.lst _)=>True
 | some (.dK _)=>True
 | some (.dT _)=>True
 | some (.set _ _)=>True
 | some (.ins _ _ _)=>True
 | some (.ext _)=>True
 | some (.xd _)=>True
 | _=>False
section
variable {P:Program} {w:World} {H:Hp} {h h':Heap} {x e:Addr} {o':HO}
theorem HOk.write (ok:HOk P w H h)(d:Mut (H x))(l:e=x\/H e=some (.own x))(k:∀b u,b≠e->h.get? b=some u->h'.get? b=some u)(o:∃u,h'.get? e=some u)
   (new:zg1 P w (upd H x o') h' x o'):HOk P w (upd H x o') h':=λb u q=>by
 have j:∀c y,H c=some (.own y)->c≠x:=λc y r z=>by subst z;rw[r] at d;exact d
 have n:∀c f,H c=some (.tup f)->c≠x:=λc f r z=>by subst z;rw[r] at d;exact d
 by_cases g:b=x
 . subst g;rw[za4] at q;cases q;exact new
 . rw[za8 g] at q
   by_cases a:b=e
   . have m:H b=some (.own x):=by
       rcases l with z | z
       . exact absurd (a.trans z) g
       . rw[a];exact z
     rw[q] at m;cases m;obtain⟨v,p⟩:=o;exact⟨v,by rw[a];exact p⟩
   . refine(ok b u q).stay (λc v i r=>k c v ?_ r) (λc r=>by rw[za8 (j c b r)];exact r) λc f r=>by rw[za8 (n c f r)];exact r
     rcases i with rfl | i
     . exact a
     . rintro rfl
       rcases l with z | z
       . exact j c b i z
       . rw[i] at z;cases z;exact g rfl
end
structure Un (fs ex:List Addr)(H H':Hp)(h h':Heap):Prop where
 keep:∀b o,h.get? b=some o->H b=none->b∉fs->b∉ex->h'.get? b=some o
 slot:∀b o,h.get? b=some o->H b=none->b∈fs->b∉ex->∃sl,h'.get? b=some { o with slots:=sl }
 free:∀b o,h.get? b=some o->H b=none->b∉ex->H' b=none
 there:∀b o,h.get? b=some o->b∉ex->∃o',h'.get? b=some o'
 tups:∀b xs,H b=some (.tup xs)->H' b=some (.tup xs)
 frzs:∀b o u,H b=some (.frz o u)->H' b=some (.frz o u)
 tbls:∀b ps,H b=some (.tbl ps)->∃more,H' b=some (.tbl (ps++more))
section
variable {fs fs' ex ex':List Addr} {H H1 H2:Hp} {h h1 h2 h':Heap} {a x e:Addr} {o:HO}
theorem Un.any (u:Un fs ex H H1 h h1){b:Addr}{a:Obj}(q:h.get? b=some a)(n:H b=none)(c:b∉ex):∃sl,h1.get? b=some { a with slots:=sl }:=by
 by_cases d:b∈fs
 . exact u.slot b a q n d c
 . exact⟨a.slots,u.keep b a q n d c⟩
theorem Un.kept (k:∀b u,h.get? b=some u->h'.get? b=some u):Un fs ex H H h h' :=
 ⟨λb a q _ _ _=>k b a q,λb a q _ _ _=>⟨a.slots,k b a q⟩,λ_ _ _ n _=>n,λb a q _=>⟨a,k b a q⟩,λ_ _ q=>q,λ_ _ _ q=>q,λ_ c q=>⟨#[],by rw[q];simp⟩⟩
theorem Un.refl:Un fs ex H H h h:=Un.kept λ_ _ q=>q
theorem Un.laid (k:∀b u,h.get? b=some u->h'.get? b=some u)(d:h.objs.size<=a)(c:H a=none):Un fs ex H (upd H a o) h h' where
 keep:=λb u q _ _ _=>k b u q
 slot:=λb u q _ _ _=>⟨u.slots,k b u q⟩
 free:=λb u q n _=>by rw[za8 (Qz (QH (Qp q) d))];exact n
 there:=λb u q _=>⟨u,k b u q⟩
 tups:=λb e q=>by rw[za8 (za9 q c)];exact q
 frzs:=λb u e q=>by rw[za8 (za9 q c)];exact q
 tbls:=λb f q=>⟨#[],by rw[za8 (za9 q c),q];simp⟩
theorem Un.write (a:Mut (H x))(j:e=x\/H e=some (.own x))(k:∀b u,b≠e->h.get? b=some u->h'.get? b=some u)(i:∃u,h'.get? e=some u):Un fs ex H (upd H x o) h h':=by
 have f:∀b,H b=none->b≠x:=λb n z=>by subst z;rw[n] at a;exact a
 have g:∀b,H b=none->b≠e:=λb n z=>by
   subst z;rcases j with r | r
   . exact f b n r
   . rw[n] at r;cases r
 have c:∀b u,H b=some u->¬ Mut (some u)->b≠x:=λb u q l z=>by subst z;rw[q] at a;exact l a
 refine⟨λb u q n _ _=>k b u (g b n) q,λb u q n _ _=>⟨u.slots,k b u (g b n) q⟩,λb u q n _=>by rw[za8 (f b n)];exact n,λb u q _=>?_,
   λb m q=>by rw[za8 (c b _ q λz=>z)];exact q,λb u m q=>by rw[za8 (c b _ q λz=>z)];exact q,λb p q=>⟨#[],by rw[za8 (c b _ q λz=>z),q];simp⟩⟩
 by_cases d:b=e
 . subst d;exact i
 . exact⟨u,k b u d q⟩
end
noncomputable def trk (h:Heap)(H:Hp):List Addr:=(List.range h.objs.size).filter λa=>(H a).isSome
noncomputable def hidT (h:Heap)(H:Hp):Heap:=W.hideAll h (trk h H)
theorem hidT_size (h:Heap)(H:Hp):(hidT h H).objs.size=h.objs.size:=W.hideAll_size _ _
theorem hidT_get {h:Heap}{H:Hp}{b:Addr}{o:Obj}(e:h.get? b=some o)(n:H b=none):(hidT h H).get? b=some o :=
 W.hideAll_get _ e λa=>by
   have q:(H b).isSome=true:=(List.mem_filter.mp a).2;rw[n] at q;simp at q
theorem of_hidT {h:Heap}{H:Hp}{b:Addr}{o:Obj}(e:(hidT h H).get? b=some o):h.get? b=some o/\H b=none:=by
 have a:h.get? b=some o:=W.of_hideAll (trk h H) e;refine⟨a,?_⟩;cases q:H b with
 | none=>rfl
 | some x =>
   have c:b∈trk h H:=List.mem_filter.mpr ⟨List.mem_range.mpr (Qp a),by simp[q]⟩;have z:(hidT h H).get? b=none:=W.hideAll_none (trk h H) c;rw[z] at e;cases e
structure Mod (K:W.Frag)(mg:Str->Option Value)(base:Heap):Prop where
 kin:K.In base
 glob:base.Ns mainGlobals mg
 blt:∃mb,base.Ns builtinsNs mb/\∀x:Str,x≠"__name__"->mb x=bootBuiltins x
 nolimit:base.NoLimit
structure Cx where
 prog:Program
 w:World
 K:W.Frag
 mg:Str->Option Value
 base:Heap
 A:Around
 N:List Str
 s₀:Shared
 H₀:Hp
 env:Env
 outer:List Env
 stack:List Env
 ex:List Addr
 fn:Str->Bool
 calm:Bool
 pn:List (Addr×Obj)
 xe:Value->Shared->Prop
noncomputable def frs (l:List Env):List Addr:=l.filterMap (·.frame)
noncomputable abbrev Cx.fs (X:Cx):List Addr:=frs X.outer
def Vis (sc:Scope)(x:Str):Prop:=sc.names.lookup x=some .local\/sc.names.lookup x=some .cell\/sc.names.lookup x=some .free
def Loc (sc:Scope)(x:Str):Prop:=sc.names.lookup x=some .local\/sc.names.lookup x=some .cell
def Look (env:Env)(h:Heap)(m:Str->Option Value)(x:Str)(u:Value):Prop :=
 (env.kindOf x=some .local/\m x=some u)\/((env.kindOf x=some .cell\/env.kindOf x=some .free)/\∃c,env.cells.lookup x=some c/\h.IsCell c (some u))
structure Cx.Ok (X:Cx):Prop where
 mod:Mod X.K X.mg X.base
 kind:X.env.scope.kind = .function
 glob:X.env.globals=mainGlobals
 blt:X.env.builtins=builtinsNs
 above:X.s₀.heap.objs.size<=X.env.locals
 inj:∀x y c,X.env.cells.lookup x=some c->X.env.cells.lookup y=some c->x=y
 has:∀x,(X.env.kindOf x=some .cell\/X.env.kindOf x=some .free)->∃c,X.env.cells.lookup x=some c
 cab:∀x c,X.fn x=true->X.env.cells.lookup x=some c->X.s₀.heap.objs.size<=c
 hd:X.calm=true->X.A.handled=none
 frames:X.A.frames=some X.stack
 stk:X.stack=X.outer\/(X.stack=X.env::X.outer/\X.env.frame=some X.env.locals)
 exf:∀b∈X.ex,b≠X.env.locals/\∀x c,X.env.cells.lookup x=some c->c≠b
 bs:∀b o,X.base.get? b=some o->X.s₀.heap.get? b=some o/\X.H₀ b=none
 bsz:X.base.objs.size<=X.s₀.heap.objs.size
 noex:∀b o,X.base.get? b=some o->b∉X.ex
 exfs:∀b∈X.ex,b∉X.fs
 funs:X.s₀.heap.FunFrames X.base X.outer
 frf:∀b∈X.fs,X.H₀ b=none
structure Inv (X:Cx)(pins:List (Addr×Obj))(σ:List (Option V))(H:Hp)(s:Shared):Prop where
 ok:X.Ok
 os:s.os=X.s₀.os
 bare:AllBare s.gens
 base:Un X.fs X.ex X.H₀ H X.s₀.heap s.heap
 loc:∃m,s.heap.Ns X.env.locals m/\∀(i:Nat) (x:Str) (v:V),X.N[i]?=some x->σ[i]?=some (some v)->Vis X.env.scope x->∃u,RelV v u/\Look X.env s.heap m x u
 cell:∀x c,X.env.cells.lookup x=some c->∃v,s.heap.IsCell c v
 free:H X.env.locals=none
 freeC:∀x c,X.env.cells.lookup x=some c->H c=none
 pin:∀p∈X.pn++pins,s.heap.get? p.1=some p.2/\H p.1=none/\p.1≠X.env.locals/\p.1∉X.fs/\∀v,p.2.data≠.cell v
 hok:HOk X.prog X.w H s.heap
 len:σ.length=X.N.length
section
variable {X:Cx} {pins:List (Addr×Obj)} {σ:List (Option V)} {H H':Hp} {s:Shared} {h':Heap}
theorem Cx.Ok.nofr (ok:X.Ok){b:Addr}{o:Obj}(e:X.base.get? b=some o):b∉X.fs:=λa=>by
 have:=(ok.funs.mem a).1;rw[e] at this;cases this
theorem Inv.bs (I:Inv X pins σ H s):∀b o,X.base.get? b=some o->s.heap.get? b=some o/\H b=none:=λb o e =>
 ⟨I.base.keep b o (I.ok.bs b o e).1 (I.ok.bs b o e).2 (I.ok.nofr e) (I.ok.noex b o e),I.base.free b o (I.ok.bs b o e).1 (I.ok.bs b o e).2 (I.ok.noex b o e)⟩
theorem Inv.bk (I:Inv X pins σ H s):∀b o,X.base.get? b=some o->s.heap.get? b=some o:=λb o e=>(I.bs b o e).1
theorem Inv.mod (I:Inv X pins σ H s):Mod X.K X.mg X.base:=I.ok.mod
theorem Inv.kIn (I:Inv X pins σ H s):X.K.In s.heap:=I.ok.mod.kin.keeps I.bk
theorem Inv.lt (I:Inv X pins σ H s):X.env.locals<s.heap.objs.size:=let⟨_,a,_⟩:=I.loc;a.lt
theorem Inv.sz (I:Inv X pins σ H s):X.s₀.heap.objs.size<=s.heap.objs.size:=QJ I.ok.above (QZ I.lt)
theorem Inv.nofs (I:Inv X pins σ H s){a:Addr}(h:s.heap.objs.size<=a):a∉X.fs:=λb=>by
 obtain⟨_,o,c,_⟩:=I.ok.funs.mem b;exact absurd (QH (Qp c) (QJ I.sz h)) (ZG _)
theorem Inv.cne (I:Inv X pins σ H s):∀x c,X.env.cells.lookup x=some c->c≠X.env.locals:=λx c e z=>by
 obtain⟨v,o,a,b⟩:=I.cell x c e;obtain⟨m,⟨g,h,i,d,f,_⟩,_⟩:=I.loc;rw[z,d] at a;cases a;rw[f] at b;cases b
theorem Inv.funs (I:Inv X pins σ H s):s.heap.FunFrames X.base X.outer:=by
 have all:∀(l:List Env),(∀b∈frs l,b∈X.fs)->X.s₀.heap.FunFrames X.base l->s.heap.FunFrames X.base l:=by
   intro l
   induction l with
   | nil=>intro _ _;trivial
   | cons p r g =>
     intro f h;obtain⟨i,⟨L,o,a,j,k,m⟩,n⟩:=h;have c:L∈X.fs:=f L (by unfold frs;rw[List.filterMap_cons,a];exact QF);obtain⟨sl,e⟩:=I.base.slot L o k (I.ok.frf L c) c λz=>I.ok.exfs L z c
     exact⟨i,⟨L,_,a,j,e,m⟩,g (λb d=>f b (by unfold frs;rw[List.filterMap_cons,a];exact Qu _ d)) n⟩
 exact all X.outer (λ_ d=>d) I.ok.funs
theorem Inv.stack (I:Inv X pins σ H s):s.heap.FunFrames X.base X.stack:=by
 rcases I.ok.stk with e | ⟨e,a⟩
 . rw[e];exact I.funs
 . rw[e]
   obtain⟨m,b,_⟩:=I.loc;refine .cons (by rw[I.ok.kind];decide) a b ?_ I.funs;exact Heap.get?_none_of_le (QJ I.ok.bsz I.ok.above)
theorem Inv.stkSub (I:Inv X pins σ H s):∀b∈frs X.stack,b∈X.env.locals::X.fs:=λb a=>by
 rcases I.ok.stk with e | ⟨e,c⟩
 . rw[e] at a;exact Qu _ a
 . rw[e] at a
   unfold frs at a;rw[List.filterMap_cons,c] at a;exact a
theorem Inv.stkFree (I:Inv X pins σ H s):∀b∈frs X.stack,H b=none:=λb a=>by
 rcases Qq.mp (I.stkSub b a) with e | a
 . rw[e];exact I.free
 . obtain⟨_,o,c,_⟩:=I.ok.funs.mem a
   exact I.base.free b o c (I.ok.frf b a) λz=>I.ok.exfs b z a
theorem Inv.step {g':Array GenState}{t':Nat}{d':Drawn}{ch:List Addr}(I:Inv X pins σ H s)
   (t:∀b∈ch,(b∈X.ex\/X.s₀.heap.objs.size<=b)/\b≠X.env.locals/\(∀x c,X.env.cells.lookup x=some c->c≠b)/\∀p∈X.pn++pins,p.1≠b)
   (keep:∀b o,b≠X.env.locals->b∉X.fs->b∉ch->s.heap.get? b=some o->H b=none->h'.get? b=some o)
   (F:∀b o,b≠X.env.locals->b∈X.fs->b∉ch->s.heap.get? b=some o->H b=none->∃sl,h'.get? b=some { o with slots:=sl }) (free:∀b o,b∉ch->s.heap.get? b=some o->H b=none->H' b=none)
   (there:∀b o,b∉ch->s.heap.get? b=some o->∃y,h'.get? b=some y)
   (tups:∀b g,H b=some (.tup g)->H' b=some (.tup g)) (N:∀b o u,H b=some (.frz o u)->H' b=some (.frz o u)) (O:∀b C,H b=some (.tbl C)->∃P,H' b=some (.tbl (C++P)))
   (ns:∀m,s.heap.Ns X.env.locals m->h'.Ns X.env.locals m) (Q:HOk X.prog X.w H' h') (S:AllBare g') :
   Inv X pins σ H' { s with heap:=h',gens:=g',drawn:=d',toks:=t' }:=by
 have G:∀b o,X.s₀.heap.get? b=some o->b≠X.env.locals:=λb o e=>Qz (QH (Qp e) I.ok.above)
 have B:∀b o,X.s₀.heap.get? b=some o->b∉X.ex->b∉ch:=λb o e a h=>by
   rcases(t b h).1 with z | z
   . exact a z
   . exact absurd (QH (Qp e) z) (ZG _)
 have E:∀x c,X.env.cells.lookup x=some c->∀v,s.heap.IsCell c v->h'.IsCell c v:=λx c e v ⟨o,j,D⟩=>by
   have w:c∉ch:=λz=>(t c z).2.2.1 x c e rfl
   by_cases J:c∈X.fs
   . obtain⟨sl,q⟩:=F c o (I.cne x c e) J w j (I.freeC x c e)
     exact⟨_,q,D⟩
   . exact⟨o,keep c o (I.cne x c e) J w j (I.freeC x c e),D⟩
 refine⟨I.ok,I.os,S,⟨λb o e n h a=>?_,λb o e n h a=>?_,λb o e n a=>?_,λb o e a=>?_,λb g e=>tups b g (I.base.tups b g e),λb o g e=>N b o g (I.base.frzs b o g e),λb C e=>?_⟩,?_,λx c e=>?_,?_,λx c e=>?_,λp K=>?_,Q,I.len⟩
 . exact keep b o (G b o e) h (B b o e a) (I.base.keep b o e n h a) (I.base.free b o e n a)
 . obtain⟨sl,f⟩:=I.base.slot b o e n h a
   obtain⟨R,A⟩:=F b _ (G b o e) h (B b o e a) f (I.base.free b o e n a);exact⟨R,A⟩
 . obtain⟨y,f⟩:=I.base.there b o e a
   exact free b y (B b o e a) f (I.base.free b o e n a)
 . obtain⟨y,f⟩:=I.base.there b o e a
   exact there b y (B b o e a) f
 . obtain⟨T,f⟩:=I.base.tbls b C e
   obtain⟨U,A⟩:=O b _ f;exact⟨T++U,by rw[A,Array.append_assoc]⟩
 . obtain⟨m,V,W⟩:=I.loc
   refine⟨m,ns m V,λi x v f A Y=>?_⟩;obtain⟨u,r,l⟩:=W i x v f A Y;refine⟨u,r,?_⟩;rcases l with l | ⟨k,c,e,z⟩
   . exact .inl l
   . exact .inr ⟨k,c,e,E x c e _ z⟩
 . obtain⟨v,z⟩:=I.cell x c e
   exact⟨v,E x c e v z⟩
 . obtain⟨m,⟨o,_,_,j,_⟩,_⟩:=I.loc
   exact free _ o (λz=>(t _ z).2.1 rfl) j I.free
 . obtain⟨v,o,j,D⟩:=I.cell x c e
   exact free c o (λz=>(t c z).2.2.1 x c e rfl) j (I.freeC x c e)
 . obtain⟨e,n,L,M,d⟩:=I.pin p K
   have w:p.1∉ch:=λz=>(t p.1 z).2.2.2 p K rfl
   exact⟨keep p.1 p.2 L M w e n,free p.1 p.2 w e n,L,M,d⟩
theorem Inv.un {t':Nat}(I:Inv X pins σ H s)(u:Un X.fs [] H H' s.heap h')(f:HOk X.prog X.w H' h'):Inv X pins σ H' { s with heap:=h',toks:=t' }:=by
 obtain⟨m,⟨o,l,p,d,r⟩,_⟩:=id I.loc;obtain⟨sl,i⟩:=u.any d I.free (by simp);exact I.step (g':=s.gens) (d':=s.drawn) (ch:=[]) (λ_ z=>nomatch z) (λb o _ a _ e n=>u.keep b o e n a (by simp)) (λb o _ a _ e n=>u.slot b o e n a (by simp)) (λb o _ e n=>u.free b o e n (by simp)) (λb o _ e=>u.there b o e (by simp)) u.tups u.frzs u.tbls (λq j=>by
   obtain⟨t,g,h,c,k⟩:=j;rw[d] at c;cases c;exact⟨_,g,h,i,k⟩) f I.bare
theorem Inv.call {g':Array GenState}{t':Nat}{d':Drawn}{ch:List Addr}(I:Inv X pins σ H s)(u:Un (frs X.stack) ch H H' s.heap h')(i:HOk X.prog X.w H' h')(l:AllBare g')
   (f:∀b∈ch,(b∈X.ex\/X.s₀.heap.objs.size<=b)/\b≠X.env.locals/\(∀x c,X.env.cells.lookup x=some c->c≠b)/\∀p∈X.pn++pins,p.1≠b) :
   Inv X pins σ H' { s with heap:=h',gens:=g',drawn:=d',toks:=t' }:=by
 obtain⟨m,⟨o,w,y,h,r⟩,_⟩:=id I.loc;obtain⟨sl,d⟩:=u.any h I.free λz=>(f _ z).2.1 rfl
 exact I.step (ch:=ch) f (λb o d q a e n=>u.keep b o e n (λz=>(Qq.mp (I.stkSub b z)).elim d q) a) (λb o _ _ a e n=>u.any e n a) (λb o a e n=>u.free b o e n a) (λb o a e=>u.there b o e a) u.tups u.frzs u.tbls (λA t=>by
   obtain⟨B,j,k,g,v⟩:=t;rw[h] at g;cases g;exact⟨_,j,k,d,v⟩) i l
theorem Inv.turned {t':Nat}{a:Addr}(I:Inv X pins σ H s)(k:∀b o,b≠a->s.heap.get? b=some o->h'.get? b=some o)(h:H a=none)(g:a≠X.env.locals)
   (i:a∈X.ex\/X.s₀.heap.objs.size<=a) (j:∀x c,X.env.cells.lookup x=some c->c≠a) (l:∀p∈X.pn++pins,p.1≠a):Inv X pins σ H { s with heap:=h',toks:=t' }:=by
 have f:∀b u,H b=some u->b≠a:=λb u e z=>by rw[z,h] at e;cases e
 refine I.step (g':=s.gens) (d':=s.drawn) (ch:=[a]) (λb t=>?_) (λb o _ _ d e _=>k b o (λz=>d (by simp[z])) e) (λb o _ _ d e _=>⟨o.slots,k b o (λz=>d (by simp[z])) e⟩) (λ_ _ _ _ n=>n)
   (λb o d e=>⟨o,k b o (λz=>d (by simp[z])) e⟩) (λ_ _ e=>e) (λ_ _ _ e=>e) (λb C e=>⟨#[],by rw[e];simp⟩) (λm w=>?_) (λb u e=>?_) I.bare
 . have e:b=a:=by simpa using t
   subst e;exact⟨i,g,j,l⟩
 . obtain⟨o,y,A,B,r⟩:=w
   exact⟨o,y,A,k _ o (Ne.symm g) B,r⟩
 . refine(I.hok b u e).stay (λc v d q=>k c v ?_ q) (λ_ q=>q) λ_ _ q=>q
   rcases d with z | z
   . rw[z];exact f b u e
   . exact f c _ z
theorem Inv.tok (I:Inv X pins σ H s)(t:Nat):Inv X pins σ H { s with toks:=t }:=I.un (h':=s.heap) (t':=t) Un.refl I.hok
theorem Inv.kept {t':Nat}(I:Inv X pins σ H s)(k:∀b u,s.heap.get? b=some u->h'.get? b=some u):Inv X pins σ H { s with heap:=h',toks:=t' }:=I.un (Un.kept k) (I.hok.kept k)
theorem Inv.laid {a:Addr}{o:HO}{t':Nat}(I:Inv X pins σ H s)(k:∀b u,s.heap.get? b=some u->h'.get? b=some u)(c:s.heap.objs.size<=a)(new:zg1 X.prog X.w (upd H a o) h' a o) :
 Inv X pins σ (upd H a o) { s with heap:=h',toks:=t' }:=I.un (Un.laid k c (I.hok.fresh c)) (I.hok.laid k c new)
theorem Inv.write {x e:Addr}{o:HO}{t':Nat}(I:Inv X pins σ H s)(c:Mut (H x))(d:e=x\/H e=some (.own x))(k:∀b u,b≠e->s.heap.get? b=some u->h'.get? b=some u)(a:∃u,h'.get? e=some u)
 (new:zg1 X.prog X.w (upd H x o) h' x o):Inv X pins σ (upd H x o) { s with heap:=h',toks:=t' }:=I.un (Un.write c d k a) (I.hok.write c d k a new)
theorem Inv.pins_of {a:List (Addr×Obj)}(I:Inv X pins σ H s)(h:∀p∈a,s.heap.get? p.1=some p.2/\H p.1=none/\p.1≠X.env.locals/\p.1∉X.fs/\∀v,p.2.data≠.cell v):Inv X a σ H s :=
 ⟨I.ok,I.os,I.bare,I.base,I.loc,I.cell,I.free,I.freeC,λp b=>(QB.mp b).elim (λz=>I.pin p (ZF _ z)) (h p),I.hok,I.len⟩
theorem zN6 {N:List Str}(c:N.Nodup){i j:Nat}{x:Str}(a:N[i]?=some x)(b:N[j]?=some x):i=j:=by
 obtain⟨f,d⟩:=QX.mp a;obtain⟨g,e⟩:=QX.mp b;exact(List.getElem_inj c).mp (d.trans e.symm)
theorem zT3 {M:Model}{A:Around}{E:VP}{i:Nat}{x:Str}{v:V}{u:Value}{Q:Unit->Shared->Prop}(I:Inv X pins σ H s)(hN:X.N.Nodup)(G:X.N[i]?=some x)(t:Loc X.env.scope x)(r:RelV v u)
   (h:∀O,Inv X pins (σ.set i (some v)) H O->(∃a,Heap.SameBut a s.heap O.heap/\(a=X.env.locals\/X.env.cells.lookup x=some a))->Q () O) (hf:X.fn x=true\/X.env.scope.names.lookup x=some .local:=by first | exact .inl rfl | exact .inr rfl | assumption):wpAny M A (storeName X.env x u) Q E s:=by
 obtain⟨m,P,hl⟩:=id I.loc;have a6:(X.env.scope.kind == .class || (X.env.scope.kind == .module && X.env.locals != X.env.globals))=false:=by rw[I.ok.kind];rfl
 have a2:i<σ.length:=by rw[I.len];exact(QX.mp G).1
 have cne:=I.cne;have a0:∀ {a:Addr} {F:Heap},(∃o,s.heap.get? a=some o/\H a=none)->Heap.SameBut a s.heap F->HOk X.prog X.w H F:=λ{a F} ha f b ob e=>by
   obtain⟨_,_,a1⟩:=ha;refine(I.hok b ob e).stay (λc J l q=>(f.2 c ?_).trans q) (λ_ q=>q) λ_ _ q=>q
   rintro rfl;rcases l with rfl | l
   . rw[a1] at e;cases e
   . rw[a1] at l;cases l
 rcases t with B | B
 . refine wpAny_storeName_local B P (λF a8 f=>?_) a6
   obtain⟨oL,_,_,a9,_⟩:=id P;refine h _ ⟨I.ok,I.os,I.bare,⟨λb o e n C t=>?_,λb o e n C t=>?_,I.base.free,λb o e t=>?_,I.base.tups,I.base.frzs,I.base.tbls⟩,⟨_,a8,λj y R g w S=>?_⟩,λy c e=>?_,I.free,I.freeC,λp T=>?_,a0 ⟨oL,a9,I.free⟩ f,by simpa using I.len⟩ ⟨_,f,.inl rfl⟩
   . exact(f.2 b (Qz (QH (Qp e) I.ok.above))).trans (I.base.keep b o e n C t)
   . obtain⟨sl,g⟩:=I.base.slot b o e n C t
     exact⟨sl,(f.2 b (Qz (QH (Qp e) I.ok.above))).trans g⟩
   . obtain⟨U,g⟩:=I.base.there b o e t
     exact⟨U,(f.2 b (Qz (QH (Qp e) I.ok.above))).trans g⟩
   . by_cases D:j=i
     . subst D
       rw[G] at g;cases g;rw[List.getElem?_set_self a2] at w;cases w;exact⟨u,r,.inl ⟨B,by simp⟩⟩
     . rw[List.getElem?_set_ne (Ne.symm D)] at w
       obtain⟨W,Y,q⟩:=hl j y R g w S;refine⟨W,Y,?_⟩;rcases q with⟨k,e⟩ | ⟨k,c,e,z⟩
       . refine .inl ⟨k,?_⟩
         have:y≠x:=λe=>D (zN6 hN g (e▸G))
         simp[this,e]
       . exact .inr ⟨k,c,e,z.sameBut f (cne y c e)⟩
   . obtain⟨J,z⟩:=I.cell y c e
     exact⟨J,z.sameBut f (cne y c e)⟩
   . obtain⟨e,n,K,Z,d⟩:=I.pin p T
     exact⟨(f.2 p.1 K).trans e,n,K,Z,d⟩
 . have N:X.fn x=true:=by
     rcases hf with z | z
     . exact z
     . rw[z] at B;cases B
   obtain⟨c,l⟩:=I.ok.has x (.inl B);obtain⟨J,z⟩:=I.cell x c l;refine wpAny_storeName_cell I.ok.kind B l z (λF a3 f=>?_);obtain⟨oc,a4,a7⟩:=id z;refine h { s with heap:=F } ⟨I.ok,I.os,I.bare,⟨λb o e n C t=>?_,λb o e n C t=>?_,I.base.free,λb o e t=>?_,I.base.tups,I.base.frzs,I.base.tbls⟩,⟨m,P.sameBut f (Ne.symm (cne x c l)),λj y R g w S=>?_⟩,λy L e=>?_,I.free,I.freeC,λp T=>?_,a0 ⟨oc,a4,I.freeC x c l⟩ f,by simpa using I.len⟩ ⟨c,f,.inr l⟩
   . exact(f.2 b (Qz (QH (Qp e) (I.ok.cab x c N l)))).trans (I.base.keep b o e n C t)
   . obtain⟨sl,g⟩:=I.base.slot b o e n C t
     exact⟨sl,(f.2 b (Qz (QH (Qp e) (I.ok.cab x c N l)))).trans g⟩
   . obtain⟨U,g⟩:=I.base.there b o e t
     exact⟨U,(f.2 b (Qz (QH (Qp e) (I.ok.cab x c N l)))).trans g⟩
   . by_cases D:j=i
     . subst D
       rw[G] at g;cases g;rw[List.getElem?_set_self a2] at w;cases w;exact⟨u,r,.inr ⟨.inl B,c,l,a3⟩⟩
     . rw[List.getElem?_set_ne (Ne.symm D)] at w
       obtain⟨W,Y,q⟩:=hl j y R g w S;refine⟨W,Y,?_⟩;rcases q with q | ⟨k,L,e,z'⟩
       . exact .inl q
       . refine .inr ⟨k,L,e,z'.sameBut f ?_⟩
         rintro rfl;exact D (zN6 hN g (I.ok.inj _ _ _ e l▸G))
   . by_cases a5:L=c
     . subst a5;exact⟨_,a3⟩
     . obtain⟨w2,z2⟩:=I.cell y L e
       exact⟨w2,z2.sameBut f a5⟩
   . obtain⟨e,n,K,Z,d⟩:=I.pin p T
     refine⟨(f.2 p.1 ?_).trans e,n,K,Z,d⟩;intro q;rw[q,a4] at e;have q':oc=p.2:=QA e;exact d J (by rw[<-q'];exact a7)
theorem zy8 {M:Model}{A:Around}{E:VP}{i:Nat}{x:Str}{v:V}{u:Value}{Q:Unit->Shared->Prop}(I:Inv X pins σ H s)(b:X.N.Nodup)(c:X.N[i]?=some x)(d:Loc X.env.scope x)(r:RelV v u)
   (h:∀a,Inv X pins (σ.set i (some v)) H a->Q () a) (e:X.fn x=true\/X.env.scope.names.lookup x=some .local:=by first | exact .inl rfl | exact .inr rfl | assumption):wpAny M A (storeName X.env x u) Q E s :=
 zT3 I b c d r (λa f _=>h a f) e
theorem Inv.call' {s':Shared}{ch:List Addr}(I:Inv X pins σ H s)(f:s'.os=s.os)(u:Un (frs X.stack) ch H H' s.heap s'.heap)(a:HOk X.prog X.w H' s'.heap)(g:AllBare s'.gens)
   (d:∀b∈ch,(b∈X.ex\/X.s₀.heap.objs.size<=b)/\b≠X.env.locals/\(∀x c,X.env.cells.lookup x=some c->c≠b)/\∀p∈X.pn++pins,p.1≠b):Inv X pins σ H' s':=by
 obtain⟨i,g',d',t',h⟩:=s';have e:h=s.os:=f;subst e;exact I.call (g':=g') (t':=t') (d':=d') u a g d
end
noncomputable abbrev XK:=Value->Option Addr->Hp->Prop
noncomputable abbrev St:=List (Option V)
noncomputable abbrev VK:=V->Hp->Prop
noncomputable abbrev TE:=St->Hp->VK->Prop
noncomputable abbrev TT:=St->Hp->(Bool->Hp->Prop)->Prop
noncomputable abbrev TA:=St->Hp->(List V->Hp->Prop)->Prop
structure Ends where
 nx:St->Hp->Prop
 rt:VK
 bk:St->Hp->Prop:=λ_ _=>False
 ct:St->Hp->Prop:=λ_ _=>False
noncomputable abbrev TS:=Ends->St->Hp->Prop
def EP (X:Cx)(pins:List (Addr×Obj))(σ:St)(Q:VK)(u:Value)(s':Shared):Prop:=∃v H',Inv X pins σ H' s'/\RelV v u/\Q v H'
def TP (X:Cx)(pins:List (Addr×Obj))(σ:St)(Q:Bool->Hp->Prop)(b:Bool)(s':Shared):Prop:=∃H',Inv X pins σ H' s'/\Q b H'
def AP (X:Cx)(pins:List (Addr×Obj))(σ:St)(Q:List V->Hp->Prop)(us:List Value)(s':Shared):Prop:=∃vs H',Inv X pins σ H' s'/\Vals vs us/\Q vs H'
def SP (X:Cx)(pins:List (Addr×Obj))(D:Ends)(f:Flow)(s':Shared):Prop :=
 match f with
 | .next=>∃σ' H',Inv X pins σ' H' s'/\D.nx σ' H'
 | .brk=>∃σ' H',Inv X pins σ' H' s'/\D.bk σ' H'
 | .cont=>∃σ' H',Inv X pins σ' H' s'/\D.ct σ' H'
 | .ret u=>∃v σ' H',Inv X pins σ' H' s'/\RelV v u/\D.rt v H'
def PE (X:Cx)(e:Expr)(t:TE):Prop :=
 ∀(pins:List (Addr×Obj)) (s:Shared) (σ:St) (H:Hp) (Q:VK),Inv X pins σ H s->t σ H Q->wpAny (model X.prog X.w) X.A (eval e X.env) (EP X pins σ Q) X.xe s
def PT (X:Cx)(e:Expr)(t:TT):Prop :=
 ∀(pins:List (Addr×Obj)) (s:Shared) (σ:St) (H:Hp) (Q:Bool->Hp->Prop),Inv X pins σ H s->t σ H Q->wpAny (model X.prog X.w) X.A (isTrue e X.env (eval e X.env)) (TP X pins σ Q) X.xe s
def PW (X:Cx)(e:Expr)(t:TT):Prop :=
 ∀(whole:Sem Value) (pins:List (Addr×Obj)) (s:Shared) (σ:St) (H:Hp) (Q:Bool->Hp->Prop),Inv X pins σ H s->t σ H Q->wpAny (model X.prog X.w) X.A (isTrue e X.env whole) (TP X pins σ Q) X.xe s
theorem PW.pt {X:Cx}{e:Expr}{t:TT}(h:PW X e t):PT X e t:=h _
def PA (X:Cx)(es:List Expr)(t:TA):Prop :=
 ∀(pos:Pos) (pins:List (Addr×Obj)) (s:Shared) (σ:St) (H:Hp) (Q:List V->Hp->Prop),Inv X pins σ H s->t σ H Q->wpAny (model X.prog X.w) X.A (spliced (backTo pos (starEach es X.env))) (AP X pins σ Q) X.xe s
def PS (X:Cx)(st:Stmt)(t:TS):Prop :=
 ∀(pins:List (Addr×Obj)) (s:Shared) (σ:St) (H:Hp) (D:Ends),Inv X pins σ H s->t D σ H->wpAny (model X.prog X.w) X.A (exec st X.env) (SP X pins D) X.xe s
def PSs (X:Cx)(st:List Stmt)(t:TS):Prop :=
 ∀(pins:List (Addr×Obj)) (s:Shared) (σ:St) (H:Hp) (D:Ends),Inv X pins σ H s->t D σ H->wpAny (model X.prog X.w) X.A (execs st X.env) (SP X pins D) X.xe s
theorem thn {c:Type}{t:Sem c}{Q b:c->Shared->Prop}{M:Model}{A:Around}{E:VP}{s:Shared}(h:wpAny M A t Q E s)(d:∀a s,Q a s->b a s):wpAny M A t b E s:=Zg h d λ_ _ x=>x
section
variable {X:Cx}
inductive yk1 (i:Nat)(σ:St)(H:Hp)(Q:VK):Prop
 | mk (v:_)(h0:σ[i]?=some (some v))(h1:Q v H):yk1 i σ H Q
def tVar (i:Nat):TE:=λσ H Q=>yk1 i σ H Q
def tC (v:V):TE:=λ_ H Q=>Q v H
theorem pe_var {i:Nat} {x:Str} {k:Pos} (o:X.N[i]?=some x) (p:Vis X.env.scope x) (d:(x == ("__debug__" : Str))=false:=by decide) (n:(x == ("__classdict__" : Str))=false:=by decide):PE X (.Name x k) (tVar i):=by
 intro j s y H Q I h;obtain⟨v,e,h⟩:=h;obtain⟨m,q,t⟩:=I.loc;obtain⟨u,r,l⟩:=t i x v o e p;have b:EP X j y Q u s:=⟨v,H,I,r,h⟩;rcases l with⟨a,w⟩ | ⟨a,c,g,f⟩
 . exact wpAny_Name (wpAny_loadName_local I.ok.kind a q w b) d
 . rcases a with a | a
   . exact wpAny_Name (wpAny_loadName_cell I.ok.kind a g f b) d
   . exact wpAny_Name (wpAny_loadName_free I.ok.kind a g f b n) d
theorem za2 {i j pos}:PE X (.Constant (.int i) j pos) (tC (.int i)):=λ_ _ _ H _ I h=>wpAny_Constant_int ⟨.int i,H,I.tok _,⟨_,rfl⟩,h⟩
theorem zg9 {b j pos}:PE X (.Constant (.bool b) j pos) (tC (.bl b)):=λ_ _ _ H _ I h=>Constant_bool ⟨.bl b,H,I,rfl,h⟩
theorem zE7 {j pos}:PE X (.Constant .none j pos) (tC .non):=λ_ _ _ H _ I h=>Constant_none ⟨.non,H,I,rfl,h⟩
theorem zd1 {x j pos}:PE X (.Constant (.str x) j pos) (tC (.str x)):=λ_ _ _ H _ I h=>Calls.Constant_str ⟨.str x,H,I.tok _,⟨_,rfl⟩,h⟩
def Gl (X:Cx)(x:Str):Prop:=X.env.kindOf x=some .globalImplicit
theorem zs7 {E:VP}{a:List (Addr×Obj)}{s:Shared}{f:St}{H:Hp}{x:Str}{u:Value}{b:Pos}{Q:VP}(I:Inv X a f H s)(c:Gl X x)(d:X.mg x=some u)(h:Q u s)
   (e:(x == ("__debug__" : Str))=false:=by decide):wpAny (model X.prog X.w) X.A (eval (.Name x b) X.env) Q E s :=
 Calls.Name_function_global I.ok.kind c (Calls.loadGlobal_global (by rw[I.ok.glob];exact I.mod.glob.keeps I.bk) d h) e
theorem zI7 {E:VP}{a:List (Addr×Obj)}{s:Shared}{k:St}{H:Hp}{x:Str}{u:Value}{b:Pos}{Q:VP}(I:Inv X a k H s)(c:Gl X x)(d:X.mg x=none)(e:bootBuiltins x=some u)(h:Q u s)
   (f:x≠"__name__":=by decide) (g:(x == ("__debug__" : Str))=false:=by decide):wpAny (model X.prog X.w) X.A (eval (.Name x b) X.env) Q E s:=by
 obtain⟨l,i,j⟩:=I.mod.blt;exact Calls.Name_function_global I.ok.kind c (Calls.loadGlobal_builtin (by rw[I.ok.glob];exact I.mod.glob.keeps I.bk) d (by rw[I.ok.blt];exact i.keeps I.bk) ((j x f).trans e) h) g
theorem zl8 {x:Str} {v:V} {u:Value} {a:Pos} (b:Gl X x) (c:X.mg x=some u) (r:RelV v u) (d:(x == ("__debug__" : Str))=false:=by decide):PE X (.Name x a) (tC v) :=
 λ_ _ _ H _ I h=>zs7 I b c ⟨v,H,I,r,h⟩ d
theorem zk7 {x:Str} {v:V} {u:Value} {a:Pos} (b:Gl X x) (c:X.mg x=none) (d:bootBuiltins x=some u) (r:RelV v u) (e:x≠"__name__":=by decide) (f:(x == ("__debug__" : Str))=false:=by decide):PE X (.Name x a) (tC v) :=
 λ_ _ _ H _ I h=>zI7 I b c d ⟨v,H,I,r,h⟩ e f
variable {a b:Expr} {ta tb:TE} {pos:Pos}
def PC (X:Cx)(op:CmpOp)(a b:Expr)(t:TE):Prop :=
 ∀(pins:List (Addr×Obj)) (s:Shared) (σ:St) (H:Hp) (Q:VK),Inv X pins σ H s->t σ H Q →
   wpAny (model X.prog X.w) X.A (eval a X.env) (λv s₁=>wpAny (model X.prog X.w) X.A (eval b X.env) (λu s₂=>wpAny (model X.prog X.w) X.A (compareOp op v u) (EP X pins σ Q) X.xe s₂) X.xe s₁) X.xe s
inductive I_tB  (x:V)(H1:Hp)(Q:Bool->Hp->Prop):Prop
 | mk (c:_)(h0:x = .bl c)(h1:Q c H1):I_tB  x H1 Q
def tB (t:TE):TT:=λσ H Q=>t σ H λx H1=>I_tB  x H1 Q
theorem yk2 {e:CmpOp}{t:TE}(h:PC X e a b t)(f:behindInMarks e b=false:=by first | exact nobehind _ (by decide) (by decide) | rfl):PT X (.Compare a [e] [b] pos) (tB t):=by
 intro g s o H Q I i;refine wpAny_isTrue_Compare1 (thn (h g s o H _ I i) λv p f=>thn f λu r j=>thn j λc w ⟨x,k,l,m,n⟩=>?_) f;obtain⟨d,rfl,q⟩:=n;cases m;exact wpAny_truthy_bool ⟨k,l,q⟩
theorem zc9 {e:Expr}{t:TE}(h:PE X e t)(c:∀a,isTrue e X.env a=(do let v <-a;standAt e.pos;holding [v] (truthy v)):=by intro _;rfl):PT X e (tB t):=by
 intro b s l H Q I f;refine isTrue_plain (thn (h b s l H _ I f) λv m ⟨x,g,i,j,k⟩=>?_) (c _);obtain⟨d,rfl,q⟩:=k;cases j;exact wpAny_truthy_bool ⟨g,i,q⟩
variable {tA tB':TT} {rest:List Expr}
def tAnd (t u:TT):TT:=λσ H Q=>t σ H λc H1=>if c=true then u σ H1 Q else Q false H1
def tOr (t u:TT):TT:=λσ H Q=>t σ H λc H1=>if c=true then Q true H1 else u σ H1 Q
def tNot (t:TT):TT:=λσ H Q=>t σ H λc H1=>Q (!c) H1
theorem zw6 (d:PT X a tA):PW X (.BoolOp .And [a] pos) tA:=by
 intro g b s f H Q I h;refine isTrue_and (thn (d b s f H Q I h) λc i e=>?_);cases c with
 | true=>exact isTrue_and_nil e
 | false=>exact e
theorem zi5 (d:PT X a tA):PW X (.BoolOp .Or [a] pos) tA:=by
 intro g b s f H Q I h;refine isTrue_or (thn (d b s f H Q I h) λc i e=>?_);cases c with
 | false=>exact isTrue_or_nil e
 | true=>exact e
theorem zy9 (j:PT X a tA)(k:PW X (.BoolOp .And (b::rest) pos) tB'):PW X (.BoolOp .And (a::b::rest) pos) (tAnd tA tB'):=by
 intro l d s i H Q I h;refine isTrue_and (thn (j d s i H _ I h) λc m ⟨e,f,g⟩=>?_);cases c with
 | true=>exact k l d m i e Q f g
 | false=>exact⟨e,f,g⟩
theorem zj5 (j:PT X a tA)(k:PW X (.BoolOp .Or (b::rest) pos) tB'):PW X (.BoolOp .Or (a::b::rest) pos) (tOr tA tB'):=by
 intro l d s i H Q I h;refine isTrue_or (thn (j d s i H _ I h) λc m ⟨e,f,g⟩=>?_);cases c with
 | true=>exact⟨e,f,g⟩
 | false=>exact k l d m i e Q f g
theorem zd9 (d:PT X a tA):PT X (.UnaryOp .Not a pos) (tNot tA):=by
 intro b s f H Q I h;exact isTrue_not (d b s f H (λc e=>Q (!c) e) I h)
def tAndV (ta tb:TE):TE:=λσ H Q=>ta σ H λx H1=>∃c,x = .bl c/\if c=true then tb σ H1 Q else Q (.bl false) H1
def tOrV (ta tb:TE):TE:=λσ H Q=>ta σ H λx H1=>∃c,x = .bl c/\if c=true then Q (.bl true) H1 else tb σ H1 Q
def tNotV (ta:TE):TE:=λσ H Q=>ta σ H λx H1=>∃c,x = .bl c/\Q (.bl (!c)) H1
theorem zI8 {op}{t:TE}(h:PE X a t):PE X (.BoolOp op [a] pos) t:=λb s d H Q I c=>BoolOp_one (h b s d H Q I c)
theorem zN7 (j:PE X a ta)(k:PE X (.BoolOp .And (b::rest) pos) tb):PE X (.BoolOp .And (a::b::rest) pos) (tAndV ta tb):=by
 intro e s i H Q I h;refine BoolOp_and (thn (j e s i H _ I h) λv l ⟨x,f,g,m,d⟩=>?_);obtain⟨c,rfl,d⟩:=d;cases m;refine wpAny_truthy_bool ?_;cases c with
 | true=>exact k e l i f Q g d
 | false=>exact⟨.bl false,f,g,rfl,d⟩
theorem pe_or (j:PE X a ta)(k:PE X (.BoolOp .Or (b::rest) pos) tb):PE X (.BoolOp .Or (a::b::rest) pos) (tOrV ta tb):=by
 intro e s i H Q I h;refine BoolOp_or (thn (j e s i H _ I h) λv l ⟨x,f,g,m,d⟩=>?_);obtain⟨c,rfl,d⟩:=d;cases m;refine wpAny_truthy_bool ?_;cases c with
 | false=>exact k e l i f Q g d
 | true=>exact⟨.bl true,f,g,rfl,d⟩
theorem yk3 (e:PE X a ta):PE X (.UnaryOp .Not a pos) (tNotV ta):=by
 intro d s j H Q I h;refine UnaryOp_ (thn (e d s j H _ I h) λv k ⟨x,f,g,i,b⟩=>?_);obtain⟨c,rfl,b⟩:=b;cases i;exact not_of (wpAny_truthy_bool ⟨.bl (!c),f,g,rfl,b⟩)
def tIf (t:TT)(ta tb:TE):TE:=λσ H Q=>t σ H λc H1=>if c=true then ta σ H1 Q else tb σ H1 Q
theorem zZ9 {c:Expr}(l:PT X c tA)(m:PE X a ta)(n:PE X b tb):PE X (.IfExp c a b pos) (tIf tA ta tb):=by
 intro e s f H Q I h;refine wpAny_IfExp (thn (l e s f H _ I h) λd g ⟨i,j,k⟩=>?_);cases d with
 | true=>exact m e g f i Q j k
 | false=>exact n e g f i Q j k
end
def SqL (K:W.Frag)(H:Hp)(a:Addr)(xs:List V):Prop :=
 Rd H a (.lst xs) ∨
   ∃(o:Obj) (its:Array Value) (n:Nat),K.lookup a=some o/\o.cls = .type "list"/\o.dict=none/\o.data = .seq its n/\its.size<=sizeLine/\Vals xs its.toList
def SqT (K:W.Frag)(H:Hp)(a:Addr)(xs:List V):Prop :=
 Rd H a (.tup xs) ∨
   ∃(o:Obj) (its:Array Value) (n:Nat),K.lookup a=some o/\o.cls = .type "tuple"/\o.data = .seq its n/\its.size<=sizeLine/\Vals xs its.toList
noncomputable def absV:Value->Option V
 | .none=>some .non
 | .bool b=>some (.bl b)
 | .int i _=>some (.int i)
 | .str x _=>some (.str x)
 | .bytes b _=>some (.byt b)
 | .float b _=>some (.flt b)
 | .ref a=>some (.ref a)
 | .type n=>some (.ty n)
 | _=>none
theorem RelV.abs {x:V}{u:Value}(r:RelV x u):absV u=some x:=by
 cases x with
 | non=>cases r;rfl
 | bl _=>cases r;rfl
 | int _=>obtain⟨t,rfl⟩:=r;rfl
 | str _=>obtain⟨t,rfl⟩:=r;rfl
 | byt _=>obtain⟨t,rfl⟩:=r;rfl
 | flt _=>obtain⟨t,rfl⟩:=r;rfl
 | ref _=>cases r;rfl
 | ty _=>cases r;rfl
theorem RelV.inj {x y:V}{u:Value}(r:RelV x u)(q:RelV y u):x=y:=QA (r.abs.symm.trans q.abs)
theorem Vals.inj:∀ {a b:List V} {c:List Value},Vals a c->Vals b c->a=b
 | _,_,_,.nil,.nil=>rfl
 | _,_,_,.cons r t,.cons d e=>by rw[r.inj d,Vals.inj t e]
section
variable {X:Cx} {pins:List (Addr×Obj)} {σ:St} {H:Hp} {s:Shared} {a:Addr} {xs ys:List V}
theorem SqL.of {K:W.Frag}(h:H a=some (.lst xs)):SqL K H a xs:=.inl (.inl h)
theorem SqT.of {K:W.Frag}(h:H a=some (.tup xs)):SqT K H a xs:=.inl (.inl h)
theorem Inv.list (I:Inv X pins σ H s)(h:SqL X.K H a xs):∃b:List Value,Vals xs b/\PlainL s.heap a b.toArray/\xs.length<=sizeLine:=by
 rcases h with h | ⟨o,b,n,c,d,f,g,i,r⟩
 . obtain⟨z,b,n,r,e⟩:=h.ok I.hok
   exact⟨b,r,⟨_,n,e,rfl,rfl,rfl⟩,z⟩
 . refine⟨b.toList,r,⟨o,n,I.kIn a o c,d,f,by simpa using g⟩,?_⟩
   have e:=r.length;simp only[QE] at e;omega
theorem Inv.tuple (I:Inv X pins σ H s)(h:SqT X.K H a xs):∃b:List Value,Vals xs b/\IsTup s.heap a b.toArray/\xs.length<=sizeLine:=by
 rcases h with h | ⟨o,b,n,c,d,f,g,r⟩
 . obtain⟨z,b,r,p⟩:=h.ok I.hok
   exact⟨b,r,p.isTup,z⟩
 . refine⟨b.toList,r,⟨o,I.kIn a o c,d,n,by simpa using f⟩,?_⟩
   have e:=r.length;simp only[QE] at e;omega
theorem Inv.list_inj (I:Inv X pins σ H s)(h:SqL X.K H a xs)(h':SqL X.K H a ys):xs=ys:=by
 obtain⟨g,r,⟨o,n,e,_,_,d⟩,_⟩:=I.list h;obtain⟨f,i,⟨k,l,b,_,_,c⟩,_⟩:=I.list h';rw[e] at b;cases b;rw[d] at c;injection c with j _
 have:g=f:=by simpa using congrArg Array.toList j
 subst this;exact r.inj i
theorem Inv.tuple_inj (I:Inv X pins σ H s)(h:SqT X.K H a xs)(h':SqT X.K H a ys):xs=ys:=by
 obtain⟨g,r,⟨o,e,_,n,d⟩,_⟩:=I.tuple h;obtain⟨f,i,⟨k,b,_,l,c⟩,_⟩:=I.tuple h';rw[e] at b;cases b;rw[d] at c;injection c with j _
 have:g=f:=by simpa using congrArg Array.toList j
 subst this;exact r.inj i
end
noncomputable abbrev Cx.wish (X:Cx)(E:VP):Cx:={ X with xe:=E }
noncomputable abbrev Cx.nox (X:Cx):Cx:=X.wish λ_ _=>False
theorem Cx.Ok.wish {X:Cx}(ok:X.Ok)(E:VP):(X.wish E).Ok :=
 ⟨ok.mod,ok.kind,ok.glob,ok.blt,ok.above,ok.inj,ok.has,ok.cab,ok.hd,ok.frames,ok.stk,ok.exf,ok.bs,ok.bsz,ok.noex,ok.exfs,ok.funs,ok.frf⟩
theorem Cx.Ok.unwish {X:Cx}{E:VP}(ok:(X.wish E).Ok):X.Ok :=
 ⟨ok.mod,ok.kind,ok.glob,ok.blt,ok.above,ok.inj,ok.has,ok.cab,ok.hd,ok.frames,ok.stk,ok.exf,ok.bs,ok.bsz,ok.noex,ok.exfs,ok.funs,ok.frf⟩
section
variable {X:Cx} {pins:List (Addr×Obj)} {σ:St} {H:Hp} {s:Shared} {E:VP}
theorem Inv.wish (I:Inv X pins σ H s)(E:VP):Inv (X.wish E) pins σ H s:=⟨I.ok.wish E,I.os,I.bare,I.base,I.loc,I.cell,I.free,I.freeC,I.pin,I.hok,I.len⟩
theorem Inv.unwish (I:Inv (X.wish E) pins σ H s):Inv X pins σ H s:=⟨I.ok.unwish,I.os,I.bare,I.base,I.loc,I.cell,I.free,I.freeC,I.pin,I.hok,I.len⟩
theorem SP.unwish {D:Ends}{f:Flow}{s':Shared}(h:SP (X.wish E) pins D f s'):SP X pins D f s':=by
 cases f with
 | next=>obtain⟨a,b,I,q⟩:=h;exact⟨a,b,I.unwish,q⟩
 | brk=>obtain⟨a,b,I,q⟩:=h;exact⟨a,b,I.unwish,q⟩
 | cont=>obtain⟨a,b,I,q⟩:=h;exact⟨a,b,I.unwish,q⟩
 | ret u=>obtain⟨v,a,b,I,r,q⟩:=h;exact⟨v,a,b,I.unwish,r,q⟩
theorem PSs.nox {st:List Stmt}{t:TS}(h:PSs X.nox st t):PSs X st t:=λa s c H D I b =>
 Zg (h a s c H D (I.wish _) b) (λ_ _ q=>q.unwish) λ_ _ z=>False.elim z
end
section
variable {X:Cx} {st:Stmt} {rest:List Stmt} {t u:TS} {e:Expr} {te:TE} {pos:Pos}
def yp2:TS:=λD σ H=>D.nx σ H
def tSeq (t u:TS):TS:=λD σ H=>t { D with nx:=u D } σ H
theorem zb3:PSs X [] yp2:=λ_ _ a H _ I h=>wpAny_execs_nil ⟨a,H,I,h⟩
theorem za3 (b:PS X st t)(c:PSs X rest u):PSs X (st::rest) (tSeq t u):=by
 intro a s j H D I h;refine wpAny_execs_cons (thn (b a s j H { D with nx:=u D } I h) λf d q=>?_);cases f with
 | next =>
   obtain⟨e,g,i,q⟩:=q;exact c a d e g D i q
 | ret v=>exact q
 | brk=>exact q
 | cont=>exact q
theorem za5 (b:PS X st t):PSs X [st] t:=by
 intro a s c H D I h;refine wpAny_execs_cons (thn (b a s c H D I h) λf d q=>?_);cases f with
 | next=>exact wpAny_execs_nil q
 | ret v=>exact q
 | brk=>exact q
 | cont=>exact q
theorem Inv.quiet {a:List (Addr×Obj)}{b:St}{H:Hp}{s:Shared}(I:Inv X a b H s):interactive X.env=false:=by simp[interactive,I.ok.kind]
def tDrop (te:TE):TS:=λD σ H=>te σ H λ_ H1=>D.nx σ H1
theorem ze2 (c:PE X e te)(hs:swapsWith e none pos.line X.env=pure false:=by rfl):PS X (.Expr e pos) (tDrop te):=by
 intro b s a H D I h;exact wpAny_Expr_any (thn (c b s a H _ I h) λv i ⟨x,d,f,j,g⟩=>⟨a,d,f,g⟩) I.quiet hs
def tRet (te:TE):TS:=λD σ H=>te σ H D.rt
theorem zb2 (c:PE X e te):PS X (.Return (some e) pos) (tRet te):=by
 intro b s a H D I h;exact wpAny_Return_some (thn (c b s a H _ I h) λv j ⟨x,d,f,g,i⟩=>⟨x,a,d,f,g,i⟩)
def tIfS (c:TT)(t u:TS):TS:=λD σ H=>c σ H λb H1=>if b=true then t D σ H1 else u D σ H1
theorem zc7 {c:Expr}{a b:List Stmt}{g:TT}(m:PT X c g)(n:PSs X a t)(o:PSs X b u):PS X (.If c a b pos) (tIfS g t u):=by
 intro e s f H D I h;refine wpAny_If (thn (m e s f H _ I h) λd i ⟨j,k,l⟩=>?_);cases d with
 | true=>exact n e i f j D k l
 | false=>exact o e i f j D k l
def yk4:TS:=λ_ _ _=>False
theorem ze6:PS X st yk4:=λ_ _ _ _ _ _ h=>h.elim
theorem zh8 {a:List Stmt}:PSs X a yk4:=λ_ _ _ _ _ _ h=>h.elim
end
noncomputable abbrev TG:=V->St->Hp->(St->Hp->Prop)->Prop
noncomputable abbrev TGs:=List V->St->Hp->(St->Hp->Prop)->Prop
def PG (X:Cx)(target:Expr)(t:TG):Prop :=
 ∀(pins:List (Addr×Obj)) (s:Shared) (σ:St) (H:Hp) (v:V) (u:Value) (Q:St->Hp->Prop),Inv X pins σ H s->RelV v u->t v σ H Q →
   wpAny (model X.prog X.w) X.A (assign target X.env u) (λ_ s'=>∃σ' H',Inv X pins σ' H' s'/\Q σ' H') X.xe s
def PGs (X:Cx)(ts:List Expr)(t:TGs):Prop :=
 ∀(pins:List (Addr×Obj)) (s:Shared) (σ:St) (H:Hp) (vs:List V) (us:List Value) (Q:St->Hp->Prop),Inv X pins σ H s->Vals vs us->t vs σ H Q →
   wpAny (model X.prog X.w) X.A (assignInOrder ((assignEach ts X.env).map (·.2)) us) (λ_ s'=>∃σ' H',Inv X pins σ' H' s'/\Q σ' H') X.xe s
noncomputable abbrev TSet:=V->V->V->Hp->(Hp->Prop)->Prop
def PSet (X:Cx)(t:TSet):Prop :=
 ∀(pins:List (Addr×Obj)) (s:Shared) (σ:St) (H:Hp) (o i v:V) (ov iv u:Value) (Q:Hp->Prop),Inv X pins σ H s->RelV o ov->RelV i iv->RelV v u->t o i v H Q →
   wpAny (model X.prog X.w) X.A (setItem ov iv u) (λ_ s'=>∃H',Inv X pins σ H' s'/\Q H') X.xe s
section
variable {X:Cx} {pos:Pos}
def zp7 (i:Nat):TG:=λv σ H Q=>Q (σ.set i (some v)) H
theorem zc4 {i:Nat}{x:Str}(a:X.N.Nodup)(b:X.N[i]?=some x)(c:Loc X.env.scope x)(d:X.fn x=true\/X.env.scope.names.lookup x=some .local:=by first | exact .inl rfl | exact .inr rfl | assumption):PG X (.Name x pos) (zp7 i):=by
 intro f s j H v u Q I r h;exact wpAny_assign_Name (zy8 I a b c r (λg e=>⟨_,H,e,h⟩) d)
def gNil:TGs:=λvs σ H Q=>vs=[]/\Q σ H
def yk5 (t:TG)(u:TGs):TGs:=λvs σ H Q=>∃v r,vs=v::r/\t v σ H λσ' H'=>u r σ' H' Q
theorem zs8:PGs X [] gNil:=by
 intro b s a H c d Q I r h;obtain⟨e,h⟩:=h;subst e;cases r;exact assignInOrder_nil ⟨a,H,I,h⟩
theorem ze1 {e:Expr}{es:List Expr}{t:TG}{u:TGs}(b:PG X e t)(c:PGs X es u)
   (hs:(assignEach (e::es) X.env).map (·.2)=assign e X.env::(assignEach es X.env).map (·.2):=by rfl):PGs X (e::es) (yk5 t u):=by
 intro a s m H n o Q I r h;obtain⟨v,p,d,h⟩:=h;subst d;cases r with
 | cons r f =>
   rw[hs];refine assignInOrder_cons (thn (b a s m H _ _ _ I r h) λ_ g ⟨i,j,k,l⟩=>?_);exact c a g i j _ _ Q k f l
inductive yk6 (K:W.Frag)(n:Nat)(t:TGs)(v:V)(σ:St)(H:Hp)(Q:St->Hp->Prop):Prop
 | mk (a xs:_)(h0:v = .ref a)(h1:SqT K H a xs)(h2:xs.length=n)(h3:t xs σ H Q):yk6 K n t v σ H Q
def gTup (K:W.Frag)(n:Nat)(t:TGs):TG:=λv σ H Q=>yk6 K n t v σ H Q
theorem yk7 {es:List Expr}{k:Nat}{t:TGs}{n:Nat}(j:X.calm=true)(h:PGs X es t)
   (l:(assignEach es X.env).length=n:=by rfl) (i:(assignEach es X.env).findIdx? (·.1)=none:=by rfl):PG X (.Tuple es k pos) (gTup X.K n t):=by
 intro d s g H v u Q I r c;obtain⟨a,m,p,q,w,c⟩:=c;subst p;cases r;obtain⟨B,f,x,C⟩:=I.tuple q;refine assign_Tuple_tuple (I.ok.hd j) x (by simp[l,<-w,f.length]) i λy z=>?_
 have A:Inv X d g H { s with heap:=y }:=I.kept (t':=s.toks) λb o e=>z b o (Qz (Qp e)) e
 exact h d _ g H m _ Q A (by simpa using f) c
def gSub (to ti:TE)(t:TSet):TG:=λv σ H Q=>to σ H λo H1=>ti σ H1 λi H2=>t o i v H2 λH3=>Q σ H3
theorem pg_sub {o i:Expr}{e f:TE}{t:TSet}(g:PE X o e)(j:PE X i f)(hs:PSet X t)
   (k:∀v,assign (.Subscript o i pos) X.env v=(do
     let a <-holding [v] (eval o X.env)
     let b <-holding [v,a] (eval i X.env)
     standAt pos
     holding [v,a,b] (setItem a b v)
     release [v,a,b] []):=by intro _;rfl):PG X (.Subscript o i pos) (gSub e f t):=by
 intro d s c H v u Q I r h;rw[k];refine Qb (wpAny_holding (thn (g d s c H _ I h) λa l ⟨x,m,n,p,q⟩=>?_));refine Qb (wpAny_holding (thn (j d l c m _ n q) λb w ⟨y,z,A,B,C⟩=>?_));refine Qb (wpAny_standAt (Qb (wpAny_holding (thn (hs d w c z x y v a b u _ A p B r C) λ_ G ⟨D,E,F⟩=>?_))));exact wpAny_release ⟨c,D,E,F⟩
def tAsg (te:TE)(g:TG):TS:=λD σ H=>te σ H λx H1=>g x σ H1 D.nx
theorem zz0 {a e:Expr}{c:TE}{g:TG}(f:PE X e c)(i:PG X a g)(hs:swapsWithSole [a] e pos.line X.env=pure false:=by rfl)(j:swappedStores [a] e X.env=pure none:=by rfl)
   (k:(assignEach [a] X.env).map (·.2)=[assign a X.env]:=by rfl):PS X (.Assign [a] e pos) (tAsg c g):=by
 intro b s d H D I h;refine wpAny_Assign_stores (thn (f b s d H _ I h) λv l ⟨x,m,n,o,p⟩=>?_) hs j;rw[k];exact thn (i b l d m x v _ n o p) λ_ r q=>q
theorem zb7 {i:Nat}{x:Str}{e:Expr}{b:TE}{a:Pos}(d:X.N.Nodup)(f:X.N[i]?=some x)(g:Loc X.env.scope x)(j:PE X e b)(hs:swapsWith e (some (.Name x a)) pos.line X.env=pure false:=by rfl)(k:X.fn x=true\/X.env.scope.names.lookup x=some .local:=by first | exact .inl rfl | exact .inr rfl | assumption) :
   PS X (.Assign [.Name x a] e pos) (tAsg b (zp7 i)):=by
 intro c s q H D I h;refine wpAny_Assign_Name (thn (j c s q H _ I h) λv r ⟨y,l,m,n,o⟩=>?_) hs;exact zy8 m d f g n (λt p=>⟨_,l,p,o⟩) k
def tPar (i j:Nat)(ta:TA):TS:=λD σ H=>ta σ H λvs H1=>∃v w,vs=[v,w]/\D.nx ((σ.set i (some v)).set j (some w)) H1
theorem ps_par {i j:Nat}{x y:Str}{a b:Expr}{n:TA}{g k pt:Pos}{kt k2 pt2}(F:X.calm=true)(r:X.N.Nodup)(G:X.N[i]?=some x)(J:X.N[j]?=some y)(C:i≠j)
   (t:X.env.scope.names.lookup x=some .local) (u:X.env.scope.names.lookup y=some .local) (K:PA X [a,b] n)
   (L:swappedStores [.Tuple [.Name x g,.Name y k] kt pt] (.Tuple [a,b] k2 pt2) X.env=pure (some [x,y]))
   (hs:swapsWithSole [.Tuple [.Name x g,.Name y k] kt pt] (.Tuple [a,b] k2 pt2) pos.line X.env=pure false:=by rfl) :
   PS X (.Assign [.Tuple [.Name x g,.Name y k] kt pt] (.Tuple [a,b] k2 pt2) pos) (tPar i j n):=by
 intro m s B H a0 I h;rw[exec_Assign_arm];refine Qb (wpAny_standAt ?_);rw[hs];refine Qb (Qd ?_);rw[Qh (by decide)];refine Qb (Tuple_ (thn (K _ m s B H _ I h) λM c ⟨W,z,N,O,l⟩=>?_));obtain⟨v,w,P,l⟩:=l;subst P;obtain⟨d,f,rfl,Q,D⟩:∃d f,M=[d,f]/\RelV v d/\RelV w f:=by
   cases O with
   | cons p q =>
     cases q with
     | cons R S =>
       cases S;exact⟨_,_,rfl,p,R⟩
 refine wpAny_newObj_type ?_ (by show 2<=sizeLine;decide);have T:Inv X m B z { c with heap:=c.heap.push { cls:=.type "tuple",data:=.seq [d,f].toArray } }:=N.kept (t':=c.toks) λb o e=>Qc _ e
 rw[L];refine Qb (Qd ?_);show wpAny (model X.prog X.w) X.A (do rule "assign.swapped-stores";let items <-unpackItems (.ref c.heap.objs.size) 2 none;assignInOrder [λv=>bindName X.env y v,λv=>bindName X.env x v] items.reverse;pure Flow.next) _ _ _;refine Qb (wpAny_rule (Qb (unpackItems_tuple (items:=#[d,f]) (I.ok.hd F) (IsTup.new c.heap _) λh' E=>?_)));have U:=T.kept (h':=h') (t':=c.toks) λb o e=>E b o (Qz (Qp e)) e
 show wpAny _ _ (assignInOrder [λv=>bindName X.env y v,λv=>bindName X.env x v] [f,d] >>= λ_=>pure Flow.next) _ _ _;refine Qb (assignInOrder_cons (wpAny_bindName (zy8 U r J (.inl u) D (λY V=>?_) (.inr u))));refine assignInOrder_cons (wpAny_bindName (zy8 V r G (.inl t) Q (λZ A=>assignInOrder_nil (Qd ?_)) (.inr t)));rw[List.set_comm _ _ (Ne.symm C)] at A;exact⟨_,z,A,l⟩
end
section
variable {X:Cx} {pos:Pos}
def yk8 (c:TT)(tb:TS):TS:=λD σ H=>∃W:Nat->St->Hp->Prop,(∃m,W m σ H)/\∀m σ H,W m σ H →
 c σ H λb H1=>if b=true then ∃N:St->Hp->Prop,(∀σ' H',N σ' H'->∃m',m'<m/\W m' σ' H')/\tb { D with nx:=N,ct:=N,bk:=D.nx } σ H1 else D.nx σ H1
theorem ya0 {c:Expr}{q:List Stmt}{r:TT}{t:TS}(u:PassesOwn (model X.prog X.w) X.A X.env X.xe)(E:PT X c r)(F:PSs X q t):PS X (.While c q [] pos) (yk8 r t):=by
 intro j s Q H D I h;obtain⟨W,⟨G,J⟩,C⟩:=h;refine wpAny_While (codeAny_whileLoop (λn K=>∃w x,Inv X j w x K/\W n w x) ?_ G ⟨Q,H,I,J⟩);rintro n L ⟨e,y,M,O⟩;refine wpAny_passesOwn u (thn (E j L e y _ M (C n e y O)) λb P ⟨z,A,g⟩=>?_);cases b with
 | true =>
   obtain⟨N,B,g⟩:=g;rw[Qo rfl];refine wpAny_passesOwn u (thn (F j P e z _ A g) λf R i=>?_);cases f with
   | next =>
     obtain⟨a,d,k,l⟩:=i;obtain⟨m,o,p⟩:=B a d l;exact⟨m,o,a,d,k,p⟩
   | cont =>
     obtain⟨a,d,k,l⟩:=i;obtain⟨m,o,p⟩:=B a d l;exact⟨m,o,a,d,k,p⟩
   | brk=>exact i
   | ret v=>exact i
 | false =>
   rw[Qh Qw];exact wpAny_execs_nil ⟨e,z,A,g⟩
end
structure It where
 go:Nat->Hp->Prop
 yld:Nat->Hp->V->Hp->Prop
 stop:Nat->Hp->Prop
def FpOk (X:Cx)(pins:List (Addr×Obj))(H:Hp)(b:Addr):Prop :=
 H b=none/\b≠X.env.locals/\b∉X.fs/\(b∈X.ex\/X.s₀.heap.objs.size<=b)/\(∀x c,X.env.cells.lookup x=some c->c≠b)/\∀p∈X.pn++pins,p.1≠b
theorem Inv.fpOk {X:Cx}{d:List (Addr×Obj)}{h:St}{H H':Hp}{s:Shared}{b:Addr}(I:Inv X d h H s)(a:s.heap.objs.size<=b)(f:H' b=none):FpOk X d H' b:=by
 refine⟨f,Nat.ne_of_gt (QH I.lt a),I.nofs a,.inr (QJ I.sz a),λx c e z=>?_,λp g z=>?_⟩
 . obtain⟨v,q⟩:=I.cell x c e
   exact absurd (QH q.lt (by rw[z];exact a)) (ZG _)
 . exact absurd (QH (Qp (I.pin p g).1) (by rw[z];exact a)) (ZG _)
structure Turn (P:Program)(w:World)(K:W.Frag)(tg:Expr)(J:It)(fp:List Addr)(it:Addr)(tn:Nat->Heap->Prop):Prop where
 mem:it∈fp
 obj:∀i h,tn i h->∀b∈fp,∃o,h.get? b=some o/\∀v,o.data≠.cell v
 keep:∀i h h',tn i h->(∀b∈fp,∀o,h.get? b=some o->h'.get? b=some o)->tn i h'
 item:∀(X:Cx),X.prog=P->X.w=w->X.K=K->X.calm=true->∀(i:Nat) (pins:List (Addr×Obj)) (s:Shared) (σ:St) (H:Hp) (E:VP),Inv X pins σ H s->(∀b∈fp,FpOk X pins H b)->tn i s.heap->J.go i H →
   wpAny (model P w) X.A (pyNext (.ref it)) (λr s1=>∃u,r=some u ∧
     wpAny (model P w) X.A (letOwnedTupleGo tg (.ref it) u) (λ_ s2=>∃x H',Inv X pins σ H' s2/\RelV x u/\J.yld i H x H'/\tn (i+1) s2.heap/\∀b∈fp,H' b=none) E s1) E s
 done:∀(X:Cx),X.prog=P->X.w=w->X.K=K->X.calm=true->∀(i:Nat) (pins:List (Addr×Obj)) (s:Shared) (σ:St) (H:Hp) (E:VP),Inv X pins σ H s->(∀b∈fp,FpOk X pins H b)->tn i s.heap->J.stop i H →
   wpAny (model P w) X.A (pyNext (.ref it)) (λr s1=>r=none/\Inv X pins σ H s1) E s
 self:∀(A:Around) (i:Nat) (s:Shared) (Q:VP) (E:VP),tn i s.heap->Q (.ref it) s->wpAny (model P w) A (pyIter (.ref it)) Q E s
noncomputable abbrev TI:=St->Hp->(It->Hp->Prop)->Prop
def PIE (X:Cx)(pins:List (Addr×Obj))(σ:St)(tg:Expr)(R:It->Hp->Prop)(itv:Value)(s2:Shared):Prop :=
 ∃(it:Addr) (fp:List Addr) (tn:Nat->Heap->Prop) (J:It) (H':Hp),itv = .ref it/\Inv X pins σ H' s2/\Turn X.prog X.w X.K tg J fp it tn/\tn 0 s2.heap/\(∀b∈fp,FpOk X pins H' b)/\R J H'
def PI (X:Cx)(tg iter:Expr)(wi:TI):Prop :=
 ∀(pins:List (Addr×Obj)) (s:Shared) (σ:St) (H:Hp) (R:It->Hp->Prop),Inv X pins σ H s->wi σ H R →
   wpAny (model X.prog X.w) X.A (eval iter X.env) (λv s1=>wpAny (model X.prog X.w) X.A (pyIter v) (PIE X pins σ tg R) X.xe s1) X.xe s
theorem ye7 {M:Model}{A:Around}{E:VP}{s:Shared}{b:Expr}{c:Addr}{u:Value}{o:Obj}{n:String}{vs:Array Value}{Q:Unit->Shared->Prop}(d:s.heap.get? c=some o)(e:o.cls = .type n)(f:o.data = .fields vs)
   (g:["enumerate","zip","dict_itemiterator","dict_reverseitemiterator","odict_iterator","itertools.zip_longest","itertools.pairwise"].contains n=false) (a:Q () s):wpAny M A (letOwnedTupleGo b (.ref c) u) Q E s:=by
 unfold letOwnedTupleGo
 cases b<;>first
   | exact Qd a
   | (cases u<;>first
       | exact Qd a
       | (refine Qb (wpAny_load d ?_)
          rw[e,f];show wpAny M A (if (["enumerate","zip","dict_itemiterator","dict_reverseitemiterator","odict_iterator","itertools.zip_longest","itertools.pairwise"].contains n && vs[0]? == some (rawInt _))=true then _ else _) Q E s;rw[Qh (by intro h;rw[g,Bool.false_and] at h;cases h)];exact Qd a))
noncomputable def Itl (K:W.Frag)(a:Addr):It :=
 ⟨λi H=>∃xs x,SqL K H a xs/\xs[i]?=some x,λi H x H'=>H'=H/\∀xs,SqL K H a xs->xs[i]?=some x,λi H=>∃xs,SqL K H a xs/\xs.length<=i⟩
noncomputable def Itt (K:W.Frag)(a:Addr):It :=
 ⟨λi H=>∃xs x,SqT K H a xs/\xs[i]?=some x,λi H x H'=>H'=H/\∀xs,SqT K H a xs->xs[i]?=some x,λi H=>∃xs,SqT K H a xs/\xs.length<=i⟩
noncomputable def Itr (lo:Int)(n:Nat):It:=⟨λi _=>i<n,λi H x H'=>H'=H/\x = .int (lo+i),λi _=>n<=i⟩
theorem zT4 {P:Program}{w:World}{K:W.Frag}{N:Expr}(a g:Addr):Turn P w K N (Itl K a) [g] g (λi h=>h.IsListIter g a i) where
 mem:=by simp
 obj:=λi h f b j=>by
   have e:b=g:=by simpa using j
   subst e;obtain⟨o,e,c,d⟩:=f;exact⟨o,e,λa2 z=>by rw[d] at z;cases z⟩
 keep:=λi h k f a0=>f.at λo e=>a0 g (by simp) o e
 item:=by
   intro X n q r J i F s L H a1 I l f t;subst n q r;obtain⟨O,x,m,v⟩:=t;obtain⟨M,y,p,Q⟩:=I.list m;obtain⟨u,R,S⟩:=y.get v;obtain⟨A,B,T,C,D,E⟩:=l g (by simp);refine wpAny_pyNext_list_item f p.isList (x:=u) (by simpa using R) λk G U=>?_
   have V:Inv X F L H { s with heap:=k }:=I.turned (t':=s.toks) (λb o j e=>(U.2 b j).trans e) A B C D E;obtain⟨o,e,c,d⟩:=id G;exact⟨u,rfl,ye7 (s:={ s with heap:=k }) e c d (by decide) ⟨x,H,V,S,⟨rfl,λys Y=>by rw[I.list_inj Y m];exact v⟩,G,λb j=>(l b j).1⟩⟩
 done:=by
   intro X n q r J i F s L H a1 I l f t;subst n q r;obtain⟨O,m,v⟩:=t;obtain⟨M,y,p,Q⟩:=I.list m;obtain⟨A,B,T,C,D,E⟩:=l g (by simp);have hl:=y.length;exact wpAny_pyNext_list_end (I.ok.hd J) f p.isList (by simp;omega) λk Z=>⟨rfl,I.turned (t':=s.toks) (λb o j e=>Z b o j e) A B C D E⟩
 self:=λ_ _ _ _ _ f h=>wpAny_pyIter_listiter f h
theorem zN8 {P:Program}{w:World}{K:W.Frag}{N:Expr}(a g:Addr):Turn P w K N (Itt K a) [g] g (λi h=>h.IsTupleIter g a i) where
 mem:=by simp
 obj:=λi h f b j=>by
   have e:b=g:=by simpa using j
   subst e;obtain⟨o,e,c,d⟩:=f;exact⟨o,e,λa2 z=>by rw[d] at z;cases z⟩
 keep:=λi h k f a0=>f.at λo e=>a0 g (by simp) o e
 item:=by
   intro X q r t L i G s M H a1 I l f v;subst q r t;obtain⟨O,x,m,y⟩:=v;obtain⟨n,A,p,Q⟩:=I.tuple m;obtain⟨u,R,S⟩:=A.get y;obtain⟨B,C,T,D,E,F⟩:=l g (by simp);refine wpAny_pyNext_tuple_item f (show s.heap.IsTuple a n.toArray from p) (x:=u) (by simpa using R) λk J U=>?_
   have V:Inv X G M H { s with heap:=k }:=I.turned (t':=s.toks) (λb o j e=>(U.2 b j).trans e) B C D E F;obtain⟨o,e,c,d⟩:=id J;exact⟨u,rfl,ye7 (s:={ s with heap:=k }) e c d (by decide) ⟨x,H,V,S,⟨rfl,λys Y=>by rw[I.tuple_inj Y m];exact y⟩,J,λb j=>(l b j).1⟩⟩
 done:=by
   intro X q r t L i G s M H a1 I l f v;subst q r t;obtain⟨O,m,y⟩:=v;obtain⟨n,A,p,Q⟩:=I.tuple m;obtain⟨B,C,T,D,E,F⟩:=l g (by simp);have hl:=A.length;exact wpAny_pyNext_tuple_end (I.ok.hd L) f (show s.heap.IsTuple a n.toArray from p) (by simp;omega) λk Z=>⟨rfl,I.turned (t':=s.toks) (λb o j e=>Z b o j e) B C D E F⟩
 self:=λ_ _ _ _ _ f h=>wpAny_pyIter_tupleiter f h
theorem turn_range {P:Program}{w:World}{K:W.Frag}{G:Expr}(c:Addr)(lo:Int)(n:Nat):Turn P w K G (Itr lo n) [c] c (λi h=>IsRangeIter h c (lo+(i:Nat)*1) ((n:Int)-(i:Nat)) 1) where
 mem:=by simp
 obj:=λi h a b d=>by
   have e:b=c:=by simpa using d
   subst e;exact⟨_,a,λv z=>by
     have J:Data.fields _=Data.cell v:=z;cases J⟩
 keep:=λi h f a k=>k c (by simp) _ a
 item:=by
   intro X j l m p i B s F H E I g a q;subst j l m;obtain⟨r,u,L,x,y,A⟩:=g c (by simp);have W:=Walks.range (prog:=X.prog) (w:=X.w) (I.ok.hd p) c lo 1 n;refine W.item i s _ _ q a λv f D M C N=>?_
   obtain⟨t,rfl⟩:=M;have O:Inv X B F H { s with heap:=f,toks:=D }:=I.turned (λb o d e=>N b o (by simpa using d) e) r u x y A;refine⟨_,rfl,ye7 (s:={ s with heap:=f,toks:=D }) (n:="range_iterator") C rfl rfl (by decide) ⟨.int (lo+i),H,O,⟨t,?_⟩,⟨rfl,rfl⟩,C,λb d=>(g b d).1⟩⟩;rw[Int.mul_one]
 done:=by
   intro X j l m p i B s F H E I g a q;subst j l m;obtain⟨r,u,L,x,y,A⟩:=g c (by simp);exact wpAny_pyNext_range_end (I.ok.hd p) a (by have:n<=i:=q;omega) λf Q=>⟨rfl,I.turned (t':=s.toks) (λb o d e=>Q b o d e) r u x y A⟩
 self:=λ_ _ _ _ _ a h=>wpAny_pyIter_rangeiter a h
section
variable {X:Cx} {tg:Expr}
inductive ye8 (K:W.Frag)(x:V)(H1:Hp)(R:It->Hp->Prop):Prop
 | mk (a:_)(h0:x = .ref a)(h1:(∃xs,SqL K H1 a xs))(h2:R (Itl K a) H1):ye8 K x H1 R
def iList (K:W.Frag)(tl:TE):TI:=λσ H R=>tl σ H λx H1=>ye8 K x H1 R
inductive yk9 (K:W.Frag)(x:V)(H1:Hp)(R:It->Hp->Prop):Prop
 | mk (a:_)(h0:x = .ref a)(h1:(∃xs,SqT K H1 a xs))(h2:R (Itt K a) H1):yk9 K x H1 R
def iTup (K:W.Frag)(tl:TE):TI:=λσ H R=>tl σ H λx H1=>yk9 K x H1 R
theorem zi8 {l:Expr}{f:TE}(i:PE X l f):PI X tg l (iList X.K f):=by
 intro g s t H R I h;refine thn (i g s t H _ I h) λv c ⟨x,j,d,k,m⟩=>?_
 obtain⟨a,e,⟨w,n⟩,q⟩:=m;subst e;cases k;obtain⟨u,y,p,z⟩:=d.list n;refine wpAny_pyIter_list p.isList ?_;refine⟨c.heap.objs.size,[c.heap.objs.size],_,_,j,rfl,d.kept (t':=c.toks) λb o e=>Qc _ e,zT4 a _,⟨_,Qm _ rfl,rfl,rfl⟩,λb r=>?_,q⟩;have e:b=c.heap.objs.size:=by simpa using r
 subst e;exact d.fpOk (Qj _) (d.hok.fresh (Qj _))
theorem zX3 {l:Expr}{f:TE}(j:PE X l f):PI X tg l (iTup X.K f):=by
 intro g s u H R I h;refine thn (j g s u H _ I h) λv c ⟨x,k,d,m,n⟩=>?_
 obtain⟨a,e,⟨w,r⟩,q⟩:=n;subst e;cases m;obtain⟨i,y,p,z⟩:=d.tuple r;refine wpAny_pyIter_tuple (show c.heap.IsTuple a i.toArray from p) ?_;refine⟨c.heap.objs.size,[c.heap.objs.size],_,_,k,rfl,d.kept (t':=c.toks) λb o e=>Qc _ e,zN8 a _,⟨_,Qm _ rfl,rfl,rfl⟩,λb t=>?_,q⟩;have e:b=c.heap.objs.size:=by simpa using t
 subst e;exact d.fpOk (Qj _) (d.hok.fresh (Qj _))
theorem ya1 {c:List (Addr×Obj)}{g:St}{H:Hp}{s:Shared}{R:It->Hp->Prop}{E:VP}{lo a:Int}{t u v:Tok}{d:Nat}(I:Inv X c g H s)(h:-(2 ^ 62)<=lo)(i:lo<2 ^ 62)(j:-(2 ^ 62)<=a)(k:a<2 ^ 62)
   (q:R (Itr lo (a-lo).toNat) H):wpAny (model X.prog X.w) X.A (pyIter (.ref s.heap.objs.size)) (PIE X c g tg R) E { s with heap:=s.heap.push { cls:=.type "range",data:=.fields #[.int lo t,.int a u,.int 1 v] },toks:=d }:=by
 refine wpAny_pyIter_range (IsRange.new ..) (small_one h i j k) ?_;have f:Inv X c g H { s with heap:=s.heap.push { cls:=.type "range",data:=.fields #[.int lo t,.int a u,.int 1 v] },toks:=d }:=I.kept λb o e=>Qc _ e
 refine⟨(s.heap.push { cls:=.type "range",data:=.fields #[.int lo t,.int a u,.int 1 v] }).objs.size,[(s.heap.push { cls:=.type "range",data:=.fields #[.int lo t,.int a u,.int 1 v] }).objs.size],_,_,H,rfl,
   f.kept (t':=d) λb o e=>Qc _ e,turn_range _ lo (a-lo).toNat,?_,λb l=>?_,q⟩
 . have m:lo+((0:Nat):Int)*1=lo:=by simp
   have n:(((a-lo).toNat:Nat):Int)-((0:Nat):Int)=Builtin.Range.rangeSize lo a 1:=by rw[rangeSize_one];split<;>omega
   show IsRangeIter _ _ (lo+((0:Nat):Int)*1) ((((a-lo).toNat:Nat):Int)-((0:Nat):Int)) 1;rw[m,n];exact Qm _ rfl
 . have e:b=(s.heap.push { cls:=.type "range",data:=.fields #[.int lo t,.int a u,.int 1 v] }).objs.size:=by simpa using l
   subst e;exact f.fpOk (Qj _) (f.hok.fresh (Qj _))
inductive ye9  (vs:List V)(H1:Hp)(R:It->Hp->Prop):Prop
 | mk (j:Int)(h0:vs=[.int j])(h1:-(2 ^ 62)<=j)(h2:j<2 ^ 62)(h3:R (Itr 0 j.toNat) H1):ye9  vs H1 R
def iRng1 (ta:TA):TI:=λσ H R=>ta σ H λvs H1=>ye9  vs H1 R
inductive yf0  (vs:List V)(H1:Hp)(R:It->Hp->Prop):Prop
 | mk (i j:Int)(h0:vs=[.int i,.int j])(h1:(-(2 ^ 62)<=i/\i<2 ^ 62/\-(2 ^ 62)<=j/\j<2 ^ 62))(h2:R (Itr i (j-i).toNat) H1):yf0  vs H1 R
def iRng2 (ta:TA):TI:=λσ H R=>ta σ H λvs H1=>yf0  vs H1 R
theorem zh9 {a:Expr} {d:TA} {p c:Pos} (g:Gl X "range") (i:X.mg "range" = none) (k:PA X [a] d) (hs:starEach [a] X.env=[(false,eval a X.env)]:=by rfl):PI X tg (.Call (.Name "range" p) [a] [] c) (iRng1 d):=by
 intro f s u H R I h;refine Call_ (zI7 I g i boot_range (PyProof.Rows.callWith_type1 (thn (k c f s u H _ I h) λv w ⟨x,y,l,m,b⟩=>?_) hs rfl));obtain⟨j,e,b,n,q⟩:=b;subst e;cases m with
 | cons r o =>
   cases o;obtain⟨t,rfl⟩:=r;exact call_range_1 (ya1 l (by omega) (by omega) b n (by simpa using q))
theorem zI9 {a b:Expr} {k:TA} {p f:Pos} (m:Gl X "range") (n:X.mg "range" = none) (o:PA X [a,b] k) (hs:starEach [a,b] X.env=[(false,eval a X.env),(false,eval b X.env)]:=by rfl) (g:starEach [b] X.env=[(false,eval b X.env)]:=by rfl) :
   PI X tg (.Call (.Name "range" p) [a,b] [] f) (iRng2 k):=by
 intro l s A H R I h;refine Call_ (zI7 I m n boot_range (PyProof.Rows.callWith_type1 (thn (o f l s A H _ I h) λB C ⟨D,E,u,v,c⟩=>?_) (by rw[hs,g]) (by rw[g];rfl)));obtain⟨i,j,e,⟨c,w,x,y⟩,q⟩:=c;subst e;cases v with
 | cons r d =>
   cases d with
   | cons z d =>
     cases d;obtain⟨t,rfl⟩:=r;obtain⟨F,rfl⟩:=z;exact call_range_2 (ya1 u c w x y q)
def tFor (wi:TI)(g:TG)(tb:TS):TS:=λD σ H=>wi σ H λJ H1=>∃W:Nat->Nat->St->Hp->Prop,(∃m,W 0 m σ H1)/\∀i m σ H,W i m σ H →
 (J.stop i H/\D.nx σ H)\/(J.go i H/\∃N:St->Hp->Prop,(∀σ' H',N σ' H'->∃m',m'<m/\W (i+1) m' σ' H')/\∀x H',J.yld i H x H'->g x σ H' λσ2 H2=>tb { D with nx:=N,ct:=N,bk:=D.nx } σ2 H2)
noncomputable def zJ0 (fp:List Addr)(h:Heap):List (Addr×Obj):=fp.filterMap λb=>(h.get? b).map λo=>(b,o)
theorem zw7 {a:List Addr}{h:Heap}{b:Addr}{o:Obj}(c:b∈a)(e:h.get? b=some o):(b,o)∈zJ0 a h:=List.mem_filterMap.mpr ⟨b,c,by rw[e];rfl⟩
theorem of_pinsAt {a:List Addr}{h:Heap}{p:Addr×Obj}(c:p∈zJ0 a h):p.1∈a/\h.get? p.1=some p.2:=by
 obtain⟨b,d,e⟩:=List.mem_filterMap.mp c;cases q:h.get? b with
 | none=>rw[q] at e;cases e
 | some o =>
   rw[q] at e;have f:(b,o)=p:=QA e;subst f;exact⟨d,q⟩
theorem Inv.pinned {a:List (Addr×Obj)}{h:St}{H:Hp}{s:Shared}{c:List Addr}(I:Inv X a h H s)(i:∀b∈c,FpOk X a H b)(j:∀b∈c,∃o,s.heap.get? b=some o/\∀v,o.data≠.cell v):Inv X (a++zJ0 c s.heap) h H s :=
 I.pins_of λp k=>(QB.mp k).elim (λz=>I.pin p (QK _ z)) λz=>by
   obtain⟨f,e⟩:=of_pinsAt z;obtain⟨l,m,n,_⟩:=i p.1 f;obtain⟨o,g,d⟩:=j p.1 f;rw[e] at g;cases g;exact⟨e,l,m,n,d⟩
theorem Inv.unpinned {a pl:List (Addr×Obj)}{b:St}{H:Hp}{s:Shared}(I:Inv X (a++pl) b H s):Inv X a b H s:=I.pins_of λp c=>I.pin p (QK _ (ZF _ c))
theorem zh7 {v:Expr}{C:List Stmt}{F:TI}{g:TG}{G:TS}{S:Pos}(p:PassesOwn (model X.prog X.w) X.A X.env X.xe)(H:X.calm=true)(Z:PI X tg v F)(hg:PG X tg g)(a:PSs X C G)
   (hs:∀x,foldedSetIterable v X.env x=pure x:=by intro _;rfl):PS X (.For tg v C [] S) (tFor F g G):=by
 intro l a0 P a1 aa a2 a3;refine wpAny_For (thn (Z l a0 P a1 _ a2 a3) λa4 s1 h1=>thn h1 λa9 s2 h2=>?_) hs;obtain⟨it,q,I,ab,H2,e,I2,T,U,J,W,⟨m0,w0⟩,Q⟩:=h2;subst e;have w:∀ {j:Hp},(∀b∈q,j b=none)->∀b∈q,FpOk X l j b:=λhn b a=>⟨hn b a,(J b a).2⟩
 refine codeAny_forLoop_any (λn K=>∃i r j,Inv X l r j K/\I i K.heap/\(∀b∈q,j b=none)/\W i n r j) ?_ m0 ⟨0,P,H2,I2,U,λb a=>(J b a).1,w0⟩;rintro n L ⟨i,s,u,M,D,E,w3⟩;rcases Q i n s u w3 with⟨R,qn⟩ | ⟨go,a5,hN,step⟩
 . refine wpAny_passesOwn p (thn (T.done X rfl rfl rfl H i l L s u X.xe M (w E) D R) λa6 s4 ⟨z,I4⟩=>?_)
   subst z;exact wpAny_execs_nil ⟨s,u,I4,qn⟩
 . refine wpAny_passesOwn p (thn (T.item X rfl rfl rfl H i l L s u X.xe M (w E) D go) λa6 s4 ⟨a7,z,h4⟩=>?_)
   subst z;refine wpAny_passesOwn p (thn h4 λ_ N ⟨x,O,I5,r5,y5,y,V⟩=>?_);have Y:=I5.pinned (w V) (T.obj _ _ y);refine wpAny_passesOwn p (thn (hg _ N s O x a7 _ Y r5 (step x O y5)) λ_ s6 ⟨σ6,H6,I6,q6⟩=>?_);refine wpAny_passesOwn p (thn (a _ s6 σ6 H6 _ I6 q6) λa8 A k=>?_);have B:∀ {c:St} {f:Hp},Inv X (l++zJ0 q N.heap) c f A->a5 c f->∃m,m<n/\∃i r j,Inv X l r j A/\I i A.heap/\(∀b∈q,j b=none)/\W i m r j:=λ{c f} h t=>by
     obtain⟨m',hm,w7⟩:=hN c f t;refine⟨m',hm,i+1,c,f,h.unpinned,T.keep _ _ _ y λb a o e=>(h.pin (b,o) (QK _ (QK _ (zw7 a e)))).1,λb a=>?_,w7⟩;obtain⟨o,e,d⟩:=T.obj _ _ y b a;exact(h.pin (b,o) (QK _ (QK _ (zw7 a e)))).2.1
   cases a8 with
   | next=>obtain⟨c,f,h,t⟩:=k;exact B h t
   | cont=>obtain⟨c,f,h,t⟩:=k;exact B h t
   | brk=>obtain⟨c,f,h,k⟩:=k;exact⟨c,f,h.unpinned,k⟩
   | ret a4=>obtain⟨x7,c,f,h,r7,k⟩:=k;exact⟨x7,c,f,h.unpinned,r7,k⟩
end
theorem zp8 {K:W.Frag}{a:Addr}{xs:List V}{g:TG}{l:TS}{D:Ends}{b:St}{H:Hp}(c:Nat->St->Hp->Prop)(o:c 0 b H)(r:∀i b H,i<=xs.length->c i b H->SqL K H a xs)
   (hs:∀i x b H,xs[i]?=some x->c i b H->g x b H λf h=>l { D with nx:=c (i+1),ct:=c (i+1),bk:=D.nx } f h) (s:∀b H,c xs.length b H->D.nx b H) :
   ∃W:Nat->Nat->St->Hp->Prop,(∃m,W 0 m b H)/\∀i m b H,W i m b H →
     ((Itl K a).stop i H/\D.nx b H)\/((Itl K a).go i H/\∃N:St->Hp->Prop,(∀j d,N j d->∃n,n<m/\W (i+1) n j d)/\∀x d,(Itl K a).yld i H x d->g x b d λf h=>l { D with nx:=N,ct:=N,bk:=D.nx } f h):=by
 refine⟨λi m b H=>m=xs.length-i/\i<=xs.length/\c i b H,⟨xs.length,by simp,QD _,o⟩,?_⟩;rintro i m b H ⟨rfl,t,p⟩;have q:=r i b H t p;by_cases k:i<xs.length
 . refine .inr ⟨⟨xs,xs[i],q,by simp[k]⟩,c (i+1),λj d u=>⟨xs.length-(i+1),by omega,rfl,k,u⟩,λx d y=>?_⟩
   obtain⟨e,y⟩:=y;subst e;exact hs i x b _ (y xs q) p
 . have e:i=xs.length:=by omega
   subst e;exact .inl ⟨⟨xs,q,Qj _⟩,s b H p⟩
theorem zM3 {K:W.Frag}{a:Addr}{xs:List V}{g:TG}{l:TS}{D:Ends}{b:St}{H:Hp}(c:Nat->St->Hp->Prop)(o:c 0 b H)(r:∀i b H,i<=xs.length->c i b H->SqT K H a xs)
   (hs:∀i x b H,xs[i]?=some x->c i b H->g x b H λf h=>l { D with nx:=c (i+1),ct:=c (i+1),bk:=D.nx } f h) (s:∀b H,c xs.length b H->D.nx b H) :
   ∃W:Nat->Nat->St->Hp->Prop,(∃m,W 0 m b H)/\∀i m b H,W i m b H →
     ((Itt K a).stop i H/\D.nx b H)\/((Itt K a).go i H/\∃N:St->Hp->Prop,(∀j d,N j d->∃n,n<m/\W (i+1) n j d)/\∀x d,(Itt K a).yld i H x d->g x b d λf h=>l { D with nx:=N,ct:=N,bk:=D.nx } f h):=by
 refine⟨λi m b H=>m=xs.length-i/\i<=xs.length/\c i b H,⟨xs.length,by simp,QD _,o⟩,?_⟩;rintro i m b H ⟨rfl,t,p⟩;have q:=r i b H t p;by_cases k:i<xs.length
 . refine .inr ⟨⟨xs,xs[i],q,by simp[k]⟩,c (i+1),λj d u=>⟨xs.length-(i+1),by omega,rfl,k,u⟩,λx d y=>?_⟩
   obtain⟨e,y⟩:=y;subst e;exact hs i x b _ (y xs q) p
 . have e:i=xs.length:=by omega
   subst e;exact .inl ⟨⟨xs,q,Qj _⟩,s b H p⟩
theorem zh1 {lo:Int}{n:Nat}{g:TG}{k:TS}{D:Ends}{a:St}{H:Hp}(b:Nat->St->Hp->Prop)(o:b 0 a H)
   (hs:∀i a H,i<n->b i a H->g (.int (lo+i)) a H λf h=>k { D with nx:=b (i+1),ct:=b (i+1),bk:=D.nx } f h) (q:∀a H,b n a H->D.nx a H) :
   ∃W:Nat->Nat->St->Hp->Prop,(∃m,W 0 m a H)/\∀i m a H,W i m a H →
     ((Itr lo n).stop i H/\D.nx a H)\/((Itr lo n).go i H/\∃N:St->Hp->Prop,(∀j c,N j c->∃l,l<m/\W (i+1) l j c)/\∀x c,(Itr lo n).yld i H x c->g x a c λf h=>k { D with nx:=N,ct:=N,bk:=D.nx } f h):=by
 refine⟨λi m a H=>m=n-i/\i<=n/\b i a H,⟨n,by simp,QD _,o⟩,?_⟩;rintro i m a H ⟨rfl,s,p⟩;by_cases d:i<n
 . refine .inr ⟨d,b (i+1),λj c r=>⟨n-(i+1),by omega,rfl,d,r⟩,λx c y=>?_⟩
   obtain⟨e,y⟩:=y;subst e y;exact hs i a _ d p
 . have e:i=n:=by omega
   subst e;exact .inl ⟨Qj _,q a H p⟩
theorem ya2 {c:TT}{i:TS}{D:Ends}{a:St}{H:Hp}(g:St->Hp->Prop)(h:St->Hp->Nat)(k:g a H)
   (hs:∀a H,g a H->c a H λb d=>if b=true then i { D with nx:=λe f=>g e f/\h e f<h a H,ct:=λe f=>g e f/\h e f<h a H,bk:=D.nx } a d else D.nx a d)
   (mono:∀a H Q j,(∀b d,Q b d->j b d)->c a H Q->c a H j):yk8 c i D a H:=by
 refine⟨λm a H=>m=h a H/\g a H,⟨_,rfl,k⟩,?_⟩;rintro m a H ⟨rfl,p⟩;refine mono a H _ _ (λb d q=>?_) (hs a H p);cases b with
 | true=>exact⟨_,λe f ⟨n,l⟩=>⟨_,l,rfl,n⟩,q⟩
 | false=>exact q
noncomputable abbrev R2:=V->V->Hp->VK->Prop
def OpR (X:Cx)(f:Value->Value->Sem Value)(r:R2):Prop :=
 ∀(pins:List (Addr×Obj)) (s:Shared) (σ:St) (H:Hp) (x y:V) (v u:Value) (Q:VK),Inv X pins σ H s->RelV x v->RelV y u->r x y H Q →
   wpAny (model X.prog X.w) X.A (f v u) (EP X pins σ Q) X.xe s
def UnR (X:Cx)(f:Value->Sem Value)(r:V->Hp->VK->Prop):Prop :=
 ∀(pins:List (Addr×Obj)) (s:Shared) (σ:St) (H:Hp) (x:V) (v:Value) (Q:VK),Inv X pins σ H s->RelV x v->r x H Q →
   wpAny (model X.prog X.w) X.A (f v) (EP X pins σ Q) X.xe s
def zn9 (X:Cx)(f:Value)(r:List V->Hp->VK->Prop):Prop :=
 ∀(pins:List (Addr×Obj)) (s:Shared) (σ:St) (H:Hp) (xs:List V) (us:List Value) (Q:VK),Inv X pins σ H s->Vals xs us->r xs H Q →
   wpAny (model X.prog X.w) X.A (call f us) (EP X pins σ Q) X.xe s
def tOp (r:R2)(ta tb:TE):TE:=λσ H Q=>ta σ H λx H1=>tb σ H1 λy H2=>r x y H2 Q
def tUn (r:V->Hp->VK->Prop)(ta:TE):TE:=λσ H Q=>ta σ H λx H1=>r x H1 Q
inductive I_rI (C:Int->Int->Prop)(g:Int->Int->V)(x:V)(y:V)(H:Hp)(Q:VK):Prop
 | mk (i j:_)(h0:x = .int i)(h1:y = .int j)(h2:C i j)(h3:Q (g i j) H):I_rI C g x y H Q
def rI (C:Int->Int->Prop)(g:Int->Int->V):R2:=λx y H Q=>I_rI C g x y H Q
inductive yp3 (g:Int->Int->V)(x:V)(y:V)(H:Hp)(Q:VK):Prop
 | mk (i j:_)(h0:x = .int i)(h1:y = .int j)(h2:Q (g i j) H):yp3 g x y H Q
def rI0 (g:Int->Int->V):R2:=λx y H Q=>yp3 g x y H Q
inductive I_rU (g:Int->V)(x:V)(H:Hp)(Q:VK):Prop
 | mk (i:_)(h0:x = .int i)(h1:Q (g i) H):I_rU g x H Q
def rU (g:Int->V):V->Hp->VK->Prop:=λx H Q=>I_rU g x H Q
section
variable {X:Cx} {a b c:Expr} {ta tb tc:TE} {pos:Pos}
theorem binT (j:PE X a ta)(k:PE X b tb){e:List (Addr×Obj)}{s:Shared}{d:St}{H:Hp}{R:V->V->Hp->Prop}(I:Inv X e d H s)
   (h:ta d H λx i=>tb d i λy c=>R x y c) {Q:VP} {f:Value->Value->Sem Value}
   (l:∀v u g x y c,Inv X e d c g->RelV x v->RelV y u->R x y c->wpAny (model X.prog X.w) X.A (f v u) Q X.xe g) :
   wpAny (model X.prog X.w) X.A (eval a X.env) (λv m=>wpAny (model X.prog X.w) X.A (eval b X.env) (λu n=>wpAny (model X.prog X.w) X.A (f v u) Q X.xe n) X.xe m) X.xe s:=by
 refine thn (j e s d H _ I h) λv o ⟨x,i,p,q,r⟩=>?_
 refine thn (k e o d i _ p r) λu g ⟨y,c,t,w,z⟩=>?_
 exact l v u g x y c t q w z
theorem zb4 {c:Operator}{r:R2}(e:OpR X (binaryOp c) r)(f:PE X a ta)(g:PE X b tb):PE X (.BinOp a c b pos) (tOp r ta tb):=by
 intro d s n H Q I h;exact wpAny_BinOp (binT f g I h λv u i x y j k l m q=>e d i n j x y v u Q k l m q)
theorem zk8 {c:UnaryOp}{r:V->Hp->VK->Prop}(e:UnR X (unaryOp c) r)(f:PE X a ta):PE X (.UnaryOp c a pos) (tUn r ta):=by
 intro b s d H Q I h;exact UnaryOp_ (thn (f b s d H _ I h) λv g ⟨x,i,j,k,l⟩=>e b g d i x v Q j k l)
theorem opI {f:Value->Value->Sem Value}{C:Int->Int->Prop}{g:Int->Int->Int}
   (a:∀(i j:Int) (t u:Tok) (s:Shared) (Q:VP) (E:VP),C i j->Q (.int (g i j) s.toks) { s with toks:=s.toks+1 }->wpAny (model X.prog X.w) X.A (f (.int i t) (.int j u)) Q E s) :
   OpR X f (rI C λi j=>.int (g i j)):=by
 intro k s l H x y v u Q I b c h;obtain⟨i,j,rfl,rfl,d,q⟩:=h;obtain⟨t,rfl⟩:=b;obtain⟨e,rfl⟩:=c;exact a i j t e s _ _ d ⟨.int (g i j),H,I.tok _,⟨_,rfl⟩,q⟩
theorem opI0 {f:Value->Value->Sem Value}{g:Int->Int->Int}
   (a:∀(i j:Int) (t u:Tok) (s:Shared) (Q:VP) (E:VP),Q (.int (g i j) s.toks) { s with toks:=s.toks+1 }->wpAny (model X.prog X.w) X.A (f (.int i t) (.int j u)) Q E s) :
   OpR X f (rI0 λi j=>.int (g i j)):=by
 intro e s k H x y v u Q I b c h;obtain⟨i,j,rfl,rfl,q⟩:=h;obtain⟨t,rfl⟩:=b;obtain⟨d,rfl⟩:=c;exact a i j t d s _ _ ⟨.int (g i j),H,I.tok _,⟨_,rfl⟩,q⟩
theorem opB0 {f:Value->Value->Sem Value}{g:Int->Int->Bool}
   (a:∀(i j:Int) (t u:Tok) (s:Shared) (Q:VP) (E:VP),Q (.bool (g i j)) s->wpAny (model X.prog X.w) X.A (f (.int i t) (.int j u)) Q E s) :
   OpR X f (rI0 λi j=>.bl (g i j)):=by
 intro e s k H x y v u Q I b c h;obtain⟨i,j,rfl,rfl,q⟩:=h;obtain⟨t,rfl⟩:=b;obtain⟨d,rfl⟩:=c;exact a i j t d s _ _ ⟨.bl (g i j),H,I,rfl,q⟩
def CDiv (i j:Int):Prop:=0<j/\j<1073741824
def CMul (i j:Int):Prop:=(-(2 ^ 64)<i/\i<2 ^ 64)\/(-(2 ^ 64)<j/\j<2 ^ 64)
theorem CMul.ok {i j:Int}(h:CMul i j):IntMulOk i j:=by
 rcases h with⟨a,b⟩ | ⟨a,b⟩
 . exact .of_left (intBits_le_64 a b)
 . exact .of_right (intBits_le_64 a b)
theorem zf5:OpR X (binaryOp .Add) (rI0 λi j=>.int (i+j)):=opI0 λ_ _ _ _ _ _ _ q=>add_int q
theorem zj1:OpR X (binaryOp .Sub) (rI0 λi j=>.int (i-j)):=opI0 λ_ _ _ _ _ _ _ q=>sub_int q
theorem zn3:OpR X (binaryOp .Mult) (rI CMul λi j=>.int (i*j)):=opI λ_ _ _ _ _ _ _ a q=>mul_int q a.ok
theorem zm7:OpR X (binaryOp .FloorDiv) (rI CDiv λi j=>.int (i / j)):=opI λi j _ _ _ _ _ a q=>by
 have b:(0:Int)<j:=a.1;have c:j<1073741824:=a.2;exact floordiv_int (by omega) (by rw[Int.fdiv_eq_ediv_of_nonneg i (by omega)];exact q) (.inl (PyProof.noPylong_small (by omega)))
theorem ze3:OpR X (binaryOp .Mod) (rI (λ_ j=>0<j) λi j=>.int (i % j)):=opI λi j _ _ _ _ _ a q=>by
 have b:(0:Int)<j:=a;exact mod_int' (by omega) (by rw[Int.fmod_eq_emod_of_nonneg i (by omega)];exact q)
theorem unI {f:Value->Sem Value}{g:Int->Int}
   (a:∀(i:Int) (t:Tok) (s:Shared) (Q:VP) (E:VP),Q (.int (g i) s.toks) { s with toks:=s.toks+1 }->wpAny (model X.prog X.w) X.A (f (.int i t)) Q E s) :
   UnR X f (rU λi=>.int (g i)):=by
 intro c s d H x v Q I b h;obtain⟨i,rfl,q⟩:=h;obtain⟨t,rfl⟩:=b;exact a i t s _ _ ⟨.int (g i),H,I.tok _,⟨_,rfl⟩,q⟩
theorem zg8:UnR X (unaryOp .USub) (rU λi=>.int (-i)):=unI λ_ _ _ _ _ q=>neg_int q
end
noncomputable def scal:V->V->Bool
 | .non,.non=>true | .non,.int _=>true | .int _,.non=>true | .non,.bl _=>true | .bl _,.non=>true | .non,.str _=>true | .str _,.non=>true
 | .int _,.int _=>true | .bl _,.bl _=>true | .str _,.str _=>true | .byt _,.byt _=>true
 | .int _,.str _=>true | .str _,.int _=>true | .bl _,.str _=>true | .str _,.bl _=>true
 | _,_=>false
inductive yp4 (x y:V)(H:Hp)(Q:VK):Prop
 | mk (h0:scal x y=true)(h1:Q (.bl (decide (x=y))) H):yp4 x y H Q
def rEq:R2:=λx y H Q=>yp4 x y H Q
inductive yp5 (x y:V)(H:Hp)(Q:VK):Prop
 | mk (h0:scal x y=true)(h1:Q (.bl (!decide (x=y))) H):yp5 x y H Q
def rNe:R2:=λx y H Q=>yp5 x y H Q
theorem zX4 {i j:Int}:decide (V.int i=V.int j)=(i == j):=by
 rw[Bool.eq_iff_iff];simp
theorem yd7 {i j:Bool}:decide (V.bl i=V.bl j)=(i == j):=by
 rw[Bool.eq_iff_iff];simp
theorem zX5 {i j:Str}:decide (V.str i=V.str j)=(i == j):=by
 rw[Bool.eq_iff_iff];simp
theorem yf1 {i j:Array UInt8}:decide (V.byt i=V.byt j)=(i.toList == j.toList):=by
 rw[Bool.eq_iff_iff];cases i;cases j;simp
section
variable {X:Cx} {a b c:Expr} {ta tb tc:TE} {pos:Pos}
theorem ze4 {a:List (Addr×Obj)}{c:St}{H:Hp}{s:Shared}{Q:VK}{k b:Bool}(I:Inv X a c H s)(q:Q (.bl k) H)(e:k=b):EP X a c Q (.bool b) s:=by
 subst e;exact⟨.bl k,H,I,rfl,q⟩
theorem zg3:OpR X (compareOp .Eq) rEq:=by
 intro e s f H x y v u Q I d a h;obtain⟨c,q⟩:=h;cases x with
 | non =>
   cases d;cases y with
   | non=>cases a;exact PySem.EqNone.eq_none_none (ze4 I q (by simp))
   | bl j=>cases a;exact PySem.EqNone.eq_none_bool (ze4 I q (by simp))
   | int j=>obtain⟨b,rfl⟩:=a;exact PySem.EqNone.eq_none_int (ze4 I q (by simp))
   | str j=>obtain⟨b,rfl⟩:=a;exact PySem.EqNone.eq_none_str (ze4 I q (by simp))
   | _=>exact absurd (show false=true from c) Qw
 | bl i =>
   cases d;cases y with
   | non=>cases a;exact PySem.EqNone.eq_bool_none (ze4 I q (by simp))
   | bl j=>cases a;exact eq_bool (ze4 I q yd7)
   | str j=>obtain⟨b,rfl⟩:=a;exact PySem.EqMixed.eq_bool_str (ze4 I q (by simp))
   | _=>exact absurd (show false=true from c) Qw
 | int i =>
   obtain⟨t,rfl⟩:=d;cases y with
   | non=>cases a;exact PySem.EqNone.eq_int_none (ze4 I q (by simp))
   | int j=>obtain⟨b,rfl⟩:=a;exact eq_int (ze4 I q zX4)
   | str j=>obtain⟨b,rfl⟩:=a;exact PySem.EqMixed.eq_int_str (ze4 I q (by simp))
   | _=>exact absurd (show false=true from c) Qw
 | str i =>
   obtain⟨t,rfl⟩:=d;cases y with
   | non=>cases a;exact PySem.EqNone.eq_str_none (ze4 I q (by simp))
   | bl j=>cases a;exact PySem.EqMixed.eq_str_bool (ze4 I q (by simp))
   | int j=>obtain⟨b,rfl⟩:=a;exact PySem.EqMixed.eq_str_int (ze4 I q (by simp))
   | str j=>obtain⟨b,rfl⟩:=a;exact eq_str (ze4 I q zX5)
   | _=>exact absurd (show false=true from c) Qw
 | byt i =>
   obtain⟨t,rfl⟩:=d;cases y with
   | byt j=>obtain⟨b,rfl⟩:=a;exact W.eq_bytes (ze4 I q yf1)
   | _=>exact absurd (show false=true from c) Qw
 | _=>cases y<;>exact absurd (show false=true from c) Qw
theorem zl4:OpR X (compareOp .NotEq) rNe:=by
 intro e s f H x y v u Q I d a h;obtain⟨c,q⟩:=h;cases x with
 | non =>
   cases d;cases y with
   | non=>cases a;exact PySem.EqNone.ne_none_none (ze4 I q (by simp))
   | bl j=>cases a;exact PySem.EqNone.ne_none_bool (ze4 I q (by simp))
   | int j=>obtain⟨b,rfl⟩:=a;exact PySem.EqNone.ne_none_int (ze4 I q (by simp))
   | str j=>obtain⟨b,rfl⟩:=a;exact PySem.EqNone.ne_none_str (ze4 I q (by simp))
   | _=>exact absurd (show false=true from c) Qw
 | bl i =>
   cases d;cases y with
   | non=>cases a;exact PySem.EqNone.ne_bool_none (ze4 I q (by simp))
   | bl j=>cases a;exact ne_bool (ze4 I q (congrArg not yd7))
   | str j=>obtain⟨b,rfl⟩:=a;exact PySem.EqMixed.ne_bool_str (ze4 I q (by simp))
   | _=>exact absurd (show false=true from c) Qw
 | int i =>
   obtain⟨t,rfl⟩:=d;cases y with
   | non=>cases a;exact PySem.EqNone.ne_int_none (ze4 I q (by simp))
   | int j=>obtain⟨b,rfl⟩:=a;exact ne_int (ze4 I q (congrArg not zX4))
   | str j=>obtain⟨b,rfl⟩:=a;exact PySem.EqMixed.ne_int_str (ze4 I q (by simp))
   | _=>exact absurd (show false=true from c) Qw
 | str i =>
   obtain⟨t,rfl⟩:=d;cases y with
   | non=>cases a;exact PySem.EqNone.ne_str_none (ze4 I q (by simp))
   | bl j=>cases a;exact PySem.EqMixed.ne_str_bool (ze4 I q (by simp))
   | int j=>obtain⟨b,rfl⟩:=a;exact PySem.EqMixed.ne_str_int (ze4 I q (by simp))
   | str j=>obtain⟨b,rfl⟩:=a;exact ne_str (ze4 I q (congrArg not zX5))
   | _=>exact absurd (show false=true from c) Qw
 | byt i =>
   obtain⟨t,rfl⟩:=d;cases y with
   | byt j=>obtain⟨b,rfl⟩:=a;exact W.ne_bytes (ze4 I q (congrArg not yf1))
   | _=>exact absurd (show false=true from c) Qw
 | _=>cases y<;>exact absurd (show false=true from c) Qw
theorem zT5:OpR X (compareOp .Lt) (rI0 λi j=>.bl (decide (i<j))):=opB0 λ_ _ _ _ _ _ _ q=>lt_int q
theorem yf2:OpR X (compareOp .LtE) (rI0 λi j=>.bl (decide (i<=j))):=opB0 λ_ _ _ _ _ _ _ q=>le_int q
theorem zy4:OpR X (compareOp .Gt) (rI0 λi j=>.bl (decide (j<i))):=opB0 λ_ _ _ _ _ _ _ q=>gt_int q
theorem ya3:OpR X (compareOp .GtE) (rI0 λi j=>.bl (decide (j<=i))):=opB0 λ_ _ _ _ _ _ _ q=>ge_int q
theorem op_in_str:OpR X (compareOp .In) (λx y H Q=>∃i j,x = .str i/\y = .str j/\Q (.bl (!(Builtin.Str.occurrences j i 0 j.length 1).isEmpty)) H):=by
 intro c s e H x y v u Q I a b h;obtain⟨i,j,rfl,rfl,q⟩:=h;obtain⟨t,rfl⟩:=a;obtain⟨d,rfl⟩:=b;exact in_str (ze4 I q rfl)
theorem yl0:OpR X (compareOp .Is) (λx y H Q=>y = .non/\Q (.bl (decide (x = .non))) H):=by
 intro c s d H x y v u Q I a b h;obtain⟨rfl,q⟩:=h;cases b;refine is_none_gen (ze4 I q ?_)
 cases x<;>first
   | (cases a;rfl)
   | (obtain⟨t,rfl⟩:=a;rfl)
theorem op_notN:OpR X (compareOp .IsNot) (λx y H Q=>y = .non/\Q (.bl (!decide (x = .non))) H):=by
 intro c s d H x y v u Q I a b h;obtain⟨rfl,q⟩:=h;cases b;refine isnot_none_gen (ze4 I q ?_)
 cases x<;>first
   | (cases a;rfl)
   | (obtain⟨t,rfl⟩:=a;rfl)
theorem zc1 (b:Expr){a:CmpOp}(h:a≠.In:=by decide)(c:a≠.NotIn:=by decide):behindInMarks a b=false:=by
 have d:(a == CmpOp.In)=false:=by cases a<;>first | rfl | exact absurd rfl h
 have e:(a == CmpOp.NotIn)=false:=by cases a<;>first | rfl | exact absurd rfl c
 cases b<;>simp[behindInMarks,d,e]
theorem zj8 {c:CmpOp}{r:R2}(e:OpR X (compareOp c) r)(f:PE X a ta)(g:PE X b tb)(i:behindInMarks c b=false):PE X (.Compare a [c] [b] pos) (tOp r ta tb):=by
 intro d s o H Q I h;exact wpAny_Compare1 (binT f g I h λv u j x y k l m n q=>e d j o k x y v u Q l m n q) i
inductive yf3  (x:V)(H':Hp)(Q:Bool->Hp->Prop):Prop
 | mk (k:_)(h0:x = .bl k)(h1:Q k H'):yf3  x H' Q
def tTest (t:TE):TT:=λσ H Q=>t σ H λx H'=>yf3  x H' Q
theorem zb9 {f:CmpOp}{r:R2}(i:OpR X (compareOp f) r)(j:PE X a ta)(l:PE X b tb)(m:behindInMarks f b=false):PT X (.Compare a [f] [b] pos) (tTest (tOp r ta tb)):=by
 intro d s g H Q I h;refine wpAny_isTrue_Compare1 (thn (j d s g H _ I h) λv n ⟨x,o,p,q,t⟩=>thn (l d n g o _ p t) λu w ⟨y,A,B,C,D⟩ =>
   thn (i d w g A x y v u _ B q C D) λc K ⟨z,E,F,G,k,e,J⟩=>?_) m
 subst e;cases G;exact wpAny_truthy_bool ⟨E,F,J⟩
theorem zJ1:(sizeLine:Nat)<2 ^ 63:=by rw[sizeLine_eq];decide
theorem zd5:OpR X (binaryOp .Add) (λx y H Q=>∃i j,x = .str i/\y = .str j/\i.length+j.length<=sizeLine/\Q (.str (i++j)) H):=by
 intro e s g H x y v u Q I a b h;obtain⟨i,j,rfl,rfl,c,q⟩:=h;obtain⟨t,rfl⟩:=a;obtain⟨d,rfl⟩:=b;exact add_str (λd f=>⟨.str (i++j),H,I.tok _,⟨_,rfl⟩,q⟩) c
theorem zs9 {x:V}{us:List Value}(r:Vals [x] us):∃u,us=[u]/\RelV x u:=by
 cases r with
 | cons a b=>cases b;exact⟨_,rfl,a⟩
theorem yf4 {x y:V}{us:List Value}(r:Vals [x,y] us):∃u a,us=[u,a]/\RelV x u/\RelV y a:=by
 cases r with
 | cons b c =>
   cases c with
   | cons d e=>cases e;exact⟨_,_,rfl,b,d⟩
theorem zp9:zn9 X (.builtin "abs") (λa H Q=>∃i,a=[.int i]/\Q (.int (if i<0 then -i else i)) H):=by
 intro b s e H a c Q I r h;obtain⟨i,rfl,q⟩:=h;obtain⟨u,rfl,t,rfl⟩:=zs9 r;exact call_abs_int λu d=>⟨.int (if i<0 then -i else i),H,I.tok _,⟨_,rfl⟩,q⟩
theorem zT6 (c:X.calm=true):zn9 X (.builtin "max") (λb H Q=>∃i j,b=[.int i,.int j]/\Q (.int (if j>i then j else i)) H):=by
 intro d s n H b e Q I r h;obtain⟨i,j,rfl,q⟩:=h;obtain⟨u,f,rfl,⟨t,rfl⟩,⟨g,rfl⟩⟩:=yf4 r;refine max_two_ints (I.ok.hd c) λl m k=>⟨_,H,I.kept k,?_,q⟩
 by_cases a:j>i
 . rw[Qo a,Qo a];exact⟨_,rfl⟩
 . rw[Qh a,Qh a];exact⟨_,rfl⟩
theorem zJ2 (c:X.calm=true):zn9 X (.builtin "min") (λb H Q=>∃i j,b=[.int i,.int j]/\Q (.int (if j<i then j else i)) H):=by
 intro d s n H b e Q I r h;obtain⟨i,j,rfl,q⟩:=h;obtain⟨u,f,rfl,⟨t,rfl⟩,⟨g,rfl⟩⟩:=yf4 r;refine min_two_ints (I.ok.hd c) λl m k=>⟨_,H,I.kept k,?_,q⟩
 by_cases a:j<i
 . rw[Qo a,Qo a];exact⟨_,rfl⟩
 . rw[Qh a,Qh a];exact⟨_,rfl⟩
theorem call_int1:zn9 X (.type "int") (λa H Q=>(∃i,a=[.int i]/\Q (.int i) H)\/∃k,a=[.bl k]/\Q (.int (if k then 1 else 0)) H):=by
 intro c s e H a d Q I r h;rcases h with⟨i,rfl,q⟩ | ⟨k,rfl,q⟩
 . obtain⟨u,rfl,t,rfl⟩:=zs9 r
   exact call_int_int ⟨.int i,H,I,⟨_,rfl⟩,q⟩
 . obtain⟨u,rfl,b⟩:=zs9 r
   cases b;exact call_int_bool ⟨.int (if k then 1 else 0),H,I.tok _,⟨_,rfl⟩,q⟩
theorem zg2:zn9 X (.type "str") (λa H Q=>∃i,a=[.int i]/\i.natAbs.log2<1920/\Q (.str (toString i)) H):=by
 intro c s e H a d Q I r h;obtain⟨i,rfl,b,q⟩:=h;obtain⟨u,rfl,t,rfl⟩:=zs9 r;exact PySem.P.str_of_int b ⟨.str _,H,I.tok _,⟨_,rfl⟩,q⟩
end
structure ObjM (h:Heap)(x dx C:Addr)(mA:Str->Option Value):Prop where
 obj:h.get? x=some (W.instObj C dx)
 ns:h.Ns1 dx mA
 ne:dx≠x
theorem zT7 {h:Heap}{c:Addr}{mA:Str->Option Value}(n:h.Ns1 c mA):∃d,h.get? c=some d/\∀b,W.lookIn b d=some (mA b):=by
 obtain⟨o,f,r,i,j,k,_,l⟩:=n;refine⟨o,i,λb=>?_⟩;have e:=l b;unfold nsFind findBy at e;rw[<-Array.find?_toList] at e;unfold W.lookIn;rw[j];dsimp only
 split
 . rename_i y q
   rw[q] at e;exact congrArg some e
 . rename_i q
   rw[q] at e;have a:f.toList.any (·.refKey)=false:=by
     rw[List.any_eq_false];intro y m;obtain⟨z,t,g⟩:=k y (Array.mem_toList_iff.mp m);simp[DictEntry.refKey,g]
   have p:¬ f.toList.any (·.refKey)=true:=by rw[a];exact Qw
   rw[Qh p];exact congrArg some e
theorem ObjM.look {h:Heap}{x c C:Addr}{mA:Str->Option Value}(I:ObjM h x c C mA):∃a,W.InstAt h x (W.instObj C c) C (some a)/\∀b,W.lookIn b a=some (mA b) :=
 let⟨a,d,e⟩:=zT7 I.ns
 ⟨a,⟨I.obj,rfl,rfl,d⟩,e⟩
section
variable {prog:Program} {w:World} {A:Around} {E:VP} {s:Shared} {K:W.Frag} {x dx C f:Addr} {mA:Str->Option Value} {name:Str} {v:Value}
theorem get_map {a:Bool}{Q:VP}(X:K.In s.heap)(I:ObjM s.heap x dx C mA)(c:W.plainGet K C name=true)(d:W.hasDictIn K C=true)
   (e:W.findIn K (.ref C) name=some none) (f:mA name=some v) (b:W.handedIn v=true) (h:Q v { s with toks:=s.toks+1 }) :
   wpAny (model prog w) A (getAttr (.ref x) name a) Q E s:=by
 obtain⟨i,J,g⟩:=I.look;exact W.get_value X J (W.plainGet_of c).1 (W.findObj_own d e rfl (by rw[g,f])) b h
theorem get_meth {pl:Sem Bool}{Q:Value×List Value->Shared->Prop}(X:K.In s.heap)(I:ObjM s.heap x dx C mA)(a:W.plainGet K C name=true)
   (b:W.findIn K (.ref C) name=some (some (.ref f))) (c:W.isFn K (.ref f)=true) (d:mA name=none) (h:Q (.ref f,[.ref x]) s) :
   wpAny (model prog w) A (getMethod (.ref x) name pl) Q E s:=by
 obtain⟨e,J,g⟩:=I.look;exact W.method_fn X J (W.plainGet_of a).1 (W.plainGet_of a).2 b (beq_iff_eq.mp c) (by show(W.lookIn name e).map (·.isSome)=some false;rw[g,d];rfl) h
theorem set_map {ns:List Str}{Q:Unit->Shared->Prop}(X:K.In s.heap)(I:ObjM s.heap x dx C mA)
   (hs:W.findIn K (.ref C) "__setattr__" = some (some (.builtin "object.__setattr__"))) (k:W.plainOver K C=true) (l:W.takerIn K C name=some none) (m:W.hasDictIn K C=true)
   (n:PySem.Within mA ns) (hsz:ns.length<=sizeLine)
   (h:∀c,ObjM c x dx C (λy=>if y=name then some v else mA y)->Heap.SameBut dx s.heap c->Q () { s with heap:=c,toks:=s.toks+2 }) :
   wpAny (model prog w) A (setAttr (.ref x) name v) Q E s:=by
 obtain⟨u,J,z⟩:=I.look;refine W.set_plain X J hs (W.osa_open (s:={ s with toks:=s.toks+1 }) (r:=none) X J k l λb=>?_);obtain⟨B,o,f⟩:=W.any_some m;have p:s.heap.get? x=some ⟨.ref C,some dx,.plain,#[]⟩:=I.obj;refine Qb (Qd (Qb (Qb (wpAny_loadPart p (Qb (W.Looks.here (s:={ s with toks:=s.toks+1 }) (W.looks_clsIn X o) ?_))))));rw[f];refine Qd (a:=some dx) (Qb (Qd (Qb ?_)));refine wpAny_nsSet1 (s:={ s with toks:=s.toks+1 }) I.ns λc d e=>?_
 obtain⟨D,q,t,g,i,j⟩:=d.count (PySem.Within.cons name v n);refine Qb (wpAny_lookBehind g (by rw[i];exact pastItsLine_dict (QJ j (by rw[Ql];omega))) ?_);exact Qd (h _ ⟨(e.2 _ (Ne.symm I.ne)).trans I.obj,d,I.ne⟩ e)
theorem make_map {R:Result->Shared->Prop}{vs:List Value}{a:List (Str×Value)}(X:K.In s.heap)(b:W.makesIn K C=true)
   (c:W.findIn K (.ref C) "__init__" = some (some (.ref f))) (e:W.typeIn K (.ref f)=some (.type "function"))
   (h:codeAny (model prog w) (A.under (.builtin "type.__call__" ⟨.ref C::vs,a⟩)) (.call (.ref f) ⟨.ref (s.heap.objs.size+1)::vs,a⟩) (W.InitBack (s.heap.objs.size+1) R)
     { s with heap:=(s.heap.push W.emptyDict).push (W.instObj C s.heap.objs.size) }) :
   codeAny (model prog w) A (.call (.ref C) ⟨vs,a⟩) R s:=by
 obtain⟨i,g,d,t,j⟩:=s;exact W.make_core (W.makes_of X b) (W.looks_findIn X c) (λself=>W.bind_fn X self e) (.inl rfl) h
end
noncomputable def putF (f:Str)(v:V):List (Str×V)->List (Str×V)
 | []=>[(f,v)]
 | (g,x)::r=>if g=f then(g,v)::r else(g,x)::putF f v r
theorem zc0 (f g:Str)(v:V):∀fs:List (Str×V),(putF f v fs).lookup g=if g=f then some v else fs.lookup g
 | []=>by
   show List.lookup g [(f,v)]=_;by_cases h:g=f
   . have a:(g == f)=true:=beq_iff_eq.mpr h
     simp only[List.lookup,a,Qo h]
   . have a:(g == f)=false:=beq_eq_false_iff_ne.mpr h
     simp only[List.lookup,a,Qh h]
 | (k,x)::r=>by
   have c:=zc0 f g v r;rw[show putF f v ((k,x)::r)=(if k=f then(k,v)::r else(k,x)::putF f v r) from rfl];by_cases b:k=f
   . rw[Qo b]
     by_cases h:g=k
     . have a:(g == k)=true:=beq_iff_eq.mpr h
       simp only[List.lookup,a,Qo (h.trans b)]
     . have a:(g == k)=false:=beq_eq_false_iff_ne.mpr h
       simp only[List.lookup,a,Qh (λe:g=f=>h (e.trans b.symm))]
   . rw[Qh b]
     by_cases h:g=k
     . have a:(g == k)=true:=beq_iff_eq.mpr h
       simp only[List.lookup,a,Qh (λe:g=f=>b (h.symm.trans e))]
     . have a:(g == k)=false:=beq_eq_false_iff_ne.mpr h
       simp only[List.lookup,a];exact c
theorem zv1 (f:Str)(v:V):∀fs:List (Str×V),f∈(putF f v fs).map (·.1)/\∀g,g∈fs.map (·.1)->g∈(putF f v fs).map (·.1)
 | []=>⟨by simp[putF],λg h=>by simp at h⟩
 | (k,x)::r=>by
   obtain⟨b,c⟩:=zv1 f v r;rw[show putF f v ((k,x)::r)=(if k=f then(k,v)::r else(k,x)::putF f v r) from rfl];by_cases a:k=f
   . rw[Qo a]
     subst a;exact⟨by simp,λg h=>by simpa using h⟩
   . rw[Qh a]
     refine⟨?_,λg h=>?_⟩
     . rw[Qv]
       exact Qu _ b
     . rw[Qv] at h ⊢
       rcases Qq.mp h with e | e
       . exact Qq.mpr (.inl e)
       . exact Qu _ (c g e)
theorem zq0 (f:Str)(v:V):∀fs:List (Str×V),(putF f v fs).length<=fs.length+1
 | []=>by simp[putF]
 | (k,x)::r=>by
   have b:=zq0 f v r;rw[show putF f v ((k,x)::r)=(if k=f then(k,v)::r else(k,x)::putF f v r) from rfl];by_cases a:k=f
   . rw[Qo a,Ql,Ql];omega
   . rw[Qh a,Ql,Ql];omega
theorem RelO.some_of {v:V}{o:Option Value}(r:RelO (some v) o):∃u,o=some u/\RelV v u:=by
 cases o with
 | none=>exact(show False from r).elim
 | some u=>exact⟨u,rfl,r⟩
theorem RelO.none_of {o:Option Value}(r:RelO none o):o=none:=by
 cases o with
 | none=>rfl
 | some u=>exact(show False from r).elim
theorem zT8 {v:V}{u:Value}(r:RelV v u):W.handedIn u=true:=by
 cases v with
 | non=>cases (show u=Value.none from r);rfl
 | bl b=>cases (show u=Value.bool b from r);rfl
 | int i=>obtain⟨t,e⟩:=(show ∃t,u=Value.int i t from r);cases e;rfl
 | str x=>obtain⟨t,e⟩:=(show ∃t,u=Value.str x t from r);cases e;rfl
 | byt b=>obtain⟨t,e⟩:=(show ∃t,u=Value.bytes b t from r);cases e;rfl
 | flt b=>obtain⟨t,e⟩:=(show ∃t,u=Value.float b t from r);cases e;rfl
 | ref a=>cases (show u=Value.ref a from r);rfl
 | ty n=>cases (show u=Value.type n from r);rfl
section
variable {P:Program} {w:World} {H H':Hp} {h h':Heap} {a C dx:Addr} {fs fs':List (Str×V)}
theorem zM4 (c:HOk P w H h)(e:H a=some (.ins C dx fs)):∃b,ObjM h a dx C b/\(∀f,RelO (fs.lookup f) (b f))/\PySem.Within b (fs.map (·.1))/\fs.length<=1000/\H dx=some (.own a):=by
 obtain⟨d,z,g,i,b,n,r,q⟩:=(show zg1 P w H h a (.ins C dx fs) from c a _ e);exact⟨b,⟨i,n,g⟩,r,q,z,d⟩
end
structure Cls (K:W.Frag)(C:Addr):Prop where
 pg:W.plainGet K C Str.empty=true
 hd:W.hasDictIn K C=true
 po:W.plainOver K C=true
 sa:W.findIn K (.ref C) "__setattr__" = some (some (.builtin "object.__setattr__"))
theorem Cls.get {K:W.Frag}{C:Addr}(c:Cls K C)(f:Str):W.plainGet K C f=true:=c.pg
def zf6 (K:W.Frag)(C:Addr)(f:Str):Prop:=W.findIn K (.ref C) f=some none
theorem zf6.taker {K:W.Frag}{C:Addr}{f:Str}(n:zf6 K C f):W.takerIn K C f=some none:=by
 unfold W.takerIn;rw[show W.findIn K (.ref C) f=some none from n];rfl
structure Meth (K:W.Frag)(C:Addr)(m:Str)(f:Addr):Prop where
 at_:W.findIn K (.ref C) m=some (some (.ref f))
 fn:W.isFn K (.ref f)=true
 kp:W.keepIn K (.ref f)=true
section
variable {X:Cx} {pins:List (Addr×Obj)} {σ:St} {H:Hp} {s:Shared} {a C dx:Addr} {fs:List (Str×V)} {f:Str} {v:V} {A:Around} {E:VP}
theorem getattr_ok {b:Bool}{Q:VP}(I:Inv X pins σ H s)(e:H a=some (.ins C dx fs))(c:Cls X.K C)(n:zf6 X.K C f)(l:fs.lookup f=some v)
   (h:∀u d,Inv X pins σ H d->RelV v u->Q u d):wpAny (model X.prog X.w) A (getAttr (.ref a) f b) Q E s:=by
 obtain⟨i,O,r,_,_,_⟩:=zM4 I.hok e;obtain⟨u,j,g⟩:=RelO.some_of (v:=v) (o:=i f) (by rw[<-l];exact r f);exact get_map I.kIn O (c.get f) c.hd n j (zT8 g) (h u _ (I.tok _) g)
theorem zE8 {m:Str}{g:Addr}{pl:Sem Bool}{Q:Value×List Value->Shared->Prop}(I:Inv X pins σ H s)(e:H a=some (.ins C dx fs))(c:Cls X.K C)(k:Meth X.K C m g)(l:fs.lookup m=none)
   (h:Q (.ref g,[.ref a]) s):wpAny (model X.prog X.w) A (getMethod (.ref a) m pl) Q E s:=by
 obtain⟨b,O,r,_,_,_⟩:=zM4 I.hok e;have d:b m=none:=RelO.none_of (by rw[<-l];exact r m);exact get_meth I.kIn O (c.get m) k.at_ k.fn d h
theorem setattr_ok {y:V}{u:Value}{Q:Unit->Shared->Prop}(I:Inv X pins σ H s)(e:H a=some (.ins C dx fs))(c:Cls X.K C)(n:zf6 X.K C f)(G:fs.length<1000)(m:RelV y u)
   (h:∀i,Inv X pins σ (upd H a (.ins C dx (putF f y fs))) i->Q () i):wpAny (model X.prog X.w) A (setAttr (.ref a) f u) Q E s:=by
 obtain⟨j,O,r,k,_,l⟩:=zM4 I.hok e;have p:(fs.map (·.1)).length<=sizeLine:=by rw[Qa,sizeLine_eq];omega
 refine set_map I.kIn O c.sa c.po n.taker c.hd k p λt d v=>h _ ?_
 have w:∃o,t.get? dx=some o:=let⟨o,_,_,B,_⟩:=d.ns;⟨o,B⟩;refine I.write (x:=a) (e:=dx) (by rw[e];exact True.intro) (.inr l) (λb q D z=>(v.2 b D).trans z) w ?_;refine⟨by rw[za8 O.ne];exact l,?_,O.ne,d.obj,_,d.ns,λg=>?_,λg F=>?_⟩
 . have:=zq0 f y fs;omega
 . show RelO ((putF f y fs).lookup g) (if g=f then some u else j g)
   rw[zc0];by_cases q:g=f
   . rw[Qo q,Qo q];exact m
   . rw[Qh q,Qh q];exact r g
 . by_cases q:g=f
   . rw[q];exact(zv1 f y fs).1
   . refine(zv1 f y fs).2 g (k g λz=>F ?_)
     show(if g=f then some u else j g)=none;rw[Qh q];exact z
theorem Inv.made (I:Inv X pins σ H s):Inv X pins σ (upd (upd H s.heap.objs.size (.own (s.heap.objs.size+1))) (s.heap.objs.size+1) (.ins C s.heap.objs.size []))
   { s with heap:=(s.heap.push W.emptyDict).push (W.instObj C s.heap.objs.size) }:=by
 have c:(s.heap.push W.emptyDict).get? s.heap.objs.size=some W.emptyDict:=Qm s.heap rfl;have f:((s.heap.push W.emptyDict).push (W.instObj C s.heap.objs.size)).get? (s.heap.objs.size+1)=some (W.instObj C s.heap.objs.size):=by
   have:=Qm (s.heap.push W.emptyDict) (o:=W.instObj C s.heap.objs.size) rfl
   rwa [Zr] at this
 have g:(s.heap.push W.emptyDict).Ns s.heap.objs.size (λ_=>none):=⟨W.emptyDict,#[],_,c,rfl,(λe h=>absurd h (by simp)),λ_=>rfl⟩;have i:=I.laid (a:=s.heap.objs.size) (o:=.own (s.heap.objs.size+1)) (h':=s.heap.push W.emptyDict) (t':=s.toks) (λb u q=>Qc _ q) (Qj _) ⟨_,c⟩;refine i.laid (a:=s.heap.objs.size+1) (o:=.ins C s.heap.objs.size []) (t':=s.toks) (λb u q=>Qc _ q) (Nat.le_of_eq (Zr _ _)) ?_;have d:s.heap.objs.size≠s.heap.objs.size+1:=Qz (Nat.lt_succ_self _);refine⟨by rw[za8 d,za4],QD _,d,f,λ_=>none,(Heap.Ns1.of_empty g).at λo q=>Qc _ q,λ_=>True.intro,λy j=>absurd rfl j⟩
theorem yf5 {prog:Program}{w:World}{env:Env}{e:Expr}{f:Str}{a:Pos}{s:Shared}{Q:VP}(b:attributeBase e f env (eval e env)=eval e env)
   (h:wpAny (model prog w) A (eval e env) (λo c=>wpAny (model prog w) A (getAttr o f true) Q E c) E s):wpAny (model prog w) A (eval (.Attribute e f a) env) Q E s :=
 Attribute_any_ h (by rw[arm_eval_Attribute,b])
end
inductive yl1 (K:W.Frag)(f:Str)(x:V)(H1:Hp)(Q:VK):Prop
 | mk (a C dx fs v:_)(h0:x = .ref a)(h1:H1 a=some (.ins C dx fs))(h2:Cls K C)(h3:zf6 K C f)(h4:fs.lookup f=some v)(h5:Q v H1):yl1 K f x H1 Q
def tFld (K:W.Frag)(ta:TE)(f:Str):TE:=λσ H Q=>ta σ H λx H1=>yl1 K f x H1 Q
inductive yl2 (K:W.Frag)(f:Str)(y:V)(D:Ends)(σ:St)(x:V)(H2:Hp):Prop
 | mk (a C dx fs:_)(h0:x = .ref a)(h1:H2 a=some (.ins C dx fs))(h2:Cls K C)(h3:zf6 K C f)(h4:fs.length<1000)(h5:D.nx σ (upd H2 a (.ins C dx (putF f y fs)))):yl2 K f y D σ x H2
def sFld (K:W.Frag)(ta tv:TE)(f:Str):TS:=λD σ H=>tv σ H λy H1=>ta σ H1 λx H2=>yl2 K f y D σ x H2
section
variable {X:Cx} {o e value:Expr} {f:Str} {pos pos' tpos:Pos} {ta tv:TE}
theorem zd3 (d:PE X e ta)(g:attributeBase e f X.env (eval e X.env)=eval e X.env):PE X (.Attribute e f pos) (tFld X.K ta f):=by
 intro b s t H Q I h;refine yf5 g (thn (d b s t H _ I h) λu w ⟨x,i,j,k,a,C,y,fs,v,m,o,c,n,l,q⟩=>?_);subst m;obtain rfl:u=Value.ref a:=k;exact getattr_ok j o c n l λz A p r=>⟨v,i,p,r,q⟩
theorem zl5 (e:PE X o ta)(g:PE X value tv)(hs:swapsWith value (some (.Attribute o f pos')) pos.line X.env=pure false):PS X (.Assign [.Attribute o f pos'] value pos) (sFld X.K ta tv f):=by
 intro d s b H D I h;refine plainObj_wpAny_Assign_Attribute (thn (g d s b H _ I h) λu i ⟨y,j,k,m,q⟩=>thn (e d i b j _ k q) λp B ⟨x,E,r,t,a,C,F,fs,v,w,c,n,l,z⟩=>?_) hs;subst v;obtain rfl:p=Value.ref a:=t;exact setattr_ok r w c n l m λG A=>⟨b,_,A,z⟩
end
section
variable {X:Cx} {pins:List (Addr×Obj)} {σ:St} {H:Hp} {s:Shared} {A:Around} {E:VP} {Q:VP} {c:Value} {b:Bool}
inductive TyOf (K:W.Frag)(H:Hp):V->Value->Prop where
 | non:TyOf K H .non (.type "NoneType")
 | bl (x:Bool):TyOf K H (.bl x) (.type "bool")
 | int (i:Int):TyOf K H (.int i) (.type "int")
 | str (x:Str):TyOf K H (.str x) (.type "str")
 | flt (x:UInt64):TyOf K H (.flt x) (.type "float")
 | lst {a:Addr} {xs:List V} (e:H a=some (.lst xs)):TyOf K H (.ref a) (.type "list")
 | frz {a:Addr} {o:Obj} {xs:List V} (e:H a=some (.frz o (.lst xs))):TyOf K H (.ref a) (.type "list")
 | tup {a:Addr} {xs:List V} (e:H a=some (.tup xs)):TyOf K H (.ref a) (.type "tuple")
 | dK {a:Addr} {kvs:List (Key×V)} (e:H a=some (.dK kvs)):TyOf K H (.ref a) (.type "dict")
 | dT {a:Addr} {kvs:List (List Key×V)} (e:H a=some (.dT kvs)):TyOf K H (.ref a) (.type "dict")
 | ins {a C dx:Addr} {fs:List (Str×V)} (e:H a=some (.ins C dx fs)) (cl:Cls K C) (ha:W.findIn K (.ref C) "__class__" = some (some (.builtin "object.__class__")))
     (hn:W.specialIn K (.builtin "object.__class__") "__get__" = some (some (.builtin "getset_descriptor.__get__"))) (htk:W.takesIn K (.builtin "object.__class__")=some true)
     (hm:W.mroIn K C (.type "object")=some true):TyOf K H (.ref a) (.ref C)
theorem isinst_ok {x:V}{u t:Value}(I:Inv X pins σ H s)(d:RelV x u)(ty:TyOf X.K H x t)(e:W.kitOne X.K t c=some b)(h:∀v,Q (.bool b) { s with toks:=v }) :
   wpAny (model X.prog X.w) A (call (.builtin "isinstance") [u,c]) Q E s:=by
 cases ty with
 | non=>cases (show u=Value.none from d);exact W.kia_one W.kitx_none I.kIn True.intro e (λz=>nomatch z) h
 | bl y=>cases (show u=Value.bool y from d);exact W.kia_one W.kitx_bool I.kIn True.intro e (λz=>nomatch z) h
 | int i=>obtain⟨t,q⟩:=(show ∃t,u=Value.int i t from d);cases q;exact W.kia_one W.kitx_int I.kIn True.intro e (λz=>nomatch z) h
 | str y=>obtain⟨t,q⟩:=(show ∃t,u=Value.str y t from d);cases q;exact W.kia_one W.kitx_str I.kIn True.intro e (λz=>nomatch z) h
 | flt y=>obtain⟨t,q⟩:=(show ∃t,u=Value.float y t from d);cases q;exact W.kia_one W.kitx_float I.kIn True.intro e (λz=>nomatch z) h
 | @lst a j f =>
   cases (show u=Value.ref a from d);obtain⟨_,_,n,_,g⟩:=(show zg1 X.prog X.w H s.heap a (.lst j) from I.hok a _ f);exact W.kia_one W.kitx_list I.kIn ⟨_,g,rfl⟩ e (λz=>nomatch z) h
 | @frz a w j f =>
   cases (show u=Value.ref a from d);obtain⟨_,_,_,n,_,g⟩:=(show zg1 X.prog X.w H s.heap a (.frz w (.lst j)) from I.hok a _ f);exact W.kia_one W.kitx_list I.kIn ⟨_,g,rfl⟩ e (λz=>nomatch z) h
 | @tup a j f =>
   cases (show u=Value.ref a from d);obtain⟨_,_,_,p⟩:=(show zg1 X.prog X.w H s.heap a (.tup j) from I.hok a _ f);obtain⟨o,g,k,_⟩:=p;exact W.kia_one W.kitx_tuple I.kIn ⟨o,g,k⟩ e (λz=>nomatch z) h
 | @dK a l f =>
   cases (show u=Value.ref a from d);obtain⟨_,_,L,_,p⟩:=(show zg1 X.prog X.w H s.heap a (.dK l) from I.hok a _ f);obtain⟨o,B,D,g,k,_⟩:=p;exact W.kia_one W.kitx_dict I.kIn ⟨o,g,k.1⟩ e (λz=>nomatch z) h
 | @dT a l f =>
   cases (show u=Value.ref a from d);obtain⟨_,_,j,_,o,B,D,g,k,_⟩:=(show zg1 X.prog X.w H s.heap a (.dT l) from I.hok a _ f);exact W.kia_one W.kitx_dict I.kIn ⟨o,g,k.1⟩ e (λz=>nomatch z) h
 | @ins a C M fs f m F G r K =>
   cases (show u=Value.ref a from d);obtain⟨N,O,_⟩:=zM4 I.hok f;obtain⟨P,J,_⟩:=O.look;exact W.kia_one (W.kitx_own (m.get _) m.hd F G r K) I.kIn J e (λz=>nomatch z) h
end
structure Room (k:Nat)(A:Around):Prop where
 hd:A.handled=none
 dp:A.depth+3*k+5<recursionLimit
 un:A.units+16*k+200<cLine
theorem Room.mono {j k:Nat}{A:Around}(r:Room k A)(h:j<=k):Room j A:=⟨r.hd,by have:=r.dp;omega,by have:=r.un;omega⟩
theorem Room.deeper {k:Nat}{A:Around}(r:Room (k+1) A)(env:Env):Room k (A.deeper env) :=
 ⟨r.hd,by have:=r.dp;show A.depth+1+3*k+5<_;omega,by have:=r.un;show A.units+3+16*k+200<_;omega⟩
theorem make_depth {A:Around} {C:Addr} {us:List Value} {a:List (Str×Value)}:(A.under (.builtin "type.__call__" ⟨.ref C::us,a⟩)).depth=A.depth+1:=by
 first | rfl | simp[Around.under,Code.weight,Code.isCreation,Code.isGuard,Code.isCaller,Code.frames,Code.isFrame,guardIds]
theorem make_units {A:Around} {C:Addr} {us:List Value} {a:List (Str×Value)}:(A.under (.builtin "type.__call__" ⟨.ref C::us,a⟩)).units=A.units+1:=by
 first | rfl | simp[Around.under,Code.cUnits,Code.frames,Code.isFrame]
theorem Room.make {k:Nat} {A:Around} (r:Room (k+1) A) (C:Addr) (us:List Value) (a:List (Str×Value)):Room k (A.under (.builtin "type.__call__" ⟨.ref C::us,a⟩)) :=
 ⟨r.hd,by have:=r.dp;rw[make_depth];omega,by have:=r.un;rw[make_units];omega⟩
theorem Room.depth {k:Nat}{A:Around}(r:Room k A):A.depth<recursionLimit:=by have:=r.dp;omega
theorem Room.units {k:Nat}{A:Around}(r:Room k A):A.units+64<cLine:=by have:=r.un;omega
def tNil:TA:=λ_ H Q=>Q [] H
def yl3 (ta:TE)(tr:TA):TA:=λσ H Q=>ta σ H λx H1=>tr σ H1 λxs H2=>Q (x::xs) H2
section
variable {X:Cx} {e:Expr} {es:List Expr} {te:TE} {t:TA} {pos:Pos}
theorem za1:PA X [] tNil:=λ_ _ _ _ H Q I h=>Calls.spliced_nil ⟨[],H,I,.nil,h⟩
theorem za0 (d:PE X e te)(f:PA X es t)(hs:starEach (e::es) X.env=(false,eval e X.env)::starEach es X.env:=by rfl):PA X (e::es) (yl3 te t):=by
 intro b a s c H Q I h;rw[hs];show wpAny _ _ (spliced ((false,eval e X.env)::backTo b (starEach es X.env))) _ _ s;refine Calls.spliced_cons (thn (d a s c H _ I h) λu g ⟨x,i,j,k,l⟩=>?_);exact thn (f b a g c i _ j l) λr v ⟨m,n,o,p,q⟩=>⟨x::m,n,o,.cons k p,q⟩
def tTup (t:TA):TE:=λσ H Q=>t σ H λxs H1=>xs.length<=sizeLine/\∀p,H1 p=none->Q (.ref p) (upd H1 p (.tup xs))
def tLst (t:TA):TE:=λσ H Q=>t σ H λxs H1=>xs.length<=sizeLine/\∀p,H1 p=none->Q (.ref p) (upd H1 p (.lst xs))
theorem zt5 {x1}(h:PA X es t):PE X (.Tuple es x1 pos) (tTup t):=by
 intro f s l H Q I g;refine wpAny_Tuple_spliced (thn (h pos f s l H _ I g) λi a ⟨j,c,d,r,z,q⟩=>⟨by rw[<-r.length];exact z,?_⟩);have k:c a.heap.objs.size=none:=d.hok.fresh (Qj _);refine⟨.ref a.heap.objs.size,upd c a.heap.objs.size (.tup j),d.laid (t':=a.toks) (λb u e=>Qc _ e) (Qj _) ?_,rfl,q _ k⟩;exact⟨z,i,r,⟨_,Qm _ rfl,rfl,rfl,_,rfl⟩⟩
theorem zg0 (h:PA X es t):PE X (.List es pos) (tLst t):=by
 intro f s l H Q I g;refine wpAny_List_spliced (thn (h pos f s l H _ I g) λi a ⟨j,c,d,r,z,q⟩=>⟨by rw[<-r.length];exact z,?_⟩);have k:c a.heap.objs.size=none:=d.hok.fresh (Qj _);refine⟨.ref a.heap.objs.size,upd c a.heap.objs.size (.lst j),d.laid (t':=a.toks) (λb u e=>Qc _ e) (Qj _) ?_,rfl,q _ k⟩;exact⟨z,i,0,r,Qm _ rfl⟩
end
noncomputable abbrev Sp:=List V->Hp->VK->XK->Prop
noncomputable abbrev CXT:=List Env->Hp->Shared->XK->Value->Shared->Prop
structure Env0 (P:Program)(w:World)(K:W.Frag)(mg:Str->Option Value)(base:Heap)(A:Around)(outer:List Env)(s:Shared)(H:Hp):Prop where
 frames:A.frames=some outer
 mod:Mod K mg base
 bs:∀b o,base.get? b=some o->s.heap.get? b=some o/\H b=none
 bsz:base.objs.size<=s.heap.objs.size
 funs:s.heap.FunFrames base outer
 frf:∀b∈frs outer,H b=none
 hok:HOk P w H s.heap
 bare:AllBare s.gens
def CE (outer:List Env)(P:Program)(w:World)(H:Hp)(s:Shared)(Q:VK)(u:Value)(s':Shared):Prop :=
 ∃v H',s'.os=s.os/\AllBare s'.gens/\Un (frs outer) [] H H' s.heap s'.heap/\HOk P w H' s'.heap/\RelV v u/\Q v H'
def CR (CX:CXT)(outer:List Env)(P:Program)(w:World)(H:Hp)(s:Shared)(Q:VK)(E:XK)(r:Result)(s':Shared):Prop :=
 match r with
 | .ok (.ret u)=>CE outer P w H s Q u s'
 | .ok _=>False
 | .error e=>CX outer H s E e s'
structure FnOk (P:Program)(w:World)(K:W.Frag)(mg:Str->Option Value)(base:Heap)(CX:CXT)(k:Nat)(f:Addr)(fd:FuncData)(ps:List Str)(sp:Sp):Prop where
 len:∀vs H Q E,sp vs H Q E->vs.length=ps.length
 run:∀(A:Around) (outer:List Env) (s:Shared) (H:Hp) (args:Args) (us:List Value) (vs:List V) (Q:VK) (E:XK),Room k A->Env0 P w K mg base A outer s H->BindsTo s fd args (ps.zip us)->Vals vs us->sp vs H Q E →
   codeAny (model P w) A (.call (.ref f) args) (CR CX outer P w H s Q E) s
theorem Env0.make {P:Program}{w:World}{K:W.Frag}{a:Str->Option Value}{base:Heap}{A:Around}{outer:List Env}{s:Shared}{H:Hp}(e:Env0 P w K a base A outer s H)(C:Addr)(us:List Value)(b:List (Str×Value)) :
 Env0 P w K a base (A.under (.builtin "type.__call__" ⟨.ref C::us,b⟩)) outer s H:=⟨by first | exact e.frames | (simpa [Around.under,Code.envs,Code.isFrame,pushEnvs] using e.frames),e.mod,e.bs,e.bsz,e.funs,e.frf,e.hok,e.bare⟩
section
variable {X:Cx} {pins:List (Addr×Obj)} {σ:St} {H:Hp} {s s':Shared}
theorem Inv.env0 (I:Inv X pins σ H s):Env0 X.prog X.w X.K X.mg X.base X.A X.stack s H :=
 ⟨I.ok.frames,I.ok.mod,I.bs,QJ I.ok.bsz I.sz,I.stack,I.stkFree,I.hok,I.bare⟩
theorem Inv.after {Q:VK}{u:Value}(I:Inv X pins σ H s)(h:CE X.stack X.prog X.w H s Q u s'):EP X pins σ Q u s':=by
 obtain⟨v,f,i,a,un,c,r,q⟩:=h;obtain⟨j,g,d,t,e⟩:=s';obtain rfl:e=s.os:=i;exact⟨v,f,I.call (h':=j) (g':=g) (d':=d) (t':=t) (ch:=[]) un c a (λb z=>absurd z (by simp)),r,q⟩
end
def yl4 (sp:Sp)(dvs:List V)(E:XK)(t:TA):TE:=λσ H Q=>t σ H λvs H1=>sp (vs++dvs) H1 Q E
inductive yf6 (C:Addr)(m:Str)(sp:Sp)(dvs:List V)(E:XK)(t:TA)(x:V)(σ:St)(H1:Hp)(Q:VK):Prop
 | mk (a dx fs:_)(h0:x = .ref a)(h1:H1 a=some (.ins C dx fs))(h2:fs.lookup m=none)(h3:t σ H1 λvs H2=>sp (x::(vs++dvs)) H2 Q E):yf6 C m sp dvs E t x σ H1 Q
def yp6 (C:Addr)(m:Str)(sp:Sp)(dvs:List V)(E:XK)(ta:TE)(t:TA):TE:=λσ H Q=>ta σ H λx H1=>yf6 C m sp dvs E t x σ H1 Q
def tMake (C:Addr)(sp:Sp)(dvs:List V)(E:XK)(t:TA):TE:=λσ H Q=>t σ H λvs H1=>∀x dx,H1 x=none->H1 dx=none->dx≠x →
 sp (.ref x::(vs++dvs)) (upd (upd H1 dx (.own x)) x (.ins C dx [])) (λv H2=>v = .non/\Q (.ref x) H2) E
def zk9 (K:W.Frag)(fd:FuncData)(ps:List Str)(ds:List Value):Prop :=
 ∀(s:Shared) (us:List Value),K.In s.heap->(us++ds).length=ps.length->BindsTo s fd ⟨us,[]⟩ (ps.zip (us++ds))
theorem zk9.all {K:W.Frag}{fd:FuncData}{ps:List Str}(h:∀a:List Value,a.length=ps.length->bindArgs fd ⟨a,[]⟩=pure (ps.zip a)):zk9 K fd ps []:=λs a _ b=>by
 rw[Zt] at b ⊢;exact .of_eq (h a b)
def zo5 (CX:CXT)(X:Cx)(E:XK):Prop:=∀(pins:List (Addr×Obj)) (σ:St) (H:Hp) (s:Shared) (e:Value) (s':Shared),Inv X pins σ H s->CX X.stack H s E e s'->X.xe e s'
section
variable {X:Cx} {CX:CXT} {k:Nat} {f C:Addr} {fd:FuncData} {ps:List Str} {sp:Sp} {dvs:List V} {ds:List Value} {E:XK} {x m:Str} {p pos apos:Pos} {e o:Expr} {es:List Expr} {ta:TE} {t:TA}
theorem zX6 {b:List (Addr×Obj)}{c:St}{H:Hp}{s:Shared}{Q:VK}{us:List Value}{vs:List V}(F:FnOk X.prog X.w X.K X.mg X.base CX k f fd ps sp)(g:Room k X.A)(i:zk9 X.K fd ps ds)(j:Vals dvs ds)(l:zo5 CX X E)
   (I:Inv X b c H s) (r:Vals vs us) (h:sp (vs++dvs) H Q E):wpAny (model X.prog X.w) X.A (call (.ref f) us) (EP X b c Q) X.xe s:=by
 have d:Vals (vs++dvs) (us++ds):=r.append j;have m:(us++ds).length=ps.length:=by rw[<-d.length];exact F.len _ _ _ _ h
 refine wpAny_call (codeAny_mono (F.run X.A X.stack s H ⟨us,[]⟩ (us++ds) (vs++dvs) Q E g I.env0 (i s us I.kIn m) d h) λr n a=>?_);cases r with
 | error e=>exact l b c H s e n I a
 | ok o =>
   cases o with
   | ret u=>exact I.after a
   | next=>exact False.elim a
   | brk=>exact False.elim a
   | cont=>exact False.elim a
theorem yf7 (F:FnOk X.prog X.w X.K X.mg X.base CX k f fd ps sp)(g:Room k X.A)(i:Gl X x)(j:X.mg x=some (.ref f))(l:W.keepIn X.K (.ref f)=true)(m:zk9 X.K fd ps ds)(n:Vals dvs ds)(o:zo5 CX X E)
   (u:PA X (e::es) t) (c:(x == ("__debug__" : Str))=false:=by decide) (v:starEach (e::es) X.env=(false,eval e X.env)::starEach es X.env:=by rfl) (d:(backTo pos (starEach es X.env)).any (·.1)=false:=by rfl) :
   PE X (.Call (.Name x p) (e::es) [] pos) (yl4 sp dvs E t):=by
 intro b s w H Q I h;refine wpAny_Call_Name_kw (zs7 I i j ?_ c);refine W.callWith_K (h₀:=X.base) I.ok.mod.kin l (thn (u pos b s w H _ I h) λy z ⟨A,B,a,r,q⟩=>⟨a.kIn,?_⟩) v d;exact zX6 F g m n o a r q
theorem zM5 {pl:Sem Bool}(w:PE X o ta)(c:Cls X.K C)(d:Meth X.K C m f)(F:FnOk X.prog X.w X.K X.mg X.base CX k f fd ps sp)(y:Room k X.A)(z:zk9 X.K fd ps ds)(A:Vals dvs ds)(B:zo5 CX X E)(D:PA X (e::es) t)
   (p:starEach (e::es) X.env=(false,eval e X.env)::starEach es X.env:=by rfl) (v:(backTo pos (starEach es X.env)).any (·.1)=false:=by rfl)
   (G:eval (.Call (.Attribute o m apos) (e::es) [] pos) X.env=(do
     let g <-eval o X.env
     standAt apos.atName
     let(f,first) <-holding [g] (getMethod g m pl)
     callWith pos f first (backTo pos (starEach (e::es) X.env)) (backToKw pos (keywordEach [] X.env))):=by rfl) :
   PE X (.Call (.Attribute o m apos) (e::es) [] pos) (yp6 C m sp dvs E ta t):=by
 intro b s n H Q I h;refine W.methodCall_KW (pl:=pl) (thn (w b s n H _ I h) λu J ⟨x,K,i,L,a,P,fs,M,N,l,q⟩=>?_) G;subst M;obtain rfl:u=Value.ref a:=L;refine zE8 i N c d l ?_;refine W.callWith_K (first:=[.ref a]) (h₀:=X.base) I.ok.mod.kin d.kp (thn (D pos b J n K _ i q) λus R ⟨vs,S,j,r,O⟩=>⟨j.kIn,?_⟩) p v;exact zX6 (us:=.ref a::us) (vs:=.ref a::vs) F y z A B j (.cons rfl r) O
theorem zN9 {pl:Sem Bool}(i:PE X o ta)(c:Cls X.K C)(d:Meth X.K C m f)(F:FnOk X.prog X.w X.K X.mg X.base CX k f fd ps sp)(j:Room k X.A)(n:zk9 X.K fd ps ds)(p:Vals dvs ds)(r:zo5 CX X E)
   (t:eval (.Call (.Attribute o m apos) [] [] pos) X.env=(do
     let e <-eval o X.env
     standAt apos.atName
     let(f,first) <-holding [e] (getMethod e m pl)
     callWith pos f first (backTo pos (starEach [] X.env)) (backToKw pos (keywordEach [] X.env))):=by rfl) :
   PE X (.Call (.Attribute o m apos) [] [] pos) (yp6 C m sp dvs E ta tNil):=by
 intro g s z H Q I h;refine W.methodCall_KW (pl:=pl) (thn (i g s z H _ I h) λu A ⟨x,B,b,v,a,D,fs,w,y,l,q⟩=>?_) t;subst w;obtain rfl:u=Value.ref a:=v;refine zE8 b y c d l ?_;exact W.callWith_K0 (first:=[.ref a]) b.kIn d.kp (zX6 (us:=[.ref a]) (vs:=[.ref a]) F j n p r b (.cons rfl .nil) q)
structure Mk (K:W.Frag)(C f:Addr):Prop where
 makes:W.makesIn K C=true
 init:W.findIn K (.ref C) "__init__" = some (some (.ref f))
 fn:W.isFn K (.ref f)=true
 kp:W.keepIn K (.ref C)=true
theorem run_make {d:List (Addr×Obj)}{g:St}{H:Hp}{s:Shared}{Q:VK}{us:List Value}{vs:List V}(M:Mk X.K C f)(F:FnOk X.prog X.w X.K X.mg X.base CX k f fd ps sp)(l:Room (k+1) X.A)(m:zk9 X.K fd ps ds)(n:Vals dvs ds)
   (o:zo5 CX X E) (I:Inv X d g H s) (r:Vals vs us)
   (h:∀x b,H x=none->H b=none->b≠x->sp (.ref x::(vs++dvs)) (upd (upd H b (.own x)) x (.ins C b [])) (λv p=>v = .non/\Q (.ref x) p) E) :
   wpAny (model X.prog X.w) X.A (call (.ref C) us) (EP X d g Q) X.xe s:=by
 have i:=h (s.heap.objs.size+1) s.heap.objs.size (I.hok.fresh (Nat.le_succ _)) (I.hok.fresh (Qj _)) (Qz (Nat.lt_succ_self _));have c:=Inv.made (C:=C) I;have j:Vals (V.ref (s.heap.objs.size+1)::(vs++dvs)) (Value.ref (s.heap.objs.size+1)::(us++ds)):=.cons rfl (r.append n);have q:(Value.ref (s.heap.objs.size+1)::us++ds).length=ps.length:=by
   have e:=j.length;rw[F.len _ _ _ _ i] at e;exact e.symm
 refine wpAny_call (make_map (f:=f) I.kIn M.makes M.init (beq_iff_eq.mp M.fn) (codeAny_mono (F.run _ X.stack _ _ ⟨Value.ref (s.heap.objs.size+1)::us,[]⟩ (Value.ref (s.heap.objs.size+1)::(us++ds)) _ _ E (l.make C us [])
   (c.env0.make C us []) (m _ (Value.ref (s.heap.objs.size+1)::us) c.kIn q) j i) λr t a=>?_))
 cases r with
 | error e=>exact o d g _ _ e t c a
 | ok w =>
   cases w with
   | ret u =>
     obtain⟨v,y,z,A,B,D⟩:=c.after a;subst B;exact⟨A,⟨V.ref (s.heap.objs.size+1),y,z,rfl,D⟩⟩
   | next=>exact False.elim a
   | brk=>exact False.elim a
   | cont=>exact False.elim a
theorem zF4 (M:Mk X.K C f)(F:FnOk X.prog X.w X.K X.mg X.base CX k f fd ps sp)(g:Room (k+1) X.A)(i:Gl X x)(j:X.mg x=some (.ref C))(l:zk9 X.K fd ps ds)(m:Vals dvs ds)(n:zo5 CX X E)
   (o:PA X (e::es) t) (c:(x == ("__debug__" : Str))=false:=by decide) (u:starEach (e::es) X.env=(false,eval e X.env)::starEach es X.env:=by rfl) (d:(backTo pos (starEach es X.env)).any (·.1)=false:=by rfl) :
   PE X (.Call (.Name x p) (e::es) [] pos) (tMake C sp dvs E t):=by
 intro b s v H Q I h;refine wpAny_Call_Name_kw (zs7 I i j ?_ c);refine W.callWith_K (h₀:=X.base) I.ok.mod.kin M.kp (thn (o pos b s v H _ I h) λw y ⟨z,A,a,r,q⟩=>⟨a.kIn,?_⟩) u d;exact run_make M F g l m n a r q
end
section
variable {X:Cx} {CX:CXT} {k:Nat} {f C:Addr} {fd:FuncData} {ps ks:List Str} {sp:Sp} {E:XK} {x m:Str} {p pos apos kpos:Pos} {e o:Expr} {es:List Expr} {kws:List Keyword} {te ta:TE} {t tk:TA} {nm:Option Str}
variable {g:List Value->List Value->List Value} {gV:List V->List V->List V}
end
structure zb6 (N P:List Str)(sc:Scope):Prop where
 kind:sc.kind = .function:=by rfl
 co:sc.isCoroutine=false:=by rfl
 gen:sc.isGenerator=false:=by rfl
 nd:N.Nodup:=by decide +kernel
 pre:N.take P.length=P:=by rfl
 par:∀x∈P,sc.names.lookup x=some .local\/sc.names.lookup x=some .cell:=by decide +kernel
 nofree:∀y∈sc.names,y.2≠.free:=by decide +kernel
theorem zT9 {a:Str->Option NameKind}{x:Str}:∀ {binds:List (Str×Value)} {m:Str->Option Value},(∀v,(x,v)∉binds)->bindL a binds m x=m x
 | [],_,_=>rfl
 | (n,v)::r,m,h=>by
   unfold bindL;rw[zT9 λw b=>h w (Qu _ b)]
   split
   . have:x≠n:=by rintro rfl;exact h v QF
     simp[this]
   . rfl
theorem zU0 {a:Str->Option NameKind}{x:Str}:∀ {binds:List (Str×Value)} {m:Str->Option Value},(∀v,(x,v)∉binds)->bindC a binds m x=m x
 | [],_,_=>rfl
 | (n,v)::r,m,h=>by
   unfold bindC;rw[zU0 λw b=>h w (Qu _ b)]
   split
   . rfl
   . have:x≠n:=by rintro rfl;exact h v QF
     simp[this]
theorem zU1 {b:Str->Option NameKind}{x:Str}{v:Value}:∀ {P:List Str} {a:List Value} {i:Nat} {m:Str->Option Value},P.Nodup->P[i]?=some x->a[i]?=some v->b x=some .local →
   bindL b (P.zip a) m x=some v
 | [],_,_,_,_,h,_,_=>by simp at h
 | _::_,[],_,_,_,_,h,_=>by simp at h
 | p::P,w::a,0,m,nd,h1,h2,hk=>by
   simp at h1 h2;subst h1;subst h2;show bindL b ((p,w)::P.zip a) m p=_;unfold bindL;rw[zT9 λv c=>(List.nodup_cons.mp nd).1 (List.of_mem_zip c).1,Qo hk];simp
 | p::P,w::a,i+1,m,nd,h1,h2,hk=>by
   show bindL b ((p,w)::P.zip a) m x=_;unfold bindL;exact zU1 (i:=i) (List.nodup_cons.mp nd).2 (by simpa using h1) (by simpa using h2) hk
theorem zU2 {b:Str->Option NameKind}{x:Str}{v:Value}:∀ {P:List Str} {a:List Value} {i:Nat} {m:Str->Option Value},P.Nodup->P[i]?=some x->a[i]?=some v->b x≠some .local →
   bindC b (P.zip a) m x=some v
 | [],_,_,_,_,h,_,_=>by simp at h
 | _::_,[],_,_,_,_,h,_=>by simp at h
 | p::P,w::a,0,m,nd,h1,h2,hk=>by
   simp at h1 h2;subst h1;subst h2;show bindC b ((p,w)::P.zip a) m p=_;unfold bindC;rw[zU0 λv c=>(List.nodup_cons.mp nd).1 (List.of_mem_zip c).1,Qh hk];simp
 | p::P,w::a,i+1,m,nd,h1,h2,hk=>by
   show bindC b ((p,w)::P.zip a) m x=_;unfold bindC;exact zU2 (i:=i) (List.nodup_cons.mp nd).2 (by simpa using h1) (by simpa using h2) hk
noncomputable def start (N:List Str)(vs:List V):St:=vs.map some++List.replicate (N.length-vs.length) none
noncomputable def cxOf (CX:CXT)(P:Program)(w:World)(K:W.Frag)(mg:Str->Option Value)(base:Heap)(N:List Str)(qual:Str)(scope:Scope)(f:Addr)(cd:Value)(A:Around)(outer:List Env)(s:Shared)(H:Hp)(E:XK):Cx where
 prog:=P
 w:=w
 K:=K
 mg:=mg
 base:=base
 A:=A.deeper (envOfC qual scope s.heap.objs.size f cd)
 N:=N
 s₀:=s
 H₀:=H
 env:=envOfC qual scope s.heap.objs.size f cd
 outer:=outer
 stack:=envOfC qual scope s.heap.objs.size f cd::outer
 ex:=[]
 calm:=true
 fn:=λ_=>true
 pn:=[]
 xe:=λe s'=>wpAny (model P w) (A.deeper (envOfC qual scope s.heap.objs.size f cd)) («leaving» (envOfC qual scope s.heap.objs.size f cd) e) (λ_ s''=>CX outer H s E e s'') (λe' s''=>CX outer H s E e' s'') s'
theorem ya4 {a:Scope}{n:Nat}{x:Str}(h:a.names.lookup x=some .cell):∃c,(cellsFrom n a.names []).lookup x=some c:=by
 have q:=W.cellsFrom_some a.names n [] (.inl h);exact Option.isSome_iff_exists.mp q
theorem inv_start {CX:CXT}{P:Program}{w:World}{K:W.Frag}{D:Str->Option Value}{base:Heap}{N ps:List Str}{m:Str}{scope:Scope}{f:Addr}{o:Value}{A:Around}{outer:List Env}{s G:Shared}{H:Hp}{E:XK}{us:List Value}{vs:List V}
   (S:zb6 N ps scope) (L:A.handled=none) (g:Env0 P w K D base A outer s H) (R:vs.length=ps.length) (r:Vals vs us)
   (x:InCallC s s.heap.objs.size (bindL (envOfC m scope s.heap.objs.size f o).kindOf (ps.zip us) λ_=>none) (cellsFrom (s.heap.objs.size+1) scope.names []) (bindC (envOfC m scope s.heap.objs.size f o).kindOf (ps.zip us) λ_=>none) G) :
   Inv (cxOf CX P w K D base N m scope f o A outer s H E) [] (start N vs) H G:=by
 have Q:ps.length<=N.length:=by have:=congrArg List.length S.pre;rw[QT] at this;omega
 obtain⟨t,T,rfl,I⟩:=x.done;have C:∀b:Addr,b∉(cxOf CX P w K D base N m scope f o A outer s H E).ex:=λb z=>absurd (show b∈([]:List Addr) from z) (by simp)
 refine⟨⟨g.mod,S.kind,rfl,rfl,Qj _,λy z c t d=>?_,λy j=>?_,λy c _ h=>?_,λ_=>L,Around.frames_deeper g.frames,.inr ⟨rfl,rfl⟩,λb z=>absurd z (C b),g.bs,g.bsz,λb _ _=>C b,λb z=>absurd z (C b),g.funs,g.frf⟩,
   rfl,g.bare,Un.kept I,⟨_,x.toInCall.ns,λi y v t d U=>?_⟩,λy c h=>⟨_,x.cell y c h⟩,g.hok.fresh (Qj _),λy c h=>?_,λp l=>absurd (show p∈([]:List (Addr×Obj)) from l) (by simp),g.hok.kept I,?_⟩
 . exact name_of_addr x.apart (PySem.mem_of_lookup t) (PySem.mem_of_lookup d)
 . have j:scope.names.lookup y=some .cell\/scope.names.lookup y=some .free:=j
   rcases j with j | j
   . exact ya4 j
   . exact absurd rfl (S.nofree _ (PySem.mem_of_lookup j))
 . exact QZ (x.above y c (PySem.mem_of_lookup h))
 . have B:i<vs.length:=by
     unfold start at d;by_cases B:i<vs.length
     . exact B
     . rw[QG (by simpa using B)] at d
       rw[List.getElem?_replicate] at d
       split at d<;>cases d
   have M:vs[i]?=some v:=by
     unfold start at d;rw[Zj (by simpa using B),QQ] at d;cases e:vs[i]? with
     | none=>rw[e] at d;cases d
     | some a=>rw[e] at d;cases d;rfl
   obtain⟨u,J,O⟩:=r.get M;have l:ps[i]?=some y:=by
     rw[<-S.pre,List.getElem?_take_of_lt (by omega)];exact t
   have F:ps.Nodup:=by rw[<-S.pre];exact S.nd.sublist (List.take_sublist _ _)
   refine⟨u,O,?_⟩;rcases S.par y (Qt l) with k | k
   . exact .inl ⟨k,zU1 F l J k⟩
   . obtain⟨c,e⟩:=ya4 (n:=s.heap.objs.size+1) k
     refine .inr ⟨.inl k,c,e,?_⟩;have q:=x.cell y c e;rw[zU2 F l J (by show scope.names.lookup y≠_;rw[k];decide)] at q;exact q
 . exact g.hok.fresh (QZ (x.above y c (PySem.mem_of_lookup h)))
 . unfold start
   show _=N.length;rw[Qi,Qa,List.length_replicate];omega
theorem yl5 {CX:CXT}{P:Program}{w:World}{K:W.Frag}{l:Str->Option Value}{base:Heap}{k:Nat}{f:Addr}{name d:Str}{B:Arguments}{n:List Stmt}{scope:Scope}{G kV C I g L oc:Value}{M od:Option Addr}
   {X:Array (Option Value)} {N ps:List Str} {sp:Sp} (lk:K.lookup f=some ⟨oc,od,.func (W.fnOf name d B n scope G kV C I M g L),X⟩) (Y:W.codeIn K g d=true) (S:zb6 N ps scope)
   (len:∀a H Q E,sp a H Q E->a.length=ps.length)
   (T:∀(A:Around) (h:List Env) (s:Shared) (H:Hp) (a:List V) (Q:VK) (E:XK),Room k (A.deeper (envOfC d scope s.heap.objs.size f g))->sp a H Q E →
     ∃t,PSs (cxOf CX P w K l base N d scope f g A h s H E) n t/\t { nx:=λ_ c=>Q .non c,rt:=Q } (start N a) H) :
   FnOk P w K l base CX (k+1) f (W.fnOf name d B n scope G kV C I M g L) ps sp:=by
 refine⟨len,λA h s H a3 us a Q E p j hb a0 D=>?_⟩;have hl:=len _ _ _ _ D;have O:K.In s.heap:=j.mod.kin.keeps λb o e=>(j.bs b o e).1
 have Z:s.heap.NoLimit:=j.mod.nolimit.keeps λb o e=>(j.bs b o e).1
 have U:∀y∈ps.zip us,scope.names.lookup y.1=some .local\/(scope.names.lookup y.1=some .cell/\((cellsFrom (s.heap.objs.size+1) scope.names []).lookup y.1).isSome=true):=λ⟨a1,v⟩ hy=>by
   rcases S.par a1 (List.of_mem_zip hy).1 with q | q
   . exact .inl q
   . exact .inr ⟨q,W.cellsFrom_some _ _ _ (.inl q)⟩
 refine codeAny_call_function p.depth (O _ _ lk) rfl S.co S.gen rfl (W.codeRec_of O Y) (hb _ _ _ _ ?_);refine wpAny_newFunctionEnv_cells S.kind U λa4 he R x=>?_
 subst he;refine⟨Z.keeps x.toInCall.keep,codeAny_func ?_⟩;obtain⟨t,ht,hq⟩:=T A h s H a Q E (p.deeper _) D;have a2:Inv (cxOf CX P w K l base N d scope f g A h s H E) [] (start N a) H R:=inv_start S p.hd j hl a0 x;refine Zg (ht [] R (start N a) H _ a2 hq) (λfl r i=>?_) λe r i=>i
 have F:∀ {m:St} {c:Hp} {v:V} {u:Value},Inv (cxOf CX P w K l base N d scope f g A h s H E) [] m c r->RelV v u->Q v c->CE h P w H s Q u r :=
   λ{m c v u} J z q=>⟨v,c,J.os,J.bare,J.base,J.hok,z,q⟩
 cases fl with
 | ret u =>
   obtain⟨v,m,c,J,z,q⟩:=i;exact F J z q
 | next =>
   obtain⟨m,c,J,q⟩:=i;exact F (v:=V.non) (u:=Value.none) J rfl q
 | brk =>
   obtain⟨_,_,_,q⟩:=i;exact False.elim q
 | cont =>
   obtain⟨_,_,_,q⟩:=i;exact False.elim q
section
variable {X:Cx} {x:Str} {p pos:Pos} {e:Expr} {es:List Expr} {t:TA} {id T:String} {r:List V->Hp->VK->Prop}
def tCB (r:List V->Hp->VK->Prop)(t:TA):TE:=λσ H Q=>t σ H λvs H1=>r vs H1 Q
theorem zb5 (f:zn9 X (.builtin id) r) (g:Gl X x) (i:X.mg x=none) (j:bootBuiltins x=some (.builtin id)) (k:PA X (e::es) t) (l:x≠"__name__":=by decide) (c:(x == ("__debug__" : Str))=false:=by decide)
   (m:starEach (e::es) X.env=(false,eval e X.env)::starEach es X.env:=by rfl) (d:(backTo pos (starEach es X.env)).any (·.1)=false:=by rfl):PE X (.Call (.Name x p) (e::es) [] pos) (tCB r t):=by
 intro a s b H Q I h;refine wpAny_Call_Name_kw (zI7 I g i j ?_ l c);exact PyProof.Rows.callWith_builtin1 (thn (k pos a s b H _ I h) λn o ⟨q,u,v,w,y⟩=>f a o b u q n Q v w y) m d
theorem ze0 (f:zn9 X (.type T) r) (g:Gl X x) (i:X.mg x=none) (j:bootBuiltins x=some (.type T)) (k:PA X (e::es) t) (l:x≠"__name__":=by decide) (c:(x == ("__debug__" : Str))=false:=by decide)
   (m:starEach (e::es) X.env=(false,eval e X.env)::starEach es X.env:=by rfl) (d:(backTo pos (starEach es X.env)).any (·.1)=false:=by rfl):PE X (.Call (.Name x p) (e::es) [] pos) (tCB r t):=by
 intro a s b H Q I h;refine wpAny_Call_Name_kw (zI7 I g i j ?_ l c);exact PyProof.Rows.callWith_type1 (thn (k pos a s b H _ I h) λn o ⟨q,u,v,w,y⟩=>f a o b u q n Q v w y) m d
end
end L2
namespace HT
open PySem PyProof.Rows
section
open PySem.SeqAt
open PySem.AutoSeq1 (wpAny_loadPart')
open PySem.MeetsSeq PySem.MeetsSeq2 PySem.MeetsSeq3
end
section
variable {prog:Program} {w:World} {A:Around} {E:VP} {s:Shared}
theorem cat_tup {t b:Addr}{vs a:List Value}{Q:VP}(q:IsTup s.heap t vs.toArray)(r:IsTup s.heap b a.toArray)(k:vs≠[])
   (u:a=[]->Q (.ref t) s) (v:a≠[]->Q (.ref s.heap.objs.size) { s with heap:=s.heap.push { cls:=.type "tuple",data:=.seq (vs++a).toArray } })
   (hsz:vs.length+a.length<=sizeLine):wpAny (model prog w) A (binaryOp .Add (.ref t) (.ref b)) Q E s:=by
 obtain⟨⟨cls,l,data,sl⟩,d,m,n,o⟩:=id q;obtain⟨⟨y,g,x,h⟩,c,i,p,j⟩:=id r;simp only at m o i j;subst m o i j;have e:vs.toArray++a.toArray=(vs++a).toArray:=by simp
 by_cases f:a=[]
 . exact concat_meets ⟨_,d,rfl⟩ ⟨_,c,rfl⟩ noFill_tuple_add seq_tuple_add PySem.F.slot_tuple_add PySem.F.entry_tuple_add (PySem.F.args_tuple_add_2 _ _)
     (tuple_addW1 t b vs.toArray a.toArray n p l g sl h (by simpa using k) (by simp[f])) ⟨d,c,u f⟩
 . refine concat_meets ⟨_,d,rfl⟩ ⟨_,c,rfl⟩ noFill_tuple_add seq_tuple_add PySem.F.slot_tuple_add PySem.F.entry_tuple_add (PySem.F.args_tuple_add_2 _ _)
     (tuple_addW2 t b vs.toArray a.toArray n p l g sl h (by simpa using k) (by simpa using f) (by rw[Qn,Qn];exact hsz)) ⟨d,c,?_⟩
   rw[e];exact v f
noncomputable def sIx (n d:Nat):Option Int->Nat
 | none=>d
 | some v=>if v<0 then(v+(n:Int)).toNat else min v.toNat n
theorem sIx_none (n d:Nat):sIx n d none=d:=rfl
theorem sIx_nat (n d k:Nat):sIx n d (some (k:Int))=min k n:=by
 show(if (k:Int)<0 then((k:Int)+(n:Int)).toNat else min (k:Int).toNat n)=min k n;rw[Qh (by omega),Zi]
theorem sIx_le (n d:Nat)(b:d<=n)(o:Option Int):sIx n d o<=n:=by
 cases o with
 | none=>exact b
 | some v =>
   show(if v<0 then(v+(n:Int)).toNat else min v.toNat n)<=n;by_cases a:v<0
   . rw[Qo a];omega
   . rw[Qh a];exact Nat.min_le_right _ _
theorem yf8 (v:Int)(n d:Nat):(if v<0 then max (v+(n:Int)) 0 else min v (n:Int))=((sIx n d (some v):Nat):Int):=by
 show(if v<0 then max (v+(n:Int)) 0 else min v (n:Int))=(((if v<0 then(v+(n:Int)).toNat else min v.toNat n):Nat):Int);by_cases a:v<0
 . simp only[Qo a];omega
 . simp only[Qh a];omega
theorem adjust_gen (lo a:Option Int)(n:Nat):Builtin.Slice.sliceAdjust lo a 1 (n:Int)=(((sIx n 0 lo:Nat):Int),((sIx n n a:Nat):Int)):=by
 have b:¬ ((1:Int)<0):=by omega
 unfold Builtin.Slice.sliceAdjust;simp only[b,if_false];refine Prod.ext ?_ ?_
 . cases lo with
   | none=>rfl
   | some v=>exact yf8 v n 0
 . cases a with
   | none=>rfl
   | some v=>exact yf8 v n n
theorem places_gen (i j:Nat):Builtin.Slice.slicePlaces (i:Int) (j:Int) 1=j-i:=by
 unfold Builtin.Slice.slicePlaces;have a:(1:Int)>0:=by omega
 simp only[a,if_true,Int.ediv_one]
 split<;>omega
theorem zO0 {v:Value}{o:Option Int}{Q:Option Int->Shared->Prop}(p:IsPart v o)(h:Q o s):wpAny (model prog w) A (Builtin.Slice.slicePartIndex v) Q E s:=by
 cases p with
 | none=>exact slicePart_none h
 | int i t=>exact slicePart_int h
theorem sliceApplied_gen {sl:Addr}{d e:Value}{lo a:Option Int}{n:Nat}{Q:Int×Int×Nat->Shared->Prop}(hs:s.heap.IsSliceOf sl d e .none)(pl:IsPart d lo)(f:IsPart e a)
   (h:Q (((sIx n 0 lo:Nat):Int),1,sIx n n a-sIx n 0 lo) s):wpAny (model prog w) A (Builtin.Slice.sliceApplied (.ref sl) (pure (n:Int))) Q E s:=by
 obtain⟨i,b,g,c⟩:=id hs;unfold Builtin.Slice.sliceApplied Builtin.Slice.sliceFields;refine Qb (Qb (wpAny_field b c (x:=d) rfl (Qb (wpAny_field b c (x:=e) rfl (Qb (wpAny_field b c (x:=.none) rfl (Qd ?_)))))));refine Qb (slicePart_none ?_);show wpAny _ _ (if ((1:Int) == 0)=true then _ else _) _ _ s;rw[Qh (by decide)];refine Qb (zO0 pl (Qb (zO0 f (Qb (Qd ?_)))));show wpAny _ _ (match Builtin.Slice.sliceAdjust lo a 1 (n:Int) with | (lo,a)=>pure (lo,(1:Int),Builtin.Slice.slicePlaces lo a 1)) _ _ s;rw[adjust_gen lo a n];show wpAny _ _ (pure (((sIx n 0 lo:Nat):Int),(1:Int),Builtin.Slice.slicePlaces ((sIx n 0 lo:Nat):Int) ((sIx n n a:Nat):Int) 1)) _ _ s;rw[places_gen];exact Qd h
theorem pick_gen (xs:Array Value)(i k:Nat):((List.range k).filterMap λ(m:Nat)=>xs[((i:Int)+(m:Int)*1).toNat]?).toArray=((xs.toList.drop i).take k).toArray:=by
 have e:(λ(m:Nat)=>xs[((i:Int)+(m:Int)*1).toNat]?)=λm=>xs[i+m]?:=by
   funext m
   have:((i:Int)+(m:Int)*1).toNat=i+m:=by omega
   rw[this]
 rw[e];have:=pick_run xs i k;rw[List.filterMap_map] at this;have a:((λx=>xs[x]?) ∘ λx=>i+x)=λm=>xs[i+m]?:=rfl
 rw[a] at this;rw[this]
theorem getItem_tuple_cut {t sl:Addr}{items:Array Value}{d e:Value}{lo a:Option Int}{Q:VP}(c:IsTup s.heap t items)(hs:s.heap.IsSliceOf sl d e .none)(pl:IsPart d lo)(k:IsPart e a)
   (l:¬ (sIx items.size 0 lo=0/\sIx items.size items.size a=items.size))
   (h:Q (.ref s.heap.objs.size) { s with heap:=s.heap.push { cls:=.type "tuple",data:=.seq ((items.toList.drop (sIx items.size 0 lo)).take (sIx items.size items.size a-sIx items.size 0 lo)).toArray } })
   (hsz:items.size<=sizeLine):wpAny (model prog w) A (getItem (.ref t) (.ref sl)) Q E s:=by
 have b:sizeOk (.seq ((items.toList.drop (sIx items.size 0 lo)).take (sIx items.size items.size a-sIx items.size 0 lo)).toArray):=by
   show((items.toList.drop (sIx items.size 0 lo)).take (sIx items.size items.size a-sIx items.size 0 lo)).toArray.size<=sizeLine;rw[Qn,QT,List.length_drop,QE];omega
 have p:sIx items.size items.size a<=items.size:=sIx_le _ _ (Qj _) a;obtain⟨n,f,g,o⟩:=id hs;have i:s.TypeIs (.ref sl) "slice":=⟨n,f,g⟩;unfold getItem
 try with_reducible refine wpAny_holding ?_
 first | refine Qb (Qd ?_) | skip
 refine Qb (wpAny_sequenceKey c.typeIs (by decide) ?_)
 refine Qb (wpAny_callSpecial?_slot (name:=Str.ofString "__getitem__") c.typeIs PyProof.Rows.slot_tuple_getitem
   (wpAny_call_entry PyProof.Rows.slot_tuple_getitem c.typeIs entry_tuple_getitem ?_ (args_tuple_getitem _ _)))
 show wpAny _ _ (Builtin.Tuple.tupleItemsOf (.ref t) >>= _) _ _ s;refine Qb (tupleItemsOf_ c ?_);refine Qb (wpAny_typeOf i ?_);rw[Qo (by decide)];refine Qb (sliceApplied_gen hs pl k ?_);have j:¬ ((((sIx items.size 0 lo:Nat):Int) == 0 && (1:Int) == 1 && (sIx items.size items.size a-sIx items.size 0 lo) == items.size)=true):=by
   intro q;rw[Bool.and_eq_true,Bool.and_eq_true] at q;have r:((sIx items.size 0 lo:Nat):Int)=0:=eq_of_beq q.1.1;have u:sIx items.size items.size a-sIx items.size 0 lo=items.size:=eq_of_beq q.2;exact l ⟨by omega,by omega⟩
 show wpAny _ _ (if (((sIx items.size 0 lo:Nat):Int) == 0 && (1:Int) == 1 && (sIx items.size items.size a-sIx items.size 0 lo) == items.size)=true then _ else _) _ _ s;rw[Qh j,pick_gen]
 first
   | exact Qb (m:=Builtin.Tuple.tupleExact _) (wpAny_newObj_type (Qd ⟨_,rfl,Qd h⟩) b)
   | exact Qb (m:=Builtin.Tuple.tupleExact _) (wpAny_newObj_type (Qb (Qd (Qd ⟨_,rfl,Qd h⟩))) b)
   | exact Qb (Qb (m:=Builtin.Tuple.tupleExact _) (wpAny_newObj_type (Qd (Qd ⟨_,rfl,Qd h⟩)) b))
   | exact Qb (Qb (m:=Builtin.Tuple.tupleExact _) (wpAny_newObj_type (Qd ⟨_,rfl,Qd h⟩) b))
end
end HT
namespace L2
open PySem PySem.Spec PyProof.Rows
noncomputable abbrev TO:=St->Hp->(Option Int->Hp->Prop)->Prop
def PO (X:Cx)(e:Option Expr)(t:TO):Prop :=
 ∀(pins:List (Addr×Obj)) (s:Shared) (σ:St) (H:Hp) (Q:Option Int->Hp->Prop),Inv X pins σ H s->t σ H Q →
   wpAny (model X.prog X.w) X.A (evalPart e X.env) (λu s'=>∃o H',Inv X pins σ H' s'/\IsPart u o/\Q o H') X.xe s
def tNoPart:TO:=λ_ H Q=>Q none H
def tPart (t:TE):TO:=λσ H Q=>t σ H λx H1=>∃i,x = .int i/\Q (some i) H1
theorem zr5 {ns:List Int}:∀ {a:List Value},Vals (ns.map V.int) a->IntsAre a ns:=by
 induction ns with
 | nil=>intro a r;rw[List.map_nil] at r;cases r;exact .nil
 | cons n ns b =>
   intro a r;rw[Qv] at r;cases r with
   | cons c d =>
     obtain⟨t,e⟩:=c;subst e;exact .cons n t (b d)
section
variable {X:Cx} {e:Expr} {te:TE} {lo hi:Option Expr} {tl th:TO} {pos p2:Pos}
theorem zl0:PO X none tNoPart:=by
 intro a s b H Q I h;rw[evalPart_none];exact Qd ⟨none,H,I,.none,h⟩
theorem zi9 (h:PE X e te):PO X (some e) (tPart te):=by
 intro a s j H Q I b;rw[evalPart_some];refine thn (h a s j H _ I b) λu k ⟨x,c,d,f,g⟩=>?_
 obtain⟨i,rfl,q⟩:=g;obtain⟨t,rfl⟩:=f;exact⟨some i,c,d,.int i t,q⟩
def SlR (X:Cx)(r:V->Option Int->Option Int->Hp->VK->Prop):Prop :=
 ∀(pins:List (Addr×Obj)) (s:Shared) (σ:St) (H:Hp) (x:V) (v vl vu:Value) (lo hi:Option Int) (sl:Addr) (Q:VK),Inv X pins σ H s->RelV x v->s.heap.IsSliceOf sl vl vu .none->IsPart vl lo->IsPart vu hi->r x lo hi H Q →
   ∃T id,typeLookup (.type T) "__getitem__" = pure (some (.builtin id))/\s.TypeIs v T/\wpAny (model X.prog X.w) X.A (getItem v (.ref sl)) (EP X pins σ Q) X.xe s
def tSl (r:V->Option Int->Option Int->Hp->VK->Prop)(te:TE)(tl th:TO):TE:=λσ H Q=>te σ H λx H1=>tl σ H1 λl H2=>th σ H2 λu H3=>r x l u H3 Q
theorem zh2 {r:V->Option Int->Option Int->Hp->VK->Prop}(j:SlR X r)(k:PE X e te)(m:PO X lo tl)(n:PO X hi th):PE X (.Subscript e (.Slice lo hi none p2) pos) (tSl r te tl th):=by
 intro c s d H Q I h;refine Subscript_ (thn (k c s d H _ I h) λv o ⟨x,p,t,w,y⟩=>?_);refine wpAny_Slice (thn (m c o d p _ t y) λf z ⟨l,A,B,C,D⟩=>thn (n c z d A _ B D) λg a ⟨u,i,E,F,G⟩=>?_);rw[evalPart_none];refine Qd ?_;have J:Inv X c d i { a with heap:=a.heap.push { cls:=.type "slice",data:=.fields #[f,g,.none] } }:=E.kept (t':=a.toks) λb N q=>Qc _ q
 obtain⟨T,O,K,L,M⟩:=j c { a with heap:=a.heap.push { cls:=.type "slice",data:=.fields #[f,g,.none] } } d i x v f g l u a.heap.objs.size Q J w (Heap.IsSliceOf.new ..) C F G;show wpAny (model X.prog X.w) X.A (subscriptTail e (.Slice lo hi none p2) v (.ref a.heap.objs.size)) (EP X c d Q) X.xe { a with heap:=a.heap.push { cls:=.type "slice",data:=.fields #[f,g,.none] } };exact tail_any (ops:=[.ref a.heap.objs.size,v]) L K M (by with_unfolding_all rfl)
noncomputable def cutV (xs:List V)(lo hi:Option Int):List V:=(xs.drop (HT.sIx xs.length 0 lo)).take (HT.sIx xs.length xs.length hi-HT.sIx xs.length 0 lo)
theorem zl6 (xs:List V)(lo a:Option Int):(cutV xs lo a).length<=xs.length:=by
 unfold cutV;rw[QT,List.length_drop];omega
inductive yl6 (K:W.Frag)(x:V)(lo:Option Int)(hi:Option Int)(H:Hp)(Q:VK):Prop
 | mk (a xs:_)(h0:x = .ref a)(h1:SqT K H a xs)(h2:¬ (HT.sIx xs.length 0 lo=0/\HT.sIx xs.length xs.length hi=xs.length))(h3:∀p,H p=none->Q (.ref p) (upd H p (.tup (cutV xs lo hi)))):yl6 K x lo hi H Q
def rSlT (K:W.Frag):V->Option Int->Option Int->Hp->VK->Prop:=λx lo hi H Q=>yl6 K x lo hi H Q
theorem zE9:SlR X (rSlT X.K):=by
 intro u s A H x v w y d f sl Q I k l m n h;obtain⟨a,c,rfl,p,t,q⟩:=h;cases k;obtain⟨j,r,g,i⟩:=I.tuple p;have e:j.toArray.size=c.length:=by rw[Qn];exact r.length.symm
 refine⟨"tuple",_,PyProof.Rows.slot_tuple_getitem.lookup,g.typeIs,?_⟩;refine HT.getItem_tuple_cut g l m n (by rw[e];exact t) ?_ (by rw[e];exact i);rw[e];refine⟨.ref s.heap.objs.size,_,I.laid (t':=s.toks) (o:=.tup (cutV c d f)) (λb z q=>Qc _ q) (Qj _) ?_,rfl,q _ (I.hok.fresh (Qj _))⟩;exact⟨QJ (zl6 c d f) i,_,(r.drop (HT.sIx c.length 0 d)).take (HT.sIx c.length c.length f-HT.sIx c.length 0 d),TupD.new _ _⟩
inductive yf9 (K:W.Frag)(x:V)(y:V)(H:Hp)(Q:VK):Prop
 | mk (a b xs ys:_)(h0:x = .ref a)(h1:y = .ref b)(h2:SqT K H a xs)(h3:SqT K H b ys)(h4:xs≠[])(h5:xs.length+ys.length<=sizeLine)(h6:(ys=[]->Q (.ref a) H))(h7:(ys≠[]->∀p,H p=none->Q (.ref p) (upd H p (.tup (xs++ys))))):yf9 K x y H Q
def rCatT (K:W.Frag):R2:=λx y H Q=>yf9 K x y H Q
theorem Vals.nil_iff {xs:List V}{us:List Value}(r:Vals xs us):us=[]↔xs=[]:=by
 cases r with
 | nil=>simp
 | cons _ _=>simp
theorem op_catT:OpR X (binaryOp .Add) (rCatT X.K):=by
 intro A s E H x y v u Q I f g h;obtain⟨a,b,i,j,rfl,rfl,k,l,m,e,n,p⟩:=h;cases f;cases g;obtain⟨C,d,r,_⟩:=I.tuple k;obtain⟨B,c,t,_⟩:=I.tuple l;refine HT.cat_tup r t (λz=>m (d.nil_iff.mp z)) (λz=>⟨.ref a,H,I,rfl,n (c.nil_iff.mp z)⟩) (λz=>?_) (by rw[<-d.length,<-c.length];exact e);refine⟨.ref s.heap.objs.size,_,I.laid (t':=s.toks) (o:=.tup (i++j)) (λb D q=>Qc _ q) (Qj _) ?_,rfl,p (λw=>z (c.nil_iff.mpr w)) _ (I.hok.fresh (Qj _))⟩;exact⟨by rw[Qi];exact e,_,d.append c,TupD.new _ _⟩
end
noncomputable def ixN (n:Nat)(i:Int):Option Nat:=if 0<=i then(if i<n then some i.toNat else none) else if -(n:Int)<=i then some (i+n).toNat else none
noncomputable def atI {α:Type}(xs:List α)(i:Int):Option α:=(ixN xs.length i).bind λj=>xs[j]?
theorem yg0 {n:Nat}{i:Int}{j:Nat}(h:ixN n i=some j):seqIndex? i n=some j/\j<n/\-(n:Int)<=i/\i<n:=by
 unfold ixN at h;by_cases b:0<=i
 . rw[Qo b] at h
   by_cases a:i<n
   . rw[Qo a] at h
     have e:i.toNat=j:=QA h;exact⟨by rw[seqIndex_of b a,e],by omega,by omega,a⟩
   . rw[Qh a] at h;cases h
 . rw[Qh b] at h
   by_cases a:-(n:Int)<=i
   . rw[Qo a] at h
     have e:(i+n).toNat=j:=QA h;exact⟨by rw[seqIndex_neg (by omega) a,e],by omega,a,by omega⟩
   . rw[Qh a] at h;cases h
theorem zX7 {a:Type}{xs:List a}{i:Int}{v:a}(h:atI xs i=some v):∃j,seqIndex? i xs.length=some j/\xs[j]?=some v/\j<xs.length/\-(xs.length:Int)<=i/\i<xs.length:=by
 unfold atI at h;cases e:ixN xs.length i with
 | none=>rw[e] at h;cases h
 | some j =>
   rw[e] at h;obtain⟨b,c,d,f⟩:=yg0 e;exact⟨j,b,h,c,d,f⟩
theorem zh5 {a:Type}{xs:List a}{j:Nat}{v:a}(h:xs[j]?=some v):atI xs (j:Int)=some v:=by
 have b:j<xs.length:=(QX.mp h).1;have e:ixN xs.length (j:Int)=some j:=by
   unfold ixN;rw[Qo (by omega),Qo (by omega)];simp
 unfold atI;rw[e];exact h
def yg1 (b:Expr):Prop:=∀o i,subscripted b false o i=operate [o,i] (getItem o i)
def IxR (X:Cx)(r:R2):Prop :=
 ∀(value slice:Expr) (pins:List (Addr×Obj)) (s:Shared) (σ:St) (H:Hp) (x y:V) (v u:Value) (Q:VK),Inv X pins σ H s->RelV x v->RelV y u->r x y H Q →
   subscripted slice false v u=operate [v,u] (getItem v u)->wpAny (model X.prog X.w) X.A (subscriptTail value slice v u) (EP X pins σ Q) X.xe s
def MtR (X:Cx)(id:String)(r:V->List V->Hp->VK->Prop):Prop :=
 ∀(pins:List (Addr×Obj)) (s:Shared) (σ:St) (H:Hp) (x:V) (xs:List V) (v:Value) (us:List Value) (Q:VK),Inv X pins σ H s->RelV x v->Vals xs us->r x xs H Q →
   wpAny (model X.prog X.w) X.A (call (.builtin id) (v::us)) (EP X pins σ Q) X.xe s
section
variable {X:Cx} {a b:Expr} {ta tb:TE} {pos:Pos}
theorem IxR.or {r d:R2}(h:IxR X r)(h':IxR X d):IxR X (λx y H Q=>r x y H Q\/d x y H Q):=by
 intro a b c s i H x y v u Q I e f q g;rcases q with q | q
 . exact h a b c s i H x y v u Q I e f q g
 . exact h' a b c s i H x y v u Q I e f q g
theorem zc2 {r:R2}(d:IxR X r)(e:PE X a ta)(f:PE X b tb)(hs:yg1 b):PE X (.Subscript a b pos) (tOp r ta tb):=by
 intro c s m H Q I h;exact Subscript_ (binT e f I h λv u g x y i j k l q=>d a b c g m i x y v u Q j k l q (hs _ _))
inductive yl7 (K:W.Frag)(x:V)(y:V)(H:Hp)(Q:VK):Prop
 | mk (p xs i v:_)(h0:x = .ref p)(h1:y = .int i)(h2:SqL K H p xs)(h3:atI xs i=some v)(h4:Q v H):yl7 K x y H Q
def rIxL (K:W.Frag):R2:=λx y H Q=>yl7 K x y H Q
inductive yl8 (K:W.Frag)(x:V)(y:V)(H:Hp)(Q:VK):Prop
 | mk (p xs i v:_)(h0:x = .ref p)(h1:y = .int i)(h2:SqT K H p xs)(h3:atI xs i=some v)(h4:Q v H):yl8 K x y H Q
def rIxT (K:W.Frag):R2:=λx y H Q=>yl8 K x y H Q
def rIxS:R2:=λx y H Q=>∃z i c,x = .str z/\y = .int i/\z.length<=sizeLine/\atI z.cps.toList i=some c/\Q (.str ⟨#[c]⟩) H
theorem zc3:IxR X (rIxL X.K):=by
 intro K L d s l H x y v u Q I o A h f;obtain⟨p,M,i,z,rfl,rfl,B,C,q⟩:=h;cases o;obtain⟨t,rfl⟩:=A;obtain⟨m,r,b,N⟩:=I.list B;obtain⟨j,a,D,O,E,F⟩:=zX7 C;obtain⟨w,g,n⟩:=r.get D;have G:=r.length;have P:=zJ1;have e:EP X d l Q w s:=⟨z,H,I,n,q⟩;by_cases k:0<=i
 . have c:i.toNat=j:=by
     rw[seqIndex_of k F] at a;exact QA a
   exact item_listR b.isList k (by omega) (by rw[c];simpa using g) e f
 . have c:(i+(m.toArray.size:Int)).toNat=j:=by
     rw[seqIndex_neg (by omega) E] at a;rw[Qn,<-G];exact QA a
   exact subscriptTail_builtinR (x:=w) b.isList.typeIs slot_list_getitem.lookup
     (wpAny_getItem_list_neg (Q:=λr J=>r=w/\EP X d l Q r J) b.isList (by omega) (by rw[Qn]<;>omega) (by omega) (by rw[c];simpa using g) ⟨rfl,e⟩) f
theorem ze7:IxR X (rIxT X.K):=by
 intro D E a s c H x y v u Q I f g h k;obtain⟨p,G,i,z,rfl,rfl,l,m,q⟩:=h;cases f;obtain⟨t,rfl⟩:=g;obtain⟨F,r,b,J⟩:=I.tuple l;obtain⟨j,n,o,K,L,M⟩:=zX7 m;obtain⟨w,A,d⟩:=r.get o;have B:=r.length;have N:=zJ1;have e:EP X a c Q w s:=⟨z,H,I,d,q⟩
 exact subscriptTail_builtinR (x:=w) b.typeIs slot_tuple_getitem.lookup
   (getItem_tuple (j:=j) (Q:=λr C=>r=w/\EP X a c Q r C) b (by omega) (by omega) (by rw[Qn,<-B];exact n) (by simpa using A) ⟨rfl,e⟩) k
theorem ix_str:IxR X rIxS:=by
 intro p r w s E H x y v u Q I b d h e;obtain⟨z,i,c,rfl,rfl,A,f,q⟩:=h;obtain⟨t,rfl⟩:=b;obtain⟨B,rfl⟩:=d;obtain⟨j,a,g,C,k,l⟩:=zX7 f;have m:z.cps.toList.length=z.length:=by simp[Str.length]
 rw[m] at a k l;have D:=zJ1;exact tail_any (typeIs_str s z t) slot_str_getitem.lookup (getItem_str (c:=c) (by
   have n:decide (i < -(2 ^ 63:Int))=false:=Qf (by omega);have o:decide (i≥2 ^ 63)=false:=Qf (by omega);rw[n,o,Bool.or_false]) (by rw[a];simpa using g) ⟨.str ⟨#[c]⟩,H,I.tok _,⟨_,rfl⟩,q⟩) e
def rIx (K:W.Frag):R2:=λx y H Q=>rIxL K x y H Q\/rIxT K x y H Q\/rIxS x y H Q
theorem zm1:IxR X (rIx X.K):=zc3.or (ze7.or ix_str)
theorem mapSeq_set (its:List Value) (n j:Nat) (u:Value):Obj.mapSeq (·.setIfInBounds j u) { cls:=.type "list",data:=.seq its.toArray n } = { cls:=.type "list",data:=.seq (its.set j u).toArray n }:=by
 simp[Obj.mapSeq]
theorem Inv.lst {b:List (Addr×Obj)}{c:St}{H:Hp}{s:Shared}{p:Addr}{xs:List V}(I:Inv X b c H s)(h:H p=some (.lst xs)) :
   ∃(a:List Value) (n:Nat),Vals xs a/\s.heap.get? p=some { cls:=.type "list",data:=.seq a.toArray n }/\xs.length<=sizeLine:=by
 obtain⟨z,a,n,r,e⟩:=I.hok p _ h;exact⟨a,n,r,e,z⟩
theorem Inv.lstUpd {c:List (Addr×Obj)}{g:St}{H:Hp}{s:Shared}{p:Addr}{xs ys:List V}{its its':List Value}{n a:Nat}{f:Obj->Obj}(I:Inv X c g H s)(h:H p=some (.lst xs))
   (i:s.heap.get? p=some { cls:=.type "list",data:=.seq its.toArray n }) (d:f { cls:=.type "list",data:=.seq its.toArray n } = { cls:=.type "list",data:=.seq its'.toArray a }) (r:Vals ys its') (j:ys.length<=sizeLine) (t:Nat) :
   Inv X c g (upd H p (.lst ys)) { s with heap:=s.heap.update p f,toks:=t }:=by
 have e:(s.heap.update p f).get? p=some { cls:=.type "list",data:=.seq its'.toArray a }:=by
   rw[Zm f i (by rw[d]<;>rfl),d]
 refine I.write (x:=p) (e:=p) (by rw[h];trivial) (.inl rfl) (λb u k q=>(Zo _ _ (Ne.symm k)).trans q) ⟨_,e⟩ ?_;exact⟨j,its',a,r,e⟩
inductive yg2  (o:V)(i:V)(v:V)(H:Hp)(Q:Hp->Prop):Prop
 | mk (p xs k j:_)(h0:o = .ref p)(h1:i = .int k)(h2:H p=some (.lst xs))(h3:ixN xs.length k=some j)(h4:Q (upd H p (.lst (xs.set j v)))):yg2  o i v H Q
def rSetL:V->V->V->Hp->(Hp->Prop)->Prop:=λo i v H Q=>yg2  o i v H Q
theorem set_list:PSet X rSetL:=by
 intro x s E H o i v F G u Q I y z A h;obtain⟨p,B,k,j,rfl,rfl,f,C,q⟩:=h;cases y;obtain⟨t,rfl⟩:=z;obtain⟨e,n,r,b,D⟩:=I.lst f;obtain⟨a,J,g,l⟩:=yg0 C;have c:=r.length;have K:=zJ1;have m:Inv X x E (upd H p (.lst (B.set j v))) { s with heap:=s.heap.update p (Obj.mapSeq (·.setIfInBounds j u)) } :=
   I.lstUpd f b (mapSeq_set e n j u) (r.set A j) (by rw[QW];exact D) s.toks
 by_cases w:0<=k
 . have d:k.toNat=j:=by
     rw[seqIndex_of w l] at a;exact QA a
   exact W.ki_setAt b w (by omega) (by rw[Qn,<-c];exact l) (by rw[d];exact⟨_,m,q⟩)
 . have d:(k+(e.toArray.size:Int)).toNat=j:=by
     rw[seqIndex_neg (by omega) g] at a;rw[Qn,<-c];exact QA a
   exact W.ki_setBack b (by omega) (by rw[Qn,<-c];exact g) (by omega) (by rw[d];exact⟨_,m,q⟩)
theorem slice_bounds (lo a:Option Int)(n:Nat):(sliceBounds lo a none n).1=((HT.sIx n 0 lo:Nat):Int)/\(sliceBounds lo a none n).2.1=((HT.sIx n n a:Nat):Int)/\(sliceBounds lo a none n).2.2=1:=by
 refine⟨?_,?_,rfl⟩
 . cases lo with
   | none=>simp[sliceBounds,HT.sIx]
   | some i =>
     simp only[sliceBounds,HT.sIx,Option.getD_none,show(1:Int)>0 by decide,if_true];by_cases h:i<0
     . simp only[h,if_true]<;>omega
     . simp only[h,if_false]<;>omega
 . cases a with
   | none=>simp[sliceBounds,HT.sIx]
   | some i =>
     simp only[sliceBounds,HT.sIx,Option.getD_none,show(1:Int)>0 by decide,if_true];by_cases h:i<0
     . simp only[h,if_true]<;>omega
     . simp only[h,if_false]<;>omega
theorem slicePick_cut (its:List Value)(lo a:Option Int):slicePick its.toArray lo a none=((its.drop (HT.sIx its.length 0 lo)).take (HT.sIx its.length its.length a-HT.sIx its.length 0 lo)).toArray:=by
 obtain⟨b,c,d⟩:=slice_bounds lo a its.toArray.size;unfold slicePick;rw[b,c,d]
 simp only[sliceRange_one,pick_run,Qn]<;>rfl
inductive yl9 (K:W.Frag)(x:V)(lo:Option Int)(hi:Option Int)(H:Hp)(Q:VK):Prop
 | mk (a xs:_)(h0:x = .ref a)(h1:SqL K H a xs)(h2:∀p,H p=none->Q (.ref p) (upd H p (.lst (cutV xs lo hi)))):yl9 K x lo hi H Q
def rSlL (K:W.Frag):V->Option Int->Option Int->Hp->VK->Prop:=λx lo hi H Q=>yl9 K x lo hi H Q
theorem zM6:SlR X (rSlL X.K):=by
 intro p s z H x v u w d e sl Q I i j k l h;obtain⟨a,c,rfl,m,q⟩:=h;cases i;obtain⟨t,r,f,n⟩:=I.list m;have g:=r.length;refine⟨"list",_,slot_list_getitem.lookup,f.isList.typeIs,?_⟩
 refine wpAny_getItem_list_slice f.isList j k l .none (by simp) ?_ (by rw[Qn]<;>omega);rw[slicePick_cut,<-g];refine⟨.ref s.heap.objs.size,_,I.laid (t':=s.toks) (o:=.lst (cutV c d e)) (λb y q=>Qc _ q) (Qj _) ?_,rfl,q _ (I.hok.fresh (Qj _))⟩;exact⟨QJ (zl6 c d e) n,_,0,(r.drop (HT.sIx c.length 0 d)).take (HT.sIx c.length c.length e-HT.sIx c.length 0 d),Qm _ rfl⟩
theorem zb8:zn9 X (.builtin "len") (λf H Q=>∃p a,f=[.ref p]/\(SqL X.K H p a\/SqT X.K H p a)/\Q (.int a.length) H):=by
 intro k s n H f l Q I r h;obtain⟨p,a,rfl,b,q⟩:=h;obtain⟨u,rfl,i⟩:=zs9 r;cases i;have m:=zJ1;rcases b with b | b
 . obtain⟨g,d,e,j⟩:=I.list b
   have c:=d.length
   exact Calls.call_len_list e.isList (by simp only[Qn]<;>omega) ⟨.int a.length,H,I.tok _,⟨s.toks+1,by rw[Qn,c]⟩,q⟩
 . obtain⟨g,d,e,j⟩:=I.tuple b
   have c:=d.length
   exact len_tuple e (by simp only[Qn]<;>omega) ⟨.int a.length,H,I.tok _,⟨s.toks+1,by rw[Qn,c]⟩,q⟩
theorem zF5:zn9 X (.builtin "len") (λa H Q=>∃z,a=[.str z]/\z.length<=sizeLine/\Q (.int z.length) H):=by
 intro b s f H a c Q I r h;obtain⟨z,rfl,d,q⟩:=h;obtain⟨u,rfl,t,rfl⟩:=zs9 r;have e:=zJ1;exact len_str (by omega) ⟨.int z.length,H,I.tok _,⟨_,rfl⟩,q⟩
theorem zw8:zn9 X (.type "list") (λy H Q=>∃p d,y=[.ref p]/\(SqL X.K H p d\/SqT X.K H p d)/\∀l,H l=none->Q (.ref l) (upd H l (.lst d))):=by
 intro A s D H y E Q I r h;obtain⟨p,d,rfl,i,q⟩:=h;obtain⟨u,rfl,C⟩:=zs9 r;cases C
 have x:∀(c:List Value),Vals d c->d.length<=sizeLine->∀(a:Heap) (f:Nat),(∀b z,s.heap.get? b=some z->a.get? b=some z) →
     a.get? s.heap.objs.size=some { cls:=.type "list",dict:=none,data:=.seq c.toArray f,slots:=#[] }->EP X A D Q (.ref s.heap.objs.size) { s with heap:=a }:=λc g j a f k e =>
   ⟨.ref s.heap.objs.size,_,I.laid (t':=s.toks) k (Qj _) (show zg1 X.prog X.w _ a _ (.lst d) from⟨j,c,f,g,e⟩),rfl,q _ (I.hok.fresh (Qj _))⟩
 rcases i with i | i
 . obtain⟨c,g,m,j⟩:=I.list i
   have B:=g.length;obtain⟨o,t,v,n,w⟩:=m.isList
   exact call_list_seq p (.inl rfl) t v w (λa f k e=>x c g j a f k e) (by simp only[Qn]<;>omega)
 . obtain⟨c,g,m,j⟩:=I.tuple i
   have B:=g.length;obtain⟨o,t,v,n,w⟩:=m
   exact call_list_seq p (.inr rfl) t v w (λa f k e=>x c g j a f k e) (by simp only[Qn]<;>omega)
theorem zm4:zn9 X (.type "tuple") (λk H Q=>∃p a,k=[.ref p]/\((SqL X.K H p a/\∀l,H l=none->Q (.ref l) (upd H l (.tup a)))\/(SqT X.K H p a/\Q (.ref p) H))):=by
 intro j s t H k z Q I r h;obtain⟨p,a,rfl,h⟩:=h;obtain⟨u,rfl,v⟩:=zs9 r;cases v;rcases h with⟨f,q⟩ | ⟨f,q⟩
 . obtain⟨d,g,i,m⟩:=I.list f
   have y:=g.length
   refine call_tuple_list i.isList (λc w=>?_) (by simp only[Qn]<;>omega);have n:Inv X j t H { s with heap:=c }:=I.kept (t':=s.toks) w;have x:Inv X j t (upd H c.objs.size (.tup a)) { s with heap:=c.push { cls:=.type "tuple",data:=.seq d.toArray } } :=
     n.laid (t':=s.toks) (λb o e=>Qc _ e) (Qj _) (show zg1 X.prog X.w _ _ _ (.tup a) from⟨m,d,g,TupD.new _ _⟩)
   exact⟨.ref c.objs.size,_,x,rfl,q _ (n.hok.fresh (Qj _))⟩
 . obtain⟨d,g,i,m⟩:=I.tuple f
   exact call_tuple_same i ⟨.ref p,H,I,rfl,q⟩
def tyV (K:W.Frag)(T:String)(x:V)(H:Hp):Prop:=match x with
 | .str _=>T = "str"
 | .int _=>T = "int"
 | .ref p=>(T = "list"/\∃xs,SqL K H p xs)\/(T = "tuple"/\∃o,K.lookup p=some o/\o.cls = .type "tuple"/\o.dict=none) ∨
     (T = "dict"/\((∃kvs,H p=some (.dK kvs))\/∃kvs,H p=some (.dT kvs)))\/(T = "set"/\∃S n,H p=some (.set S n))
 | _=>False
theorem ym0 {k:List (Addr×Obj)}{u:St}{H:Hp}{s:Shared}{T:String}{x:V}{v:Value}(I:Inv X k u H s)(r:RelV x v)(ty:tyV X.K T x H) :
   s.TypeIs v T/\∀a,v = .ref a->∃h,s.heap.get? a=some h/\h.dict=none:=by
 cases x with
 | str z =>
   obtain⟨t,rfl⟩:=r;cases (show T = "str" from ty);exact⟨typeIs_str s z t,λ_ e=>nomatch e⟩
 | int i =>
   obtain⟨t,rfl⟩:=r;cases (show T = "int" from ty);exact⟨typeIs_int s i t,λ_ e=>nomatch e⟩
 | ref p =>
   cases r;rcases ty with⟨rfl,y,m⟩ | ⟨rfl,o,b,q,f⟩ | ⟨rfl,b⟩ | ⟨rfl,S,n,b⟩
   . obtain⟨w,_,j,_⟩:=I.list m
     refine⟨j.isList.typeIs,λa e=>?_⟩;cases e;obtain⟨o,n,e,c,f,_⟩:=j;exact⟨o,e,f⟩
   . refine⟨⟨o,I.kIn p o b,q⟩,λa e=>?_⟩
     cases e;exact⟨o,I.kIn _ o b,f⟩
   . have z:∃o,s.heap.get? p=some o/\o.ExactDict:=by
       rcases b with⟨l,b⟩ | ⟨l,b⟩
       . obtain⟨_,_,_,_,o,_,_,e,d,_⟩:=I.hok p _ b
         exact⟨o,e,d⟩
       . obtain⟨_,_,_,_,o,_,_,e,d,_⟩:=I.hok p _ b
         exact⟨o,e,d⟩
     obtain⟨o,e,d⟩:=z;refine⟨⟨o,e,d.1⟩,λa g=>?_⟩;cases g;exact⟨o,e,d.2.1⟩
   . obtain⟨o,_,_,_,e,d,_⟩:=I.hok p _ b
     refine⟨⟨o,e,d.1⟩,λa g=>?_⟩;cases g;exact⟨o,e,d.2.1⟩
 | _=>exact False.elim ty
def tBM0 (K:W.Frag)(T:String)(r:V->List V->Hp->VK->Prop)(to:TE):TE:=λσ H Q=>to σ H λx H1=>tyV K T x H1/\r x [] H1 Q
def tBM (K:W.Frag)(T:String)(r:V->List V->Hp->VK->Prop)(to:TE)(t:TA):TE:=λσ H Q=>to σ H λx H1=>tyV K T x H1/\t σ H1 λxs H2=>r x xs H2 Q
variable {o e:Expr} {es:List Expr} {to:TE} {t:TA} {name:Str} {apos cpos:Pos} {T id:String} {r:V->List V->Hp->VK->Prop}
theorem ym1 (j:PlainAttrs T) (g:Slot T name id) (i:typeOf (.builtin id)=pure (.type "method_descriptor")) (k:MtR X id r) (l:PE X o to)
   (e:attributeBase o name X.env (eval o X.env)=eval o X.env:=by rfl) (f:(apos.endLine == cpos.line)=true:=by rfl):PE X (.Call (.Attribute o name apos) [] [] cpos) (tBM0 X.K T r to):=by
 intro a s d H Q I h;refine wpAny_Call_method0_late e f (thn (l a s d H _ I h) λv m ⟨x,n,b,c,p,q⟩=>?_);obtain⟨t,u⟩:=ym0 b c p;exact⟨T,id,j,g,i,t,u,Calls.callWith_builtin rfl (PySem.evalArgs_none (k a m d n x [] v [] Q b c .nil q))⟩
theorem zl1 (n:PlainAttrs T) (k:Slot T name id) (m:typeOf (.builtin id)=pure (.type "method_descriptor")) (p:MtR X id r) (q:PE X o to) (u:PA X (e::es) t)
   (i:attributeBase o name X.env (eval o X.env)=eval o X.env:=by rfl)
   (l:((backTo cpos (starEach (e::es) X.env)).all (λx=>!x.1) && (backToKw cpos (keywordEach [] X.env)).all (λx=>x.1.isSome)
     && decide ((e::es).length+([]:List Keyword).length+(if ([]:List Keyword).isEmpty then 0 else 1)<30))=true:=by rfl)
   (j:(apos.endLine == cpos.line)=true:=by rfl) (hs:starEach (e::es) X.env=(false,eval e X.env)::starEach es X.env:=by rfl) (g:(backTo cpos (starEach es X.env)).any (·.1)=false:=by rfl) :
   PE X (.Call (.Attribute o name apos) (e::es) [] cpos) (tBM X.K T r to t):=by
 intro a s b H Q I h;refine wpAny_Call_method_late i l j rfl (thn (q a s b H _ I h) λv w ⟨x,y,c,d,z,A⟩=>?_);obtain⟨B,C⟩:=ym0 c d z;refine⟨T,id,n,k,m,B,C,?_⟩;have f:=u cpos a w b y _ c A;rw[hs] at f ⊢
 refine Calls.callWith_builtin (by show(false || (backTo cpos (starEach es X.env)).any (·.1))=false;rw[g]<;>rfl) (Calls.evalArgs_plain ?_);exact thn f λD E ⟨F,G,J,K,L⟩=>p a E b G x F v D Q J d K L
/- xs.append(e),list.index on a module's tuple .. are MtR facts of 06m -/
end
def MtM (X:Cx)(id:String)(r:V->List V->Hp->VK->Prop):Prop :=
 ∀(pins:List (Addr×Obj)) (s:Shared) (σ:St) (H:Hp) (x:V) (xs:List V) (v:Value) (us:List Value) (Q:VK),Inv X pins σ H s->RelV x v->Vals xs us->r x xs H Q →
   wpAny (model X.prog X.w) X.A (call (.builtin id) (v::us)) (EP X pins σ Q) X.xe s
theorem Vals.one:∀ {x:V} {a:List Value},Vals [x] a->∃u,a=[u]/\RelV x u
 | _,_,.cons r .nil=>⟨_,rfl,r⟩
theorem Vals.zero:∀ {a:List Value},Vals [] a->a=[]
 | _,.nil=>rfl
theorem Vals.dropLast {xs:List V}{us:List Value}(h:Vals xs us):Vals xs.dropLast us.dropLast:=by
 induction h with
 | nil=>exact .nil
 | cons r t a =>
   cases t with
   | nil=>exact .nil
   | cons q b=>exact .cons r a
theorem Vals.reverse {xs:List V}{us:List Value}(h:Vals xs us):Vals xs.reverse us.reverse:=by
 induction h with
 | nil=>exact .nil
 | cons r t a=>rw[ZA,ZA];exact Vals.append a (.cons r .nil)
theorem Vals.rep {xs:List V}{us:List Value}(h:Vals xs us):∀k:Nat,Vals (List.replicate k xs).flatten (List.replicate k us).flatten
 | 0=>.nil
 | k+1=>by
   rw[ZB,ZB,List.flatten_cons,List.flatten_cons];exact Vals.append h (Vals.rep h k)
theorem erase_last {d:Type}(l:List d):l.eraseIdx (l.length-1)=l.dropLast:=by
 induction l with
 | nil=>rfl
 | cons a r c =>
   cases r with
   | nil=>rfl
   | cons b r =>
     have e:(a::b::r).length-1=((b::r).length-1)+1:=by
       have f:(a::b::r).length=r.length+2:=rfl;have g:(b::r).length=r.length+1:=rfl;omega
     rw[e,List.eraseIdx_cons_succ,c]
     all_goals rfl
theorem zU3 (its:List Value):∀(k:Nat) (a:List Value),
   List.foldl (λb c=>b++c) a.toArray (List.replicate k its.toArray)=(a++(List.replicate k its).flatten).toArray
 | 0,a=>by simp
 | k+1,a=>by
   have e:a.toArray++its.toArray=(a++its).toArray:=by simp
   have d:(a++its)++(List.replicate k its).flatten=a++(List.replicate (k+1) its).flatten:=by
     rw[ZB,List.flatten_cons,QU]
   rw[<-d,<-zU3 its k (a++its),<-e,ZB,List.foldl_cons]
section
variable {X:Cx} {pins:List (Addr×Obj)} {σ:St} {H:Hp} {s:Shared} {l b:Addr} {xs ys zs:List V}
theorem Inv.lset {its its':List Value}{n:Nat}{f:Array Value->Array Value}{t':Nat}(I:Inv X pins σ H s)(a:H l=some (.lst xs))
   (e:s.heap.get? l=some { cls:=.type "list",data:=.seq its.toArray n }) (b:f its.toArray=its'.toArray) (c:Vals ys its') (d:ys.length<=sizeLine) :
   Inv X pins σ (upd H l (.lst ys)) { s with heap:=s.heap.update l (Obj.mapSeq f),toks:=t' }:=by
 have q:=PySem.IsL.update e f;rw[b] at q;refine I.write (x:=l) (e:=l) (by rw[a];exact trivial) (.inl rfl) (λi u g h=>(Zo s.heap (Obj.mapSeq f) (Ne.symm g)).trans h) ⟨_,q⟩ ?_;exact⟨d,its',_,c,q⟩
theorem Inv.lnew {its:List Value}{t':Nat}(I:Inv X pins σ H s)(a:Vals ys its)(b:ys.length<=sizeLine) :
   Inv X pins σ (upd H s.heap.objs.size (.lst ys)) { s with heap:=s.heap.push { cls:=.type "list",data:=.seq its.toArray },toks:=t' } :=
 I.laid (λ_ _ q=>Qc _ q) (Qj _) ⟨b,its,0,a,Qm _ rfl⟩
theorem Inv.fresh (I:Inv X pins σ H s):H s.heap.objs.size=none:=I.hok.fresh (Qj _)
theorem Inv.lstM (I:Inv X pins σ H s) (b:H l=some (.lst xs)):xs.length<=sizeLine/\∃(a:List Value) (n:Nat),Vals xs a/\xs.length=a.length/\s.heap.get? l=some { cls:=.type "list",data:=.seq a.toArray n }:=by
 obtain⟨z,a,n,r,e⟩:=I.hok l _ b;exact⟨z,a,n,r,r.length,e⟩
theorem ya5 {n:Nat}(h:n<=sizeLine):Builtin.List.listTooLong n=false:=by
 unfold Builtin.List.listTooLong;exact Qf (by omega)
end
section
variable {X:Cx}
inductive zU4  (x:V)(vs:List V)(H:Hp)(Q:VK):Prop
 | mk (l xs y:_)(h0:x = .ref l)(h1:vs=[y])(h2:H l=some (.lst xs))(h3:xs.length<sizeLine)(h4:Q .non (upd H l (.lst (xs++[y])))):zU4  x vs H Q
def rAppend:V->List V->Hp->VK->Prop:=λx vs H Q=>zU4  x vs H Q
theorem zi0:MtM X "list.append" rAppend:=by
 intro g s p H x i v j Q I c d h;obtain⟨l,k,y,rfl,rfl,b,m,q⟩:=h;cases c;obtain⟨u,rfl,f⟩:=d.one;obtain⟨z,a,n,r,o,e⟩:=I.lstM b;refine ZI F.slot_list_append ⟨_,e,rfl⟩ F.entry_list_append (F.args_list_append_2 _ _) (PySem.list_append l a.toArray n u (by rw[Qn];omega)) ⟨e,?_⟩;refine⟨.non,_,I.lset (its':=a++[u]) b e (by simp) (r.append (.cons f .nil)) ?_,rfl,q⟩;rw[Qi,Zq];omega
def rExtend:V->List V->Hp->VK->Prop:=λx vs H Q=>∃l b xs zs,x = .ref l/\vs=[.ref b]/\H l=some (.lst xs)/\H b=some (.lst zs)/\xs.length+zs.length<=sizeLine/\Q .non (upd H l (.lst (xs++zs)))
theorem mt_extend:MtM X "list.extend" rExtend:=by
 intro w s K H x A v B Q I i j h;obtain⟨l,b,C,D,rfl,rfl,d,k,E,q⟩:=h;cases i;obtain⟨u,rfl,m⟩:=j.one;cases m;obtain⟨z,a,n,r,G,e⟩:=I.lstM d;obtain⟨J,c,o,p,y,t⟩:=I.lstM k;have g:a.toArray.size+c.toArray.size<=sizeLine:=by rw[Qn,Qn];omega
 have f:¬ (!a.toArray.isEmpty && Builtin.List.listTooLong (a.toArray.size+c.toArray.size))=true:=by
   rw[ya5 g,Bool.and_false];exact Qw
 refine ZI F.slot_list_extend ⟨_,e,rfl⟩ F.entry_list_extend (F.args_list_extend_2 _ _)
   (AutoSeq1.list_extend_list_list_0 l a.toArray n b c.toArray o f (by rw[Qn];omega) (by omega)) ⟨e,t,?_⟩
 refine⟨.non,_,I.lset (its':=a++c) d e (by simp) (r.append p) ?_,rfl,q⟩;rw[Qi];omega
def rPop:V->List V->Hp->VK->Prop:=λx vs H Q=>∃l xs y,x = .ref l/\vs=[]/\H l=some (.lst xs)/\xs[xs.length-1]?=some y/\Q y (upd H l (.lst xs.dropLast))
theorem mt_pop:MtM X "list.pop" rPop:=by
 intro o s A H x p v t Q I f g h;obtain⟨l,w,y,rfl,rfl,b,i,q⟩:=h;cases f;have c:=g.zero;subst c;obtain⟨z,a,n,r,j,e⟩:=I.lstM b;obtain⟨u,k,m⟩:=r.get i;have d:a.toArray[a.toArray.size-1]?=some u:=by
   show a.toArray[a.length-1]?=some u;rw[<-ZE,<-j];exact k
 refine ZI F.slot_list_pop ⟨_,e,rfl⟩ F.entry_list_pop (F.args_list_pop_1 _) (MeetsSeq.list_pop_last l a.toArray n u d (by rw[Qn];omega)) ⟨e,?_⟩;refine⟨y,_,I.lset (its':=a.dropLast) b e ?_ r.dropLast ?_,m,q⟩
 . show a.toArray.eraseIdxIfInBounds (a.toArray.size-1)=a.dropLast.toArray
   rw[Qn,List.eraseIdxIfInBounds_toArray,erase_last]
 . rw[List.length_dropLast]
   omega
def rReverse:V->List V->Hp->VK->Prop:=λx vs H Q=>∃l xs,x = .ref l/\vs=[]/\H l=some (.lst xs)/\Q .non (upd H l (.lst xs.reverse))
theorem mt_reverse:MtM X "list.reverse" rReverse:=by
 intro g s o H x i v j Q I d f h;obtain⟨l,k,rfl,rfl,b,q⟩:=h;cases d;have c:=f.zero;subst c;obtain⟨z,a,n,r,m,e⟩:=I.lstM b;refine ZI F.slot_list_reverse ⟨_,e,rfl⟩ F.entry_list_reverse (F.args_list_reverse_1 _) (AutoSeq1.list_reverse_list_0 l a.toArray n (by rw[Qn];omega)) ⟨e,?_⟩;refine⟨.non,_,I.lset (its':=a.reverse) b e (by simp) r.reverse ?_,rfl,q⟩;rw[Zw];omega
inductive ym2  (x:V)(y:V)(H:Hp)(Q:VK):Prop
 | mk (l b xs zs:_)(h0:x = .ref l)(h1:y = .ref b)(h2:H l=some (.lst xs))(h3:H b=some (.lst zs))(h4:xs.length+zs.length<=sizeLine)(h5:∀p,H p=none->Q (.ref p) (upd H p (.lst (xs++zs)))):ym2  x y H Q
def rCat:R2:=λx y H Q=>ym2  x y H Q
theorem ym3:OpR X (binaryOp .Add) rCat:=by
 intro o s E H x y v u Q I d f h;obtain⟨l,b,t,w,rfl,rfl,g,i,A,q⟩:=h;cases d;cases f;obtain⟨z,c,n,r,B,e⟩:=I.lstM g;obtain⟨C,a,D,j,p,k⟩:=I.lstM i;refine PySem.P.add_list e k ?_ (by rw[Qn,Qn];omega);have m:c.toArray++a.toArray=(c++a).toArray:=by simp
 rw[m];exact⟨.ref _,_,I.lnew (t':=s.toks) (r.append j) (by rw[Qi];omega),rfl,q _ I.fresh⟩
def rRep:R2:=λx y H Q=>∃l k xs,x = .ref l/\y = .int k/\H l=some (.lst xs)/\-(2 ^ 63)<=k/\k<2 ^ 63/\xs.length*k.toNat<=sizeLine ∧
 ∀p,H p=none->Q (.ref p) (upd H p (.lst (List.replicate k.toNat xs).flatten))
theorem zX8 {b:Type}(xs:List b)(k:Nat):(List.replicate k xs).flatten.length=k*xs.length:=by
 induction k with
 | zero=>simp
 | succ k a=>rw[ZB,List.flatten_cons,Qi,a,Nat.succ_mul,Nat.add_comm]
theorem zX9:OpR X (binaryOp .Mult) rRep:=by
 intro K s N H x y v u Q I w A h;obtain⟨l,k,L,rfl,rfl,B,C,D,f,q⟩:=h;cases w;obtain⟨t,rfl⟩:=A;obtain⟨z,b,n,r,E,e⟩:=I.lstM B;have i:b.toArray.size*k.toNat<=sizeLine:=by rw[Qn,<-E];exact f
 have j:¬ b.toArray.size*k.toNat>(2 ^ 63-1) / 8:=by
   have:(sizeLine:Nat)<=(2 ^ 63-1) / 8:=by decide
   omega
 have o:¬ (!Builtin.List.listFitsIndex k)=true:=by
   rw[fitsIndex_both C D];exact Qw
 have g:¬ Builtin.List.listTooLong (b.toArray.size*k.toNat)=true:=by
   rw[ya5 i];exact Qw
 have p:List.foldl (λc d=>c++d) #[] (List.replicate (if b.toArray.isEmpty=true then 0 else k.toNat) b.toArray)=(List.replicate k.toNat b).flatten.toArray:=by
   have G:∀m:Nat,List.foldl (λc d=>c++d) #[] (List.replicate m b.toArray)=(List.replicate m b).flatten.toArray:=λm=>by
     have:=zU3 b m [];rw[List.nil_append] at this;exact this
   rw[G];cases b with
   | nil=>simp
   | cons a M=>rw[Qh (by simp)]
 refine wpAny_binaryOp_repeat_ref (T:="list") (U:="int") (by decide) ⟨_,e,rfl⟩ (λJ=>typeIs_int J k t) noFill_list_mul F.fills_int_mul F.slot_int_rmul repeat_list F.slot_int_index.lookup
   (ZI F.slot_int_rmul (typeIs_int s k t) F.entry_int_rmul (F.args_int_rmul_2 _ _) (int___rmul___int_list k t l b.toArray n)
     ⟨e,rfl,⟨_,e,rfl⟩,ZI F.slot_list_mul ⟨_,e,rfl⟩ F.entry_list_mul (F.args_list_mul_2 _ _) (AutoListH.list___mul___list_int_3 l b.toArray n k t o j g) ⟨e,?_⟩⟩)
 rw[p];exact⟨.ref _,_,I.lnew (t':=s.toks) (r.rep k.toNat) (by rw[zX8,Nat.mul_comm];exact f),rfl,q _ I.fresh⟩
end
section
variable {prog:Program} {w:World} {A:Around} {E:VP} {s:Shared}
end
section
variable {X:Cx}
end
end L2
namespace Att
open PySem PySem.W PySem.Calls PyProof.Rows
theorem ints_of_wellAll {P:Params}{h:Heap}:∀(c:List Int) (d:List Value),WellAll P h d (c.map WData.int)->IntsAre d c:=by
 intro c
 induction c with
 | nil =>
   intro d w;rw[List.map_nil] at w;cases w;exact .nil
 | cons n c e =>
   intro d w;rw[Qv] at w;cases w with
   | cons a b =>
     cases a;exact .cons _ _ (e _ b)
theorem script_of {l:OpenLaw}{n:Nat}(s:l.most=some n){P:Params}{h:Heap}{args:List WData}{f:List Value}
   (g:l.row.toRowW.claim.pre args=true) (o:WellAll P h f args) :
   ∃a i b,f=[Value.ref a]/\args=[WData.list (b.map WData.int)]/\h.get? a=some { cls:=.type "list",data:=.seq i.toArray }/\IntsAre i b/\b.length<=n:=by
 have p:WShape.hasAll [] args [.list .int]=true:=(pre_splitW g).1;have j:l.pre.holds [] { args:=args }=true:=(pre_splitW g).2;obtain⟨d,r,rfl,t,u⟩:=hasAllW_cons p;obtain rfl:=hasAllW_nil u;obtain⟨A,rfl,v⟩:=hasW_list t;obtain⟨b,rfl⟩:=items_int v;have k:b.length<=n:=by
   unfold OpenLaw.pre at j;have c:(WTm.not (.lt (.lit (.int (n:Int))) (.len (.arg 0)))).holds [] { args:=[.list (b.map .int)] }=true:=by
     have c:=(holds_andW j).1;rw[s] at c;exact c
   have e:=condW_of c (w_not (w_lt w_lit (w_len_list (w_arg rfl))));rw[Qa] at e;refine Nat.le_of_not_lt λq=>?_
   have w:(n:Int)<((b.length:Nat):Int):=by omega
   first
     | (rw[Qg w] at e;exact absurd e (by decide))
     | (simp at e;omega)
 cases o with
 | cons x y =>
   cases y;cases x with
   | list z m=>exact⟨_,_,b,rfl,rfl,z,ints_of_wellAll b _ m,k⟩
theorem post_true (l:OpenLaw)(args:List WData):l.row.toRowW.claim.post args (.bool true) args=true :=
 postW_of (r:=l.row.toRowW) (X:=(true == true))
   (show WShape.has [] (.bool true) .bool=true by first | rfl | decide | simp[WShape.has,WShape.arms,WShape.armsAll])
   (show(WTm.eq .res (.lit (.bool true))).value [] { args:=args,res:=some (.bool true),after:=args }=some (.bool (true == true)) from w_eq_bool (w_res rfl) w_lit) rfl
theorem attach_call {l:OpenLaw}{n:Nat}{q:Program}{t:List Str}{u:(Str->Option Value)->Heap->Prop}{v:World->Heap->Prop}{d:DefRec}
   (H:l.most=some n) (C:d.params.defaults=[])
   (call:∀(w:World) (m b:Shared) (g p:Str->Option Value) (e:Addr) (o:Obj) (s h k:Value) (a:Addr) (c:List Value) (i:List Int),
     Ground q t [] u w m g p b.heap->v w b.heap →
     b.heap.get? e=some o->o.data = .func (docDef d.name d.params d.body d.scope s h k)->b.heap.CodeRec h d.name->g d.name=some (.ref e) →
     b.heap.get? a=some { cls:=.type "list",data:=.seq c.toArray }->IntsAre c i->i.length<=n->b.gens = #[] →
     codeAny (model l.prog w) callerA (.call (.ref e) ⟨[.ref a],[]⟩) (λr j=>r = .ok (.ret (.bool true))/\OldK b.heap j.heap/\j.os=b.os/\AllBare j.gens) b) :
   WalkO q t u v l.row.toRowW d [] (λf c=>PySem.call f c):=by
 intro w m b g p G Y e o s h k I kV J K D x E L R S W z T U F V;obtain rfl:I = .none:=Dflts.none x C;obtain rfl:kV = .none:=Dflts.noKw x;obtain⟨a,c,i,rfl,rfl,A,y,B⟩:=script_of H z F;refine enter_call (codeAny_mono (call w m b g p e o s h k a c i G Y J (fd_plain K) D E A y B L) λr j M=>?_);obtain⟨rfl,N,O,P⟩:=M;exact⟨.inl ⟨.bool true,.bool true,[],rfl,λ_=>rfl,.bool true,post_true l _,λ_=>⟨List.Pairwise.nil,λ_ Q=>(nomatch Q)⟩⟩,N,O,P⟩
section
variable {prog:Program} {w:World} {A:Around} {E:VP} {s:Shared} {K:Frag}
end
end Att
namespace L2
open PySem PySem.Spec PyProof.Rows
theorem zJ3:∀ {a:List Value} {b:List Int},IntsAre a b->Vals (b.map V.int) a
 | _,_,.nil=>.nil
 | _,_,.cons n t h=>.cons ⟨t,rfl⟩ (zJ3 h)
def Only (H:Hp):Prop:=∀b,H b=none\/∃o xs,H b=some (.frz o (.lst xs))
theorem law_call {P:Program}{w:World}{K:W.Frag}{i y:Str->Option Value}{CX:CXT}{k:Nat}{A a:Addr}{fd:FuncData}{x:Str}{sp:Sp}{c:Shared}{vs:List Value}{ns:List Int}
   (J:K.In c.heap) (F:c.heap.Ns mainGlobals i) (f:c.heap.Ns builtinsNs y) (Z:∀x:Str,x≠"__name__"->y x=bootBuiltins x) (T:c.heap.NoLimit) (hg:c.gens = #[])
   (s:c.heap.get? a=some { cls:=.type "list",data:=.seq vs.toArray }) (L:IntsAre vs ns) (M:ns.length<=sizeLine) (hr:Room k callerA)
   (a3:∀t:Heap,K.In t->t.Ns mainGlobals i->FnOk P w K i t CX k A fd [x] sp) (S:∀(a4:Shared) (u:Value),BindsTo a4 fd ⟨[u],[]⟩ [(x,u)])
   (a0:∀H:Hp,Only H->SqL K H a (ns.map V.int)->sp [.ref a] H (λv _=>v = .bl true) λ_ _ _=>False)
   (a1:∀H e g,CX [] H c (λ_ _ _=>False) e g->False) :
   codeAny (model P w) callerA (.call (.ref A) ⟨[.ref a],[]⟩) (λr g=>r = .ok (.ret (.bool true))/\OldK c.heap g.heap/\g.os=c.os/\AllBare g.gens) c:=by
 have N:=zJ3 L;have U:=L.length
 have E:∀H:Hp,Only H->SqL K H a (ns.map V.int)->HOk P w H c.heap->(∀b,H b≠none->b=a)->(H a≠none->K.lookup a=none) →
     codeAny (model P w) callerA (.call (.ref A) ⟨[.ref a],[]⟩) (λr g=>r = .ok (.ret (.bool true))/\OldK c.heap g.heap/\g.os=c.os/\AllBare g.gens) c:=by
   intro H O hS G Q hK;have D:∀ {b:Addr} {o:Obj},c.heap.get? b=some o->H b=none->(hidT c.heap H).get? b=some o:=λe a5=>hidT_get e a5
   have a2:∀ {b:Addr} {o:Obj} {j:Array DictEntry} {l:Nat},c.heap.get? b=some o->o.data = .dict j l->H b=none:=λ{b o j l} e d=>by
     cases q:H b with
     | none=>rfl
     | some u =>
       have B:b=a:=Q b (by rw[q];simp);subst B;rw[s] at e;cases e;have d':Data.seq vs.toArray _=Data.dict j l:=d;cases d'
   have p:∀ {b:Addr} {m:Str->Option Value},c.heap.Ns b m->(hidT c.heap H).Ns b m:=λ{b m} ⟨o,j,l,e,d,r⟩=>⟨o,j,l,D e (a2 e d),d,r⟩
   have I:K.In (hidT c.heap H):=λb o e=>D (J b o e) (by
     cases q:H b with
     | none=>rfl
     | some u =>
       have B:b=a:=Q b (by rw[q];simp);subst B;rw[hK (by rw[q];simp)] at e;cases e)
   have hM:Mod K i (hidT c.heap H):=⟨I,p F,⟨y,p f,Z⟩,let⟨mc,h1,h2⟩:=T;⟨mc,p h1,h2⟩⟩;have e0:Env0 P w K i (hidT c.heap H) callerA [] c H:=⟨rfl,hM,λb o e=>of_hidT e,Nat.le_of_eq (hidT_size _ _),trivial,λb f=>absurd (show b∈([]:List Addr) from f) (by simp),G,.of_eq hg⟩;refine codeAny_mono ((a3 _ I (p F)).run callerA [] c H ⟨[.ref a],[]⟩ [.ref a] [.ref a] _ _ hr e0 (S c (.ref a)) (.cons rfl .nil) (a0 H O hS)) λr g h=>?_
   cases r with
   | error e=>exact(a1 H e g h).elim
   | ok fl =>
     cases fl with
     | next=>exact False.elim h
     | brk=>exact False.elim h
     | cont=>exact False.elim h
     | ret u =>
       obtain⟨v,H',os,X,un,Y,r',q⟩:=h;have q':v = .bl true:=q;subst q';obtain rfl:u=Value.bool true:=r';refine⟨rfl,OldK.of_keep λb o e=>?_,os,X⟩;cases q:H b with
       | none=>exact un.keep b o e q (by intro z;exact absurd (show b∈([]:List Addr) from z) (by simp)) (by simp)
       | some u =>
         rcases O b with z | ⟨ob,xs,z⟩
         . rw[q] at z;cases z
         . have z2:=un.frzs b ob _ z
           obtain⟨R,_⟩:=G b _ z;obtain⟨e2,_⟩:=Y b _ z2;rw[e] at R;cases R;exact e2
 cases C:K.lookup a with
 | some o =>
   have e:=J a o C;rw[s] at e;cases e;refine E (λ_=>none) (λ_=>.inl rfl) (.inr ⟨_,vs.toArray,_,C,rfl,rfl,rfl,by rw[Qn,U];exact M,by simpa using N⟩) (λb u z=>by have n:(none:Option HO)=some u:=z;cases n) (λb z=>absurd rfl z) λz=>absurd rfl z
 | none =>
   refine E (λb=>if b=a then some (.frz { cls:=.type "list",data:=.seq vs.toArray } (.lst (ns.map V.int))) else none) (λb=>?_) (.inl (.inr ⟨{ cls:=.type "list",data:=.seq vs.toArray },Qo rfl⟩)) (λb u z=>?_) (λb z=>?_) λ_=>C
   . by_cases f:b=a
     . exact .inr ⟨_,_,Qo f⟩
     . exact .inl (Qh f)
   . by_cases f:b=a
     . have n:=(Qo f).symm.trans z
       cases n;subst f;exact⟨s,by rw[Qa];exact M,vs,_,N,s⟩
     . have n:=(Qh f).symm.trans z
       cases n
   . by_cases f:b=a
     . exact f
     . exact absurd (Qh f) z
theorem walk_of {l:W.OpenLaw}{n k:Nat}{q:Program}{y:List Str}{J:(Str->Option Value)->Heap->Prop}{p:World->Heap->Prop}{d:DefRec}{K:Params->W.Frag}{CX:World->CXT}{sp:World->Sp}{x:Str}
   (L:l.most=some n) (B:n<=sizeLine) (C:d.params.defaults=[]) (M:Room k callerA)
   (N:∀(w:World) (h:Heap),p w h->(K w.params).In h)
   (F:∀(w:World) (b:Str->Option Value) (c:Addr) (h:Heap),(K w.params).In h->h.Ns mainGlobals b->b d.name=some (.ref c) →
     ∃j:FuncData,(∀(s:Shared) (u:Value),BindsTo s j ⟨[u],[]⟩ [(x,u)]) ∧
       ∀i:Heap,(K w.params).In i->i.Ns mainGlobals b->FnOk l.prog w (K w.params) b i (CX w) k c j [x] (sp w))
   (D:∀(w:World) (H:Hp) (a:Addr) (g:List Int),g.length<=n->Only H->SqL (K w.params) H a (g.map V.int)->sp w [.ref a] H (λv _=>v = .bl true) λ_ _ _=>False)
   (E:∀(w:World) (H:Hp) (s:Shared) (e:Value) (m:Shared),CX w [] H s (λ_ _ _=>False) e m->False) :
   W.WalkO q y J p l.row.toRowW d [] (λf r=>PySem.call f r):=by
 refine Att.attach_call L C λw Z O b mb c a0 pm cd U a r g G Y ho hd X I A z o P=>?_
 have t:=N w _ Y;obtain⟨j,Q,R⟩:=F w b c _ t G.T.g I;exact law_call t G.T.g G.T.b G.T.builtins G.T.nolimit P A z (QJ o B) M R Q (λH S T=>D w H a g o S T) λH e m=>E w H O e m
noncomputable def zo9 (s:Stmt)(j:Nat):Stmt:=match s with
 | .ClassDef _ _ _ body _ _ _ _ _ _ _=>body.getD j (.Pass ⟨0,0,0,0⟩)
 | _=>.Pass ⟨0,0,0,0⟩
noncomputable def zh6 (s:Stmt):Arguments:=match s with
 | .FunctionDef _ a _ _ _ _ _ _ _ _=>a
 | _=>{ posonlyargs:=[],args:=[],vararg:=none,kwonlyargs:=[],kw_defaults:=[],kwarg:=none,defaults:=[] }
noncomputable def zd2 (s:Stmt):List Stmt:=match s with
 | .FunctionDef _ _ b _ _ _ _ _ _ _=>b
 | _=>[]
noncomputable def za7 (s:Stmt):Scope:=match s with
 | .FunctionDef _ _ _ _ _ _ sc _ _ _=>sc
 | _=>{ kind:=.function,names:=[],isGenerator:=false,isCoroutine:=false }
abbrev CX0:CXT:=λ_ _ _ _ _ _=>False
abbrev E0:XK:=λ_ _ _=>False
theorem zb1 {X:Cx}:zo5 CX0 X E0:=λ_ _ _ _ _ _ _ h=>h.elim
structure Fun (K:W.Frag)(x qual:Str)(st:Stmt)(f:Addr)(fd:FuncData):Prop where
 ex:∃(oc:Value) (od:Option Addr) (kV doc pm:Value) (an:Option Addr) (cdv ct:Value) (osl:Array (Option Value)),
   fd=W.fnOf x qual (zh6 st) (zd2 st) (za7 st) .none kV doc pm an cdv ct/\K.lookup f=some ⟨oc,od,.func fd,osl⟩/\W.codeIn K cdv qual=true
 kp:W.keepIn K (.ref f)=true
section
variable {P:Program} {w:World} {K:W.Frag} {mg:Str->Option Value} {base:Heap}
theorem Fun.ok {x d:Str}{st:Stmt}{f:Addr}{fd:FuncData}{N ps:List Str}{k:Nat}{sp:Sp}(F:Fun K x d st f fd)(S:zb6 N ps (za7 st))(len:∀a H Q E,sp a H Q E->a.length=ps.length)
   (e:∀(b:Value) (A:Around) (c:List Env) (s:Shared) (H:Hp) (a:List V) (Q:VK) (E:XK),Room k (A.deeper (envOfC d (za7 st) s.heap.objs.size f b))->sp a H Q E →
     ∃t,PSs (cxOf CX0 P w K mg base N d (za7 st) f b A c s H E).nox (zd2 st) t/\t { nx:=λ_ j=>Q .non j,rt:=Q } (start N a) H):FnOk P w K mg base CX0 (k+1) f fd ps sp:=by
 obtain⟨p,r,kV,n,u,v,b,y,o,rfl,l,g⟩:=F.ex;refine yl5 l g S len λA c s H a Q E m i=>?_
 obtain⟨t,h,q⟩:=e b A c s H a Q E m i;exact⟨t,h.nox,q⟩
theorem Fun.binds {x i:Str}{st:Stmt}{f:Addr}{fd:FuncData}{ps:List Str}(F:Fun K x i st f fd)
   (h:∀(kV a c:Value) (d:Option Addr) (b e:Value) (g:List Value),g.length=ps.length->bindArgs (W.fnOf x i (zh6 st) (zd2 st) (za7 st) .none kV a c d b e) ⟨g,[]⟩=pure (ps.zip g)):zk9 K fd ps []:=by
 obtain⟨l,m,kV,a,c,d,b,e,j,rfl,n,k⟩:=F.ex;exact .all (h kV a c d b e)
theorem zO1 {x a:Str}{st:Stmt}{f:Addr}{j:Value}{m e:Option Addr}{i:Array (Option Value)}{kV d g b h:Value}(l:K.lookup f=some ⟨j,m,.func (W.fnOf x a (zh6 st) (zd2 st) (za7 st) .none kV d g e b h),i⟩)
 (c:W.codeIn K b a=true) (k:W.keepIn K (.ref f)=true):Fun K x a st f (W.fnOf x a (zh6 st) (zd2 st) (za7 st) .none kV d g e b h):=⟨⟨j,m,kV,d,g,e,b,h,i,rfl,l,c⟩,k⟩
end
theorem zD8 {A:Around}{k:Nat}(a:Room k A):A.units+1<cLine:=Nat.lt_of_le_of_lt (Nat.add_le_add_left (by decide:1<=64) _) a.units
theorem zc5 {n:Nat}(h:n<=1000):n<sizeLine:=Nat.lt_of_le_of_lt h (by decide)
section
variable {X:Cx}
theorem pv (i:Nat) {x:Str} {a:Pos} (c:X.N[i]?=some x:=by rfl) (d:Vis X.env.scope x:=by first | exact Or.inl rfl | exact Or.inr (Or.inl rfl) | exact Or.inr (Or.inr rfl)) (e:(x == ("__debug__" : Str))=false:=by decide)
 (b:(x == ("__classdict__" : Str))=false:=by decide):PE X (.Name x a) (tVar i):=pe_var c d e b
end
theorem iteF {A B:Prop}(h:B):if false=true then A else B:=by
 rw[Qh Qw];exact h
theorem iteT {A B:Prop}(h:A):if true=true then A else B:=by
 rw[Qo rfl];exact h
theorem ite2 {c A B:Prop}[Decidable c](a:c->A)(b:¬ c->B):if c then A else B:=by
 by_cases h:c
 . rw[Qo h]
   exact a h
 . rw[Qh h]
   exact b h
def Same (H H':Hp):Prop:=∀b o,H b=some o->H' b=some o
theorem Same.refl (H:Hp):Same H H:=λ_ _ h=>h
theorem Same.trans {H d e:Hp}(a:Same H d)(b:Same d e):Same H e:=λc o h=>b c o (a c o h)
theorem Same.free {H H':Hp}(e:Same H H'){l:Addr}(h:H' l=Option.none):H l=Option.none:=by
 cases q:H l with
 | none=>rfl
 | some o =>
   rw[e l o q] at h;cases h
theorem Same.seq {K:W.Frag}{H H':Hp}{a:Addr}{xs:List V}(e:Same H H')(h:SqL K H a xs):SqL K H' a xs:=by
 rcases h with(h | ⟨o,h⟩) | h
 . exact .inl (.inl (e _ _ h))
 . exact .inl (.inr ⟨o,e _ _ h⟩)
 . exact .inr h
theorem cut3 {a b c:TS}{D:Ends}{d:St}{H:Hp}(h:let e:=c;let f:=tSeq b e;tSeq a f D d H):(tSeq a (tSeq b (c))) D d H:=h
theorem cut4 {a b c d:TS}{D:Ends}{e:St}{H:Hp}(h:let f:=d;let g:=tSeq c f;let i:=tSeq b g;tSeq a i D e H):(tSeq a (tSeq b (tSeq c (d)))) D e H:=h
theorem cut5 {a b c d e:TS}{D:Ends}{f:St}{H:Hp}(h:let g:=e;let i:=tSeq d g;let j:=tSeq c i;let k:=tSeq b j;tSeq a k D f H):(tSeq a (tSeq b (tSeq c (tSeq d (e))))) D f H:=h
theorem cut6 {a b c d e f:TS}{D:Ends}{g:St}{H:Hp}(h:let i:=f;let j:=tSeq e i;let k:=tSeq d j;let l:=tSeq c k;let m:=tSeq b l;tSeq a m D g H):(tSeq a (tSeq b (tSeq c (tSeq d (tSeq e (f)))))) D g H:=h
theorem cut7 {a b c d e f g:TS}{D:Ends}{i:St}{H:Hp}(h:let j:=g;let k:=tSeq f j;let l:=tSeq e k;let m:=tSeq d l;let n:=tSeq c m;let o:=tSeq b n;tSeq a o D i H):(tSeq a (tSeq b (tSeq c (tSeq d (tSeq e (tSeq f (g))))))) D i H:=h
theorem cut8 {a b c d e f g i:TS}{D:Ends}{j:St}{H:Hp}(h:let k:=i;let l:=tSeq g k;let m:=tSeq f l;let n:=tSeq e m;let o:=tSeq d n;let p:=tSeq c o;let q:=tSeq b p;tSeq a q D j H):(tSeq a (tSeq b (tSeq c (tSeq d (tSeq e (tSeq f (tSeq g (i)))))))) D j H:=h
theorem cut9 {a b c d e f g i j:TS}{D:Ends}{k:St}{H:Hp}(h:let l:=j;let m:=tSeq i l;let n:=tSeq g m;let o:=tSeq f n;let p:=tSeq e o;let q:=tSeq d p;let r:=tSeq c q;let s:=tSeq b r;tSeq a s D k H):(tSeq a (tSeq b (tSeq c (tSeq d (tSeq e (tSeq f (tSeq g (tSeq i (j))))))))) D k H:=h
theorem cut10 {b c d e f g i j k a:TS}{D:Ends}{l:St}{H:Hp}(h:let m:=a;let n:=tSeq k m;let o:=tSeq j n;let p:=tSeq i o;let q:=tSeq g p;let r:=tSeq f q;let s:=tSeq e r;let t:=tSeq d s;let u:=tSeq c t;tSeq b u D l H):(tSeq b (tSeq c (tSeq d (tSeq e (tSeq f (tSeq g (tSeq i (tSeq j (tSeq k (a)))))))))) D l H:=h
theorem cut12 {d e f g i j k l m a b c:TS}{D:Ends}{n:St}{H:Hp}(h:let o:=c;let p:=tSeq b o;let q:=tSeq a p;let r:=tSeq m q;let s:=tSeq l r;let t:=tSeq k s;let u:=tSeq j t;let v:=tSeq i u;let w:=tSeq g v;let x:=tSeq f w;let y:=tSeq e x;tSeq d y D n H):(tSeq d (tSeq e (tSeq f (tSeq g (tSeq i (tSeq j (tSeq k (tSeq l (tSeq m (tSeq a (tSeq b (c)))))))))))) D n H:=h
end L2
namespace L2
inductive X1 {α:Type}(p:α->Prop):Prop | mk (a:α) (h:p a)
inductive X2 {α β:Type}(p:α->β->Prop):Prop | mk (a:α) (b:β) (h:p a b)
inductive X3 {α β γ:Type}(p:α->β->γ->Prop):Prop | mk (a:α) (b:β) (c:γ) (h:p a b c)
inductive X4 {α β γ δ:Type}(p:α->β->γ->δ->Prop):Prop | mk (a:α) (b:β) (c:γ) (d:δ) (h:p a b c d)
inductive X5 {α β γ δ ε:Type}(p:α->β->γ->δ->ε->Prop):Prop | mk (a:α) (b:β) (c:γ) (d:δ) (e:ε) (h:p a b c d e)
inductive A2 (p q:Prop):Prop | mk (h0:p) (h1:q)
inductive A3 (p q r:Prop):Prop | mk (h0:p) (h1:q) (h2:r)
inductive A4 (p q r s:Prop):Prop | mk (h0:p) (h1:q) (h2:r) (h3:s)
inductive A5 (p q r s t:Prop):Prop | mk (h0:p) (h1:q) (h2:r) (h3:s) (h4:t)
inductive A6 (p q r s t u:Prop):Prop | mk (h0:p) (h1:q) (h2:r) (h3:s) (h4:t) (h5:u)
end L2
namespace L2
open PySem PySem.Spec PyProof.Rows
section
variable {prog:Program} {w:World} {A:Around} {R:Result->Shared->Prop} {s:Shared}
theorem compLoop_go {e b k:Expr}{f:List Expr}{scope:Scope}{l:Pos}{d g:Value}{env:Env}(I:Nat->Shared->Prop)
   (z:∀n s,I n s->wpAny (model prog w) A (pyNext d) (λr i=>match r with
     | none=>R (.ok .next) i
     | some v=>wpAny (model prog w) A (letOwnedTupleGo b d v) (λ_ o=>wpAny (model prog w) A (assign b env v) (λ_ p =>
         wpAny (model prog w) A (forIn f true λc r=>if r=true then do let ok <-isTrue c env (eval c env);pure (ForInStep.yield ok) else pure (ForInStep.yield r)) (λok j =>
           if ok=true then wpAny (model prog w) A (eval e env) (λx q =>
             wpAny (model prog w) A (call (.builtin "list.append") [g,x]) (λ_ t=>∃m,m<n/\I m t) (λ_ _=>False) q) (λ_ _=>False) j
           else ∃m,m<n/\I m j) (λ_ _=>False) p) (λ_ _=>False) o) (λ_ _=>False) i) (λ_ _=>False) s)
   (n:Nat) (h:I n s) :
   codeAny (model prog w) A (.compLoop (.ListComp e [⟨b,k,f,0⟩] scope l) 0 d g env) R s:=by
 refine codeAny_loop rfl I (λn s C=>?_) n h;show wpAny _ A ((compTurn (.ListComp e [⟨b,k,f,0⟩] scope l) 0 d g env).onRaise (λx=>do noteFrame x env;theTreesLotGoes x)) _ _ s;refine wpAny_noted ?_;rw[compTurn_list];refine Qb (wpAny_standAt (Qb (Zg (z n s C) (λr i u=>?_) λ_ _ a=>a.elim)));cases r with
 | none=>exact Qd u
 | some v =>
   refine Qb (Zg u (λ_ o B=>?_) λ_ _ a=>a.elim);refine Qb (Zg B (λ_ p D=>Qb (Zg D (λok j y=>?_) λ_ _ a=>a.elim)) λ_ _ a=>a.elim);cases ok with
   | false=>exact Qd ⟨rfl,y⟩
   | true=>exact Qb (Qb (Zg y (λx q E=>Qb (Zg E (λ_ t F=>Qd (Qd ⟨rfl,F⟩)) λ_ _ a=>a.elim)) λ_ _ a=>a.elim))
end
abbrev P0{X:Cx}:=@pv X 0
abbrev P1{X:Cx}:=@pv X 1
abbrev P2{X:Cx}:=@pv X 2
abbrev P3{X:Cx}:=@pv X 3
abbrev P6{X:Cx}:=@pv X 6
abbrev P9{X:Cx}:=@pv X 9
abbrev P10{X:Cx}:=@pv X 10
abbrev P11{X:Cx}:=@pv X 11
theorem zO2 {scope:Scope}{env:Env}(h:∀y∈scope.names,y.2 = .free->∃c,env.cells.lookup y.1=some c) :
   ∃b,closureFor scope env=pure b/\(∀x c,b.lookup x=some c->env.cells.lookup x=some c)/\∀y∈scope.names,y.2 = .free->∃c,b.lookup y.1=some c:=by
 have all:∀(j:List (Str×NameKind)) (d:List (Str×Addr)) (f:Str×NameKind->List (Str×Addr)->Sem (ForInStep (List (Str×Addr)))),
     (∀n k c,f (n,k) c=if k == .free then(do let a <-cellOf env n;pure (.yield ((n,a)::c))) else pure (.yield c)) →
     (∀y∈j,y.2 = .free->∃c,env.cells.lookup y.1=some c)->(∀x c,d.lookup x=some c->env.cells.lookup x=some c) →
     ∃b,forIn j d f=pure b/\(∀x c,b.lookup x=some c->env.cells.lookup x=some c)/\(∀x c,d.lookup x=some c->∃l,b.lookup x=some l)/\∀y∈j,y.2 = .free->∃c,b.lookup y.1=some c:=by
   intro j
   induction j with
   | nil=>intro d f _ _ v;exact⟨d,by rw[List.forIn_nil],v,λx c e=>⟨c,e⟩,λy m=>nomatch m⟩
   | cons y r A =>
     intro d f o m v;obtain⟨n,k⟩:=y;rw[List.forIn_cons,o];by_cases p:k = .free
     . subst p
       obtain⟨c,C⟩:=m (n,.free) QF rfl;have w:env.cells.lookup n=some c:=C;have D:cellOf env n=pure c:=by unfold cellOf;rw[w]
       rw[Qo (by decide),D,pure_bind,pure_bind];obtain⟨b,e,q,s,t⟩:=A ((n,c)::d) f o (λy g=>m y (Qu _ g)) (λx l e=>by
         rw[Zh] at e;cases i:x == n with
         | true=>rw[i] at e;cases e;rw[eq_of_beq i];exact w
         | false=>rw[i] at e;exact v x l e)
       refine⟨b,e,q,λx l E=>?_,λy g u=>?_⟩
       . cases i:x == n with
         | true=>exact s x c (by rw[Zh,i])
         | false=>exact s x l (by rw[Zh,i];exact E)
       . rcases Qq.mp g with z | z
         . subst z;exact s n c (by rw[Zh];simp)
         . exact t y z u
     . have F:(k == NameKind.free)=false:=by simpa using p
       rw[F];rw[Qh (by decide),pure_bind];obtain⟨b,e,q,s,t⟩:=A d f o (λy g=>m y (Qu _ g)) v;refine⟨b,e,q,s,λy g u=>?_⟩;rcases Qq.mp g with z | z
       . subst z;exact absurd u p
       . exact t y z u
 have B:∀f:Str×NameKind->List (Str×Addr)->Sem (ForInStep (List (Str×Addr))),
     (∀n k c,f (n,k) c=if k == .free then(do let a <-cellOf env n;pure (.yield ((n,a)::c))) else pure (.yield c)) →
     ∃b,(forIn scope.names [] f >>= λr=>pure r)=pure b/\(∀x c,b.lookup x=some c->env.cells.lookup x=some c)/\∀y∈scope.names,y.2 = .free->∃c,b.lookup y.1=some c:=λf o=>by
   obtain⟨b,e,q,_,t⟩:=all scope.names [] f o h (λx c e=>by cases e);exact⟨b,by rw[e,pure_bind],q,t⟩
 unfold closureFor
 exact B _ (λn k c=>by cases p:k == NameKind.free<;>simp[p])
noncomputable def Cx.comp (X:Cx)(scope:Scope)(cl:List (Str×Addr))(C:Addr)(N':List Str)(s0:Shared)(H0:Hp)(fp:List Addr):Cx :=
 { X with N:=N',s₀:=s0,H₀:=H0,env:=compEnvC scope cl C X.env,outer:=X.stack,ex:=fp,fn:=λ_=>false,pn:=[],xe:=λ_ _=>False }
noncomputable def selS (ix:List (Option Nat))(σ:St):St:=ix.map λo=>o.bind λj=>(σ[j]?).join
structure zd8 (ON:List Str)(osc scope:Scope)(N':List Str)(ix:List (Option Nat)):Prop where
 kind:scope.kind = .function
 nocell:∀y∈scope.names,y.2≠.cell
 names:∀y∈scope.names,y.2 = .local->scope.names.lookup y.1=some .local
 frees:∀y∈scope.names,y.2 = .free->osc.names.lookup y.1=some .cell
 len:ix.length=N'.length
 nd:N'.Nodup
 chk:((ix.zip N').all λp=>match p.1 with | none=>true | some j=>decide (ON[j]?=some p.2) && decide (scope.names.lookup p.2=some .free))=true
theorem zd8.sel {b:List Str}{c scope:Scope}{a:List Str}{ix:List (Option Nat)}(S:zd8 b c scope a ix)(i j:Nat)(x:Str)(d:ix[i]?=some (some j))(e:a[i]?=some x):b[j]?=some x/\scope.names.lookup x=some .free:=by
 have f:(ix.zip a)[i]?=some (some j,x):=by rw[List.getElem?_zip_eq_some];exact⟨d,e⟩
 have:=List.all_eq_true.mp S.chk _ (Qt f);simp only[Bool.and_eq_true,decide_eq_true_eq] at this;exact this
theorem zF6 {env:Env}:∀ {c:List (Str×NameKind)} {x:Str},c.lookup x=some .free →
   ((c.map λ(n,k)=>if (k == NameKind.free && env.scope.kind == .function && env.kindOf n == some .cell) then(n,NameKind.cell) else(n,k)).lookup x=some .cell ∨
    (c.map λ(n,k)=>if (k == NameKind.free && env.scope.kind == .function && env.kindOf n == some .cell) then(n,NameKind.cell) else(n,k)).lookup x=some .free)
 | [],_,h=>by simp at h
 | (n,k)::r,x,h=>by
   have f:=@zF6 env r x;rw[Qv];cases a:x == n with
   | true =>
     rw[Zh,a] at h;cases h;by_cases b:(NameKind.free == NameKind.free && env.scope.kind == .function && env.kindOf n == some .cell)=true
     . left;simp only[b,if_true,Zh,a]
     . right
       have d:(NameKind.free == NameKind.free && env.scope.kind == .function && env.kindOf n == some .cell)=false:=by simpa using b
       simp only[d,Zk,if_false,Zh,a]
   | false =>
     rw[Zh,a] at h;have e:=f h;by_cases b:(k == NameKind.free && env.scope.kind == .function && env.kindOf n == some .cell)=true
     . simp only[b,if_true,Zh,a];exact e
     . have d:(k == NameKind.free && env.scope.kind == .function && env.kindOf n == some .cell)=false:=by simpa using b
       simp only[d,Zk,if_false,Zh,a];exact e
theorem zF7 {env:Env}:∀ {c:List (Str×NameKind)} {x:Str},(∀y∈c,y.2≠.cell) →
   ((c.map λ(n,k)=>if (k == NameKind.free && env.scope.kind == .function && env.kindOf n == some .cell) then(n,NameKind.cell) else(n,k)).lookup x=some .cell ∨
    (c.map λ(n,k)=>if (k == NameKind.free && env.scope.kind == .function && env.kindOf n == some .cell) then(n,NameKind.cell) else(n,k)).lookup x=some .free)->(x,NameKind.free)∈c
 | [],_,_,h=>by simp at h
 | (n,k)::r,x,hn,h=>by
   have g:=@zF7 env r x λy i=>hn y (Qu _ i)
   rw[Qv] at h;cases f:x == n with
   | true =>
     have e:=eq_of_beq f;subst e;by_cases a:(k == NameKind.free && env.scope.kind == .function && env.kindOf x == some .cell)=true
     . have b:k = .free:=by
         have:=(Bool.and_eq_true_iff.mp (Bool.and_eq_true_iff.mp a).1).1;exact eq_of_beq this
       subst b;exact QF
     . have d:(k == NameKind.free && env.scope.kind == .function && env.kindOf x == some .cell)=false:=by simpa using a
       simp only[d,Zk,if_false,Zh,beq_self_eq_true] at h;rcases h with h | h
       . have b:k = .cell:=QA h
         exact absurd b (hn (x,k) QF)
       . have b:k = .free:=QA h
         subst b;exact QF
   | false =>
     refine Qu _ (g ?_);by_cases a:(k == NameKind.free && env.scope.kind == .function && env.kindOf n == some .cell)=true
     . simp only[a,if_true,Zh,f] at h;exact h
     . have d:(k == NameKind.free && env.scope.kind == .function && env.kindOf n == some .cell)=false:=by simpa using a
       simp only[d,Zk,if_false,Zh,f] at h;exact h
section
variable {X:Cx} {pins:List (Addr×Obj)} {σ:St} {H:Hp} {s:Shared}
theorem Inv.comp {scope:Scope}{t:List Str}{ix:List (Option Nat)}{h:List (Str×Addr)}{k:List Addr}{h':Heap}{t':Nat}(I:Inv X pins σ H s)(S:zd8 X.N X.env.scope scope t ix)(g:∀b∈k,FpOk X pins H b)(K:∀b∈k,b<s.heap.objs.size)
   (d:∀x c,h.lookup x=some c->X.env.cells.lookup x=some c) (F:∀y∈scope.names,y.2 = .free->∃c,h.lookup y.1=some c)
   (ns:h'.Ns s.heap.objs.size λ_=>none) (l:∀b o,s.heap.get? b=some o->h'.get? b=some o) :
   Inv (X.comp scope h s.heap.objs.size t s H k) [] (selS ix σ) H { s with heap:=h',toks:=t' }:=by
 have J:∀b∈k,b≠s.heap.objs.size:=λb a=>Qz (K b a)
 have L:∀x c,h.lookup x=some c->∃v,s.heap.IsCell c v:=λx c e=>I.cell x c (d x c e)
 refine⟨⟨I.ok.mod,S.kind,I.ok.glob,I.ok.blt,Qj _,λx y c w A=>I.ok.inj x y c (d x c w) (d y c A),λx M=>?_,λx c z=>(by cases z),I.ok.hd,I.ok.frames,.inl rfl,λb a=>⟨J b a,λx c e=>?_⟩,I.bs,QJ I.ok.bsz I.sz,λb o e a=>?_,λb a N=>?_,I.stack,I.stkFree⟩,
   rfl,I.bare,Un.kept l,⟨_,ns,λi x v w A Z=>?_⟩,λx c e=>?_,I.hok.fresh (Qj _),λx c e=>I.freeC x c (d x c e),λa0 O=>(by cases O),I.hok.kept l,?_⟩
 . obtain⟨c,e⟩:=F (x,.free) (zF7 S.nocell M) rfl
   exact⟨c,e⟩
 . exact(g b a).2.2.2.2.1 x c (d x c e)
 . rcases(g b a).2.2.2.1 with z | z
   . exact I.ok.noex b o e z
   . exact absurd (QH (Qp (I.ok.bs b o e).1) z) (ZG _)
 . rcases Qq.mp (I.stkSub b N) with z | z
   . exact(g b a).2.1 z
   . exact(g b a).2.2.1 z
 . -- what the block sees
   have f:ix[i]?.map (λo=>o.bind λj=>(σ[j]?).join)=some (some v):=by
     have:=A;unfold selS at this
     rwa [QQ] at this
   cases B:ix[i]? with
   | none=>rw[B] at f;cases f
   | some o =>
     rw[B] at f;cases o with
     | none=>cases f
     | some j =>
       have n:(σ[j]?).join=some v:=QA f;have P:σ[j]?=some (some v):=by
         cases q:σ[j]? with
         | none=>rw[q] at n;cases n
         | some z=>rw[q] at n;have:z=some v:=n;rw[this]
       obtain⟨Q,p⟩:=S.sel i j x B w;have G:=S.frees (x,.free) (PySem.mem_of_lookup p) rfl;obtain⟨m,_,R⟩:=I.loc;obtain⟨u,r,T⟩:=R j x v Q P (.inr (.inl G));refine⟨u,r,.inr ?_⟩;rcases T with⟨U,_⟩ | ⟨_,c,V,W⟩
       . exact absurd (U.symm.trans G) (by decide)
       . obtain⟨Y,E⟩:=F (x,.free) (PySem.mem_of_lookup p) rfl
         have:=d x Y E;rw[V] at this;cases this;refine⟨zF6 p,c,E,?_⟩;obtain⟨o,C,D⟩:=W;exact⟨o,l c o C,D⟩
 . obtain⟨v,o,C,D⟩:=L x c e
   exact⟨v,o,l c o C,D⟩
 . show(selS ix σ).length=t.length
   unfold selS;rw[Qa];exact S.len
theorem Inv.uncomp {scope:Scope}{d:List Str}{e:List (Str×Addr)}{a:List Addr}{C:Addr}{σ':St}{H':Hp}{s':Shared}(I:Inv X pins σ H s)(c:∀b∈a,FpOk X pins H b)(k:s.heap.objs.size<=C)
   (J:Inv (X.comp scope e C d s H a) [] σ' H' s'):Inv X pins σ H' s' :=
 I.call' (ch:=a) J.os J.base J.hok J.bare λb f=>by
   obtain⟨l,g,m,h,i,j⟩:=c b f;exact⟨h,g,i,j⟩
end
def zq1 (D:Addr)(telt:TE)(N:St->Hp->Prop):St->Hp->Prop:=λσ H=>telt σ H λv H1=>∃acc,H1 D=some (.lst acc)/\acc.length<sizeLine/\N σ (upd H1 D (.lst (acc++[v])))
def yp7 (wi:TI)(ix:List (Option Nat))(g:TG)(tif:TT)(telt:TE):TE:=λσ H Q=>wi σ H λJ H1=>∀D,H1 D=none->∃W:Nat->Nat->St->Hp->Prop,(∃m,W 0 m (selS ix σ) (upd H1 D (.lst []))) ∧
 ∀i m σ' H',W i m σ' H'->(J.stop i H'/\Q (.ref D) H')\/(J.go i H'/\∃N:St->Hp->Prop,(∀σ2 H2,N σ2 H2->∃m',m'<m/\W (i+1) m' σ2 H2) ∧
   ∀x H2,J.yld i H' x H2->g x σ' H2 λσ3 H3=>tif σ3 H3 λb H4=>if b=true then zq1 D telt N σ3 H4 else N σ3 H4)
def PIfs (X:Cx)(ifs:List Expr)(t:TT):Prop :=
 ∀(pins:List (Addr×Obj)) (s:Shared) (σ:St) (H:Hp) (Q:Bool->Hp->Prop),Inv X pins σ H s->t σ H Q →
   wpAny (model X.prog X.w) X.A (forIn ifs true λc r=>if r=true then do let ok <-isTrue c X.env (eval c X.env);pure (ForInStep.yield ok) else pure (ForInStep.yield r)) (TP X pins σ Q) X.xe s
def zq6:TT:=λ_ H Q=>Q true H
theorem zk5 {X:Cx}:PIfs X [] zq6:=λ_ _ _ H _ I h=>wpAny_tests_nil ⟨H,I,h⟩
theorem zF8 {X:Cx}{c:Expr}{t:TT}(b:PT X c t):PIfs X [c] t:=λa s d H Q I h=>wpAny_tests_one (b a s d H Q I h)
section
variable {X:Cx} {scope:Scope} {N':List Str} {ix:List (Option Nat)} {tg iter elt:Expr} {ifs:List Expr} {pos:Pos} {wi:TI} {g:TG} {tif:TT} {telt:TE}
theorem zO3 {RR:Value->Addr->Result->Shared->Prop}{t:List (Addr×Obj)}{F:St}{a:Shared}{p:Hp}{it:Addr}{j:List Addr}{G:Nat->Heap->Prop}{J:It}{q:List (Str×Addr)}{Q:VK}{E:VP}
   (hc:X.calm=true) (S:zd8 X.N X.env.scope scope N' ix)
   (c1:∀x c,q.lookup x=some c->X.env.cells.lookup x=some c) (c2:∀y∈scope.names,y.2 = .free->∃c,q.lookup y.1=some c)
   (hg:∀q C H I j,PG (X.comp scope q C N' H I j) tg g) (aq:∀q C H I j,PIfs (X.comp scope q C N' H I j) ifs tif) (he:∀q C H I j,PE (X.comp scope q C N' H I j) elt telt)
   (I2:Inv X t F p a) (T:Turn X.prog X.w X.K tg J j it G) (aa:G 0 a.heap) (f2:∀b∈j,FpOk X t p b)
   (ai:∀D,p D=none->∃W:Nat->Nat->St->Hp->Prop,(∃m,W 0 m (selS ix F) (upd p D (.lst []))) ∧
     ∀i m s H',W i m s H'->(J.stop i H'/\Q (.ref D) H')\/(J.go i H'/\∃N:St->Hp->Prop,(∀σ2 p,N σ2 p->∃O,O<m/\W (i+1) O σ2 p) ∧
       ∀x p,J.yld i H' x p->g x s p λσ3 H3=>tif σ3 H3 λb H4=>if b=true then zq1 D telt N σ3 H4 else N σ3 H4))
   (ar:∀D C k u H' m,Inv X t F H' u->a.heap.objs.size<=k->k<=C->u.heap.Ns C m->FpOk X t H' C->HOk X.prog X.w H' u.heap->Q (.ref D) H'->RR (.ref D) C (.ok .next) u) :
   wpAny (model X.prog X.w) X.A (newList []) (λM k=>wpAny (model X.prog X.w) X.A (newFunctionEnv scope X.env.globals q [] X.env.qual none .none (some X.env)) (λa7 s4 =>
     codeAny (model X.prog X.w) X.A (.compStart (.ListComp elt [⟨tg,iter,ifs,0⟩] scope pos) 0 (.ref it) M { a7 with scope:=relabel scope X.env }) (RR M a7.locals) s4) E k) E a:=by
 have a8:∀b∈j,b<a.heap.objs.size:=λb f=>by
   obtain⟨o,e,_⟩:=T.obj _ _ aa b f;exact Qp e
 obtain⟨W,⟨m0,w0⟩,aj⟩:=ai a.heap.objs.size I2.fresh;refine wpAny_newObj_type (wpAny_newFunctionEnv S.nocell (by intro y hy;simp at hy) (λw V Y=>?_) S.kind);dsimp only at V Y ⊢;have P:Inv X t F (upd p a.heap.objs.size (.lst [])) { a with heap:=a.heap.push { cls:=.type "list",dict:=none,data:=.seq ([]:List Value).toArray } } :=
   Inv.lnew (its:=[]) (t':=a.toks) I2 .nil (QD _)
 generalize ab:({ a with heap:=a.heap.push { cls:=.type "list",dict:=none,data:=.seq ([]:List Value).toArray } }:Shared)=k at P;have a0:k.heap=a.heap.push { cls:=.type "list",dict:=none,data:=.seq ([]:List Value).toArray }:=by rw[<-ab]
 have ak:k.heap.objs.size=a.heap.objs.size+1:=by rw[a0,Zr]
 have au:({ a with heap:=w,toks:=a.toks+([]:List (Str×Value)).length }:Shared) = { k with heap:=w,toks:=a.toks+([]:List (Str×Value)).length }:=by rw[<-ab]
 rw[<-a0] at V Y ⊢;have av:∀b∈j,b≠a.heap.objs.size:=λb f=>Qz (a8 b f)
 have f3:∀b∈j,FpOk X t (upd p a.heap.objs.size (.lst [])) b:=λb f=>⟨by rw[za8 (av b f)];exact(f2 b f).1,(f2 b f).2⟩
 have ac:∀b o,k.heap.get? b=some o->w.get? b=some o:=λb o e=>Y.extBut b o (Qz (Qp e)) (Qc _ e)
 have K:Inv (X.comp scope q k.heap.objs.size N' k (upd p a.heap.objs.size (.lst [])) j) [] (selS ix F) (upd p a.heap.objs.size (.lst [])) { k with heap:=w,toks:=a.toks+([]:List (Str×Value)).length } :=
   P.comp S f3 (λb f=>QH (a8 b f) (by rw[ak];exact Nat.le_succ _)) c1 c2 V ac
 have ad:G 0 w:=T.keep _ _ _ aa λb f o e=>ac b o (by rw[a0];exact Qc _ e)
 generalize aw:k.heap.objs.size=C at *;generalize h:X.comp scope q C N' k (upd p a.heap.objs.size (.lst [])) j=l at K;have Z:∀ {H':Hp},(∀b∈j,H' b=none)->∀b∈j,FpOk l [] H' b:=λ{H'} hn b f=>by
   subst h;refine⟨hn b f,(K.ok.exf b f).1,K.ok.exfs b f,.inl f,(K.ok.exf b f).2,λbe hp=>(by cases hp)⟩
 rw[au];have a9:codeAny (model X.prog X.w) X.A (.compLoop (.ListComp elt [⟨tg,iter,ifs,0⟩] scope pos) 0 (.ref it) (.ref a.heap.objs.size) (compEnvC scope q C X.env)) (RR (.ref a.heap.objs.size) C) { k with heap:=w,toks:=a.toks+([]:List (Str×Value)).length }:=by
   refine compLoop_go (λn u=>∃i s H',Inv l [] s H' u/\G i u.heap/\(∀b∈j,H' b=none)/\W i n s H') ?_ m0 ⟨0,_,_,K,ad,λb f=>(f3 b f).1,w0⟩;rintro n s5 ⟨i,R,z,I5,ae,af,w5⟩;rcases aj i n R z w5 with⟨al,qn⟩ | ⟨go,N,hN,step⟩
   . have td:=T.done l (by subst h;rfl) (by subst h;rfl) (by subst h;rfl) (by subst h;exact hc) i [] s5 R z (λ_ _=>False) I5 (Z af) ae al
     have A:l.A=X.A:=by subst h;rfl
     rw[A] at td;refine thn td λb9 s6 ⟨hr,U⟩=>?_
     subst hr;subst h;obtain⟨m,ax,_⟩:=U.loc;have I7:Inv X t F z s6:=P.uncomp f3 (Nat.le_of_eq aw) U;refine ar a.heap.objs.size C k.heap.objs.size s6 z m I7 (by omega) (by omega) ax ?_ U.hok qn;have ba:=P.fpOk (H':=z) (b:=C) (by omega) U.free;exact ba
   . have ti:=T.item l (by subst h;rfl) (by subst h;rfl) (by subst h;rfl) (by subst h;exact hc) i [] s5 R z (λ_ _=>False) I5 (Z af) ae go
     have A:l.A=X.A:=by subst h;rfl
     rw[A] at ti;refine thn ti λb9 s6 ⟨bb,hr,h6⟩=>?_
     subst hr;refine thn h6 λ_ s7 ⟨x,H7,I7,r7,y7,a4,ay⟩=>?_
     have az:=I7.pinned (Z ay) (T.obj _ _ a4);have a6:∀ {pl:List (Addr×Obj)} {r:St} {v:Hp} {B:Shared},Inv l ([]++zJ0 j s7.heap) r v B->N r v->∃m,m<n/\∃i s H',Inv l [] s H' B/\G i B.heap/\(∀b∈j,H' b=none)/\W i m s H':=λ{pl r v B} L n8=>by
       obtain⟨O,hm,w8⟩:=hN r v n8;refine⟨O,hm,i+1,r,v,L.unpinned,T.keep _ _ _ a4 λb f o e=>(L.pin (b,o) (QK _ (QK _ (zw7 f e)))).1,λb f=>?_,w8⟩;obtain⟨o,e,d⟩:=T.obj _ _ a4 b f;exact(L.pin (b,o) (QK _ (QK _ (zw7 f e)))).2.1
     have eE:l.env=compEnvC scope q C X.env:=by subst h;rfl
     have eP:l.prog=X.prog:=by subst h;rfl
     have eW:l.w=X.w:=by subst h;rfl
     have eX:l.xe=λ_ _=>False:=by subst h;rfl
     have b0:PG l tg g:=by subst h;exact hg _ _ _ _ _
     have am:PIfs l ifs tif:=by subst h;exact aq _ _ _ _ _
     have b1:PE l elt telt:=by subst h;exact he _ _ _ _ _
     have a1:=b0 _ s7 R H7 x bb _ az r7 (step x H7 y7);rw[eE,eP,eW,A,eX] at a1;refine thn a1 λ_ B ⟨r,v,L,q8⟩=>?_
     have a2:=am _ B r v _ L q8;rw[eE,eP,eW,A,eX] at a2;refine thn a2 λok s9 ⟨H9,I9,q9⟩=>?_
     cases ok with
     | false=>exact a6 (pl:=[]) I9 q9
     | true =>
       have b2:zq1 a.heap.objs.size telt N r H9:=q9;have a3:=b1 _ s9 r H9 _ I9 b2;rw[eE,eP,eW,A,eX] at a3;show wpAny _ _ _ _ _ _;refine thn a3 λy ag ⟨bc,b3,ah,b4,M,hD,hl,b5⟩=>?_
       obtain⟨hz,its,bd,rv,b6⟩:=ah.hok a.heap.objs.size _ hD;have an:=rv.length;refine wpAny_list_append_plain (hsz:=by rw[Qn,<-an];exact QZ hl) ⟨bd,b6⟩ λb7 ao ap=>?_
       obtain⟨k',a5⟩:=ao;have ep:(its.toArray.push y)=(its++[y]).toArray:=by simp
       rw[ep] at a5;have b8:Inv l ([]++zJ0 j s7.heap) r (upd b3 a.heap.objs.size (.lst (M++[bc]))) { ag with heap:=b7 } :=
         ah.write (x:=a.heap.objs.size) (e:=a.heap.objs.size) (t':=ag.toks) (by rw[hD];exact trivial) (.inl rfl) (λb o f e=>ap.extBut b o f e) ⟨_,a5⟩ ⟨by rw[Qi];exact hl,its++[y],k',rv.append (.cons b4 .nil),a5⟩
       exact a6 (pl:=[]) b8 b5
 exact codeAny_compStart_list a9 (T.self _ 0 _ _ _ ad a9)
theorem zo0 (u:X.calm=true)(S:zd8 X.N X.env.scope scope N' ix)(v:PI X tg iter wi)
   (w:∀a C d f c,PG (X.comp scope a C N' d f c) tg g) (o:∀a C d f c,PIfs (X.comp scope a C N' d f c) ifs tif) (z:∀a C d f c,PE (X.comp scope a C N' d f c) elt telt)
   (hs:∀x,foldedSetIterable iter X.env x=pure x:=by intro _;rfl):PE X (.ListComp elt [⟨tg,iter,ifs,0⟩] scope pos) (yp7 wi ix g tif telt):=by
 intro i s l H Q I h;obtain⟨a,p,A,B⟩:=zO2 (scope:=scope) (env:=X.env) λy E F=>I.ok.has y.1 (.inl (S.frees y E F))
 rw[eval_ListComp];refine wpAny_comprehension_free (use:=none) rfl hs p S.kind S.names (thn (v i s l H _ I h) λxv s1 j=>thn j λa1 s2 k=>?_);obtain⟨it,c,tn,a4,H2,e,G,T,r,J,n⟩:=k;subst e;refine zO3 (RR:=λt C=>compPost (model X.prog X.w) X.A X.xe none (EP X i l Q) t C) (Q:=Q) u S A B w o z G T r J n ?_;intro D C s3 K L m M j k N O a2 q;obtain⟨P,R,a3,U,V,W⟩:=O;refine⟨m,N,λh' Y=>⟨.ref D,L,?_,rfl,q⟩⟩;exact M.turned (t':=K.toks) (λb a0 Z e=>Y.extBut b a0 Z e) P R U V W
theorem zF9 {i:Nat}{y:Str}{b o:Pos}(L:X.calm=true)(S:zd8 X.N X.env.scope scope N' ix)(M:PI X tg iter wi)
   (N:∀c C f h d,PG (X.comp scope c C N' f h d) tg g) (B:∀c C f h d,PIfs (X.comp scope c C N' f h d) ifs tif) (O:∀c C f h d,PE (X.comp scope c C N' f h d) elt telt)
   (P:X.N.Nodup) (l:X.N[i]?=some y) (p:X.env.scope.names.lookup y=some .local)
   (E:swapsWith (.ListComp elt [⟨tg,iter,ifs,0⟩] scope pos) (some (.Name y b)) o.line X.env=pure true:=by rfl)
   (hs:∀x,foldedSetIterable iter X.env x=pure x:=by intro _;rfl):PS X (.Assign [.Name y b] (.ListComp elt [⟨tg,iter,ifs,0⟩] scope pos) o) (tAsg (yp7 wi ix g tif telt) (zp7 i)):=by
 intro k s w a0 n I a1;obtain⟨c,F,R,T⟩:=zO2 (scope:=scope) (env:=X.env) λy l U=>I.ok.has y.1 (.inl (S.frees y l U))
 rw[exec_Assign_Name_used _ _ _ _ E];refine Qb (wpAny_standAt (Qb ?_));show wpAny _ _ (do let _ <-comprehension (.ListComp elt [⟨tg,iter,ifs,0⟩] scope pos) scope X.env _ (newList []) false (eval iter X.env) (some (assign (.Name y b) X.env))) _ _ s
 refine Qb (Zg (wpAny_comprehension_free (use:=some (assign (.Name y b) X.env)) (Q:=λ_ j=>SP X k n .next j) rfl hs F S.kind S.names
   (thn (M k s w a0 _ I a1) λxv s1 q=>thn q λa6 s2 r=>?_)) (λ_ j V=>Qd (Qd V)) λ_ _ e=>e)
 obtain⟨it,d,tn,a9,H2,e,W,a2,G,Y,A⟩:=r;subst e;refine zO3 (RR:=λH C=>compPost (model X.prog X.w) X.A X.xe (some (assign (.Name y b) X.env)) (λ_ j=>SP X k n .next j) H C) (Q:=λv Z=>zp7 i v w Z n.nx) L S R T N B O W a2 G Y A ?_;intro D C s3 j H' m I' q r hm hf a7 a3;obtain⟨f0,t,a8,f3,u,f5⟩:=hf;show wpAny _ _ (assign (.Name y b) X.env (.ref D)) _ _ _;refine wpAny_assign_Name (zT3 I' P l (.inl p) (v:=.ref D) rfl (λs4 I4 ⟨a,sb,ha⟩=>?_) (.inr p));have J:C≠a:=by
   rcases ha with z | z
   . rw[z];exact t
   . exact Ne.symm (u y a z)
 refine⟨m,hm.sameBut sb J,λh' K=>⟨_,H',?_,a3⟩⟩;exact I4.turned (t':=s4.toks) (λa4 a5 hb e=>K.extBut a4 a5 hb e) f0 t f3 u f5
end
section
variable {X:Cx}
inductive zU5 (K:W.Frag)(x:V)(vs:List V)(H:Hp)(Q:VK):Prop
 | mk (l:Addr)(ns:List Int)(k:Int)(h0:x = .ref l)(h1:vs=[.int k])(h2:SqL K H l (ns.map V.int))(h3:Q (.int (ns.count k:Nat)) H):zU5 K x vs H Q
def yg3 (K:W.Frag):V->List V->Hp->VK->Prop:=λx vs H Q=>zU5 K x vs H Q
theorem zU6:MtR X "list.count" (yg3 X.K):=by
 intro e s m H x g v i Q I a b h;obtain⟨l,c,k,rfl,rfl,d,q⟩:=h;cases a;obtain⟨u,rfl,t,rfl⟩:=b.one;obtain⟨f,r,p,j⟩:=I.list d;exact count_list_ints p.isList (zr5 r) ⟨.int (c.count k:Nat),H,I.tok _,⟨_,rfl⟩,q⟩
inductive zU7 (K:W.Frag)(x:V)(vs:List V)(H:Hp)(Q:VK):Prop
 | mk (l:Addr)(ns:List Int)(k:Int)(h0:x = .ref l)(h1:vs=[.int k])(h2:SqT K H l (ns.map V.int))(h3:Q (.int (ns.count k:Nat)) H):zU7 K x vs H Q
def yg4 (K:W.Frag):V->List V->Hp->VK->Prop:=λx vs H Q=>zU7 K x vs H Q
theorem zB9:MtR X "tuple.count" (yg4 X.K):=by
 intro p s D H x A v B Q I f g h;obtain⟨l,i,k,rfl,rfl,j,q⟩:=h;cases f;obtain⟨u,rfl,t,rfl⟩:=g.one;obtain⟨a,r,⟨⟨z,m,w,sl⟩,b,c,n,d⟩,C⟩:=I.tuple j;simp only at c d;subst c d;have e:=zr5 r;refine ZI ZH ⟨_,b,rfl⟩ PySem.F.entry_tuple_count (PySem.F.args_tuple_count_2 _ _) (SeqAt.tuple_countAt l a.toArray n m sl (.int k t) (isInt k)) ⟨b,λy o=>(eq_isInt k t e y (by simpa using o)).at _ _,?_⟩;rw[show a.toArray.toList=a from rfl,countP_isInt k e];exact⟨.int (i.count k:Nat),H,I.tok _,⟨_,rfl⟩,q⟩
def tTM (r:V->List V->Hp->VK->Prop)(to:TE)(t:TA):TE:=λσ H Q=>to σ H λx H1=>(∃p ys,x = .ref p/\H1 p=some (.tup ys))/\t σ H1 λxs H2=>r x xs H2 Q
variable {o e:Expr} {es:List Expr} {to:TE} {t:TA} {name:Str} {apos cpos:Pos} {id:String} {r:V->List V->Hp->VK->Prop}
theorem yg5 (m:Slot "tuple" name id) (q:typeOf (.builtin id)=pure (.type "method_descriptor")) (u:MtR X id r) (w:PE X o to) (y:PA X (e::es) t)
   (k:attributeBase o name X.env (eval o X.env)=eval o X.env:=by rfl)
   (n:((backTo cpos (starEach (e::es) X.env)).all (λx=>!x.1) && (backToKw cpos (keywordEach [] X.env)).all (λx=>x.1.isSome)
     && decide ((e::es).length+([]:List Keyword).length+(if ([]:List Keyword).isEmpty then 0 else 1)<30))=true:=by rfl)
   (l:(apos.endLine == cpos.line)=true:=by rfl) (hs:starEach (e::es) X.env=(false,eval e X.env)::starEach es X.env:=by rfl) (j:(backTo cpos (starEach es X.env)).any (·.1)=false:=by rfl) :
   PE X (.Call (.Attribute o name apos) (e::es) [] cpos) (tTM r to t):=by
 intro b s c H Q I h;refine wpAny_Call_method_late k n l rfl (thn (w b s c H _ I h) λv z ⟨x,A,d,B,⟨p,T,C,D⟩,E⟩=>?_);subst C;cases B;obtain⟨_,S,_,f,g,F,G,_⟩:=d.hok p _ D;refine⟨"tuple",id,PySem.F.plainAttrs_tuple,m,q,⟨f,g,F⟩,λa J=>by cases J;exact⟨f,g,G⟩,?_⟩;have i:=y cpos b z c A _ d E;rw[hs] at i ⊢
 refine Calls.callWith_builtin (by show(false || (backTo cpos (starEach es X.env)).any (·.1))=false;rw[j]<;>rfl) (Calls.evalArgs_plain ?_);exact thn i λK L ⟨M,N,O,P,R⟩=>u b L c N (.ref p) M _ K Q O rfl P R
inductive ClsV:V->Value->Prop where
 | ty (n:String):ClsV (.ty n) (.type n)
 | own (C:Addr):ClsV (.ref C) (.ref C)
inductive ym4 (K:W.Frag)(xs:List V)(H:Hp)(Q:VK):Prop
 | mk (x cv t c b:_)(h0:xs=[x,cv])(h1:ClsV cv c)(h2:TyOf K H x t)(h3:W.kitOne K t c=some b)(h4:Q (.bl b) H):ym4 K xs H Q
def rIsi (K:W.Frag):List V->Hp->VK->Prop:=λxs H Q=>ym4 K xs H Q
theorem zh3:zn9 X (.builtin "isinstance") (rIsi X.K):=by
 intro k s p H l m Q I r h;obtain⟨x,o,t,c,b,rfl,d,ty,e,q⟩:=h;obtain⟨u,f,rfl,g,a⟩:=yf4 r;have i:f=c:=by
   cases d with
   | ty n=>exact a
   | own C=>exact a
 subst i;exact isinst_ok I g ty e λj=>⟨.bl b,H,I.tok j,rfl,q⟩
theorem zU8 {prog:Program}{w:World}{A:Around}{E:VP}{a t:Addr}{items:Array Value}(e:t≠a):∀(n i:Nat) (s:Shared) (Q:List Value->Shared->Prop),s.heap.IsListIter a t i->s.heap.IsList t items->i+n<=items.size →
   (∀c,c.IsListIter a t (i+n)->Heap.SameBut a s.heap c->Q ((items.toList.drop i).take n) { s with heap:=c })->wpAny (model prog w) A (draw (.ref a) n) Q E s
 | 0,i,s,Q,b,_,_,d=>by
   show wpAny _ _ (pure []) Q E s;exact Qd (by simpa using d s.heap b (Heap.SameBut.refl ..))
 | n+1,i,s,Q,b,h,p,d=>by
   have f:i<items.size:=by omega
   show wpAny _ _ (pyNext (.ref a) >>= _) Q E s;refine Qb (wpAny_pyNext_list_item b h (x:=items[i]) (by simp[f]) λq j g=>?_);refine Qb (wpAny_holding (zU8 e n (i+1) _ _ j (h.extBut g.extBut e) (by omega) λm k l=>Qd ?_));have o:items.toList.drop i=items[i]::items.toList.drop (i+1):=by simp[List.drop_eq_getElem_cons,f]
   have:=d m (by rw[show i+(n+1)=i+1+n by omega];exact k) (g.trans l);rw[o,List.take_succ_cons] at this;exact this
theorem unpackItems_list {prog:Program}{w:World}{A:Around}{E:VP}{s:Shared}{t:Addr}{items:Array Value}{Q:List Value->Shared->Prop}(l:A.handled=none)(a:s.heap.IsList t items)
   (m:∀f,Heap.ExtBut s.heap.objs.size s.heap f->Q items.toList { s with heap:=f }):wpAny (model prog w) A (unpackItems (.ref t) items.size none) Q E s:=by
 have c:t≠s.heap.objs.size:=by obtain⟨o,n,_⟩:=a;exact Qz (Qp n)
 unfold unpackItems;refine Qb ?_
 . unfold notIterableAtAll
   refine Qb (wpAny_specialOf a.typeIs slot_list_iter.lookup ?_);refine Qd ?_;simp only[Zk,if_false];refine Qb (wpAny_holding (wpAny_pyIter_list a ?_));refine Qb (wpAny_holding (zU8 c items.size 0 _ _ ⟨_,Qm _ rfl,rfl,rfl⟩ (a.push _) (by omega) λp h d=>?_));have i:List.take items.size (List.drop 0 items.toList)=items.toList:=by
     rw[List.drop_zero];exact Zd (by simp)
   rw[i];rw[Qh (by simp)];have j:p.IsList t items:=(a.push _).extBut d.extBut c;refine Qb (wpAny_holding (wpAny_pyNext_list_end l h j (by simp) λq k=>?_));simp only[Option.isSome_none,Zk,if_false];refine Qd (m q λb o g e=>k b o g (d.extBut b o g (Qc _ e)))
inductive ym5 (K:W.Frag)(n:Nat)(t:TGs)(v:V)(σ:St)(H:Hp)(Q:St->Hp->Prop):Prop
 | mk (a xs:_)(h0:v = .ref a)(h1:SqL K H a xs)(h2:xs.length=n)(h3:t xs σ H Q):ym5 K n t v σ H Q
def gLst (K:W.Frag)(n:Nat)(t:TGs):TG:=λv σ H Q=>ym5 K n t v σ H Q
theorem zJ4 {es:List Expr}{k:Nat}{t:TGs}{n:Nat}{i:Pos}(q:X.calm=true)(h:PGs X es t)
   (w:(assignEach es X.env).length=n:=by rfl) (j:(assignEach es X.env).findIdx? (·.1)=none:=by rfl):PG X (.Tuple es k i) (gLst X.K n t):=by
 intro d s g H v u Q I r c;obtain⟨a,x,y,z,A,c⟩:=c;subst y;cases r;obtain⟨l,f,B,F⟩:=I.list z;have m:=f.length;rw[assign_Tuple];refine Qb (wpAny_standAt ?_);unfold unpack;have p:(assignEach es X.env).length=l.toArray.size:=by rw[w,<-A,m,Qn]
 rw[p,j];refine Qb (wpAny_holding (unpackItems_list (I.ok.hd q) B.isList λC D=>?_));have E:Inv X d g H { s with heap:=C }:=I.kept (t':=s.toks) λb o e=>D b o (Qz (Qp e)) e
 exact h d _ g H x _ Q E (by simpa using f) c
theorem zD9:∀ {b:List Value} {c:List Int},IntsAre b c->∃a:List (Int×Tok),b=a.map (λp=>Value.int p.1 p.2)/\a.map (·.1)=c
 | _,_,.nil=>⟨[],rfl,rfl⟩
 | _,_,.cons n t h=>by
   obtain⟨a,d,e⟩:=zD9 h;exact⟨(n,t)::a,by rw[Qv,d],by rw[Qv,e]⟩
def iSeq (K:W.Frag)(tl:TE):TI:=λσ H R=>tl σ H λx H1=>∃a,x = .ref a/\(((∃xs,SqL K H1 a xs)/\R (Itl K a) H1)\/((∃xs,SqT K H1 a xs)/\R (Itt K a) H1))
theorem pi_seq {n l:Expr}{j:TE}(r:PE X l j):PI X n l (iSeq X.K j):=by
 intro m s A H R I h;refine thn (r m s A H _ I h) λv c ⟨x,k,d,t,u⟩=>?_
 obtain⟨a,e,q⟩:=u;subst e;cases t;rcases q with⟨⟨w,f⟩,q⟩ | ⟨⟨w,f⟩,q⟩
 . obtain⟨i,y,p,z⟩:=d.list f
   refine wpAny_pyIter_list p.isList ?_;refine⟨c.heap.objs.size,[c.heap.objs.size],_,_,k,rfl,d.kept (t':=c.toks) λb o e=>Qc _ e,zT4 a _,⟨_,Qm _ rfl,rfl,rfl⟩,λb g=>?_,q⟩;have e:b=c.heap.objs.size:=by simpa using g
   subst e;exact d.fpOk (Qj _) (d.hok.fresh (Qj _))
 . obtain⟨i,y,p,z⟩:=d.tuple f
   refine wpAny_pyIter_tuple (show c.heap.IsTuple a i.toArray from p) ?_;refine⟨c.heap.objs.size,[c.heap.objs.size],_,_,k,rfl,d.kept (t':=c.toks) λb o e=>Qc _ e,zN8 a _,⟨_,Qm _ rfl,rfl,rfl⟩,λb g=>?_,q⟩;have e:b=c.heap.objs.size:=by simpa using g
   subst e;exact d.fpOk (Qj _) (d.hok.fresh (Qj _))
noncomputable def stE:Stmt->Expr
 | .Assign _ v _=>v
 | .Return (some v) _=>v
 | .Expr v _=>v
 | _=>.Constant .none 0 ⟨0,0,0,0⟩
noncomputable def zG0 (e:Expr)(j:Nat):Expr:=match e with
 | .Call _ as _ _=>as.getD j (.Constant .none 0 ⟨0,0,0,0⟩)
 | _=>.Constant .none 0 ⟨0,0,0,0⟩
noncomputable def zj0:Expr->Scope
 | .ListComp _ _ sc _=>sc
 | _=>{ kind:=.function,names:=[],isGenerator:=false,isCoroutine:=false }
noncomputable def stAt (l:List Stmt)(i:Nat):Stmt:=l.getD i (.Pass ⟨0,0,0,0⟩)
noncomputable def stBody:Stmt->List Stmt
 | .If _ b _ _=>b
 | .For _ _ b _ _=>b
 | .While _ b _ _=>b
 | _=>[]
end
theorem iteB {c:Bool}{A B:Prop}(e:c=false)(h:B):if c=true then A else B:=by
 subst e;exact iteF h
theorem iteA {c:Bool}{A B:Prop}(e:c=true)(h:A):if c=true then A else B:=by
 subst e;exact iteT h
theorem zt6 {a lo b:Int}(c:lo<=a)(d:a<=b):(decide (a<lo) || decide (b<a))=false:=by
 rw[Qf (by omega),Qf (by omega)];rfl
theorem zO4 {a b:Int}(h:b<=a):decide (a<b)=false:=Qf (by omega)
theorem fl0 {f:Str}{v:V}:(putF f v []).length<=1:=zq0 f v []
theorem flS {f:Str}{v:V}{fs:List (Str×V)}{k:Nat}(h:fs.length<=k):(putF f v fs).length<=k+1:=QJ (zq0 f v fs) (Nat.succ_le_succ h)
theorem zo6 {fs:List (Str×V)}{k:Nat}(h:fs.length<=k)(a:k<1000:=by decide):fs.length<1000:=Nat.lt_of_le_of_lt h a
def zi2 (p:Addr)(H H':Hp):Prop:=∀b o,H b=some o->b≠p->H' b=some o
theorem Same.upd {H:Hp}{l:Addr}{o:HO}(h:H l=none):Same H (upd H l o):=λb u e=>by
 rw[za8 (za9 e h)];exact e
theorem Same.updT {H a:Hp}{l:Addr}{o:HO}(s:Same H a)(h:a l=none):Same H (L2.upd a l o):=s.trans (Same.upd h)
theorem Same.tup {K:W.Frag}{H H':Hp}{a:Addr}{xs:List V}(e:Same H H')(h:SqT K H a xs):SqT K H' a xs:=by
 rcases h with(h | ⟨o,h⟩) | h
 . exact .inl (.inl (e _ _ h))
 . exact .inl (.inr ⟨o,e _ _ h⟩)
 . exact .inr h
theorem Same.put {H a:Hp}{l:Addr}{o:HO}(s:Same H a)(h:H l=none):Same H (L2.upd a l o):=λb u e=>by
 rw[za8 (za9 e h)];exact s b u e
theorem upd_id {H:Hp}{m:Addr}{o:HO}(h:H m=some o):L2.upd H m o=H:=by
 funext b
 by_cases a:b=m
 . subst a;rw[za4,h]
 . rw[za8 a]
theorem mt_countTK {X:Cx} (K:W.Frag) (h:X.K=K):MtR X "tuple.count" (yg4 K):=h▸zB9
theorem mt_countLK {X:Cx} (K:W.Frag) (h:X.K=K):MtR X "list.count" (yg3 K):=h▸zU6
theorem ix_listK {X:Cx}(K:W.Frag)(h:X.K=K):IxR X (rIxL K):=h▸zc3
theorem zC0 {X:Cx}(K:W.Frag)(h:X.K=K):IxR X (rIxT K):=h▸ze7
theorem int_at {xs:List Int}{i:Nat}{v:V}(h:(xs.map V.int)[i]?=some v):∃z,v = .int z/\xs[i]?=some z:=by
 rw[QQ] at h;cases e:xs[i]? with
 | none=>rw[e] at h;cases h
 | some z=>rw[e] at h;exact⟨z,(QA h).symm,rfl⟩
theorem zw9 {xs:List Int}{j:Nat}{z:Int}(h:xs[j]?=some z):atI (xs.map V.int) (j:Int)=some (V.int z):=zh5 (by rw[QQ,h];rfl)
theorem ze8 {xs:List Int}{i:Int}(b:0<=i)(c:i<xs.length):atI (xs.map V.int) i=some (.int (xs.getD i.toNat 0)):=by
 obtain⟨j,rfl⟩:∃j:Nat,i=j:=⟨i.toNat,by omega⟩;have a:j<xs.length:=by omega
 rw[zw9 (z:=xs[j]) (by simp[a])];simp[a]
theorem ze9 {a b:Int}:decide (V.int a=V.int b)=decide (a=b):=by
 by_cases h:a=b
 . subst h;simp
 . rw[Qf h,Qf];intro e;cases e;exact h rfl
theorem ya6 {J:It}{c:Hp}{D:Addr}{n:Nat}{x:Nat->V}{f:Nat->V}{j:Nat}{o:St}{r:TE}{Q:Hp->Prop}(E:n<=sizeLine)
   (go:∀i g,i<n->J.go i (upd c D (.lst g))) (st:∀g,J.stop n (upd c D (.lst g))) (u:∀i g v a,i<n->J.yld i (upd c D (.lst g)) v a->a=upd c D (.lst g)/\v=x i)
   (w:∀i g R,i<n->R (f i) (upd c D (.lst g))->r (o.set j (some (x i))) (upd c D (.lst g)) R) (q:Q (upd c D (.lst ((List.range n).map f)))) :
   ∃W:Nat->Nat->St->Hp->Prop,(∃m,W 0 m o (upd c D (.lst []))) ∧
     ∀i m h a,W i m h a->(J.stop i a/\Q a)\/(J.go i a/\∃N:St->Hp->Prop,(∀k d,N k d->∃s,s<m/\W (i+1) s k d) ∧
       ∀v d,J.yld i a v d->zp7 j v h d λp z=>zq6 p z λb t=>if b=true then zq1 D r N p t else N p t):=by
 refine⟨λi m h a=>m=n-i/\i<=n/\(∀v,h.set j (some v)=o.set j (some v))/\a=upd c D (.lst ((List.range i).map f)),⟨n,by simp,QD _,λ_=>rfl,rfl⟩,?_⟩;rintro i m h a ⟨rfl,F,A,rfl⟩;by_cases l:i<n
 . refine .inr ⟨go i _ l,λk d=>(∀v,k.set j (some v)=o.set j (some v))/\d=upd c D (.lst ((List.range (i+1)).map f)),λk d ⟨B,C⟩=>⟨n-(i+1),by omega,rfl,l,B,C⟩,λv d y=>?_⟩
   obtain⟨rfl,rfl⟩:=u i _ v d l y;dsimp only[zp7,zq6];refine iteT ?_;dsimp only[zq1];rw[A];refine w i _ _ l ⟨_,za4,?_,?_,?_⟩
   . rw[Qa,List.length_range];omega
   . intro v;simp
   . rw[zh4,List.range_succ,Qk];rfl
 . have e:i=n:=by omega
   subst e;exact .inl ⟨st _,q⟩
theorem zY0 {K:W.Frag}{H:Hp}{a D:Addr}{xs:List V}{o:HO}(h:SqL K H a xs)(n:H D=none):SqL K (upd H D o) a xs:=(Same.upd n).seq h
theorem zY1 {K:W.Frag}{H:Hp}{a D:Addr}{xs:List V}{o:HO}(h:SqT K H a xs)(n:H D=none):SqT K (upd H D o) a xs:=(Same.upd n).tup h
theorem zE0 {a e:Type}(xs:List a)(d:a)(f:a->e):(List.range xs.length).map (λi=>f (xs.getD i d))=xs.map f:=by
 apply List.ext_getElem
 . simp
 . intro i b c
   simp at b c;simp[b]
theorem ya7 {K:W.Frag}{d:Hp}{a D:Addr}{xs:List V}{f:V->V}{j:Nat}{t:St}{s:TE}{Q:Hp->Prop}(h:SqT K d a xs)(o:d D=none)(B:xs.length<=sizeLine)
   (C:∀x c R,x∈xs->R (f x) (upd d D (.lst c))->s (t.set j (some x)) (upd d D (.lst c)) R) (q:Q (upd d D (.lst (xs.map f)))) :
   ∃W:Nat->Nat->St->Hp->Prop,(∃m,W 0 m t (upd d D (.lst []))) ∧
     ∀i m u g,W i m u g->((Itt K a).stop i g/\Q g)\/((Itt K a).go i g/\∃N:St->Hp->Prop,(∀w k,N w k->∃z,z<m/\W (i+1) z w k) ∧
       ∀v k,(Itt K a).yld i g v k->zp7 j v u k λp E=>zq6 p E λb A=>if b=true then zq1 D s N p A else N p A):=by
 refine ya6 (J:=Itt K a) (n:=xs.length) (x:=λi=>xs.getD i .non) (f:=λi=>f (xs.getD i .non)) B (λi c l=>⟨xs,xs[i],zY1 h o,by simp[l]⟩) (λc=>⟨xs,zY1 h o,Qj _⟩) (λi c v g l y=>?_) (λi c R l r=>?_) ?_
 . obtain⟨e,y⟩:=y
   have:=y xs (zY1 h o);exact⟨e,by rw[Qs,this];rfl⟩
 . refine C _ c R ?_ r
   rw[Qs,Qe l];exact Zz l
 . rw[zE0];exact q
theorem comp_list {K:W.Frag}{d:Hp}{a D:Addr}{xs:List V}{f:V->V}{j:Nat}{t:St}{s:TE}{Q:Hp->Prop}(h:SqL K d a xs)(o:d D=none)(B:xs.length<=sizeLine)
   (C:∀x c R,x∈xs->R (f x) (upd d D (.lst c))->s (t.set j (some x)) (upd d D (.lst c)) R) (q:Q (upd d D (.lst (xs.map f)))) :
   ∃W:Nat->Nat->St->Hp->Prop,(∃m,W 0 m t (upd d D (.lst []))) ∧
     ∀i m u g,W i m u g->((Itl K a).stop i g/\Q g)\/((Itl K a).go i g/\∃N:St->Hp->Prop,(∀w k,N w k->∃z,z<m/\W (i+1) z w k) ∧
       ∀v k,(Itl K a).yld i g v k->zp7 j v u k λp E=>zq6 p E λb A=>if b=true then zq1 D s N p A else N p A):=by
 refine ya6 (J:=Itl K a) (n:=xs.length) (x:=λi=>xs.getD i .non) (f:=λi=>f (xs.getD i .non)) B (λi c l=>⟨xs,xs[i],zY0 h o,by simp[l]⟩) (λc=>⟨xs,zY0 h o,Qj _⟩) (λi c v g l y=>?_) (λi c R l r=>?_) ?_
 . obtain⟨e,y⟩:=y
   have:=y xs (zY0 h o);exact⟨e,by rw[Qs,this];rfl⟩
 . refine C _ c R ?_ r
   rw[Qs,Qe l];exact Zz l
 . rw[zE0];exact q
section
variable {prog:Program} {w:World} {A:Around} {E:VP} {s:Shared}
theorem zO5 {a l:Addr}{i:Nat}{its:Array Value}{x:Value}{Q:VP}(d:s.heap.IsTupleIter a l i)(j:s.heap.IsTuple l its)(k:its[i]?=some x)
   (m:∀e,e.IsTupleIter a l (i+1)->Heap.SameBut a s.heap e->Q x { s with heap:=e }):wpAny (model prog w) A (Builtin.SmallTypes.nextOf (.ref a)) Q E s:=by
 obtain⟨n,c,f,b⟩:=id d;obtain⟨o,g,_,p,h⟩:=j;unfold Builtin.SmallTypes.nextOf;refine Qb (wpAny_callSpecial?_slot (name:=Str.ofString "__next__") d.typeIs F.slot_tuple_iterator_next (wpAny_call_entry F.slot_tuple_iterator_next d.typeIs F.entry_tuple_iterator_next ?_ (F.args_tuple_iterator_next_1 _)));show wpAny _ _ (field (.ref a) 0 >>= _) _ _ s;refine Qb (wpAny_field c b (x:=.ref l) rfl ?_);show wpAny _ _ (if (Value.ref l == Value.none)=true then _ else _) _ _ s;rw[Qh (show ¬ ((Value.ref l == Value.none)=true) from Qw)];show wpAny _ _ (field (.ref a) 1 >>= _) _ _ s;refine Qb (wpAny_field c b (x:=.int i 0) rfl ?_);show wpAny _ _ (seqItems? (.ref l) >>= _) _ _ s;refine Qb (wpAny_seqItems g h ?_);simp only[Zi,k];refine Qb (wpAny_setField c b (by simp) (Qd ⟨x,rfl,Qd (m _ ?_ (Heap.SameBut.update ..))⟩));refine⟨_,Zm _ c (Obj.isFreed_of_fields (Obj.data_mapFields b _)),(Obj.cls_mapFields ..).trans f,?_⟩;rw[Obj.data_mapFields b];simp[rawInt]
theorem nextOf_tup_end {b l:Addr}{i:Nat}{its:Array Value}{Q:VP}(h:A.handled=none)(c:s.heap.IsTupleIter b l i)(n:s.heap.IsTuple l its)(p:its[i]?=none)
   (q:∀g e,Heap.ExtBut b s.heap g->(∃o,g.get? e=some o/\o.cls = .type "StopIteration")->E (.ref e) { s with heap:=g }):wpAny (model prog w) A (Builtin.SmallTypes.nextOf (.ref b)) Q E s:=by
 obtain⟨t,d,r,f⟩:=id c;obtain⟨u,j,_,v,k⟩:=n;unfold Builtin.SmallTypes.nextOf;refine Qb (wpAny_callSpecial?_slot (name:=Str.ofString "__next__") c.typeIs F.slot_tuple_iterator_next (wpAny_call_entry F.slot_tuple_iterator_next c.typeIs F.entry_tuple_iterator_next ?_ (F.args_tuple_iterator_next_1 _)));show wpAny _ _ (field (.ref b) 0 >>= _) _ _ s;refine Qb (wpAny_field d f (x:=.ref l) rfl ?_);show wpAny _ _ (if (Value.ref l == Value.none)=true then _ else _) _ _ s;rw[Qh (show ¬ ((Value.ref l == Value.none)=true) from Qw)];show wpAny _ _ (field (.ref b) 1 >>= _) _ _ s;refine Qb (wpAny_field d f (x:=.int i 0) rfl ?_);show wpAny _ _ (seqItems? (.ref l) >>= _) _ _ s;refine Qb (wpAny_seqItems j k ?_);simp only[Zi,p];refine Qb (wpAny_rule (Qb (wpAny_setField d f (by simp) ?_)));show wpAny _ _ (newExc (.type "StopIteration") [] >>= _) _ _ _;refine Qb ?_;simp only[newExc,newTuple];refine Qb (wpAny_newObj_type ?_ (by size_fits));refine Qb (m:=firstArgMember _ _) (wpAny_of_eq (a:=Value.none) (by first | rfl | (simp only[firstArgMember];rfl)) ?_);refine wpAny_newObj_type ?_ (by size_fits);simp only[raiseNew];refine Qb (wpAny_handled ?_);first | rw[show A.in1.handled=none from h] | rw[h]
 refine Qb (Qd (wpAny_throw ?_));exact q _ _ (((Heap.SameBut.update ..).extBut.push _).push _) ⟨_,Qm _ rfl,rfl⟩
structure yd8 (z TI TO i1 i2:Addr):Prop where
 TIz:TI≠z
 TOz:TO≠z
 i1z:i1≠z
 i2z:i2≠z
 TITO:TI≠TO
 TIi1:TI≠i1
 TIi2:TI≠i2
 TOi1:TO≠i1
 TOi2:TO≠i2
 i12:i1≠i2
structure ZAt (h:Heap)(z TI TO i1 i2 l1 l2:Addr)(f0:Value)(i:Nat):Prop where
 hz:IsZip h z TI TO f0
 hTI:IsPair h TI (.ref i1) (.ref i2)
 hTO:∃a b,IsPair h TO a b
 h1:h.IsTupleIter i1 l1 i
 h2:h.IsTupleIter i2 l2 i
theorem zip_item {z TI TO i1 i2 g h:Addr}{k:Nat}{xs ys:Array Value}{x y:Value}{Q:Option Value->Shared->Prop}(D:yd8 z TI TO i1 i2)(L:∀l,l=g\/l=h->l≠z/\l≠TO/\l≠i1/\l≠i2)(a6:ZAt s.heap z TI TO i1 i2 g h .none k)
   (a1:s.heap.IsTuple g xs) (a2:s.heap.IsTuple h ys) (hx:xs[k]?=some x) (hy:ys[k]?=some y)
   (hQ:∀t,ZAt t z TI TO i1 i2 g h (rawInt s.heap.objs.size) (k+1)->IsPair t s.heap.objs.size x y →
     (∀c o,c≠z->c≠TO->c≠i1->c≠i2->s.heap.get? c=some o->t.get? c=some o)->Q (some (.ref s.heap.objs.size)) { s with heap:=t }) :
   wpAny (model prog w) A (pyNext (.ref z)) Q E s:=by
 obtain⟨j,N,⟨a7,b,a3⟩,h1,h2⟩:=a6;obtain⟨a4,aa,ab,ac⟩:=L g (.inl rfl);obtain⟨a5,Z,a0,ad⟩:=L h (.inr rfl);have P:s.TypeIs (.ref z) "zip":=⟨_,j,rfl⟩;unfold pyNext;refine Qb (wpAny_attempt (wpAny_callSpecial?_slot (name:=Str.ofString "__next__") P F.slot_zip_next (wpAny_call_entry F.slot_zip_next P F.entry_zip_next ?_ (F.args_zip_next_1 _))));show wpAny _ _ (field (.ref z) 2 >>= _) _ _ _;refine Qb (wpAny_field j rfl (x:=.bool false) rfl ?_);show wpAny _ _ (field (.ref z) 3 >>= _) _ _ _;refine Qb (wpAny_field j rfl (x:=.ref TI) rfl ?_);refine Qb (wpAny_seqItems N rfl ?_);show wpAny _ _ (Builtin.SmallTypes.ownedTupleIsFree (.ref z) >>= _) _ _ _;refine Qb ?_;unfold Builtin.SmallTypes.ownedTupleIsFree;refine Qb (wpAny_field j rfl (x:=.none) rfl (Qd ?_));simp only[if_true];refine Qb (wpAny_rule (Qb (wpAny_field j rfl (x:=.ref TO) rfl ?_)));refine Qb (wpAny_setField_rec j (by simp) λg1 G d=>?_);replace G:IsZip g1 z TI TO .ellipsis:=G;refine Qb ?_;simp only[List.zipIdx_cons,List.zipIdx_nil,List.forIn_cons,List.forIn_nil];refine Qb (Qb (wpAny_onRaise ?_));show wpAny _ _ (Builtin.SmallTypes.nextOf (.ref i1) >>= _) _ _ _;refine Qb (zO5 (h1.extBut d.extBut D.i1z) (a1.extBut d.extBut a4) hx λg2 j1 m=>Qd ?_);have R:IsPair g2 TO a7 b:=m.extBut _ _ D.TOi1 (d.extBut _ _ D.TOz a3);refine Qb (wpAny_seqItems R rfl (Qb (wpAny_updateSeq_pair R λg3 H n=>?_)));replace H:IsPair g3 TO x b:=H;refine Qb (wpAny_letGo (Qd ?_));refine Qb (Qb (wpAny_onRaise ?_));show wpAny _ _ (Builtin.SmallTypes.nextOf (.ref i2) >>= _) _ _ _;refine Qb (zO5 (((h2.extBut d.extBut D.i2z).extBut m.extBut D.i12.symm).extBut n.extBut D.TOi2.symm) (((a2.extBut d.extBut a5).extBut m.extBut a0).extBut n.extBut Z) hy λg4 j2 p=>Qd ?_);have S:IsPair g4 TO x b:=p.extBut _ _ D.TOi2 H;refine Qb (wpAny_seqItems S rfl (Qb (wpAny_updateSeq_pair S λa u q=>?_)));replace u:IsPair a TO x y:=u;refine Qb (wpAny_letGo (Qd (Qd ?_)));refine Qb (wpAny_seqItems u rfl (Qb (wpAny_newTuple ?_)));have sz:a.objs.size=s.heap.objs.size:=by rw[q.1,p.1,n.1,m.1,d.1]
 have T:IsZip a z TI TO .ellipsis:=q.extBut _ _ D.TOz.symm (p.extBut _ _ D.i2z.symm (n.extBut _ _ D.TOz.symm (m.extBut _ _ D.i1z.symm G)));have U:∀c o,c≠z->c≠TO->c≠i1->c≠i2->s.heap.get? c=some o->a.get? c=some o:=λc o f v I J e=>q.extBut _ _ v (p.extBut _ _ J (n.extBut _ _ v (m.extBut _ _ I (d.extBut _ _ f e))))
 have m1:a.IsTupleIter i1 g (k+1):=((j1.extBut n.extBut D.TOi1.symm).extBut p.extBut D.i12).extBut q.extBut D.TOi1.symm;have m2:a.IsTupleIter i2 h (k+1):=j2.extBut q.extBut D.TOi2.symm;have V:z<a.objs.size:=Qp T;show wpAny _ _ (Builtin.SmallTypes.ownedTupleHandOut (.ref z) (.ref a.objs.size) >>= _) _ _ _;refine Qb ?_;unfold Builtin.SmallTypes.ownedTupleHandOut;have z6:IsZip (a.push { cls:=.type "tuple",data:=.seq #[x,y] }) z TI TO .ellipsis:=Qc _ T;refine Qb (wpAny_setField_rec z6 (by simp) λg7 K W=>?_);replace K:IsZip g7 z TI TO (rawInt a.objs.size):=K;refine wpAny_setField_rec K (by simp) λr B X=>?_
 replace B:IsZip r z TI TO (rawInt a.objs.size):=B;have C:∀c o,c≠z->a.get? c=some o->r.get? c=some o:=λc o f e=>X.extBut _ _ f (W.extBut _ _ f (Qc _ e))
 have Y:IsPair r a.objs.size x y:=X.extBut _ _ (Nat.ne_of_gt V) (W.extBut _ _ (Nat.ne_of_gt V) (Qm _ rfl));rw[sz] at B Y;refine Qd ⟨_,rfl,Qd ?_⟩;show Q (some (.ref a.objs.size)) _;rw[sz];have O:∀ {M l:Addr} {i:Nat},a.IsTupleIter M l i->M≠z->r.IsTupleIter M l i:=λa8 ne=>let⟨o,ho,a9⟩:=a8;⟨o,C _ o ne ho,a9⟩
 exact hQ r ⟨B,C _ _ D.TIz (U _ _ D.TIz D.TITO D.TIi1 D.TIi2 N),⟨x,y,C _ _ D.TOz u⟩,O m1 D.i1z,O m2 D.i2z⟩ Y λc o f v I J e=>C c o f (U c o f v I J e)
theorem zip_end {z TI TO i1 i2 g B:Addr}{k:Nat}{xs:Array Value}{Q:Option Value->Shared->Prop}(C:A.handled=none)(D:yd8 z TI TO i1 i2)(L:g≠z)(Z:ZAt s.heap z TI TO i1 i2 g B .none k)
   (u:s.heap.IsTuple g xs) (G:xs[k]?=none)
   (H:∀l,(∀c o,c≠z->c≠TO->c≠i1->c≠i2->s.heap.get? c=some o->l.get? c=some o)->Q none { s with heap:=l }):wpAny (model prog w) A (pyNext (.ref z)) Q E s:=by
 obtain⟨d,v,⟨a,b,P⟩,I,R⟩:=Z;have m:s.TypeIs (.ref z) "zip":=⟨_,d,rfl⟩;unfold pyNext;refine Qb (wpAny_attempt (wpAny_callSpecial?_slot (name:=Str.ofString "__next__") m F.slot_zip_next (wpAny_call_entry F.slot_zip_next m F.entry_zip_next ?_ (F.args_zip_next_1 _))));show wpAny _ _ (field (.ref z) 2 >>= _) _ _ _;refine Qb (wpAny_field d rfl (x:=.bool false) rfl ?_);show wpAny _ _ (field (.ref z) 3 >>= _) _ _ _;refine Qb (wpAny_field d rfl (x:=.ref TI) rfl ?_);refine Qb (wpAny_seqItems v rfl ?_);show wpAny _ _ (Builtin.SmallTypes.ownedTupleIsFree (.ref z) >>= _) _ _ _;refine Qb ?_;unfold Builtin.SmallTypes.ownedTupleIsFree;refine Qb (wpAny_field d rfl (x:=.none) rfl (Qd ?_));simp only[if_true];refine Qb (wpAny_rule (Qb (wpAny_field d rfl (x:=.ref TO) rfl ?_)));refine Qb (wpAny_setField_rec d (by simp) λJ h i=>?_);replace h:IsZip J z TI TO .ellipsis:=h;refine Qb ?_;simp only[List.zipIdx_cons,List.zipIdx_nil,List.forIn_cons,List.forIn_nil];refine Qb (Qb (wpAny_onRaise ?_));show wpAny _ _ (Builtin.SmallTypes.nextOf (.ref i1) >>= _) _ _ _;refine Qb (nextOf_tup_end C (I.extBut i.extBut D.i1z) (u.extBut i.extBut L) G λK e n M=>?_);obtain⟨N,f,j⟩:=M;have p:IsZip K z TI TO .ellipsis:=n _ _ D.i1z.symm h;have y:e≠z:=λq=>by subst q;rw[p] at f;cases f;simp at j
 refine wpAny_setField_rec p (by simp) λS _ r=>?_
 refine Qb (wpAny_isInstance (T:="StopIteration") (b:=true) ⟨N,r.extBut _ _ y f,j⟩ isSubtype_stop ?_);exact Qd (H _ λc o t _ O _ q=>r.extBut _ _ t (n _ _ O (i.extBut _ _ t q)))
noncomputable abbrev zp1 (h:Heap) (l1:Addr):Heap:=h.push { cls:=.type "tuple_iterator",data:=.fields #[.ref l1,.int 0 0] }
noncomputable abbrev zp2 (h:Heap) (l1 l2:Addr):Heap:=(zp1 h l1).push { cls:=.type "tuple_iterator",data:=.fields #[.ref l2,.int 0 0] }
noncomputable abbrev zp3 (h:Heap) (l1 l2:Addr):Heap:=(zp2 h l1 l2).push { cls:=.type "tuple",data:=.seq #[.ref h.objs.size,.ref (zp1 h l1).objs.size] }
noncomputable abbrev zp4 (h:Heap) (l1 l2:Addr):Heap:=(zp3 h l1 l2).push { cls:=.type "tuple",data:=.seq #[.none,.none] }
noncomputable abbrev zp5 (h:Heap) (l1 l2:Addr):Heap:=(zp4 h l1 l2).push { cls:=.type "zip",data:=.fields #[.none,.bool false,.bool false,.ref (zp2 h l1 l2).objs.size,.ref (zp3 h l1 l2).objs.size] }
theorem zip_made (a b:Addr)(xs ys:Array Value) :
   Meets (Builtin.«zip.__new__» ⟨[.type "zip",.ref a,.ref b],[]⟩) (λ_ R s=>s.heap.IsTuple a xs/\s.heap.IsTuple b ys/\R (.ok (.ret (.ref (zp4 s.heap a b).objs.size))) { s with heap:=zp5 s.heap a b }) :=
 .of_wp λm w A R s h=>by
   obtain⟨c,g,d,e,f⟩:=s;obtain⟨i,j,h⟩:=h;have n:=sub_zip;have k:Heap.IsTuple (Shared.heap ⟨c,g,d,e,f⟩) a xs:=i;have l:Heap.IsTuple (Shared.heap ⟨c.push { cls:=.type "tuple_iterator",data:=.fields #[.ref a,.int 0 0] },g,d,e,f⟩) b ys:=Heap.IsTuple.push j _
   wp_walk using wpAny_pyIter_tuple k,wpAny_pyIter_tuple l
   exact⟨_,rfl,h⟩
theorem zip_call {a b:Addr}{xs ys:Array Value}{Q:VP}(n:s.heap.IsTuple a xs)(p:s.heap.IsTuple b ys)
   (h:∀d,ZAt d (s.heap.objs.size+4) (s.heap.objs.size+2) (s.heap.objs.size+3) s.heap.objs.size (s.heap.objs.size+1) a b .none 0 →
     (∀c o,s.heap.get? c=some o->d.get? c=some o)->Q (.ref (s.heap.objs.size+4)) { s with heap:=d }):wpAny (model prog w) A (call (.type "zip") [.ref a,.ref b]) Q E s:=by
 refine callType_new F.called_zip (by decide) (F.typeCall_zip_2 _ _) (F.newCall_zip_2 _ _) (λq=>F.args_object_init_3 q _ _) F.entry_zip_new (zip_made a b xs ys) ⟨n,p,?_⟩;have e:(zp1 s.heap a).objs.size=s.heap.objs.size+1:=Zr ..;have f:(zp2 s.heap a b).objs.size=s.heap.objs.size+2:=by rw[Zr,e]
 have g:(zp3 s.heap a b).objs.size=s.heap.objs.size+3:=by rw[Zr,f]
 have j:(zp4 s.heap a b).objs.size=s.heap.objs.size+4:=by rw[Zr,g]
 have i:(zp5 s.heap a b).get? (zp4 s.heap a b).objs.size=some _:=Qm _ rfl;have k:(zp5 s.heap a b).get? (zp3 s.heap a b).objs.size=some _:=Qc _ (Qm _ rfl);have l:(zp5 s.heap a b).get? (zp2 s.heap a b).objs.size=some _:=Qc _ (Qc _ (Qm _ rfl));have m:(zp5 s.heap a b).get? (zp1 s.heap a).objs.size=some _:=Qc _ (Qc _ (Qc _ (Qm _ rfl)));have r:(zp5 s.heap a b).get? s.heap.objs.size=some _:=Qc _ (Qc _ (Qc _ (Qc _ (Qm _ rfl))));show _/\_;rw[f,g,j] at i;rw[e,f] at l;rw[g] at k;rw[e] at m;rw[j];refine⟨⟨_,i,rfl⟩,h _ ⟨i,l,⟨_,_,k⟩,⟨_,r,rfl,rfl⟩,⟨_,m,rfl,rfl⟩⟩ λc o x=>?_⟩;exact Qc _ (Qc _ (Qc _ (Qc _ (Qc _ x))))
end
noncomputable def Itz (l1 l2:Addr):It :=
 ⟨λi H=>∃xs ys x y,H l1=some (.tup xs)/\H l2=some (.tup ys)/\xs[i]?=some x/\ys[i]?=some y,
  λi H v H'=>∃p xs ys x y,H p=none/\v = .ref p/\H l1=some (.tup xs)/\H l2=some (.tup ys)/\xs[i]?=some x/\ys[i]?=some y/\H'=upd H p (.tup [x,y]),
  λi H=>∃xs ys,H l1=some (.tup xs)/\H l2=some (.tup ys)/\xs.length<=i⟩
theorem turn_zip {a7:Program}{w:World}{K:W.Frag}{es:List Expr}{k0:Nat}{tp:Pos}{r F z TI TO i1 i2:Addr}(D:yd8 z TI TO i1 i2) :
   Turn a7 w K (.Tuple es k0 tp) (Itz r F) [z,TI,TO,i1,i2] z (λi h=>ZAt h z TI TO i1 i2 r F .none i) where
 mem:=by simp
 obj:=λi h Z b f=>by
   obtain⟨G,C,⟨a,c,E⟩,⟨O,J,c1,d1⟩,⟨P,L,c2,d2⟩⟩:=Z;simp only[Qq,QS,or_false] at f;rcases f with rfl | rfl | rfl | rfl | rfl
   . exact⟨_,G,λv q=>by cases (show Data.fields _=Data.cell v from q)⟩
   . exact⟨_,C,λv q=>by cases (show Data.seq _ _=Data.cell v from q)⟩
   . exact⟨_,E,λv q=>by cases (show Data.seq _ _=Data.cell v from q)⟩
   . exact⟨O,J,λv q=>by rw[d1] at q;cases q⟩
   . exact⟨P,L,λv q=>by rw[d2] at q;cases q⟩
 keep:=λi h S Z k=>by
   obtain⟨G,C,⟨a,c,E⟩,⟨O,J,r1⟩,⟨P,L,r2⟩⟩:=Z;exact⟨k z (by simp) _ G,k TI (by simp) _ C,⟨a,c,k TO (by simp) _ E⟩,⟨O,k i1 (by simp) _ J,r1⟩,⟨P,k i2 (by simp) _ L,r2⟩⟩
 item:=by
   intro X T U V d i a3 s σ H a8 I t Z Y;subst T U V;obtain⟨xs,ys,x,y,u,Q,ex,ey⟩:=Y;obtain⟨_,vx,rx,tx⟩:=I.hok r _ u;obtain⟨_,vy,ry,ty⟩:=I.hok F _ Q;obtain⟨a0,hu,ru⟩:=rx.get ex;obtain⟨v,hv,rv⟩:=ry.get ey;have n:∀b∈[z,TI,TO,i1,i2],H b=none:=λb f=>(t b f).1
   have a9:∀l,l=r\/l=F->l≠z/\l≠TO/\l≠i1/\l≠i2:=λl hl=>by
     have hs:∃o,H l=some o:=by
       rcases hl with e | e
       . exact⟨_,by rw[e];exact u⟩
       . exact⟨_,by rw[e];exact Q⟩
     obtain⟨o,p⟩:=hs;exact⟨za9 p (n z (by simp)),za9 p (n TO (by simp)),za9 p (n i1 (by simp)),za9 p (n i2 (by simp))⟩
   refine zip_item D a9 Z (show s.heap.IsTuple r vx.toArray from tx.isTup) (show s.heap.IsTuple F vy.toArray from ty.isTup) (x:=a0) (y:=v) (by simpa using hu) (by simpa using hv) λS M hp kk=>?_
   refine⟨_,rfl,wpAny_letOwnedTupleGo_zip M.hz λh2 a4 A=>?_⟩;have j:∀c o,c∉[z,TO,i1,i2]->s.heap.get? c=some o->h2.get? c=some o:=λc o d e=>A.extBut _ _ (λq=>d (by simp[q])) (kk c o (λq=>d (by simp[q])) (λq=>d (by simp[q])) (λq=>d (by simp[q])) (λq=>d (by simp[q])) e)
   have N:∀c o,H c=some o->c∉[z,TO,i1,i2]:=λc o e g=>by
     have:H c=none:=n c (by simp only[Qq,QS,or_false] at g ⊢;rcases g with q | q | q | q<;>simp[q]);rw[this] at e;cases e
   have a5:z<s.heap.objs.size:=Qp Z.hz;have a6:IsPair h2 s.heap.objs.size a0 v:=A.extBut _ _ (Nat.ne_of_gt a5) hp;have B:H s.heap.objs.size=none:=I.fresh;have I2:Inv X a3 σ (upd H s.heap.objs.size (.tup [x,y])) { s with heap:=h2 }:=by
     refine I.step (g':=s.gens) (d':=s.drawn) (t':=s.toks) (ch:=[z,TO,i1,i2]) (λb f=>?_) (λb o _ _ d e _=>j b o d e) (λb o _ _ d e _=>⟨o.slots,j b o d e⟩)
       (λb o _ e a1=>by rw[za8 (Qz (Qp e))];exact a1)
       (λb o d e=>⟨o,j b o d e⟩) (λb zs e=>by rw[za8 (za9 e B)];exact e) (λb o zs e=>by rw[za8 (za9 e B)];exact e) (λb ps e=>⟨#[],by rw[za8 (za9 e B),e];simp⟩) (λm g=>?_) (λb o e=>?_) I.bare
     . obtain⟨f0,f1,f2,f3,f4,f5⟩:=t b (by simp only[Qq,QS,or_false] at f ⊢;rcases f with q | q | q | q<;>simp[q])
       exact⟨f3,f1,f4,f5⟩
     . obtain⟨o,R,ep,p,a2⟩:=g
       refine⟨o,R,ep,j _ o (λg=>?_) p,a2⟩
       exact(t X.env.locals (by simp only[Qq,QS,or_false] at g ⊢;rcases g with q | q | q | q<;>simp[q])).2.1 rfl
     . by_cases f:b=s.heap.objs.size
       . subst f
         rw[za4] at e;cases e;exact⟨(by show 2<=sizeLine;decide),[a0,v],.cons ru (.cons rv .nil),⟨_,a6,rfl,rfl,_,rfl⟩⟩
       . rw[za8 f] at e
         refine(I.hok b o e).stay (λc v d q=>j c v ?_ q) (λc q=>by rw[za8 (za9 q B)];exact q) λc zs q=>by rw[za8 (za9 q B)];exact q
         rcases d with rfl | d
         . exact N _ _ e
         . exact N _ _ d
   exact⟨.ref s.heap.objs.size,_,I2,rfl,⟨_,xs,ys,x,y,B,rfl,u,Q,ex,ey,rfl⟩,⟨a4,A.extBut _ _ D.TIz M.hTI,(let⟨a,c,q⟩:=M.hTO;⟨a,c,A.extBut _ _ D.TOz q⟩),M.h1.extBut A.extBut D.i1z,M.h2.extBut A.extBut D.i2z⟩,λb f=>by
     rw[za8]
     . exact n b f
     . obtain⟨o,e,_⟩:∃o,s.heap.get? b=some o/\True:=by
         simp only[Qq,QS,or_false] at f;obtain⟨G,C,⟨a,c,E⟩,⟨O,J,_⟩,⟨P,L,_⟩⟩:=Z;rcases f with rfl | rfl | rfl | rfl | rfl
         . exact⟨_,G,trivial⟩
         . exact⟨_,C,trivial⟩
         . exact⟨_,E,trivial⟩
         . exact⟨_,J,trivial⟩
         . exact⟨_,L,trivial⟩
       exact Qz (Qp e)⟩
 done:=by
   intro X T U V d i a3 s σ H a8 I t Z Y;subst T U V;obtain⟨xs,ys,u,Q,aa⟩:=Y;obtain⟨_,vx,rx,tx⟩:=I.hok r _ u;have ab:=rx.length;have n:∀b∈[z,TI,TO,i1,i2],H b=none:=λb f=>(t b f).1
   refine zip_end (I.ok.hd d) D (za9 u (n z (by simp))) Z (show s.heap.IsTuple r vx.toArray from tx.isTup) (by simp;omega) λS kk=>⟨rfl,?_⟩
   have j:∀c o,c∉[z,TO,i1,i2]->s.heap.get? c=some o->S.get? c=some o:=λc o d e=>kk c o (λq=>d (by simp[q])) (λq=>d (by simp[q])) (λq=>d (by simp[q])) (λq=>d (by simp[q])) e
   have N:∀c o,H c=some o->c∉[z,TO,i1,i2]:=λc o e g=>by
     have:H c=none:=n c (by simp only[Qq,QS,or_false] at g ⊢;rcases g with q | q | q | q<;>simp[q]);rw[this] at e;cases e
   refine I.step (g':=s.gens) (d':=s.drawn) (t':=s.toks) (ch:=[z,TO,i1,i2]) (λb f=>?_) (λb o _ _ d e _=>j b o d e) (λb o _ _ d e _=>⟨o.slots,j b o d e⟩) (λ_ _ _ _ a1=>a1)
     (λb o d e=>⟨o,j b o d e⟩) (λ_ _ e=>e) (λ_ _ _ e=>e) (λb ps e=>⟨#[],by rw[e];simp⟩) (λm g=>?_) (λb o e=>?_) I.bare
   . obtain⟨f0,f1,f2,f3,f4,f5⟩:=t b (by simp only[Qq,QS,or_false] at f ⊢;rcases f with q | q | q | q<;>simp[q])
     exact⟨f3,f1,f4,f5⟩
   . obtain⟨o,R,ep,p,a2⟩:=g
     refine⟨o,R,ep,j _ o (λg=>?_) p,a2⟩
     exact(t X.env.locals (by simp only[Qq,QS,or_false] at g ⊢;rcases g with q | q | q | q<;>simp[q])).2.1 rfl
   . refine(I.hok b o e).stay (λc v d q=>j c v ?_ q) (λ_ q=>q) λ_ _ q=>q
     rcases d with rfl | d
     . exact N _ _ e
     . exact N _ _ d
 self:=λ_ _ _ _ _ Z h=>wpAny_pyIter_zip Z.hz h
section
variable {X:Cx} {es:List Expr} {k0:Nat} {tp:Pos}
def iZip (ta:TA):TI:=λσ H R=>ta σ H λvs H1=>∃l1 l2 xs ys,vs=[.ref l1,.ref l2]/\H1 l1=some (.tup xs)/\H1 l2=some (.tup ys)/\R (Itz l1 l2) H1
theorem pi_zip {a b:Expr} {n:TA} {p k:Pos} (y:Gl X "zip") (z:X.mg "zip" = none) (A:PA X [a,b] n) (hs:starEach [a,b] X.env=[(false,eval a X.env),(false,eval b X.env)]:=by rfl) (l:starEach [b] X.env=[(false,eval b X.env)]:=by rfl) :
   PI X (.Tuple es k0 tp) (.Call (.Name "zip" p) [a,b] [] k) (iZip n):=by
 intro g s v H R I h;refine Call_ (zI7 I y z boot_zip (PyProof.Rows.callWith_type1 (thn (A k g s v H _ I h) λP c ⟨Q,o,f,B,C⟩=>?_) (by rw[hs,l]) (by rw[l];rfl)));obtain⟨r,t,S,T,e,D,E,q⟩:=C;subst e;obtain⟨U,V,rfl,w,x⟩:=yf4 B;cases w;cases x;obtain⟨_,F,W,G⟩:=f.hok r _ D;obtain⟨_,J,Y,K⟩:=f.hok t _ E;refine zip_call (show c.heap.IsTuple r F.toArray from G.isTup) (show c.heap.IsTuple t J.toArray from K.isTup) λL Z M=>?_
 refine wpAny_pyIter_zip Z.hz ?_;have N:Inv X g v o { c with heap:=L }:=f.kept (t':=c.toks) M;have d:∀i j:Nat,i≠j->c.heap.objs.size+i≠c.heap.objs.size+j:=λi j O=>by omega
 refine⟨_,_,_,_,o,rfl,N,turn_zip (es:=es) (k0:=k0) (tp:=tp) (TI:=c.heap.objs.size+2) (TO:=c.heap.objs.size+3) (i1:=c.heap.objs.size) (i2:=c.heap.objs.size+1) ⟨d 2 4 (by decide),d 3 4 (by decide),d 0 4 (by decide),d 1 4 (by decide),d 2 3 (by decide),d 2 0 (by decide),d 2 1 (by decide),d 3 0 (by decide),d 3 1 (by decide),d 0 1 (by decide)⟩,Z,λb u=>?_,q⟩;have m:c.heap.objs.size<=b:=by
   simp only[Qq,QS,or_false] at u
   rcases u with rfl | rfl | rfl | rfl | rfl<;>first | exact Nat.le_add_right _ _ | exact Qj _
 exact f.fpOk m (f.hok.fresh m)
theorem call_sum (o:X.calm=true):zn9 X (.builtin "sum") (λe H Q=>∃l a,e=[.ref l]/\SqL X.K H l (a.map V.int)/\PySem.SumFits a/\Q (.int a.sum) H):=by
 intro E s M H e F Q I r h;obtain⟨l,a,rfl,t,i,q⟩:=h;obtain⟨u,rfl,v⟩:=zs9 r;cases v;obtain⟨m,w,p,G⟩:=I.list t;obtain⟨b,x,f⟩:=zD9 (zr5 w);have y:m.toArray=intItems b.toArray:=by
   unfold intItems;rw[x];simp
 have g:=p.isList;rw[y] at g;have c:∀j,numAt b.toArray j=a.getD j 0:=λj=>by
   unfold numAt;rw[<-f];simp[Qs,QQ]
 have d:∀j,j<=a.length->preSum (numAt b.toArray) j=(a.take j).sum:=by
   intro j
   induction j with
   | zero=>intro _;rfl
   | succ j z =>
     intro A;show preSum (numAt b.toArray) j+numAt b.toArray j=_;rw[z (by omega),c,QP,List.sum_append];have:a[j]?=some (a[j]'(by omega)):=by simp
     rw[Qs,this];simp
 have k:b.toArray.size=a.length:=by rw[<-f];simp
 refine sum_intList (I.ok.hd o) g (λj A=>?_) λJ K L B=>?_
 . have n:j<a.length:=by omega
   obtain⟨C,D⟩:=i j n;rw[c,d (j+1) (by omega)];exact⟨C,D⟩
 . rw[k,d a.length (Qj _),QR]
   exact⟨.int a.sum,H,I.kept B,⟨_,rfl⟩,q⟩
theorem pg_tupK {es:List Expr}{k:Nat}{t:TGs}{n:Nat}{a:Pos}(K:W.Frag)(c:X.K=K)(d:X.calm=true)(h:PGs X es t)
 (e:(assignEach es X.env).length=n:=by rfl) (b:(assignEach es X.env).findIdx? (·.1)=none:=by rfl):PG X (.Tuple es k a) (gTup K n t):=c▸yk7 d h e b
end
theorem comp_zip {K:W.Frag}{e:Hp}{k l D:Addr}{xs ys:List V}{f:V->V->V}{rest:St}{o:TE}{Q:Hp->Prop}(r:e k=some (.tup xs))(t:e l=some (.tup ys))(P:xs.length=ys.length)(C:e D=none)(hn:xs.length<=sizeLine)
   (S:∀(i:Nat) x y c R,xs[i]?=some x->ys[i]?=some y->Same e c->R (f x y) c->o (some x::some y::rest) c R) (q:∀c,Same e c->c D=some (.lst (List.zipWith f xs ys))->Q c) :
   ∃W:Nat->Nat->St->Hp->Prop,(∃m,W 0 m (none::none::rest) (upd e D (.lst []))) ∧
     ∀i m g c,W i m g c->((Itz k l).stop i c/\Q c)\/((Itz k l).go i c/\∃N:St->Hp->Prop,(∀j d,N j d->∃E,E<m/\W (i+1) E j d) ∧
       ∀v d,(Itz k l).yld i c v d->gTup K 2 (yk5 (zp7 0) (yk5 (zp7 1) gNil)) v g d λu T=>zq6 u T λb F=>if b=true then zq1 D o N u F else N u F):=by
 have U:(List.zipWith f xs ys).length=xs.length:=by rw[ZC,P,Nat.min_self]
 refine⟨λi m g c=>m=xs.length-i/\i<=xs.length/\(∃a b,g=a::b::rest)/\Same e c/\c D=some (.lst ((List.zipWith f xs ys).take i)),⟨xs.length,by simp,QD _,⟨_,_,rfl⟩,Same.upd C,by rw[za4];rfl⟩,?_⟩;rintro i m g c ⟨rfl,hi,⟨a,b,rfl⟩,s,n⟩;by_cases z:i<xs.length
 . have X:xs[i]?=some xs[i]:=by simp[z]
   have Y:ys[i]?=some (ys[i]'(by omega)):=by simp
   refine .inr ⟨⟨xs,ys,_,_,s _ _ r,s _ _ t,X,Y⟩,λj d=>(∃a b,j=a::b::rest)/\Same e d/\d D=some (.lst ((List.zipWith f xs ys).take (i+1))),λj d h=>⟨xs.length-(i+1),by omega,rfl,z,h.1,h.2.1,h.2.2⟩,?_⟩;rintro v d ⟨p,I,J,G,H,w,rfl,L,M,A,B,rfl⟩;have Z:I=xs:=by have:=(s _ _ r).symm.trans L;cases this;rfl
   have e2:J=ys:=by have:=(s _ _ t).symm.trans M;cases this;rfl
   subst Z e2;have O:D≠p:=λa0=>by rw[a0,w] at n;cases n
   refine⟨p,_,rfl,SqT.of za4,rfl,_,_,rfl,_,_,rfl,rfl,?_⟩;dsimp only[zq6];refine iteT ?_;show zq1 D o _ (some G::some H::rest) _;refine S i G H _ _ A B (s.updT w) ⟨_,by rw[za8 O];exact n,?_,⟨_,_,rfl⟩,(s.updT w).put C,?_⟩
   . rw[QT];omega
   . rw[za4,QP,List.getElem?_zipWith,A,B]
     rfl
 . have a1:i=xs.length:=by omega
   subst a1;refine .inl ⟨⟨xs,ys,s _ _ r,s _ _ t,Qj _⟩,q c s ?_⟩;rw[n,<-U,QR]
noncomputable abbrev bmV:List Value:=[.type "ValueError",.type "Exception",.type "BaseException",.type "object"]
def MroV (bm:List Value):Prop:=bm=bmV\/∃D:Addr,bm = .ref D::bmV
theorem MroV.has {a:List Value}(m:MroV a){T:String}{b:Bool}(h:bmV.contains (.type T)=b):a.contains (.type T)=b:=by
 rcases m with rfl | ⟨D,rfl⟩
 . exact h
 . rw[List.contains_cons,h];rfl
theorem MroV.self {a:List Value}(m:MroV a)(C:Addr){T:String}{b:Bool}(h:bmV.contains (.type T)=b):(Value.ref C::a).contains (.type T)=b:=by
 rw[List.contains_cons,m.has h];rfl
theorem MroV.passes {a:List Value} (m:MroV a) (v:Value):refuseLoop v "__setattr__" a=pure ():=by
 rcases m with rfl | ⟨D,rfl⟩
 . exact PySem.F.store_ValueError.passes v
 . rw[refuseLoop_ref];exact PySem.F.store_ValueError.passes v
section
variable {prog:Program} {w:World} {A:Around} {E:VP} {R:Result->Shared->Prop} {h:Heap} {g:Array GenState} {d:Drawn} {t:Nat} {os:OsState}
variable {nm q:Str} {C N:Addr} {bs bm:List Value} {hdct:Bool} {sn:List Str} {sub:List Value} {ab:Bool} {col:Option Bool} {dd:Option Addr} {k0 k1 k2 k3 k5:Option Value}
theorem xnew_check {M:Model} (m:MroV bm) {rest:List Value} {Q:Unit->Shared->Prop} (a:h.get? C=some (excClassObj nm q C N bs bm hdct sn sub ab col dd k0 k1 k2 k3 k5 "ValueError.__new__"))
   (c:Q () ⟨h,g,d,t,os⟩):wpAny M A (checkBuiltinCall "ValueError.__new__" ⟨.ref C::rest,[]⟩) Q E ⟨h,g,d,t,os⟩:=by
 have b:=m.self C PySem.F.excBase_ValueError.hasB;have e:=PySem.F.excBase_ValueError.noStar;simp only[checkBuiltinCall,PySem.F.excBase_ValueError.newKind,PySem.F.excBase_ValueError.newSplit,PySem.F.excBase_ValueError.newRow]
 repeat (first | refine wpAny_loadPart_at a ?_ | (refine wpAny_isSubtype_exc a ?_;rw[b]) | refine wpAny_staticBase_exc a ?_ | refine wpAny_madeBy_exc a ?_ | simp only[bne_self_eq_false,Zk,if_false] | wp_step)
 exact c
theorem xnew_code (m:MroV bm) {rest:List Value} (a:h.get? C=some (excClassObj nm q C N bs bm hdct sn sub ab col dd k0 k1 k2 k3 k5 "ValueError.__new__"))
   (b:R (.ok (.ret (.ref (h.objs.size+1)))) ⟨(h.push { cls:=.type "tuple",data:=.seq rest.toArray }).push { cls:=.ref C,data:=.fields #[.ref h.objs.size,.none,.none,.none,.bool false,.none] },g,d,t,os⟩)
   (i:rest.length<=sizeLine):codeAny (model prog w) A (.builtin "ValueError.__new__" ⟨.ref C::rest,[]⟩) R ⟨h,g,d,t,os⟩:=by
 have j:=PySem.F.excBase_ValueError.ends;have c:=m.self C PySem.F.excBase_ValueError.hasB;have e:=m.self C PySem.F.excBase_ValueError.noAttr;have f:=m.self C PySem.F.excBase_ValueError.noName;refine codeAny_builtinAt PySem.F.excBase_ValueError.entry ?_;unfold Builtin.«BaseException.__new__»;refine PySem.wpAt_bind ?_;show PySem.wpAt _ _ _ (stack >>= _) _ _ _;refine PySem.wpAt_bind (PySem.wpAt_stack λp k=>PySem.wpAt_of_wpAny ?_);wp_walk;refine PySem.wpAt_of_wpAny ?_;rw[PySem.F.excBase_ValueError.owner]
 repeat (first | with_reducible refine wpAny_madeHere_exc PySem.F.excBase_ValueError.canon a ?_ | with_reducible refine wpAny_loadPart_at a ?_ | (with_reducible refine wpAny_isSubtype_exc a ?_;first | rw[c] | rw[e] | rw[f]) | wp_step)
 show R _ _;rw[Zr];exact b
theorem xcall {K:W.Frag} (X:K.In h) (m:MroV bm) {rest:List Value} {c:Addr} {Q:VP} (a:h.get? C=some (excClassObj nm q C N bs bm hdct sn sub ab col dd k0 k1 k2 k3 k5 "ValueError.__new__"))
   (p:W.findIn K (.ref C) "__init__" = some (some (.ref c))) (s:W.isFn K (.ref c)=true) (k:rest.length<=sizeLine)
   (u:wpAny (model prog w) (A.under (.builtin "type.__call__" ⟨.ref C::rest,[]⟩)) (call (.ref c) (.ref (h.objs.size+1)::rest)) (λr f=>r = .none/\Q (.ref (h.objs.size+1)) f) E
     ⟨(h.push { cls:=.type "tuple",data:=.seq rest.toArray }).push { cls:=.ref C,data:=.fields #[.ref h.objs.size,.none,.none,.none,.bool false,.none] },g,d,t,os⟩) :
   wpAny (model prog w) A (call (.ref C) rest) Q E ⟨h,g,d,t,os⟩:=by
 have z:=tc_lookup;have B:=tc_bind (.ref C);have D:(⟨h,g,d,t,os⟩:Shared).TypeIs (.ref C) "type":=⟨_,a,rfl⟩;refine wpAny_call (codeAny_of_tree ?_);show wpAny _ _ (callAny (.ref C) _) _ _ _
 repeat (any_goals (first | assumption | with_reducible refine wpAny_loadPart_at a ?_ | wp_step))
 refine⟨rfl,?_⟩;refine codeAny_call_builtin_at (Code.quiet_builtin _ (by decide +kernel)) entry_typeCall (wpAny_check_type_call_sub a ?_)
 repeat (first | with_reducible refine wpAny_loadPart_at a ?_ | with_reducible refine wpAny_madeBy_exc a ?_ | wp_step)
 refine codeAny_call_builtin_code (Code.quiet_builtin _ PySem.F.excBase_ValueError.quiet) (xnew_check m a (xnew_code m a ?_ k));show wpAny _ _ _ _ _ _;have i:∀b o,h.get? b=some o->((h.push { cls:=.type "tuple",data:=.seq rest.toArray }).push { cls:=.ref C,data:=.fields #[.ref h.objs.size,.none,.none,.none,.bool false,.none] }).get? b=some o:=λb o e=>Qc _ (Qc _ e)
 have l:=i _ _ a;have X1:K.In ((h.push { cls:=.type "tuple",data:=.seq rest.toArray }).push { cls:=.ref C,data:=.fields #[.ref h.objs.size,.none,.none,.none,.bool false,.none] }):=X.keeps i;have j:((h.push { cls:=.type "tuple",data:=.seq rest.toArray }).push { cls:=.ref C,data:=.fields #[.ref h.objs.size,.none,.none,.none,.bool false,.none] }).get? (h.objs.size+1)=some { cls:=.ref C,data:=.fields #[.ref h.objs.size,.none,.none,.none,.bool false,.none] }:=by heap_get
 have n:(Value.ref C::bm).contains (.ref C)=true:=by simp
 unfold isInstance
 repeat (first | with_reducible refine wpAny_loadPart_at j ?_ | wp_step)
 refine wpAny_isSubtype_exc l ?_;rw[n]
 repeat (first | with_reducible refine wpAny_loadPart_at j ?_ | wp_step)
 show wpAny _ _ (typeLookup (.ref C) _) _ _ _;refine W.looks_findIn X1 p _ _ _ _ (λ_ _ e=>e) ?_;refine wpAny_holding (Qb ?_);unfold bindSpecial;refine Qb (W.looks_typeIn X1 (beq_iff_eq.mp s) _ _ _ _ (λ_ _ e=>e) ?_);rw[Qo (by decide)];refine Qd (Qb (Zg u (λr f v=>?_) λ_ _ x=>x));obtain⟨rfl,y⟩:=v
 wp_walk
 exact y
end
open PySem.Builtin PySem.Builtin.ObjectAttr
section
variable {prog:Program} {w:World} {A:Around} {E:VP} {h:Heap} {g:Array GenState} {d:Drawn} {t:Nat} {os:OsState}
variable {nm q:Str} {C N x:Addr} {bs bm:List Value} {sn:List Str} {sub:List Value} {ab:Bool} {col:Option Bool} {dd:Option Addr} {k0 k1 k2 k3 k5:Option Value} {newId:String} {mA:Str->Option Value} {name:Str} {v:Value} {K:W.Frag}
theorem xsa_check {M:Model}(m:MroV bm){o:Obj}{a:Value}{Q:Unit->Shared->Prop}(c:h.get? C=some (excClassObj nm q C N bs bm true sn sub ab col dd k0 k1 k2 k3 k5 newId))(e:h.get? x=some o)(f:o.cls = .ref C)(i:Q () ⟨h,g,d,t,os⟩) :
   wpAny M A (checkBuiltinCall "object.__setattr__" ⟨[.ref x,a,v],[]⟩) Q E ⟨h,g,d,t,os⟩:=by
 have b:=m.self C PySem.F.store_ValueError.hasOwner;have j:=PySem.F.store_ValueError.args (.ref x) a v;simp only[checkBuiltinCall,PySem.F.store_ValueError.kind,PySem.F.store_ValueError.split];refine Qb ?_;unfold isInstance
 repeat (first | (with_reducible refine wpAny_loadPart_at e ?_;rw[f]) | (with_reducible refine wpAny_isSubtype_exc c ?_;rw[b]) | wp_step)
 exact i
theorem xsa_entry (X:K.In h)(m:MroV bm){G:Tok}{Q:PySem.Fin->Shared->Prop}{ns:List Str}(hC:h.get? C=some (excClassObj nm q C N bs bm true sn sub ab col dd k0 k1 k2 k3 k5 newId))(S:W.findIn K (.ref C) name=some none)(a6:x≠C)(I:h.Inst x C mA)
   (P:∀i T,i.Inst x C (λy=>if y=name then some v else mA y) →
     (∀b o,b≠x->(∀a f,h.get? x=some a->a.dict=some f->b≠f)->h.get? b=some o->i.get? b=some o) →
     (∀a,h.get? x=some a->∃k,i.get? x=some k/\k.cls=a.cls/\k.data=a.data/\k.slots=a.slots/\(∀f,a.dict=some f->k.dict=some f)/\(a.dict=none->k.dict=some h.objs.size))->Q (.done (.ret .none)) ⟨i,g,d,T,os⟩) (hw:Within mA ns) (hsz:ns.length<=sizeLine) :
   wpAny (model prog w) A (Builtin.«object.__setattr__» ⟨[.ref x,.str name G,v],[]⟩) Q E ⟨h,g,d,t,os⟩:=by
 obtain⟨o,j,H,s,hd⟩:=I;have R:=m.passes (.ref x);have lk:∀(A:Around) (Q:Option Value->Shared->Prop) (E:VP),Q none ⟨h,g,d,t,os⟩->wpAny (model prog w) A (typeLookup (.ref C) name) Q E ⟨h,g,d,t,os⟩:=λA Q E q=>W.looks_findIn X S A Q E _ (λ_ _ e=>e) q
 unfold Builtin.«object.__setattr__»
 repeat (first | rw[refuse_eq] | (rw[refuseLoop_ref,R]) | (with_reducible refine wpAny_loadPart_at j ?_;rw[H]) | with_reducible refine wpAny_mroOf_exc hC ?_ | with_reducible refine lk _ _ _ ?_ | wp_step)
 rcases hd with⟨L,U⟩ | ⟨f,p,u,V⟩
 . rw[L,Qh (by simp[typeHasDict])]
   split
   . rename_i hcd
     cases hcd
   split
   . rename_i c hcd
     exact absurd hcd (s c)
   . have M:(h.push { cls:=.type "dict",data:=.dict #[] }).get? x=some o:=Qc _ j
     have z:x≠h.objs.size:=Qz (Qp j);refine Qb (wpAny_alloc' (Qb (wpAny_update' M (Qd ?_))));have Y:((h.push { cls:=.type "dict",data:=.dict #[] }).update x λo=>{ cls:=o.cls,dict:=some h.objs.size,data:=o.data,slots:=o.slots }).get? h.objs.size=some { cls:=.type "dict",data:=.dict #[] }:=(Heap.get?_update_ne _ _ _ _ z.symm).trans (Heap.get?_push_at rfl rfl);have Z:((h.push { cls:=.type "dict",data:=.dict #[] }).update x λo=>{ cls:=o.cls,dict:=some h.objs.size,data:=o.data,slots:=o.slots }).Ns h.objs.size (λ_=>none):=⟨_,#[],_,Y,rfl,λe he=>absurd he (by simp),λ_=>rfl⟩;show wpAny _ _ (storeInDict h.objs.size (.str name G) name v) _ _ _;unfold storeInDict newKeyGuard;refine Qb (Qd (Qb (wpAny_nsSet1 (Heap.Ns1.of_empty Z) λi n l=>?_)));obtain⟨oD,a0,a1,B,D,F⟩:=n.count (Within.cons name v Within.nil);refine Qb (wpAny_lookBehind B (by rw[D];exact pastItsLine_dict (QJ F (by rw[Ql,Zs,sizeLine_eq];omega))) ?_)
     wp_walk
     have O:i.get? x=some { cls:=o.cls,dict:=some h.objs.size,data:=o.data,slots:=o.slots }:=by
       refine(l.2 x z).trans (Zm _ M ?_);have a2:=(Heap.get?_some_iff.mp j).2;obtain⟨oc,od,a3,a7⟩:=o
       cases a3<;>first | rfl | exact a2
     refine P i _ ⟨_,O,H,s,.inr ⟨h.objs.size,rfl,z.symm,?_⟩⟩ (λb ob a4 _ r=>?_) (λa J=>?_)
     . obtain⟨o',es,ep,e1,e2,e3,eu,e4⟩:=n
       exact⟨o',es,ep,e1,e2,e3,eu,λy=>by rw[e4 y];by_cases hy:y=name<;>simp[hy,U]⟩
     . exact(l.2 b (Qz (Qp r))).trans ((Heap.get?_update_ne _ _ _ _ a4).trans (Qc _ r))
     . obtain rfl:o=a:=QA (j.symm.trans J)
       exact⟨_,O,rfl,rfl,rfl,λf e=>(by rw[L] at e;cases e),λ_=>rfl⟩
 . rw[p]
   refine Qd ?_;show wpAny _ _ (storeInDict f (.str name G) name v) _ _ _;unfold storeInDict newKeyGuard;refine Qb (Qd (Qb (wpAny_nsSet1 V λi n l=>?_)));obtain⟨oD,a0,a1,B,D,F⟩:=n.count (Within.cons name v hw);refine Qb (wpAny_lookBehind B (by rw[D];exact pastItsLine_dict (QJ F (by rw[Ql];omega))) ?_)
   wp_walk
   refine P i _ ⟨o,(l.2 x u.symm).trans j,H,s,.inr ⟨f,p,u,n⟩⟩ (λb ob _ a5 r=>(l.2 b (a5 o f j p)).trans r) (λa J=>?_);obtain rfl:o=a:=QA (j.symm.trans J);exact⟨o,(l.2 x u.symm).trans j,rfl,rfl,rfl,λ_ e=>e,λe=>(by rw[p] at e;cases e)⟩
theorem ym6 (X:K.In h) (m:MroV bm) {Q:Unit->Shared->Prop} {ns:List Str} (k:h.get? C=some (excClassObj nm q C N bs bm true sn sub ab col dd k0 k1 k2 k3 k5 newId)) (r:W.findIn K (.ref C) "__setattr__" = some (some (.builtin "object.__setattr__")))
   (s:W.findIn K (.ref C) name=some none) (u:x≠C) (I:h.Inst x C mA)
   (z:∀c j,c.Inst x C (λy=>if y=name then some v else mA y) →
     (∀b o,b≠x->(∀a i,h.get? x=some a->a.dict=some i->b≠i)->h.get? b=some o->c.get? b=some o) →
     (∀a,h.get? x=some a->∃f,c.get? x=some f/\f.cls=a.cls/\f.data=a.data/\f.slots=a.slots/\(∀i,a.dict=some i->f.dict=some i)/\(a.dict=none->f.dict=some h.objs.size))->Q () ⟨c,g,d,j,os⟩) (B:Within mA ns) (hsz:ns.length<=sizeLine) :
   wpAny (model prog w) A (setAttr (.ref x) name v) Q E ⟨h,g,d,t,os⟩:=by
 obtain⟨o,l,n,_⟩:=id I;have H:=PySem.F.store_ValueError.slot.bind (.ref x);have D:∀(A:Around) (Q:Option Value->Shared->Prop) (E:VP) (t:Nat),Q (some (.builtin "object.__setattr__")) ⟨h,g,d,t,os⟩->wpAny (model prog w) A (typeLookup (.ref C) "__setattr__") Q E ⟨h,g,d,t,os⟩:=λA Q E t q=>W.looks_findIn X r A Q E _ (λ_ _ e=>e) q
 unfold setAttr callSpecial? specialOf
 repeat (any_goals (first | assumption | (with_reducible refine wpAny_loadPart_at l ?_;rw[n]) | refine D _ _ _ _ ?_ | wp_step))
 refine codeAny_call_builtin PySem.F.store_ValueError.slot.plain PySem.F.store_ValueError.entry (xsa_check m k l n (xsa_entry X m k s u I (λc j F G p=>?_) B hsz))
 repeat (any_goals (first | assumption | wp_step))
 exact z c j F G p
end
noncomputable def ExcO (C e:Addr)(od:Option Addr):HO:=.ext λh=>∃t:Addr,h.get? e=some { cls:=.ref C,dict:=od,data:=.fields #[.ref t,.none,.none,.none,.bool false,.none] }
structure XCls (K:W.Frag)(C:Addr):Prop where
 ob:∃nm q N bs bm sn sub ab col dd k0 k1 k2 k3 k5,K.lookup C=some (excClassObj nm q C N bs bm true sn sub ab col dd k0 k1 k2 k3 k5 "ValueError.__new__")/\MroV bm
 sa:W.findIn K (.ref C) "__setattr__" = some (some (.builtin "object.__setattr__"))
 kp:W.keepIn K (.ref C)=true
section
variable {X:Cx} {pins:List (Addr×Obj)} {σ:St} {H:Hp} {s:Shared} {C x:Addr} {od:Option Addr}
theorem zY2 (I:Inv X pins σ H s)(e:H x=some (ExcO C x od)):∃t:Addr,s.heap.get? x=some { cls:=.ref C,dict:=od,data:=.fields #[.ref t,.none,.none,.none,.bool false,.none] }:=(I.hok x _ e).1
theorem yg6 {P:Program}{w:World}{H:Hp}{h:Heap}{t:Addr}(e:h.get? x=some { cls:=.ref C,dict:=od,data:=.fields #[.ref t,.none,.none,.none,.bool false,.none] }):zg1 P w H h x (ExcO C x od) :=
 ⟨⟨t,e⟩,⟨_,e⟩,λb c ⟨t,a⟩ k=>⟨t,k _ a⟩⟩
theorem cls_ne (I:Inv X pins σ H s){o:HO}{a:Obj}(b:X.K.lookup C=some a)(e:H x=some o):x≠C:=λz=>by
 have c:=I.ok.mod.kin _ _ b;have:=(I.bs _ _ c).2;rw[z,this] at e;cases e
def XPut (D:St->Hp->Prop)(σ:St)(H:Hp)(a C:Addr)(od:Option Addr)(f:Str)(y:V):Prop:=match od with
 | none=>∀dx,H dx=none->dx≠a->D σ (upd (upd H dx (.xd (putF f y []))) a (ExcO C a (some dx)))
 | some dx=>∃fs,H dx=some (.xd fs)/\fs.length<1000/\D σ (upd H dx (.xd (putF f y fs)))
theorem ym7 {P:Program}{w:World}{H:Hp}{h:Heap}{a:Addr}{mA:Str->Option Value}{f:Str}{y:V}{u:Value}{fs:List (Str×V)}(i:fs.length<1000)(b:h.Ns1 a λg=>if g=f then some u else mA g)(r:∀g,RelO (fs.lookup g) (mA g))(c:PySem.Within mA (fs.map (·.1)))(d:RelV y u) :
   zg1 P w H h a (.xd (putF f y fs)):=by
 refine⟨by have:=zq0 f y fs;omega,_,b,λg=>?_,λg e=>?_⟩
 . rw[zc0]
   by_cases q:g=f
   . rw[Qo q];simp only[q,if_true];exact d
   . rw[Qh q];simp only[q,if_false];exact r g
 . by_cases q:g=f
   . rw[q];exact(zv1 f y fs).1
   . refine(zv1 f y fs).2 g (c g λz=>e ?_)
     simp only[q,if_false];exact z
theorem xsetattr_ok {f:Str}{y:V}{u:Value}{a3:St->Hp->Prop}{A:Around}{E:VP}(I:Inv X pins σ H s)(c:XCls X.K C)(na:zf6 X.K C f)(e:H x=some (ExcO C x od))(ry:RelV y u)(q:XPut a3 σ H x C od f y) :
   wpAny (model X.prog X.w) A (setAttr (.ref x) f u) (λ_ s'=>∃H',Inv X pins σ H' s'/\a3 σ H') E s:=by
 obtain⟨nm,qn,af,bs,bm,sn,ac,ab,ad,dd,k0,k1,k2,k3,k5,hK,m⟩:=c.ob;have hC:=I.kIn _ _ hK;obtain⟨t,k⟩:=zY2 I e;have a0:=cls_ne I hK e;cases od with
 | none =>
   have R:s.heap.Inst x C (λ_=>none):=⟨_,k,rfl,λc z=>(by cases z),.inl ⟨rfl,λ_=>rfl⟩⟩;obtain⟨i,g,d,tk,os⟩:=s;refine ym6 (ns:=[]) I.kIn m hC c.sa na a0 R (λh' O S T U=>?_) PySem.Within.nil (QD _);obtain⟨W,Y,B,D,F,_,Z⟩:=U _ k;have G:=Z rfl;have r:h'.get? x=some { cls:=.ref C,dict:=some i.objs.size,data:=.fields #[.ref t,.none,.none,.none,.bool false,.none] }:=by
     rw[Y];obtain⟨c1,d1,a4,a5⟩:=W;simp only at B D F G;subst B D F G;rfl
   have M:∀b o,b≠x->i.get? b=some o->h'.get? b=some o:=λb o h a=>T b o h (λo0 j J K=>by rw[k] at J;cases J;cases K) a
   have l:H i.objs.size=none:=I.fresh;have a6:i.objs.size≠x:=λz=>by rw[<-z,l] at e;cases e
   obtain⟨oI,v,_,_,P⟩:=S;have N:h'.Ns1 i.objs.size (λg=>if g=f then some u else none):=by
     rw[r] at v;cases v;rcases P with⟨z,_⟩ | ⟨d',Q,_,L⟩
     . cases z
     . cases Q;exact L
   refine⟨_,?_,q _ l a6⟩;refine I.un (t':=O) (h':=h') ⟨λb o a n _ _=>?_,λb o a n _ _=>⟨o.slots,?_⟩,λb o a n _=>?_,λb o a _=>?_,λb xs z=>?_,λb o xs z=>?_,λb ps z=>⟨#[],?_⟩⟩ λb o z=>?_
   . exact M b o (λz=>by rw[z,e] at n;cases n) a
   . exact M b o (λz=>by rw[z,e] at n;cases n) a
   . rw[za8 (λz=>by rw[z,e] at n;cases n),za8 (Qz (Qp a))];exact n
   . by_cases h:b=x
     . subst h;exact⟨_,r⟩
     . exact⟨o,M b o h a⟩
   . rw[za8 (zD7 z e (by intro w;cases w)),za8 (za9 z l)];exact z
   . rw[za8 (zD7 z e (by intro w;cases w)),za8 (za9 z l)];exact z
   . rw[za8 (zD7 z e (by intro w;cases w)),za8 (za9 z l),z];simp
   . by_cases h:b=x
     . subst h
       rw[za4] at z;cases z;exact yg6 r
     . rw[za8 h] at z
       by_cases a1:b=i.objs.size
       . subst a1
         rw[za4] at z;cases z;exact ym7 (mA:=λ_=>none) (by decide) N (λg=>True.intro) PySem.Within.nil ry
       . rw[za8 a1] at z
         refine(I.hok b o z).stay (λc a9 hc qv=>M c a9 ?_ qv) (λc p=>?_) λc xs p=>?_
         . rcases hc with rfl | hc
           . exact h
           . exact zD7 hc e (by intro w;cases w)
         . rw[za8 (zD7 p e (by intro w;cases w)),za8 (za9 p l)];exact p
         . rw[za8 (zD7 p e (by intro w;cases w)),za8 (za9 p l)];exact p
 | some j =>
   obtain⟨fs,K,hl,q⟩:=q;obtain⟨ae,mA,L,aa,wi⟩:=I.hok j _ K;have a7:j≠x:=zD7 K e (by intro w;cases w);have R:s.heap.Inst x C mA:=⟨_,k,rfl,λc z=>(by cases z),.inr ⟨j,rfl,a7,L⟩⟩;have hz:(fs.map (·.1)).length<=sizeLine:=by rw[Qa,sizeLine_eq];omega
   obtain⟨i,g,d,tk,os⟩:=s;refine ym6 (ns:=fs.map (·.1)) I.kIn m hC c.sa na a0 R (λh' O S T U=>?_) wi hz;obtain⟨W,Y,B,D,F,Z,_⟩:=U _ k;have G:=Z j rfl;have r:h'.get? x=some { cls:=.ref C,dict:=some j,data:=.fields #[.ref t,.none,.none,.none,.bool false,.none] }:=by
     rw[Y];obtain⟨c1,d1,a4,a5⟩:=W;simp only at B D F G;subst B D F G;rfl
   obtain⟨oI,v,_,_,P⟩:=S;have N:h'.Ns1 j (λg=>if g=f then some u else mA g):=by
     rw[r] at v;cases v;rcases P with⟨z,_⟩ | ⟨d',Q,_,L⟩
     . cases z
     . cases Q;exact L
   refine⟨_,I.write (t':=O) (h':=h') (x:=j) (e:=j) (by rw[K];exact True.intro) (.inl rfl) (λb o h a=>?_) (let⟨o,_,_,e',_⟩:=N;⟨o,e'⟩) (ym7 hl N aa wi ry),q⟩;by_cases a2:b=x
   . subst a2
     rw[show i.get? b=_ from k] at a;cases a;exact r
   . exact T b o a2 (λo0 d0 J a8=>by rw[show i.get? x=_ from k] at J;cases J;cases a8;exact h) a
end
section
variable {X:Cx} {o value:Expr} {f:Str} {pos pos':Pos} {ta tv:TE}
def sXFld (K:W.Frag)(ta tv:TE)(f:Str):TS:=λD σ H=>tv σ H λy H1=>ta σ H1 λx H2=>∃a C od,x = .ref a/\H2 a=some (ExcO C a od)/\XCls K C/\zf6 K C f/\XPut D.nx σ H2 a C od f y
theorem yg7 (e:PE X o ta)(g:PE X value tv)(hs:swapsWith value (some (.Attribute o f pos')) pos.line X.env=pure false):PS X (.Assign [.Attribute o f pos'] value pos) (sXFld X.K ta tv f):=by
 intro d s b H D I h;refine plainObj_wpAny_Assign_Attribute (thn (g d s b H _ I h) λu i ⟨y,j,k,l,q⟩=>thn (e d i b j _ k q) λm E ⟨x,F,p,r,a,C,G,t,v,c,n,w⟩=>?_) hs;subst t;obtain rfl:m=Value.ref a:=r;exact thn (xsetattr_ok p c n v l w) λ_ J ⟨z,A,B⟩=>⟨b,z,A,B⟩
end
structure yp8 (K:W.Frag)(C:Addr)(m:Str)(f:Addr):Prop where
 ga:W.specialIn K (.ref C) "__getattribute__" = some (some (.builtin "type.__getattribute__"))
 rd:W.readsIn K C (.type "type")=true
 fd:W.findCls K (.ref C) (.type "type") m=some (.val (.ref f))
 kp:W.keepIn K (.ref f)=true
section
variable {X:Cx} {CX:CXT} {k:Nat} {f C:Addr} {fd:FuncData} {ps:List Str} {sp:Sp} {dvs:List V} {ds:List Value} {E:XK} {x m:Str} {p pos apos:Pos} {e:Expr} {es:List Expr} {t:TA}
theorem ya8 {pl:Sem Bool}(M:yp8 X.K C m f)(j:Gl X x)(l:X.mg x=some (.ref C))(F:FnOk X.prog X.w X.K X.mg X.base CX k f fd ps sp)(n:Room k X.A)(o:zk9 X.K fd ps ds)(q:Vals dvs ds)(u:zo5 CX X E)(v:PA X (e::es) t)
   (d:(x == ("__debug__" : Str))=false:=by decide)
   (g:starEach (e::es) X.env=(false,eval e X.env)::starEach es X.env:=by rfl) (i:(backTo pos (starEach es X.env)).any (·.1)=false:=by rfl)
   (w:eval (.Call (.Attribute (.Name x p) m apos) (e::es) [] pos) X.env=(do
     let a <-eval (.Name x p) X.env
     standAt apos.atName
     let(f,first) <-holding [a] (getMethod a m pl)
     callWith pos f first (backTo pos (starEach (e::es) X.env)) (backToKw pos (keywordEach [] X.env))):=by rfl) :
   PE X (.Call (.Attribute (.Name x p) m apos) (e::es) [] pos) (yl4 sp dvs E t):=by
 intro c s z H Q I h;refine W.methodCall_KW (pl:=pl) (zs7 I j l ?_ d) w;refine W.method_cls I.kIn M.ga (W.cls_value I.kIn M.rd M.fd (by rfl) ?_);refine W.callWith_K (first:=[]) (h₀:=X.base) I.ok.mod.kin M.kp (thn (v pos c _ z H _ (I.tok _) h) λA B ⟨D,G,b,r,y⟩=>⟨b.kIn,?_⟩) g i;exact zX6 F n o q u b r y
end
noncomputable def del (H:Hp)(a:Addr):Hp:=λb=>if b=a then none else H b
theorem ya9 (H:Hp)(a:Addr):del H a a=none:=Qo rfl
theorem zz1 {H:Hp}{a b:Addr}(h:b≠a):del H a b=H b:=Qh h
theorem zg1.got {P:Program}{w:World}{H:Hp}{h:Heap}{a:Addr}{o:HO}(x:zg1 P w H h a o):∃b,h.get? a=some b:=by
 cases o with
 | lst d=>obtain⟨_,_,_,_,e⟩:=x;exact⟨_,e⟩
 | tup d=>obtain⟨_,_,_,_,e,_⟩:=x;exact⟨_,e⟩
 | dK c=>obtain⟨_,_,_,_,o,_,_,e,_⟩:=x;exact⟨_,e⟩
 | dT c=>obtain⟨_,_,_,_,o,_,_,e,_⟩:=x;exact⟨_,e⟩
 | set S n=>obtain⟨o,_,_,_,e,_⟩:=x;exact⟨_,e⟩
 | ins C g fs=>obtain⟨_,_,_,e,_⟩:=x;exact⟨_,e⟩
 | own y=>obtain⟨_,e⟩:=x;exact⟨_,e⟩
 | xd fs=>obtain⟨_,_,⟨_,_,_,e,_⟩,_⟩:=x;exact⟨_,e⟩
 | rng i j=>obtain⟨_,_,_,e⟩:=x;exact⟨_,e⟩
 | frz b u=>obtain⟨e,_⟩:=x;exact⟨_,e⟩
 | tbl k=>exact⟨_,show h.get? a=some _ from x⟩
 | met f y=>exact⟨_,show h.get? a=some _ from x⟩
 | ext l=>obtain⟨_,⟨_,e⟩,_⟩:=x;exact⟨_,e⟩
section
variable {X:Cx} {pins:List (Addr×Obj)} {σ:St} {H H':Hp} {s s':Shared} {C x a:Addr} {od:Option Addr} {cls a0:Value}
theorem Inv.del (I:Inv X pins σ H s)(e:H x=some (ExcO C x od)):Inv X pins σ (L2.del H x) s:=by
 have f:∀b u,H b=some u->(∀d,u≠.ext d)->b≠x:=λb u q n z=>by rw[z,e] at q;cases q;exact n _ rfl
 have:=I.un (t':=s.toks) (h':=s.heap) (H':=L2.del H x) ⟨λb o a n _ _=>a,λb o a n _ _=>⟨o.slots,a⟩,λb o a n _=>?_,λb o a _=>⟨o,a⟩,λb g z=>?_,λb o g z=>?_,λb i z=>⟨#[],?_⟩⟩ λb o z=>?_
 . exact this
 . unfold L2.del;split
   . rfl
   . exact n
 . rw[zz1 (f b _ z λd w=>by cases w)];exact z
 . rw[zz1 (f b _ z λd w=>by cases w)];exact z
 . rw[zz1 (f b _ z λd w=>by cases w),z];simp
 . have h:b≠x:=λq=>by rw[q,ya9] at z;cases z
   rw[zz1 h] at z;exact(I.hok b o z).stay (λ_ _ _ q=>q) (λc q=>by rw[zz1 (f c _ q λd w=>by cases w)];exact q) λc g q=>by rw[zz1 (f c _ q λd w=>by cases w)];exact q
end
section
variable {P:Program} {w:World} {K:W.Frag} {mg:Str->Option Value} {base:Heap} {N:List Str} {qual:Str} {scope:Scope} {f:Addr} {cd:Value} {A:Around} {outer:List Env} {s:Shared} {H:Hp} {E:XK}
end
section
variable {M:Model} {A:Around} {E:VP} {env:Env}
variable {nm q:Str} {C N:Addr} {bs bm:List Value} {hdct:Bool} {sn:List Str} {sub:List Value} {ab:Bool} {col:Option Bool} {dd:Option Addr} {k0 k1 k2 k3 k5:Option Value} {newId:String}
theorem xraise {s:Shared}{x:Sem Value}{Q:Flow->Shared->Prop}(m:MroV bm)(i:A.handled=none)
   (h:wpAny M A x (λv a=>∃e b t,v = .ref e/\a.heap.get? C=some (excClassObj nm q C N bs bm hdct sn sub ab col dd k0 k1 k2 k3 k5 newId)/\a.heap.get? e=some { cls:=.ref C,dict:=b,data:=.fields #[.ref t,.none,.none,.none,.bool false,.none] }/\E (.ref e) a) E s) :
   wpAny M A (raiseStmt env (some x) none) Q E s:=by
 have f:(Value.ref C::bm).contains (.type "BaseException")=true:=m.self C (by decide);unfold raiseStmt;refine Qb (Zg h (λv a j=>?_) λ_ _ x=>x);obtain⟨e,b,t,rfl,c,k,l⟩:=j;obtain⟨n,g,d,o,p⟩:=a
 repeat (first | with_reducible refine wpAny_loadPart_at k ?_ | with_reducible refine wpAny_loadPart_at c ?_ | (with_reducible refine wpAny_isSubtype_exc c ?_;rw[f]) | wp_step)
 exact wpAny_raiseNew_none i l
end
section
variable {X:Cx} {CX:CXT} {k:Nat} {f C:Addr} {fd:FuncData} {ps:List Str} {sp:Sp} {dvs:List V} {ds:List Value} {E Ei:XK} {x m:Str} {p pos cpos apos:Pos} {e:Expr} {es:List Expr} {t:TA}
theorem run_xmake2 {a:List (Addr×Obj)} {i:St} {H:Hp} {s:Shared} {Q:Addr->Hp->Prop} {us:List Value} {vs:List V} (c:XCls X.K C) (y:W.findIn X.K (.ref C) "__init__" = some (some (.ref f))) (z:W.isFn X.K (.ref f)=true) (F:FnOk X.prog X.w X.K X.mg X.base CX k f fd ps sp) (A:Room (k+1) X.A) (B:zk9 X.K fd ps ds) (D:Vals dvs ds)
   (G:zo5 CX X E) (I:Inv X a i H s) (r:Vals vs us) (J:vs.length<=sizeLine)
   (h:∀x,H x=none->sp (.ref x::(vs++dvs)) (upd H x (ExcO C x none)) (λv K=>v = .non/\Q x K) E) :
   wpAny (model X.prog X.w) X.A (call (.ref C) us) (λv n=>v = .ref (s.heap.objs.size+1)/\∃j,Inv X a i j n/\Q (s.heap.objs.size+1) j) X.xe s:=by
 obtain⟨nm,qn,a0,bs,bm,sn,Y,ab,Z,dd,k0,k1,k2,k3,k5,L,m⟩:=c.ob;have M:=I.kIn _ _ L;have u:=h (s.heap.objs.size+1) (I.hok.fresh (Nat.le_succ _));have N:Inv X a i H { s with heap:=s.heap.push { cls:=.type "tuple",data:=.seq us.toArray } }:=I.kept (t':=s.toks) λb o e=>Qc _ e
 have q:(s.heap.push { cls:=.type "tuple",data:=.seq us.toArray }).objs.size=s.heap.objs.size+1:=Zr ..;have l:Inv X a i (upd H (s.heap.objs.size+1) (ExcO C (s.heap.objs.size+1) none)) { s with heap:=(s.heap.push { cls:=.type "tuple",data:=.seq us.toArray }).push { cls:=.ref C,data:=.fields #[.ref s.heap.objs.size,.none,.none,.none,.bool false,.none] } }:=by
   refine N.laid (t':=s.toks) (λb o e=>Qc _ e) (Nat.le_of_eq q) (yg6 (t:=s.heap.objs.size) ?_);rw[<-q];exact Qm _ rfl
 have w:Vals (V.ref (s.heap.objs.size+1)::(vs++dvs)) (Value.ref (s.heap.objs.size+1)::(us++ds)):=.cons rfl (r.append D);have O:(Value.ref (s.heap.objs.size+1)::us++ds).length=ps.length:=by
   have e:=w.length;rw[F.len _ _ _ _ u] at e;exact e.symm
 obtain⟨p,a1,d,tk,os⟩:=s;refine xcall I.kIn m M y z (by rw[<-r.length];exact J) ?_;refine wpAny_call (codeAny_mono (F.run _ X.stack _ _ ⟨Value.ref (p.objs.size+1)::us,[]⟩ (Value.ref (p.objs.size+1)::(us++ds)) _ _ E (A.make C us []) (l.env0.make C us []) (B _ (Value.ref (p.objs.size+1)::us) l.kIn O) w u) λr n g=>?_);cases r with
 | error e=>exact G a i _ _ e n l g
 | ok P =>
   cases P with
   | ret a2 =>
     obtain⟨v,j,R,S,T,U⟩:=l.after g;subst T;exact⟨S,rfl,j,R,U⟩
   | next=>exact False.elim g
   | brk=>exact False.elim g
   | cont=>exact False.elim g
end
noncomputable def Cx.caught (X:Cx)(e:Value):Cx:={ X with A:=X.A.mark (some e),calm:=false,xe:=λ_ _=>False }
section
variable {X:Cx} {pins pins':List (Addr×Obj)} {σ:St} {H:Hp} {s:Shared} {E:XK} {e:Value} {D:Ends} {f:Flow}
theorem Inv.caught (I:Inv X pins σ H s)(e:Value):Inv (X.caught e) pins σ H s :=
 let ok:=I.ok
 ⟨⟨ok.mod,ok.kind,ok.glob,ok.blt,ok.above,ok.inj,ok.has,ok.cab,(λz=>nomatch z),ok.frames,ok.stk,ok.exf,ok.bs,ok.bsz,ok.noex,ok.exfs,ok.funs,ok.frf⟩,I.os,I.bare,I.base,I.loc,I.cell,I.free,I.freeC,I.pin,I.hok,I.len⟩
theorem Inv.uncaught (a:X.calm=true->X.A.handled=none)(I:Inv (X.caught e) pins σ H s):Inv X pins σ H s :=
 let ok:=I.ok
 ⟨⟨ok.mod,ok.kind,ok.glob,ok.blt,ok.above,ok.inj,ok.has,ok.cab,a,ok.frames,ok.stk,ok.exf,ok.bs,ok.bsz,ok.noex,ok.exfs,ok.funs,ok.frf⟩,I.os,I.bare,I.base,I.loc,I.cell,I.free,I.freeC,I.pin,I.hok,I.len⟩
theorem SP.uncaught (c:X.calm=true->X.A.handled=none)(h:SP (X.caught e) pins D f s):SP X pins D f s:=by
 cases f with
 | next=>obtain⟨a,b,I,q⟩:=h;exact⟨a,b,I.uncaught c,q⟩
 | brk=>obtain⟨a,b,I,q⟩:=h;exact⟨a,b,I.uncaught c,q⟩
 | cont=>obtain⟨a,b,I,q⟩:=h;exact⟨a,b,I.uncaught c,q⟩
 | ret u=>obtain⟨v,a,b,I,r,q⟩:=h;exact⟨v,a,b,I.uncaught c,r,q⟩
end
section
variable {X:Cx} {C:Addr} {E:XK} {x:Str} {p pos hpos:Pos} {body suite:List Stmt} {b₀:Stmt} {tb th:TS}
end
structure FunD (K:W.Frag)(x qual:Str)(st:Stmt)(f:Addr)(fd:FuncData):Prop where
 ex:∃(oc:Value) (od:Option Addr) (dV kV doc pm:Value) (an:Option Addr) (cdv ct:Value) (osl:Array (Option Value)),
   fd=W.fnOf x qual (zh6 st) (zd2 st) (za7 st) dV kV doc pm an cdv ct/\K.lookup f=some ⟨oc,od,.func fd,osl⟩/\W.codeIn K cdv qual=true
 kp:W.keepIn K (.ref f)=true
section
variable {P:Program} {w:World} {K:W.Frag} {mg:Str->Option Value} {base:Heap} {CX:CXT}
theorem Fun.d {x a:Str}{st:Stmt}{f:Addr}{fd:FuncData}(F:Fun K x a st f fd):FunD K x a st f fd:=by
 obtain⟨e,g,kV,b,i,j,c,k,d,h⟩:=F.ex;exact⟨⟨e,g,.none,kV,b,i,j,c,k,d,h⟩,F.kp⟩
theorem FunD.ok {x d:Str}{st:Stmt}{f:Addr}{fd:FuncData}{N ps:List Str}{k:Nat}{sp:Sp}(F:FunD K x d st f fd)(S:zb6 N ps (za7 st))(len:∀a H Q E,sp a H Q E->a.length=ps.length)
   (e:∀(b:Value) (A:Around) (c:List Env) (s:Shared) (H:Hp) (a:List V) (Q:VK) (E:XK),Room k (A.deeper (envOfC d (za7 st) s.heap.objs.size f b))->sp a H Q E →
     ∃t,PSs (cxOf CX0 P w K mg base N d (za7 st) f b A c s H E).nox (zd2 st) t/\t { nx:=λ_ j=>Q .non j,rt:=Q } (start N a) H):FnOk P w K mg base CX0 (k+1) f fd ps sp:=by
 obtain⟨p,r,u,kV,n,v,y,b,z,o,rfl,l,g⟩:=F.ex;refine yl5 l g S len λA c s H a Q E m i=>?_
 obtain⟨t,h,q⟩:=e b A c s H a Q E m i;exact⟨t,h.nox,q⟩
theorem zY3 {x a:Str}{st:Stmt}{f:Addr}{m:Value}{n e:Option Addr}{j:Array (Option Value)}{g kV d h b i:Value}(l:K.lookup f=some ⟨m,n,.func (W.fnOf x a (zh6 st) (zd2 st) (za7 st) g kV d h e b i),j⟩)
 (c:W.codeIn K b a=true) (k:W.keepIn K (.ref f)=true):FunD K x a st f (W.fnOf x a (zh6 st) (zd2 st) (za7 st) g kV d h e b i):=⟨⟨m,n,g,kV,d,h,e,b,i,j,rfl,l,c⟩,k⟩
abbrev EN:XK:=λ_ _ _=>False
end
def zG1 (CX:CXT)(X:Cx)(Ex:St->XK):Prop:=∀(pins:List (Addr×Obj)) (σ:St) (H:Hp) (s:Shared) (e:Value) (s':Shared),Inv X pins σ H s->CX X.stack H s (Ex σ) e s'->X.xe e s'
def ym8 (sp:Sp)(dvs:List V)(Ex:St->XK)(t:TA):TE:=λσ H Q=>t σ H λvs H1=>sp (vs++dvs) H1 Q (Ex σ)
section
variable {X:Cx} {pins pins':List (Addr×Obj)} {σ:St} {H:Hp} {s:Shared} {Ex:St->XK} {D:Ends} {fl:Flow}
end
section
variable {X:Cx} {CX:CXT} {k:Nat} {f C:Addr} {fd:FuncData} {ps:List Str} {sp:Sp} {dvs:List V} {ds:List Value} {Ex:St->XK} {x m:Str} {p pos apos:Pos} {e o:Expr} {es:List Expr} {ta:TE} {t:TA}
theorem pe_callS (F:FnOk X.prog X.w X.K X.mg X.base CX k f fd ps sp)(v:Room k X.A)(w:Gl X x)(y:X.mg x=some (.ref f))(z:W.keepIn X.K (.ref f)=true)(A:zk9 X.K fd ps ds)(B:Vals dvs ds)(C:zG1 CX X Ex)
   (D:PA X (e::es) t) (n:(x == ("__debug__" : Str))=false:=by decide) (E:starEach (e::es) X.env=(false,eval e X.env)::starEach es X.env:=by rfl) (o:(backTo pos (starEach es X.env)).any (·.1)=false:=by rfl) :
   PE X (.Call (.Name x p) (e::es) [] pos) (ym8 sp dvs Ex t):=by
 intro i s g H Q I h;refine wpAny_Call_Name_kw (zs7 I w y ?_ n);refine W.callWith_K (h₀:=X.base) I.ok.mod.kin z (thn (D pos i s g H _ I h) λa d ⟨j,l,b,r,q⟩=>⟨b.kIn,?_⟩) E o;have m:Vals (j++dvs) (a++ds):=r.append B;have G:(a++ds).length=ps.length:=by rw[<-m.length];exact F.len _ _ _ _ q
 refine wpAny_call (codeAny_mono (F.run X.A X.stack d l ⟨a,[]⟩ (a++ds) (j++dvs) Q (Ex g) v b.env0 (A d a b.kIn G) m q) λr J c=>?_);cases r with
 | error e=>exact C i g l d e J b c
 | ok K =>
   cases K with
   | ret u=>exact b.after c
   | next=>exact False.elim c
   | brk=>exact False.elim c
   | cont=>exact False.elim c
end
section
variable {X:Cx} {D:Addr} {Ex:St->XK} {x:Str} {p pos hpos:Pos} {body suite:List Stmt} {b₀:Stmt} {tb th:TS}
end
section
variable {X:Cx} {pins:List (Addr×Obj)} {σ:St} {H:Hp} {s:Shared}
theorem zM7 {M:Model}{A:Around}{E:VP}{i:Nat}{x:Str}{F:Pos}{Q:Unit->Shared->Prop}(I:Inv X pins σ H s)(K:X.N.Nodup)(v:X.N[i]?=some x)(L:X.env.scope.names.lookup x=some .local)
   (h:∀w,Inv X pins (σ.set i none) H w->Q () w):wpAny M A (do bindName X.env x .none;unbindBehindTheSuite X.env x F) Q E s:=by
 obtain⟨m,N,O⟩:=id I.loc;have D:(X.env.scope.kind == .class || (X.env.scope.kind == .module && X.env.locals != X.env.globals))=false:=by rw[I.ok.kind];rfl
 have G:i<σ.length:=by rw[I.len];exact(QX.mp v).1
 have cne:=I.cne;refine wpAny_nameGoes_keeps L N D λZ a0 J a=>?_
 refine h _ ⟨I.ok,I.os,I.bare,⟨λb o e n t g=>?_,λb o e n t g=>?_,I.base.free,λb o e g=>?_,I.base.tups,I.base.frzs,I.base.tbls⟩,⟨_,J,λj y P f l R=>?_⟩,λy c e=>?_,I.free,I.freeC,λp S=>?_,λb T e=>?_,by simpa using I.len⟩
 . exact(a.2 b (Qz (QH (Qp e) I.ok.above))).trans (I.base.keep b o e n t g)
 . obtain⟨sl,f⟩:=I.base.slot b o e n t g
   exact⟨sl,(a.2 b (Qz (QH (Qp e) I.ok.above))).trans f⟩
 . obtain⟨U,f⟩:=I.base.there b o e g
   exact⟨U,(a.2 b (Qz (QH (Qp e) I.ok.above))).trans f⟩
 . by_cases u:j=i
   . subst u
     rw[List.getElem?_set_self G] at l;cases l
   . rw[List.getElem?_set_ne (Ne.symm u)] at l
     obtain⟨V,W,q⟩:=O j y P f l R;refine⟨V,W,?_⟩;rcases q with⟨k,e⟩ | ⟨k,c,e,z⟩
     . refine .inl ⟨k,?_⟩
       have:y≠x:=λe=>u (zN6 K f (e▸v))
       simp[this,e]
     . exact .inr ⟨k,c,e,z.sameBut a (cne y c e)⟩
 . obtain⟨B,z⟩:=I.cell y c e
   exact⟨B,z.sameBut a (cne y c e)⟩
 . obtain⟨e,n,C,Y,d⟩:=I.pin p S
   exact⟨(a.2 p.1 C).trans e,n,C,Y,d⟩
 . refine(I.hok b T e).stay (λc B r q=>(a.2 c ?_).trans q) (λ_ q=>q) λ_ _ q=>q
   rintro rfl;rcases r with rfl | r
   . rw[I.free] at e;cases e
   . rw[I.free] at r;cases r
end
section
variable {X:Cx} {D:Addr} {Ex:St->XK} {x n:Str} {i:Nat} {p pos hpos:Pos} {body suite:List Stmt} {b₀:Stmt} {tb th:TS}
noncomputable def Ends.forget (D:Ends)(i:Nat):Ends:={ nx:=λσ H=>D.nx (σ.set i none) H,rt:=D.rt,bk:=λσ H=>D.bk (σ.set i none) H,ct:=λσ H=>D.ct (σ.set i none) H }
end
theorem zJ5 {K:W.Frag} {c:Value} {D:Addr} {b:Bool} (a:W.subIn K (.ref D) (.type "BaseException")=some true) (d:(W.clsIn K D).isSome=true) (e:W.typeIn K (.ref D)=some (.type "type")) (f:W.subIn K c (.ref D)=some b) :
   W.exmOne K c (.ref D)=some b:=by
 unfold W.exmOne W.kitCls;simp[a,d,e,f]
section
variable {X:Cx}
inductive yg8  (x:V)(y:V)(H:Hp)(Q:VK):Prop
 | mk (a b xs ys:_)(h0:x = .ref a)(h1:y = .ref b)(h2:H a=some (.tup xs))(h3:H b=some (.tup ys))(h4:xs.length+ys.length<=sizeLine)(h5:∀p H',Same H H'->H' p=some (.tup (xs++ys))->Q (.ref p) H'):yg8  x y H Q
def rCatU:R2:=λx y H Q=>yg8  x y H Q
theorem zt0:OpR X (binaryOp .Add) rCatU:=by
 intro w s J H x y v u Q I j k h;obtain⟨a,b,l,A,rfl,rfl,c,d,B,q⟩:=h;by_cases m:l=[]
 . subst m
   cases j;cases k;obtain⟨z,C,D,_⟩:=I.tuple (SqT.of c);obtain⟨L,S,E,_⟩:=I.tuple (SqT.of d);have F:z=[]:=C.nil_iff.mpr rfl;subst F;obtain⟨⟨O,T,M,sl⟩,o,r,n,t⟩:=id D;obtain⟨⟨N,P,K,R⟩,f,g,U,i⟩:=id E;simp only at r t g i;subst r t g i
   exact concat_meets ⟨_,o,rfl⟩ ⟨_,f,rfl⟩ noFill_tuple_add seq_tuple_add PySem.F.slot_tuple_add PySem.F.entry_tuple_add (PySem.F.args_tuple_add_2 _ _)
     (tuple_addW0 _ _ _ _ _ _ _ _ _ _ (by simp)) ⟨o,f,.ref b,H,I,rfl,q b H (Same.refl _) d⟩
 . refine op_catT w s J H _ _ v u Q I j k ⟨a,b,l,A,rfl,rfl,SqT.of c,SqT.of d,m,B,λe=>?_,λ_ p G=>q p _ (Same.upd G) za4⟩
   subst e;exact q a H (Same.refl _) (by rw[Zt];exact c)
end
theorem zO6 {J:It}{u:Hp}{D:Addr}{n:Nat}{x:Nat->V}{j:Nat}{f:St}{t:TT}{s:TE}{Q:Hp->Prop}(d:Nat->Hp->Prop)(z:d 0 (upd u D (.lst [])))
   (go:∀i a,i<n->d i a->J.go i a) (st:∀a,d n a->J.stop n a) (A:∀i v a c,i<n->d i a->J.yld i a v c->c=a/\v=x i)
   (step:∀i a (N:St->Hp->Prop),i<n->d i a->(∀c,d (i+1) c->N (f.set j (some (x i))) c)->t (f.set j (some (x i))) a λb g=>if b=true then zq1 D s N (f.set j (some (x i))) g else N (f.set j (some (x i))) g)
   (q:∀a,d n a->Q a) :
   ∃W:Nat->Nat->St->Hp->Prop,(∃m,W 0 m f (upd u D (.lst []))) ∧
     ∀i m h a,W i m h a->(J.stop i a/\Q a)\/(J.go i a/\∃N:St->Hp->Prop,(∀k c,N k c->∃w,w<m/\W (i+1) w k c) ∧
       ∀v c,J.yld i a v c->zp7 j v h c λp B=>t p B λb g=>if b=true then zq1 D s N p g else N p g):=by
 refine⟨λi m h a=>m=n-i/\i<=n/\(∀v,h.set j (some v)=f.set j (some v))/\d i a,⟨n,by simp,QD _,λ_=>rfl,z⟩,?_⟩;rintro i m h a ⟨rfl,F,C,l⟩;by_cases o:i<n
 . refine .inr ⟨go i _ o l,λk c=>(∀v,k.set j (some v)=f.set j (some v))/\d (i+1) c,λk c ⟨E,r⟩=>⟨n-(i+1),by omega,rfl,o,E,r⟩,λv c y=>?_⟩
   obtain⟨rfl,rfl⟩:=A i v _ c o l y;dsimp only[zp7];rw[C];exact step i _ _ o l λc r=>⟨λv=>by simp,r⟩
 . have e:i=n:=by omega
   subst e;exact .inl ⟨st _ l,q _ l⟩
theorem zz2 {l:Hp}{D:Addr}{lo:Int}{n:Nat}{j:Nat}{d:St}{k:TT}{h:TE}{Q:Hp->Prop}(e:Nat->Hp->Prop)(t:e 0 (upd l D (.lst [])))
   (step:∀i a (N:St->Hp->Prop),i<n->e i a->(∀c,e (i+1) c->N (d.set j (some (.int (lo+i)))) c)->k (d.set j (some (.int (lo+i)))) a λb f=>if b=true then zq1 D h N (d.set j (some (.int (lo+i)))) f else N (d.set j (some (.int (lo+i)))) f)
   (q:∀a,e n a->Q a) :
   ∃W:Nat->Nat->St->Hp->Prop,(∃m,W 0 m d (upd l D (.lst []))) ∧
     ∀i m o a,W i m o a->((Itr lo n).stop i a/\Q a)\/((Itr lo n).go i a/\∃N:St->Hp->Prop,(∀p c,N p c->∃r,r<m/\W (i+1) r p c) ∧
       ∀v c,(Itr lo n).yld i a v c->zp7 j v o c λg u=>k g u λb f=>if b=true then zq1 D h N g f else N g f) :=
 zO6 (J:=Itr lo n) (x:=λi=>.int (lo+i)) e t (λi a s _=>s) (λa _=>Qj _) (λi v a c s _ y=>y) step q
theorem zn4 {K:W.Frag}{s:Hp}{D a:Addr}{xs:List V}{j:Nat}{h:St}{r:TT}{p:TE}{Q:Hp->Prop}(g:Nat->Hp->Prop)(z:g 0 (upd s D (.lst [])))
   (hs:∀i c,g i c->SqL K c a xs)
   (step:∀i x c (N:St->Hp->Prop),xs[i]?=some x->g i c->(∀d,g (i+1) d->N (h.set j (some x)) d)->r (h.set j (some x)) c λb k=>if b=true then zq1 D p N (h.set j (some x)) k else N (h.set j (some x)) k)
   (q:∀c,g xs.length c->Q c) :
   ∃W:Nat->Nat->St->Hp->Prop,(∃m,W 0 m h (upd s D (.lst []))) ∧
     ∀i m t c,W i m t c->((Itl K a).stop i c/\Q c)\/((Itl K a).go i c/\∃N:St->Hp->Prop,(∀u d,N u d->∃w,w<m/\W (i+1) w u d) ∧
       ∀v d,(Itl K a).yld i c v d->zp7 j v t d λo A=>r o A λb k=>if b=true then zq1 D p N o k else N o k):=by
 refine zO6 (J:=Itl K a) (n:=xs.length) (x:=λi=>xs.getD i .non) g z (λi c l f=>⟨xs,xs[i],hs _ _ f,by simp[l]⟩) (λc f=>⟨xs,hs _ _ f,Qj _⟩) (λi v c d l f y=>?_) (λi c N l f B=>?_) q
 . obtain⟨e,y⟩:=y
   have:=y xs (hs _ _ f);exact⟨e,by rw[Qs,this];rfl⟩
 . have e:xs[i]?=some (xs.getD i .non):=by rw[Qs,Qe l];rfl
   exact step i _ c N e f B
theorem dict_mapF (g:Array Value->Array Value)(o:Obj):(Obj.mapFields g o).dict=o.dict:=by
 obtain⟨c,d,a,sl⟩:=o
 cases a<;>rfl
def TrD (h base:Heap)(e:Addr)(cls:Value)(od:Option Addr)(fl:Value):Prop :=
 ∃ob fs T ot tf,h.get? e=some ob/\(ob.cls=cls/\ob.dict=od)/\ob.data = .fields fs/\fs[1]?=some (.ref T)/\base.get? T=none/\T≠e/\h.get? T=some ot/\ot.data = .fields tf/\tf[3]?=some fl
def FlD (base:Heap)(l:List Env)(e:Addr)(cls:Value)(od:Option Addr)(fl:Value)(h:Heap):Prop:=base.StaysIn h/\base.get? e=none/\h.FunFrames base l/\TrD h base e cls od fl
theorem FlD.there {base h:Heap}{l:List Env}{e:Addr}{b fl:Value}{c:Option Addr}(x:FlD base l e b c fl h):∃a,h.get? e=some a/\(a.cls=b/\a.dict=c)/\∃d,a.data = .fields d:=by
 obtain⟨_,_,_,a,fs,_,_,_,f,g,i,_⟩:=x;exact⟨a,f,g,fs,i⟩
section
variable {M:Model} {A:Around} {E:VP} {s:Shared} {base:Heap} {env:Env} {outer l:List Env} {L e:Addr} {cls fl:Value} {od:Option Addr} {Q:Unit->Shared->Prop}
theorem zv2 (x:FlD base l e cls od fl s.heap)(k:∀h,FlD base l e cls od .none h->s.heap.UpToSlots h->Q () { s with heap:=h }):wpAny M A (setFlight (.ref e) none) Q E s:=by
 obtain⟨v,w,y,B,fs,T,G,n,p,C,q,r,t,u,i,g,D⟩:=x;have j:3<n.size:=(ZD.mp D).1
 let U:Heap:=s.heap.update T (Obj.mapFields (·.setIfInBounds 3 ((none:Option Addr).elim Value.none λf=>rawInt f)))
 have d:∀b,b≠T->U.get? b=s.heap.get? b:=λb a=>Zo _ _ (Ne.symm a)
 have m:∀b o,s.heap.get? b=some o->(∀F,o.data≠.fields F)->b≠T:=λb o a c z=>by
   rw[z,i] at a;cases a;exact c n g
 unfold setFlight;refine Qb (wpAny_field p q r ?_);rw[Qo (show(Value.ref T != Value.none)=true by simp)];refine wpAny_setField i g j (k U ⟨λb o a=>(d b λz=>by rw[z,t] at a;cases a).trans (v b o a),w,y.of_keeps λb o a c=>⟨o,(d b (m b o a c)).trans a,rfl⟩,?_⟩ λb o a c=>⟨o.slots,(d b (m b o a c)).trans a⟩);exact⟨B,fs,T,_,_,(d e (Ne.symm u)).trans p,C,q,r,t,u,Zm _ i (Obj.isFreed_of_fields (Obj.data_mapFields g _)),Obj.data_mapFields g _,by simp[j]⟩
theorem yb0 {g:Obj}{fs:Array Value}{t:Value}{J:Bool}(K:A.frames=some (env::outer))(i:s.heap.FunFrames base (env::outer))(N:env.frame=some L)(p:s.heap.get? e=some g)(st:base.StaysIn s.heap)(y:base.get? e=none)(j:g.data = .fields fs)(sz:1<fs.size)
   (k:∀q,FlD base (env::outer) e g.cls g.dict (rawInt L) q->s.heap.UpToSlots q->Q () { s with heap:=q }) :
   wpAny M A (do let a <-frameOf env;let l <-entryPlaceOf L J;let b <-EntryCells.newEntry t a .none (rawInt L) .none l;setField (.ref e) 1 b) Q E s:=by
 have G:e∉(env::outer).filterMap (·.frame):=λr=>by
   obtain⟨_,o,B,f⟩:=i.mem r;rw[p] at B;cases B;exact f fs j
 refine Qb (wpAny_frameOf_fun K i N λd m=>?_);refine Qb (wpAny_entryPlaceOf λl u=>?_);unfold EntryCells.newEntry newFields;refine Qb (wpAny_newObj_type ?_ (u.sizeOk5 _ _ _ _ _));have C:d.get? e=some g:=(m.2.1 e G).trans p;have v:base.StaysIn d:=λb o c=>(m.2.1 b λr=>by rw[(i.mem r).1] at c;cases c).trans (st b o c)
 generalize H:(([t,.ref L,.none,rawInt L,.none]++(if l.isEmpty then List.replicate 6 Value.none else l)).toArray:Array Value)=n
 have I:n[3]?=some (rawInt L):=by rw[<-H];rcases u with rfl | ⟨_,_,_,_,_,_,_,rfl⟩<;>simp
 have D:=Qc (h:=d) { cls:=.type "traceback",dict:=none,data:=.fields n } C;refine wpAny_setField D j sz (k _ ?_ ?_)
 all_goals
   have w:d.objs.size≠e:=Nat.ne_of_gt (Qp C);have keep:∀b o,b≠e->d.get? b=some o->((d.push { cls:=.type "traceback",dict:=none,data:=.fields n }).update e (Obj.mapFields (·.setIfInBounds 1 (Value.ref d.objs.size)))).get? b=some o:=λb o c O=>by
     rw[Zo _ _ (Ne.symm c)];exact Qc _ O
   have x:∀b o,s.heap.get? b=some o->(∀P,o.data≠.fields P)->b≠e:=λb o c f z=>by
     rw[z,p] at c;cases c;exact f fs j
 . have F:=Obj.data_mapFields j (·.setIfInBounds 1 (Value.ref d.objs.size))
   have R:=Zm (Obj.mapFields (·.setIfInBounds 1 (Value.ref d.objs.size))) D (Obj.isFreed_of_fields F);have S:=(Zo (d.push { cls:=.type "traceback",dict:=none,data:=.fields n }) (Obj.mapFields (·.setIfInBounds 1 (Value.ref d.objs.size))) (Ne.symm w)).trans (Qm d rfl);refine⟨λb o c=>keep b o (λz=>by rw[z,y] at c;cases c) (v b o c),y,i.of_keeps λb o c f=>?_,?_⟩
   . obtain⟨sl,z⟩:=m.2.2 b o c
     exact⟨_,keep b _ (x b o c f) z,rfl⟩
   . exact⟨_,_,d.objs.size,_,_,R,⟨Obj.cls_mapFields _ _,dict_mapF _ _⟩,F,by simp[sz],v.fresh,w,S,rfl,I⟩
 . intro b o c f
   obtain⟨sl,z⟩:=m.2.2 b o c;exact⟨sl,keep b _ (x b o c f) z⟩
theorem leave_first {b:Obj}{fs:Array Value}(i:A.frames=some (env::outer))(j:s.heap.FunFrames base (env::outer))(c:env.frame=some L)(d:s.heap.get? e=some b)(st:base.StaysIn s.heap)(l:base.get? e=none)(f:b.data = .fields fs)(g:fs[1]?=some .none)
   (k:∀a,FlD base (env::outer) e b.cls b.dict .none a->s.heap.UpToSlots a->Q () { s with heap:=a }):wpAny M A («leaving» env (.ref e)) Q E s:=by
 unfold «leaving» noteFrame;simp only[c];refine Qb (Qb (wpAny_field d f g ?_));rw[Qh (by decide)];exact yb0 i j c d st l f (ZD.mp g).1 λa x m=>zv2 (s:={ s with heap:=a }) x λn o h=>k n o (m.trans h)
theorem zY4 (q:A.frames=some (env::outer))(j:env.frame=some L)(x:FlD base (env::outer) e cls od .none s.heap)
   (k:∀d,FlD base (env::outer) e cls od (rawInt L) d->s.heap.UpToSlots d->Q () { s with heap:=d }):wpAny M A (noteFrame (.ref e) env) Q E s:=by
 obtain⟨r,t,u,G,fs,T,H,v,l,⟨w,y⟩,m,n,B,C,g,h,p⟩:=x;subst w y;unfold noteFrame;simp only[j];refine Qb (wpAny_field l m n ?_);rw[Qo (show(Value.ref T != Value.none)=true by simp)];refine Qb (wpAny_field g h p ?_);rw[Qh (show ¬ ((Value.none == rawInt L)=true) by simp[rawInt])];refine Qb (wpAny_setField g h (ZD.mp p).1 ?_);have f:∀b,b≠T->(s.heap.update T (Obj.mapFields (·.setIfInBounds 3 Value.none))).get? b=s.heap.get? b:=λb a=>Zo _ _ (Ne.symm a)
 have i:∀b o,s.heap.get? b=some o->(∀D,o.data≠.fields D)->b≠T:=λb o a c z=>by
   rw[z,g] at a;cases a;exact c v h
 refine yb0 q (u.of_keeps λb o a c=>⟨o,(f b (i b o a c)).trans a,rfl⟩) j ((f e (Ne.symm C)).trans l) (λb o a=>(f b λz=>by rw[z,B] at a;cases a).trans (r b o a)) t m (ZD.mp n).1 λd x F=>k d x λb o a c=>F b o ((f b (i b o a c)).trans a) c
theorem leave_on (d:A.frames=some (env::outer))(f:env.frame=some L)(x:FlD base (env::outer) e cls od .none s.heap)
   (k:∀a,FlD base outer e cls od .none a->s.heap.UpToSlots a->Q () { s with heap:=a }):wpAny M A («leaving» env (.ref e)) Q E s:=by
 unfold «leaving»;refine Qb (zY4 d f x λg h b=>zv2 (s:={ s with heap:=g }) h λi j c=>?_);obtain⟨l,m,⟨_,_,n⟩,o⟩:=j;exact k i ⟨l,m,n,o⟩ (b.trans c)
end
def FlyD (h:Heap)(H:Hp)(h0:Heap)(a:Addr)(cls:Value)(od:Option Addr):Prop :=
 (H a=none/\h0.get? a=none)/\∃T,(H T=none/\h0.get? T=none)/\∃oe vs oT ts,h.get? a=some oe/\(oe.cls=cls/\oe.dict=od)/\oe.data = .fields vs/\vs[1]?=some (.ref T)/\T≠a/\h.get? T=some oT/\oT.data = .fields ts/\ts[3]?=some Value.none
theorem FlyD.from {h:Heap}{H:Hp}{d c:Heap}{a:Addr}{f:Value}{i:Option Addr}(x:FlyD h H d a f i)(k:∀b o,c.get? b=some o->∃j,d.get? b=some j):FlyD h H c a f i:=by
 have g:∀b,d.get? b=none->c.get? b=none:=λb e=>by
   cases q:c.get? b with
   | none=>rfl
   | some o=>obtain⟨j,z⟩:=k b o q;rw[e] at z;cases z
 obtain⟨⟨l,m⟩,T,⟨n,p⟩,r⟩:=x;exact⟨⟨l,g _ m⟩,T,⟨n,g _ p⟩,r⟩
theorem FlyD.flying {h:Heap}{H:Hp}{d B:Heap}{a:Addr}{c:Value}{f:Option Addr}{l:List Env}(x:FlyD h H d a c f)(i:h.FunFrames B l) :
   ∃T,(H T=none/\d.get? T=none)/\FlD (W.hideAll h (a::([T]++frs l))) l a c f .none h:=by
 obtain⟨_,T,z,j,k,m,n,p,q,r,s,t,u,v,w⟩:=x;refine⟨T,z,λb o e=>W.of_hideAll _ e,W.hideAll_none _ QF,W.funFrames_hide i λg y b A=>?_,j,k,T,m,n,p,q,r,s,W.hideAll_none _ (by simp),t,u,v,w⟩;exact Qu _ (Qu _ (List.mem_filterMap.mpr ⟨g,y,A⟩))
theorem zO7 {P:Program}{w:World}{fs ts:List Addr}{l S:List Env}{F H:Hp}{g h i B:Heap}{a:Addr}{D:Value}{G:Option Addr}(u:Un fs [] F H g h)(ok:HOk P w H h)(I:h.FunFrames B l)
   (J:∀b∈frs l,(b∈fs\/g.get? b=none)/\H b=none) (t:H a=none/\g.get? a=none) (r:∀T∈ts,H T=none/\g.get? T=none)
   (x:FlD (W.hideAll h (a::(ts++frs l))) S a D G .none i) (K:h.UpToSlots i):Un fs [] F H g i/\HOk P w H i/\FlyD i H g a D G:=by
 obtain⟨U,_,_,V,X,T,Y,L,Z,e2,e3,e4,M,N,O,Q,e9⟩:=x;have keep:∀b o,b∉a::(ts++frs l)->h.get? b=some o->i.get? b=some o:=λb o d e=>U b o (W.hideAll_get _ e d)
 have s:∀b,b∈a::(ts++frs l)->H b=none/\(b∈frs l\/g.get? b=none):=λb d=>by
   rcases Qq.mp d with rfl | d
   . exact⟨t.1,.inr t.2⟩
   . rcases QB.mp d with d | d
     . exact⟨(r b d).1,.inr (r b d).2⟩
     . exact⟨(J b d).2,.inl d⟩
 have C:∀b o,g.get? b≠none->h.get? b=some o->∃sl,i.get? b=some { o with slots:=sl }:=λb o n e=>by
   by_cases d:b∈a::(ts++frs l)
   . rcases(s b d).2 with q | q
     . obtain⟨_,v,k,m⟩:=I.mem q
       rw[e] at k;cases k;exact K b o e m
     . exact absurd q n
   . exact⟨o.slots,keep b o d e⟩
 refine⟨⟨λb o e n p j=>?_,λb o e n p j=>?_,u.free,λb o e j=>?_,u.tups,u.frzs,u.tbls⟩,λb o q=>?_,t,T,?_,V,X,Y,L,Z,e2,e3,e4,N,O,Q,e9⟩
 . refine keep b o (λd=>?_) (u.keep b o e n p j)
   rcases(s b d).2 with q | q
   . rcases(J b q).1 with q | q
     . exact p q
     . rw[e] at q;cases q
   . rw[e] at q;cases q
 . obtain⟨sl,q⟩:=u.slot b o e n p j
   obtain⟨E,y⟩:=C b _ (by rw[e];simp) q;exact⟨E,y⟩
 . obtain⟨v,q⟩:=u.there b o e j
   obtain⟨E,y⟩:=C b _ (by rw[e];simp) q;exact⟨_,y⟩
 . refine(ok b o q).stay (λc a0 A qv=>keep c a0 (λf=>?_) qv) (λ_ z=>z) λ_ _ z=>z
   have n:=(s c f).1;rcases A with rfl | A
   . rw[q] at n;cases n
   . rw[A] at n;cases n
 . by_cases f:T∈a::(ts++frs l)
   . rcases Qq.mp f with z | f
     . exact absurd z N
     . rcases QB.mp f with f | f
       . exact r T f
       . obtain⟨_,v,k,m⟩:=I.mem f
         obtain⟨sl,z⟩:=K T v k m;rw[O] at z;cases z;exact absurd Q (m L)
   . have R:h.get? T=none:=by
       cases q:h.get? T with
       | none=>rfl
       | some o=>rw[W.hideAll_get _ q f] at M;cases M
     refine⟨?_,?_⟩
     . cases q:H T with
       | none=>rfl
       | some o=>obtain⟨ob,z⟩:=(ok T o q).got;rw[R] at z;cases z
     . cases q:g.get? T with
       | none=>rfl
       | some o=>obtain⟨ob,z⟩:=u.there T o q (by simp);rw[R] at z;cases z
def CXD (P:Program)(w:World):CXT:=λouter H s E e s'=>∃a cls od H',e = .ref a/\s'.os=s.os/\AllBare s'.gens/\Un (frs outer) [] H H' s.heap s'.heap/\HOk P w H' s'.heap/\FlyD s'.heap H' s.heap a cls od/\E cls od H'
def yg9 (X:Cx)(E:XK):Prop:=∀(pins:List (Addr×Obj)) (σ:St) (H:Hp) (s:Shared) (x C:Addr) (od:Option Addr),Inv X pins σ H s->H x=some (ExcO C x od)->X.s₀.heap.get? x=none->E (.ref C) od (del H x)->X.xe (.ref x) s
theorem Inv.leftD {X:Cx}{g:List (Addr×Obj)}{m:St}{H:Hp}{s:Shared}{a:Addr}{e:Option Addr}{d:Value}{ts:List Addr}{c:Heap}{j:List Env}(I:Inv X g m H s)(h:X.ex=[])(k:H a=none/\X.s₀.heap.get? a=none)(i:∀T∈ts,H T=none/\X.s₀.heap.get? T=none)
   (x:FlD (W.hideAll s.heap (a::(ts++frs X.stack))) j a d e .none c) (l:s.heap.UpToSlots c):Un X.fs [] X.H₀ H X.s₀.heap c/\HOk X.prog X.w H c/\FlyD c H X.s₀.heap a d e:=by
 have u:=I.base;rw[h] at u;refine zO7 u I.hok I.stack (λb f=>⟨?_,I.stkFree b f⟩) k i x l;rcases Qq.mp (I.stkSub b f) with z | z
 . right;rw[z];exact Heap.get?_none_of_le I.ok.above
 . exact .inl z
section
variable {P:Program} {w:World} {K:W.Frag} {mg:Str->Option Value} {base:Heap} {N:List Str} {qual:Str} {scope:Scope} {f:Addr} {cd:Value} {A:Around} {outer:List Env} {s:Shared} {H:Hp} {E:XK}
theorem zF0:yg9 (cxOf (CXD P w) P w K mg base N qual scope f cd A outer s H E) E:=by
 intro r y c d x C g I e n q;obtain⟨t,h⟩:=zY2 I e;have J:=I.del e;have i:del c x x=none:=ya9 _ _;refine leave_first (base:=W.hideAll d.heap (x::([]++frs (cxOf (CXD P w) P w K mg base N qual scope f cd A outer s H E).stack))) (outer:=outer) (L:=s.heap.objs.size) I.ok.frames ?_ rfl h (λb o z=>W.of_hideAll _ z) (W.hideAll_none _ QF) rfl rfl λv j k=>?_
 . exact W.funFrames_hide I.stack λa l b m=>Qu _ (List.mem_filterMap.mpr ⟨a,l,m⟩)
 . obtain⟨u,ok,p⟩:=J.leftD (ts:=[]) rfl ⟨i,n⟩ (λ_ z=>nomatch z) j k
   exact⟨x,.ref C,g,_,rfl,I.os,I.bare,u,ok,p,q⟩
theorem zr6:zo5 (CXD P w) (cxOf (CXD P w) P w K mg base N qual scope f cd A outer s H E) E:=by
 intro x D y B e l I q;obtain⟨a,c,g,h,rfl,m,i,un,ok,n,q⟩:=q;have J:=I.call' (ch:=[]) m un ok i λb z=>nomatch z
 have d:FlyD l.heap h s.heap a c g:=n.from λb o z=>I.base.there b o z (λz=>nomatch z)
 obtain⟨T,z,p⟩:=d.flying J.stack;refine leave_on J.ok.frames rfl p λC j r=>?_
 obtain⟨u,k,t⟩:=J.leftD (ts:=[T]) rfl d.1 (λb v=>by rw[QI.mp v];exact z) j r;exact⟨a,c,g,h,rfl,J.os,J.bare,u,k,t,q⟩
theorem FunD.okD {CX:CXT}{x c:Str}{st:Stmt}{fd:FuncData}{N ps:List Str}{k:Nat}{sp:Sp}(F:FunD K x c st f fd)(S:zb6 N ps (za7 st))(len:∀a H Q E,sp a H Q E->a.length=ps.length)
   (d:∀(b:Value) (A:Around) (outer:List Env) (s:Shared) (H:Hp) (a:List V) (Q:VK) (E:XK),Room k (A.deeper (envOfC c (za7 st) s.heap.objs.size f b))->sp a H Q E →
     ∃t,PSs (cxOf (CXD P w) P w K mg base N c (za7 st) f b A outer s H E) (zd2 st) t/\t { nx:=λ_ i=>Q .non i,rt:=Q } (start N a) H):FnOk P w K mg base (CXD P w) (k+1) f fd ps sp:=by
 obtain⟨o,p,r,kV,m,u,v,b,y,n,rfl,j,e⟩:=F.ex;refine yl5 j e S len λA outer s H a Q E l g=>?_
 obtain⟨t,h,q⟩:=d b A outer s H a Q E l g;exact⟨t,h,q⟩
theorem yb1 {X:Cx}:zo5 (CXD X.prog X.w) X EN:=λ_ _ _ _ _ _ _ ⟨_,_,_,_,_,_,_,_,_,_,z⟩=>z.elim
end
section
variable {X:Cx} {CX:CXT} {k:Nat} {f C:Addr} {fd:FuncData} {ps:List Str} {sp:Sp} {dvs:List V} {ds:List Value} {E Ei:XK} {x m:Str} {p pos cpos apos:Pos} {e:Expr} {es:List Expr} {t:TA}
def tRaiseD (C:Addr)(sp:Sp)(dvs:List V)(Ei E:XK)(t:TA):TS:=λ_ σ H=>t σ H λvs H1=>vs.length<=sizeLine/\∀x,H1 x=none →
 sp (.ref x::(vs++dvs)) (upd H1 x (ExcO C x none)) (λv H2=>v = .non/\∃od,H2 x=some (ExcO C x od)/\E (.ref C) od (del H2 x)) Ei
theorem zJ6 (R:yg9 X E) (w:X.calm=true) (c:XCls X.K C) (y:W.findIn X.K (.ref C) "__init__" = some (some (.ref f))) (A:W.isFn X.K (.ref f)=true) (F:FnOk X.prog X.w X.K X.mg X.base CX k f fd ps sp) (B:Room (k+1) X.A) (D:Gl X x) (G:X.mg x=some (.ref C)) (J:zk9 X.K fd ps ds) (K:Vals dvs ds) (L:zo5 CX X Ei)
   (M:PA X (e::es) t) (n:(x == ("__debug__" : Str))=false:=by decide) (O:starEach (e::es) X.env=(false,eval e X.env)::starEach es X.env:=by rfl) (o:(backTo cpos (starEach es X.env)).any (·.1)=false:=by rfl) :
   PS X (.Raise (some (.Call (.Name x p) (e::es) [] cpos)) none pos) (tRaiseD C sp dvs Ei E t):=by
 intro i s l H a0 I h;obtain⟨nm,P,N,bs,bm,sn,sub,ab,col,dd,k0,k1,k2,k3,k5,S,m⟩:=c.ob;rw[arm_exec_Raise];simp only[evalOpt,Option.map];refine Qb (wpAny_standAt (xraise (C:=C) m (I.ok.hd w) (hdct:=true) (nm:=nm) (q:=P) (N:=N) (bs:=bs) (sn:=sn) (sub:=sub) (ab:=ab) (col:=col) (dd:=dd) (k0:=k0) (k1:=k1) (k2:=k2) (k3:=k3) (k5:=k5) (newId:="ValueError.__new__") ?_));refine Qb (Zg (wpAny_Call_Name_kw (zs7 I D G ?_ n)) (λv s3 T=>Qb (wpAny_standAt (Qd T))) λ_ _ z=>z);refine W.callWith_K (h₀:=X.base) I.ok.mod.kin c.kp (thn (M cpos i s l H _ I h) λus s1 ⟨vs,H1,d,r,U,q⟩=>⟨d.kIn,?_⟩) O o;refine thn (run_xmake2 (Q:=λx a=>∃b,a x=some (ExcO C x b)/\E (.ref C) b (del a x)) c y A F B J K L d r U q) λv V ⟨Y,a,g,b,j,Z⟩=>?_
 obtain⟨t2,u⟩:=zY2 g j;exact⟨_,_,_,Y,g.kIn _ _ S,u,R i l a V _ C b g j (Heap.get?_none_of_le (QJ d.sz (Nat.le_succ _))) Z⟩
end
noncomputable def Cx.inTryD (X:Cx)(pins:List (Addr×Obj))(Ex:St->XK):Cx:={ X with pn:=X.pn++pins,xe:=λe s1=>∃σ H s,Inv X pins σ H s/\CXD X.prog X.w X.stack H s (Ex σ) e s1 }
section
variable {X:Cx} {pins pins':List (Addr×Obj)} {σ:St} {H:Hp} {s:Shared} {Ex:St->XK} {D:Ends} {fl:Flow}
theorem Inv.inTryD (I:Inv X pins σ H s)(Ex:St->XK):Inv (X.inTryD pins Ex) [] σ H s :=
 let ok:=I.ok
 ⟨⟨ok.mod,ok.kind,ok.glob,ok.blt,ok.above,ok.inj,ok.has,ok.cab,ok.hd,ok.frames,ok.stk,ok.exf,ok.bs,ok.bsz,ok.noex,ok.exfs,ok.funs,ok.frf⟩,I.os,I.bare,I.base,I.loc,I.cell,I.free,I.freeC,λp a=>I.pin p (by
   rw[Zt] at a;exact a),I.hok,I.len⟩
theorem Inv.outTryD (I:Inv (X.inTryD pins Ex) pins' σ H s):Inv X pins σ H s :=
 let ok:=I.ok
 ⟨⟨ok.mod,ok.kind,ok.glob,ok.blt,ok.above,ok.inj,ok.has,ok.cab,ok.hd,ok.frames,ok.stk,ok.exf,ok.bs,ok.bsz,ok.noex,ok.exfs,ok.funs,ok.frf⟩,I.os,I.bare,I.base,I.loc,I.cell,I.free,I.freeC,λp a=>I.pin p (ZF _ a),I.hok,I.len⟩
theorem SP.outTryD (h:SP (X.inTryD pins Ex) pins' D fl s):SP X pins D fl s:=by
 cases fl with
 | next=>obtain⟨a,b,I,q⟩:=h;exact⟨a,b,I.outTryD,q⟩
 | brk=>obtain⟨a,b,I,q⟩:=h;exact⟨a,b,I.outTryD,q⟩
 | cont=>obtain⟨a,b,I,q⟩:=h;exact⟨a,b,I.outTryD,q⟩
 | ret u=>obtain⟨v,a,b,I,r,q⟩:=h;exact⟨v,a,b,I.outTryD,r,q⟩
theorem zz3:zG1 (CXD X.prog X.w) (X.inTryD pins Ex) Ex:=λb a H s e c I q=>⟨a,H,s,I.outTryD,q⟩
end
noncomputable def zL5 (cls:Value)(a:Addr)(od:Option Addr):HO:=.ext λh=>∃oe,h.get? a=some oe/\(oe.cls=cls/\oe.dict=od)/\∃vs,oe.data = .fields vs
theorem landD_ok {P:Program}{w:World}{H:Hp}{h:Heap}{a:Addr}{c:Value}{d:Option Addr}{b:Obj}(e:h.get? a=some b)(f:(b.cls=c/\b.dict=d)/\∃g,b.data = .fields g):zg1 P w H h a (zL5 c a d):=⟨⟨b,e,f⟩,⟨_,e⟩,λl m ⟨t,i,j⟩ k=>⟨t,k _ i,j⟩⟩
section
variable {X:Cx} {D:Addr} {Ex:St->XK} {x n:Str} {i:Nat} {p pos hpos:Pos} {body suite:List Stmt} {b₀:Stmt} {tb th:TS}
def tTryD (K:W.Frag)(Ex:St->XK)(D:Addr)(i:Nat)(tb th:TS):TS:=λD' σ H=>tb D' σ H/\∀σ' cls od H' a,Ex σ' cls od H'->H' a=none->W.exmOne K cls (.ref D)=some true/\th (D'.forget i) (σ'.set i (some (.ref a))) (upd H' a (zL5 cls a od))
theorem ps_tryD (hs:X.stack=X.env::X.outer/\X.env.frame=some X.env.locals)(hg:Gl X x)(hm:X.mg x=some (.ref D))(C:X.N.Nodup)(E:X.N[i]?=some n)(y:X.env.scope.names.lookup n=some .local)(d:∀t,PSs (X.inTryD t Ex) body tb)(hh:∀e,PSs (X.caught e) (b₀::suite) th)
   (a5:(x == ("__debug__" : Str))=false:=by decide) :
   PS X (.Try body [.ExceptHandler (some (.Name x p)) (some n) (b₀::suite) hpos] [] [] pos) (tTryD X.K Ex D i tb th):=by
 intro t ad σ ae D' a0 af;obtain⟨h1,h⟩:=af;refine wpAny_Try_except (Zg (d t [] ad σ ae D' (a0.inTryD Ex) h1) (λf j q=>?_) λe j q=>?_)
 . cases f with
   | next=>exact wpAny_execs_nil (SP.outTryD (fl:=.next) q)
   | brk=>exact SP.outTryD (fl:=.brk) q
   | cont=>exact SP.outTryD (fl:=.cont) q
   | ret u=>exact SP.outTryD (fl:=.ret u) q
 . obtain⟨O,H0,s0,P,a,G,Q,A,rfl,R,I,un,ok,fl,q⟩:=q
   obtain⟨ec,qh⟩:=h O G Q A a q fl.1.1;have J:=P.call' (ch:=[]) R un ok I λb z=>nomatch z
   have ff:=J.stack;have Y:=fl.1;obtain⟨a1,z,fw⟩:=fl.flying ff;have fr:X.A.frames=some (X.env::X.outer):=by rw[<-hs.1];exact J.ok.frames
   rw[hs.1] at fw;refine zY4 fr hs.2 fw λh1 a2 K=>?_
   refine zv2 a2 λh H L=>?_
   have M:∀(F:Heap),FlD (W.hideAll j.heap (a::([a1]++frs (X.env::X.outer)))) (X.env::X.outer) a G Q .none F->j.heap.UpToSlots F->Un (frs X.stack) [] H0 A s0.heap F/\HOk X.prog X.w A F:=λF a6 a7=>by
     obtain⟨u,a8,_⟩:=zO7 (l:=X.env::X.outer) un ok (by rw[<-hs.1];exact ff) (λb d=>by rw[<-hs.1] at d;exact⟨.inl d,J.stkFree b d⟩) fl.1 (ts:=[a1]) (λb d=>by rw[QI.mp d];exact z) a6 a7;exact⟨u,a8⟩
   have J2:Inv X t O A { j with heap:=h }:=P.call' (ch:=[]) (s':={ j with heap:=h }) R (M h H (K.trans L)).1 (M h H (K.trans L)).2 I λb z=>nomatch z
   refine wpAny_handleBy_cons (codeAny_handlers_test ?_) (by intro q;cases q);refine zs7 (X:=X.caught (.ref a)) (J2.caught _) hg hm ?_ a5;obtain⟨oe,he,⟨a3,_⟩,_⟩:=H.there;have LT:W.Looks (model X.prog X.w) h (typeOf (.ref a)) G:=by
     subst a3;exact(W.Looks.ld he).andThen .now
   refine(W.exm_one J2.kIn LT ec) _ _ _ _ (λ_ _ e=>e) ?_;show codeAny _ _ _ _ _;refine codeAny_handlers_suite_as (zv2 H λS Z a9=>?_);obtain⟨g,aa⟩:=M S Z ((K.trans L).trans a9);obtain⟨ag,ab,ac⟩:=Z.there;have B:∀b u,A b=some u->b≠a:=λb u e w=>by rw[w,Y.1] at e;cases e
   have J3:Inv X t O (upd A a (zL5 G a Q)) { j with heap:=S }:=by
     refine P.call' (ch:=[]) (s':={ j with heap:=S }) R ⟨g.keep,g.slot,λb o e n hx=>?_,g.there,λb T e=>?_,λb o u e=>?_,λb ps e=>?_⟩ (λb o e=>?_) I λb z=>nomatch z
     . rw[za8 (λw=>by rw[w,Y.2] at e;cases e)];exact g.free b o e n hx
     . rw[za8 (B b _ (g.tups b T e))];exact g.tups b T e
     . rw[za8 (B b _ (g.frzs b o u e))];exact g.frzs b o u e
     . obtain⟨a4,e1⟩:=g.tbls b ps e
       exact⟨a4,by rw[za8 (B b _ e1)];exact e1⟩
     . by_cases d:b=a
       . subst d
         rw[za4] at e;cases e;exact landD_ok ab ac
       . rw[za8 d] at e
         exact(aa b o e).stay (λ_ _ _ q=>q) (λc q=>by rw[za8 (B c _ q)];exact q) λc T q=>by rw[za8 (B c _ q)];exact q
   refine zy8 (X:=X.caught (.ref a)) (v:=.ref a) (J3.caught _) C E (.inl y) rfl (λs4 J4=>?_) (.inr y);refine Zg (hh (.ref a) t s4 _ _ (D'.forget i) J4 qh) (λf s' r=>?_) λ_ _ z=>False.elim z
   have r:=SP.uncaught a0.ok.hd r;cases f with
   | next=>obtain⟨U,N,k,m⟩:=r;exact zM7 k C E y λV s=>⟨_,_,s,m⟩
   | brk=>obtain⟨U,N,k,m⟩:=r;exact zM7 k C E y λV s=>⟨_,_,s,m⟩
   | cont=>obtain⟨U,N,k,m⟩:=r;exact zM7 k C E y λV s=>⟨_,_,s,m⟩
   | ret u=>obtain⟨v,U,N,k,rr,m⟩:=r;exact zM7 k C E y λV s=>⟨v,_,_,s,rr,m⟩
end
theorem check_gaX {M:Model}{A:Around}{E:VP}{K:W.Frag}{h:Heap}{g:Array GenState}{d:Drawn}{t:Nat}{os:OsState}{x C:Addr}{c:Obj}{e:Option Obj}{a:Value}{Q:Unit->Shared->Prop}
   (X:K.In h) (I:W.InstAt h x c C e) (b:W.mroIn K C (.type "BaseException")=some true) (q:Q () { heap:=h,gens:=g,drawn:=d,toks:=t,os:=os }) :
   wpAny M A (checkBuiltinCall "BaseException.__getattribute__" { pos:=[Value.ref x,a] }) Q E { heap:=h,gens:=g,drawn:=d,toks:=t,os:=os }:=by
 have f:builtinKind "BaseException.__getattribute__" = some Manifest.AttrKind.slot:=by decide +kernel
 have i:splitId "BaseException.__getattribute__" = some ("BaseException","__getattribute__"):=by decide +kernel
 have j:=F.args_bexc_ga (Value.ref x) a;have k:=W.InstAt.type I (M:=M);have l:=W.looks_mroIn (M:=M) X b;unfold checkBuiltinCall;simp only[f,i];refine Qb ?_;unfold isInstance;refine Qb (W.Looks.at k (W.Looks.at l ?_));refine wpAny_ite_false rfl ?_;exact wpAny_of_eq j q
theorem get_valueX {prog:Program}{w:World}{A:Around}{E:VP}{s:Shared}{K:W.Frag}{x C:Addr}{l:Obj}{c:Option Obj}{name:Str}{b:Bool}{Q:VP}{v:Value}
   (X:K.In s.heap) (I:W.InstAt s.heap x l C c)
   (f:W.findIn K (.ref C) "__getattribute__" = some (some (.builtin "BaseException.__getattribute__")))
   (i:W.findIn K (.ref C) "__getattr__" = some none)
   (j:W.mroIn K C (.type "BaseException")=some true)
   (m:W.findObj K C c name=some (.value v)) (n:W.handedIn v=true)
   (h:Q v { s with toks:=s.toks+1 }):wpAny (model prog w) A (getAttr (.ref x) name b) Q E s:=by
 obtain⟨r,g,d,t,u⟩:=s;have e:=W.InstAt.type I (M:=model prog w);have o:=W.looks_findIn (M:=model prog w) X f;have p:=W.looks_findIn (M:=model prog w) X i;have q:=W.looks_find (M:=model prog w) X I m
 have k:(b && onTheHeap (Value.builtin "BaseException.__getattribute__"))=false:=by cases b<;>rfl
 unfold getAttr;refine Qb (wpAny_mkText ?_);unfold getAttrBy;refine wpAny_holding (Qb (W.Looks.at e (Qb (W.Looks.at o ?_))));refine wpAny_ite_false rfl ?_;unfold getAttrByItsOwn;refine Qb ?_;unfold hookBefore;refine wpAny_ite_true rfl (W.Looks.at p ?_);refine Qb (wpAny_attempt (wpAny_holding ?_));unfold callGetattribute;refine wpAny_ite_false (by rw[k];rfl) ?_;unfold boundAndCalled;refine Qb (wpAny_of_eq (F.attr_ValueError.ga.bind (Value.ref x)) ?_);refine wpAny_call (codeAny_call_builtin F.attr_ValueError.ga.plain F.entry_bexc_ga ?_);refine check_gaX X I j ?_;unfold Builtin.«object.__getattribute__»;refine Qb (wpAny_of_eq (a:=(Value.ref x,[Value.str name t])) rfl ?_);refine Qb (Qd (Qb (W.Looks.at e (Qb (W.Looks.at q (Qd ?_))))));show wpAny (model prog w) A (handedOut v) Q E _;rw[W.handedOut_of n];exact Qd h
structure XAsk (K:W.Frag)(C:Addr):Prop where
 ga:W.findIn K (.ref C) "__getattribute__" = some (some (.builtin "BaseException.__getattribute__"))
 gt:W.findIn K (.ref C) "__getattr__" = some none
 be:W.mroIn K C (.type "BaseException")=some true
 hd:W.hasDictIn K C=true
 kc:W.findIn K (.ref C) "__class__" = some (some (.builtin "object.__class__"))
 mo:W.mroIn K C (.type "object")=some true
structure XWay (K:W.Frag):Prop where
 gt:W.specialIn K (.builtin "object.__class__") "__get__" = some (some (.builtin "getset_descriptor.__get__"))
 tk:W.takesIn K (.builtin "object.__class__")=some true
section
variable {X:Cx} {pins:List (Addr×Obj)} {σ:St} {H:Hp} {s:Shared}
theorem land_at {C a d:Addr}{fs:List (Str×V)}(I:Inv X pins σ H s)(e:H a=some (zL5 (.ref C) a (some d)))(h:H d=some (.xd fs)) :
   ∃f b,W.InstAt s.heap a f C (some b)/\∃c:Str->Option Value,(∀n,W.lookIn n b=some (c n))/\∀g,RelO (fs.lookup g) (c g):=by
 obtain⟨f,i,⟨j,k⟩,q,l⟩:=(I.hok a _ e).1;obtain⟨_,c,m,r,_⟩:=I.hok d _ h;obtain⟨b,o,p⟩:=zT7 m;refine⟨f,b,⟨i,j,?_,?_⟩,c,p,r⟩
 . unfold W.notCls
   rw[l]
 . rw[k];exact o
def yp9 (K:W.Frag)(ta:TE)(f:Str):TE:=λσ H Q=>ta σ H λx H1=>∃a C dx fs v,x = .ref a/\H1 a=some (zL5 (.ref C) a (some dx))/\H1 dx=some (.xd fs)/\XAsk K C/\zf6 K C f/\fs.lookup f=some v/\Q v H1
theorem pe_xget {e:Expr}{f:Str}{j:Pos}{d:TE}(k:PE X e d)(m:attributeBase e f X.env (eval e X.env)=eval e X.env):PE X (.Attribute e f j) (yp9 X.K d f):=by
 intro i s E H Q I h;refine yf5 m (thn (k i s E H _ I h) λu F ⟨x,p,b,t,a,C,G,fs,v,w,y,z,c,n,l,q⟩=>?_);subst w;obtain rfl:u=Value.ref a:=t;obtain⟨K,L,J,A,B,r⟩:=land_at b y z;obtain⟨u,D,g⟩:=RelO.some_of (v:=v) (o:=A f) (by rw[<-l];exact r f);exact get_valueX b.kIn J c.ga c.gt c.be (W.findObj_own c.hd n rfl (by rw[B,D])) (zT8 g) ⟨v,p,b.tok _,g,q⟩
theorem kit_self {K:W.Frag}{C:Addr}:W.kitOne K (.ref C) (.ref C)=some true:=by
 unfold W.kitOne;rw[Qo (by simp)]
end
theorem pe_xgetK {X:Cx}(K:W.Frag)(h:X.K=K){e:Expr}{f:Str}{b:Pos}{a:TE}(c:PE X e a)(d:attributeBase e f X.env (eval e X.env)=eval e X.env):PE X (.Attribute e f b) (yp9 K a f):=by
 subst h;exact pe_xget c d
section
variable {X:Cx}
theorem strsAre_of:∀ {a:List Str} {b:List Value},Vals (a.map V.str) b->StrsAre b a:=by
 intro a
 induction a with
 | nil=>intro b r;rw[List.map_nil] at r;cases r;exact .nil
 | cons y a c =>
   intro b r;rw[Qv] at r;cases r with
   | cons d f =>
     obtain⟨t,e⟩:=d;subst e;exact .cons y t (c f)
theorem zU9:∀(l:List (Str×Tok)),Vals ((l.map (·.1)).map V.str) (strValues l)
 | []=>.nil
 | (y,t)::l=>.cons ⟨t,rfl⟩ (zU9 l)
def rStarts:V->List V->Hp->VK->Prop:=λx vs H Q=>∃z y,x = .str z/\vs=[.str y]/\Q (.bl (Txt.startswith z y)) H
theorem zV0:MtR X "str.startswith" rStarts:=by
 intro c s g H x d v e Q I a b h;obtain⟨z,y,rfl,rfl,q⟩:=h;obtain⟨t,rfl⟩:=a;obtain⟨u,rfl,f,rfl⟩:=b.one;exact SC.startswith ⟨.bl _,H,I,rfl,q⟩
def rJoin (K:W.Frag):V->List V->Hp->VK->Prop:=λx vs H Q=>∃(z:Str) (l:Addr) (ys:List Str),x = .str z/\vs=[.ref l]/\SqL K H l (ys.map V.str)/\(ys.map (·.length)).sum+ys.length*z.length<=16777216/\Q (.str (Txt.join z ys)) H
theorem zY5:MtR X "str.join" (rJoin X.K):=by
 intro g s o H x j v m Q I a b h;obtain⟨z,l,c,rfl,rfl,d,e,q⟩:=h;obtain⟨t,rfl⟩:=a;obtain⟨u,rfl,f⟩:=b.one;cases f;obtain⟨i,r,p,_⟩:=I.list d;exact join_list p.isList (strsAre_of r) e λn k=>⟨.str (Txt.join z c),H,I.tok _,⟨_,rfl⟩,q⟩
def rSplit:V->List V->Hp->VK->Prop:=λx vs H Q=>∃(z y:Str),x = .str z/\vs=[.str y]/\(y.length == 0)=false/\z.length<=1000000/\∀l,H l=none->Q (.ref l) (upd H l (.lst ((Txt.split z y).map V.str)))
theorem zO8:MtR X "str.split" rSplit:=by
 intro d s j H x w v z Q I m n h;obtain⟨x,y,rfl,rfl,f,A,q⟩:=h;obtain⟨t,rfl⟩:=m;obtain⟨_,rfl,u,rfl⟩:=n.one;have r:sizeLine=16777216:=by decide
 have o:=q _ I.fresh;have p:=split_le x y;have c:∀(l:List (Str×Tok)) (k:Nat),l.map (·.1)=Txt.split x y->EP X d j Q (.ref s.heap.objs.size) { s with heap:=s.heap.push { cls:=.type "list",data:=.seq (strValues l).toArray },toks:=k }:=λl k e=>by
   refine⟨.ref s.heap.objs.size,_,?_,rfl,o⟩;have g:=zU9 l;rw[e] at g;exact I.lnew g (by rw[Qa];omega)
 cases a:(decide (x.length<y.length) || decide (Builtin.Str.strKind x<Builtin.Str.strKind y))
 . cases b:(Builtin.Str.occurrences x y 0 x.length (x.length+1)).isEmpty
   . have i:Txt.split x y=Builtin.Str.partsBetween x (Builtin.Str.occurrences x y 0 x.length (x.length+1)) y.length:=(Qh (ne_true_of_eq_false a)).trans (Qh (ne_true_of_eq_false b))
     refine ZI F.slot_str_split (typeIs_str _ _ _) F.entry_str_split (F.args_str_split_2 _ _) (meets_str_split_sep x y t u a f b (by omega) (by rw[<-i];omega)) ?_;show EP X d j Q _ { s with toks:=_,heap:=s.heap.push { cls:=.type "list",data:=.seq (strsFrom s.toks (Builtin.Str.partsBetween x (Builtin.Str.occurrences x y 0 x.length (x.length+1)) y.length)).toArray } };rw[strsFrom_eq];exact c (numbered s.toks _) _ ((numbered_texts _ _).trans i.symm)
   . exact ZI F.slot_str_split (typeIs_str _ _ _) F.entry_str_split (F.args_str_split_2 _ _) (meets_str_split_not_found x y t u a f b)
       (c [(x,t)] s.toks ((Qh (ne_true_of_eq_false a)).trans (Qo b)).symm)
 . exact ZI F.slot_str_split (typeIs_str _ _ _) F.entry_str_split (F.args_str_split_2 _ _) (meets_str_split_cannot_occur x y t u a)
     (c [(x,t)] s.toks (Qo a).symm)
def rSlS:V->Option Int->Option Int->Hp->VK->Prop:=λx lo hi H Q=>∃z,x = .str z/\z.length<=sizeLine/\Q (.str (Txt.slice z lo hi)) H
theorem yh0 {v:Value}{p:Option Int}(h:IsPart v p):∃q:Option (Int×Tok),v=partValue q/\q.map (·.1)=p:=by
 cases h with
 | none=>exact⟨none,rfl,rfl⟩
 | int i t=>exact⟨some (i,t),rfl,rfl⟩
theorem sl_str:SlR X rSlS:=by
 intro f s o H x v g i j m sl Q I a b c d h;obtain⟨z,rfl,e,q⟩:=h;obtain⟨t,rfl⟩:=a;obtain⟨l,rfl,rfl⟩:=yh0 c;obtain⟨u,rfl,rfl⟩:=yh0 d
 refine⟨"str",_,F.slot_str_getitem.lookup,typeIs_str _ _ _,wpAny_getItem_str_slice (l:=l) (u:=u) (st:=none) b rfl
   (post_val_or_str ⟨QJ (Txt.slice_le z _ _) e,λn k=>⟨.str _,H,I.tok _,⟨_,rfl⟩,q⟩⟩)⟩
theorem call_int_text:zn9 X (.type "int") (λa H Q=>∃x n,a=[.str x]/\intText? x=some n/\x.length<=640/\Q (.int n) H):=by
 intro d s f H a e Q I r h;obtain⟨x,n,rfl,b,c,q⟩:=h;obtain⟨u,rfl,t,rfl⟩:=zs9 r;exact W.KIN.call_text b c ⟨.int n,H,I.tok _,⟨_,rfl⟩,q⟩
theorem bools_at:∀ {bs:List Bool} {a:List Value},Vals (bs.map V.bl) a->a=bs.map Value.bool:=by
 intro bs
 induction bs with
 | nil=>intro a r;rw[List.map_nil] at r;cases r;rfl
 | cons b bs c =>
   intro a r;rw[Qv] at r;cases r with
   | cons d e =>
     cases d;rw[c e];rfl
theorem all_range (bs:List Bool):((List.range bs.length).all λi=>(bs[i]?).getD true)=bs.all id:=by
 induction bs with
 | nil=>rfl
 | cons b bs a =>
   rw[Ql,List.range_succ_eq_map,List.all_cons,List.all_map,List.all_cons];have e:((λi=>((b::bs)[i]?).getD true) ∘ Nat.succ)=λi=>(bs[i]?).getD true:=by
     funext i
     simp
   rw[e,a];simp
theorem call_all (m:X.calm=true):zn9 X (.builtin "all") (λf H Q=>∃(l:Addr) (bs:List Bool),f=[.ref l]/\SqL X.K H l (bs.map V.bl)/\Q (.bl (bs.all id)) H):=by
 intro D s M H f E Q I r h;obtain⟨l,bs,rfl,n,q⟩:=h;obtain⟨u,rfl,o⟩:=zs9 r;cases o;obtain⟨c,t,p,F⟩:=I.list n;have g:=bools_at t;have d:=p.isList;have k:l<s.heap.objs.size:=by obtain⟨_,e,_⟩:=d;exact Qp e
 have w:X.A.handled=none:=I.ok.hd m;refine call_all_walk (wpAny_pyIter_list d ?_)
 refine⟨s.heap.objs.size,[s.heap.objs.size,l],[s.heap.objs.size],c.toArray.size,_,_,λi=>(bs[i]?).getD true,rfl,Walks.list (A:=X.A.in1) w _ l (Qz k) c.toArray,
   ⟨⟨_,Qm _ rfl,rfl,rfl⟩,d.push _⟩,λi v G J K y j=>?_,λL z B=>?_⟩
 . have a:c[i]?=some v:=by simpa using y
   rw[g,QQ] at a;cases e:bs[i]? with
   | none=>rw[e] at a;cases a
   | some b =>
     rw[e] at a;cases a;simp only[e,Option.getD_some] at j;exact wpAny_truthy_bool j
 . have e:((List.range c.toArray.size).all λi=>(bs[i]?).getD true)=bs.all id:=by
     rw[Qn,g,Qa];exact all_range bs
   rw[e];exact⟨.bl _,H,I.kept (t':=z) λb x e=>B b x (λC=>by rw[QI.mp C] at e;exact ZG _ (Qp e)) (Qc _ e),rfl,q⟩
noncomputable def Its (z:Str):It:=⟨λi _=>i<z.cps.size,λi H x H'=>H'=H/\∃c,z.cps[i]?=some c/\x = .str ⟨#[c]⟩,λi _=>z.cps.size<=i⟩
def iStr (tl:TE):TI:=λσ H R=>tl σ H λx H1=>∃z,x = .str z/\R (Its z) H1
theorem yb2 {P:Program} {w:World} {K:W.Frag} {S:Expr} {z:Str} {t:Tok} {a:Addr} {ty:String} (O:["enumerate","zip","dict_itemiterator","dict_reverseitemiterator","odict_iterator","itertools.zip_longest","itertools.pairwise"].contains ty=false)
   (W:∀L:Around,L.handled=none->Walks P w L a [a] [a] z.cps.size (SignAt z) (λi h=>h.IsStrIter a ty z t i)) (N:∀(A:Around) (i:Nat) (s:Shared) (Q:VP) (E:VP),s.heap.IsStrIter a ty z t i->Q (.ref a) s->wpAny (model P w) A (pyIter (.ref a)) Q E s) :
   Turn P w K S (Its z) [a] a (λi h=>i<=z.cps.size/\h.IsStrIter a ty z t i) where
 mem:=by simp
 obj:=λi h f b g=>by
   have e:b=a:=by simpa using g
   subst e;obtain⟨_,o,e,c,d⟩:=f;exact⟨o,e,λv z=>by rw[d] at z;cases z⟩
 keep:=λi h m f k=>by
   obtain⟨T,o,e,c,d⟩:=f;exact⟨T,o,k a (by simp) o e,c,d⟩
 item:=by
   intro X j q r u i G s M H E I n f p;subst j q r;obtain⟨x,y,U,B,C,D⟩:=n a (by simp);refine(W X.A (I.ok.hd u)).item i s _ _ p f.2 λv m l j J F=>?_
   obtain⟨c,a0,R,rfl⟩:=j;have V:Inv X G M H { s with heap:=m,toks:=l }:=I.turned (t':=l) (λb o g e=>F b o (by simpa using g) e) x y B C D;obtain⟨o,e,Y,d⟩:=id J;exact⟨_,rfl,ye7 (s:={ s with heap:=m,toks:=l }) e Y d O ⟨.str ⟨#[c]⟩,H,V,⟨_,rfl⟩,⟨rfl,c,R,rfl⟩,⟨p,J⟩,λb g=>(n b g).1⟩⟩
 done:=by
   intro X j q r u i G s M H E I n f p;subst j q r;obtain⟨x,y,U,B,C,D⟩:=n a (by simp);have Z:i=z.cps.size:=Nat.le_antisymm f.1 p;subst Z;exact(W X.A (I.ok.hd u)).done s _ _ f.2 λm l F=>⟨rfl,I.turned (t':=l) (λb o g e=>F b o (by simpa using g) e) x y B C D⟩
 self:=λA i s Q E f h=>N A i s Q E f.2 h
theorem pi_str {f l:Expr}{n:TE}(u:PE X l n):PI X f l (iStr n):=by
 intro k s r H R I h;refine thn (u k s r H _ I h) λv a ⟨x,w,g,y,B⟩=>?_
 obtain⟨z,e,q⟩:=B;subst e;obtain⟨t,rfl⟩:=y;have m:∀(o:Obj) (d:Nat->Heap->Prop),Turn X.prog X.w X.K f (Its z) [a.heap.objs.size] a.heap.objs.size d->d 0 (a.heap.push o)->PIE X k r f R (.ref a.heap.objs.size) { a with heap:=a.heap.push o }:=λo d T c=>by
   refine⟨a.heap.objs.size,[a.heap.objs.size],d,Its z,w,rfl,g.kept (t':=a.toks) λb o e=>Qc _ e,T,c,λb C=>?_,q⟩;have e:b=a.heap.objs.size:=by simpa using C
   subst e;exact g.fpOk (Qj _) (g.hok.fresh (Qj _))
 cases p:z.cps.all (· < 128)
 . exact wpAny_pyIter_wide p (m _ _ (yb2 (t:=t) (ty:="str_iterator") (by decide) (λD j=>Walks.strWide j _ z t) λA i s Q E c h=>wpAny_pyIter_striter_wide c h) ⟨QD _,_,Qm _ rfl,rfl,rfl⟩)
 . exact wpAny_pyIter_ascii p (m _ _ (yb2 (t:=t) (ty:="str_ascii_iterator") (by decide) (λD j=>Walks.strAscii j _ z t) λA i s Q E c h=>wpAny_pyIter_striter_ascii c h) ⟨QD _,_,Qm _ rfl,rfl,rfl⟩)
theorem comp_str {g:Hp}{D:Addr}{z:Str}{f:Nat->V}{j:Nat}{p:St}{l:TE}{Q:Hp->Prop}(F:z.cps.size<=sizeLine)
   (step:∀c o (R:V->Hp->Prop),c∈z.cps.toList->R (f c) (upd g D (.lst o))->l (p.set j (some (.str ⟨#[c]⟩))) (upd g D (.lst o)) R)
   (q:Q (upd g D (.lst (z.cps.toList.map f)))) :
   ∃W:Nat->Nat->St->Hp->Prop,(∃m,W 0 m p (upd g D (.lst []))) ∧
     ∀i m r a,W i m r a->((Its z).stop i a/\Q a)\/((Its z).go i a/\∃N:St->Hp->Prop,(∀s d,N s d->∃t,t<m/\W (i+1) t s d) ∧
       ∀v d,(Its z).yld i a v d->zp7 j v r d λk A=>zq6 k A λb u=>if b=true then zq1 D l N k u else N k u):=by
 refine zO6 (J:=Its z) (n:=z.cps.size) (x:=λi=>.str ⟨#[z.cps.toList.getD i 0]⟩) (λi a=>a=upd g D (.lst ((z.cps.toList.take i).map f))) rfl (λi a h _=>h) (λa _=>Qj _) (λi v a d h _ y=>?_) (λi a N h B C=>?_) (λa e=>?_)
 . obtain⟨e,c,E,rfl⟩:=y
   refine⟨e,?_⟩;have:z.cps.toList[i]?=some c:=by simpa using E
   rw[Qs,this];rfl
 . subst B
   have w:i<z.cps.toList.length:=by simpa using h
   have e:z.cps.toList[i]?=some (z.cps.toList.getD i 0):=by rw[Qs,Qe w];rfl
   dsimp only[zq6];refine iteT (step _ _ _ (Qt e) ⟨_,za4,by rw[Qa,QT];omega,?_⟩);refine C _ ?_;rw[zh4,QP,Qk,e];rfl
 . rw[e,Zd (by simp)]
   exact q
noncomputable def exElt (e:Expr)(j:Nat):Expr:=match e with
 | .Tuple es _ _=>es.getD j (.Constant .none 0 ⟨0,0,0,0⟩)
 | _=>.Constant .none 0 ⟨0,0,0,0⟩
inductive ym9 (K:W.Frag)(x:V)(y:V)(H:Hp)(Q:VK):Prop
 | mk (a b xs:_)(h0:x = .ref a)(h1:y = .ref b)(h2:SqL K H a xs)(h3:SqL K H b [])(h4:Q (.bl xs.isEmpty) H):ym9 K x y H Q
def rEqE (K:W.Frag):R2:=λx y H Q=>ym9 K x y H Q
theorem yn0 {X:Cx}(g:X.A.units<cLine):OpR X (compareOp .Eq) (rEqE X.K):=by
 intro L s O H x y v u Q I l m h;obtain⟨a,b,j,rfl,rfl,n,o,q⟩:=h;cases l;cases m;obtain⟨d,r,⟨p,t,w,z,_,A⟩,N⟩:=I.list n;obtain⟨c,B,⟨C,D,E,F,_,G⟩,M⟩:=I.list o;have k:s.heap.IsList a d.toArray:=⟨p,w,z,t,A⟩;have f:s.heap.IsList b c.toArray:=⟨C,E,F,D,G⟩;obtain rfl:c=[]:=by cases B;rfl
 cases j with
 | nil =>
   obtain rfl:d=[]:=by cases r;rfl
   exact(PySem.SeqAt.RcAt.lists (e:=λ_=>true) k f rfl g (λi J=>absurd J (by simp))) _ _ _ _ ⟨.bl true,H,I,rfl,q⟩
 | cons x j =>
   have K:=r.length;refine(PySem.SeqAt.RcAt.lists_lengths k f ?_ g) _ _ _ _ ⟨.bl false,H,I,rfl,q⟩;simp only[Qn,Zs,<-K,Ql];simp
end
end L2
namespace L2
open PySem PySem.NumText
theorem yh1 {c:Nat}:∀ {p q A B:List Nat},c∉p->c∉q->p++c::A=q++c::B->p=q/\A=B
 | [],[],A,B,_,_,h=>⟨rfl,by injection h⟩
 | [],b::q,A,B,_,hq,h=>by
   injection h with d e
   exact absurd (Qq.mpr (.inl d)) hq
 | a::p,[],A,B,hp,_,h=>by
   injection h with d e
   exact absurd (Qq.mpr (.inl d.symm)) hp
 | a::p,b::q,A,B,hp,hq,h=>by
   injection h with d e
   obtain⟨f,g⟩:=yh1 (λz=>hp (Qu _ z)) (λz=>hq (Qu _ z)) e;exact⟨by rw[d,f],g⟩
theorem zp0 {a b:Str}(h:a.cps.toList=b.cps.toList):a=b:=by
 cases a;cases b;congr 1;exact Array.toList_inj.mp h
theorem zj9 (a b:Str):(a++b).cps.toList=a.cps.toList++b.cps.toList:=by
 show(a.cps++b.cps).toList=_;simp
theorem zq2 {c:Nat}(p q:Str)(r:List Str):(Str.join ⟨#[c]⟩ (p::q::r)).cps.toList=p.cps.toList++c::(Str.join ⟨#[c]⟩ (q::r)).cps.toList:=by
 show((p++⟨#[c]⟩)++Str.join ⟨#[c]⟩ (q::r)).cps.toList=_;rw[zj9,zj9];simp
theorem yn1 {c:Nat}:∀ {d f:List Str},d≠[]->f≠[]->(∀p∈d,c∉p.cps.toList)->(∀q∈f,c∉q.cps.toList)->Str.join ⟨#[c]⟩ d=Str.join ⟨#[c]⟩ f->d=f
 | [],_,h,_,_,_,_=>absurd rfl h
 | _::_,[],_,h,_,_,_=>absurd rfl h
 | [p],[q],_,_,_,_,e=>by
   have:p=q:=e;rw[this]
 | [p],q::q2::r,_,_,hp,_,e=>by
   have h:=hp p (QI.mpr rfl);have a:=congrArg (λz:Str=>z.cps.toList) e;rw[zq2] at a;have b:p.cps.toList=q.cps.toList++c::(Str.join ⟨#[c]⟩ (q2::r)).cps.toList:=a;rw[b] at h;exact absurd (QK _ QF) h
 | p::p2::r,[q],_,_,_,hq,e=>by
   have h:=hq q (QI.mpr rfl);have a:=congrArg (λz:Str=>z.cps.toList) e;rw[zq2] at a;have b:p.cps.toList++c::(Str.join ⟨#[c]⟩ (p2::r)).cps.toList=q.cps.toList:=a;rw[<-b] at h;exact absurd (QK _ QF) h
 | p::p2::r,q::q2::r2,_,_,hp,hq,e=>by
   have a:=congrArg (λz:Str=>z.cps.toList) e;rw[zq2,zq2] at a;obtain⟨b,i⟩:=yh1 (hp p QF) (hq q QF) a;have:=yn1 (by simp) (by simp) (λz g=>hp z (Qu _ g)) (λz g=>hq z (Qu _ g)) (zp0 i);rw[zp0 b,this]
theorem split_ne (x y:Str):Txt.split x y≠[]:=λe=>by
 have:=PyProof.Rows.split_pos x y;rw[e] at this;exact absurd this (by decide)
theorem zx0 {c:Nat}{a:List Str}(b:a≠[])(d:∀w∈a,c∉w.cps.toList):Txt.split (Txt.join ⟨#[c]⟩ a) ⟨#[c]⟩=a:=by
 have e:Txt.join ⟨#[c]⟩ a=Str.join ⟨#[c]⟩ a:=StrLaws.glued_eq_join _ _;refine yn1 (c:=c) (split_ne _ _) b (λp f=>StrLaws.split_free _ c p f) d ?_;rw[StrLaws.join_split,e]
theorem at_0 {a:Type}{x:a}{r:List a}:atI (x::r) 0=some x:=(zh5 (j:=0) (xs:=x::r) rfl)
theorem at_1 {a:Type}{x y:a}{r:List a}:atI (x::y::r) 1=some y:=(zh5 (j:=1) (xs:=x::y::r) rfl)
theorem at_2 {a:Type}{x y z:a}{r:List a}:atI (x::y::z::r) 2=some z:=(zh5 (j:=2) (xs:=x::y::z::r) rfl)
noncomputable def sI (n:Int):Str:=Str.ofString (toString n)
theorem zd4 (a b:Str):(a++b).length=a.length+b.length:=by
 show(a.cps++b.cps).size=_;simp[Str.length]
theorem zt7 {n:Int}(a:0<=n)(h:n<=1000000):(sI n).length<=10:=W.KT.len_num a (by omega)
theorem zJ7:Str.ofString " " = ⟨#[32]⟩:=by decide
theorem yq0:Str.ofString "\n" = ⟨#[10]⟩:=by decide
theorem figures:(Str.ofString "0123456789").cps.toList=[48,49,50,51,52,53,54,55,56,57]:=by decide
theorem fig_in (c:Nat):(!(Builtin.Str.occurrences (Str.ofString "0123456789") ⟨#[c]⟩ 0 (Str.ofString "0123456789").length 1).isEmpty)=decide (48<=c/\c<=57):=by
 rw[StrLaws.found_one,figures];by_cases h:48<=c/\c<=57
 . rw[Qg h]
   have:c=48\/c=49\/c=50\/c=51\/c=52\/c=53\/c=54\/c=55\/c=56\/c=57:=by omega
   rcases this with rfl | rfl | rfl | rfl | rfl | rfl | rfl | rfl | rfl | rfl<;>decide
 . rw[Qf h]
   refine Qf λa=>h ?_
   simp at a;omega
noncomputable def zd7 (x:Int):Str:=if x=0 then Str.ofString "tray" else Str.ofString (toString x)
theorem yd9 {f w:Str}(b:32∉f.cps.toList)(c:32∉w.cps.toList):Txt.split ((f++⟨#[32]⟩)++w) ⟨#[32]⟩=[f,w]:=by
 have e:(f++⟨#[32]⟩)++w=Txt.join ⟨#[32]⟩ [f,w]:=by
   show _=Builtin.Str.glued _ _;rw[StrLaws.glued_eq_join];rfl
 rw[e];refine zx0 (by simp) λx a=>?_
 simp only[Qq,QS,or_false] at a;rcases a with rfl | rfl
 . exact b
 . exact c
theorem split3 {f w v:Str}(b:32∉f.cps.toList)(c:32∉w.cps.toList)(d:32∉v.cps.toList):Txt.split ((((f++⟨#[32]⟩)++w)++⟨#[32]⟩)++v) ⟨#[32]⟩=[f,w,v]:=by
 have e:(((f++⟨#[32]⟩)++w)++⟨#[32]⟩)++v=Txt.join ⟨#[32]⟩ [f,w,v]:=by
   show _=Builtin.Str.glued _ _;rw[StrLaws.glued_eq_join];refine zp0 ?_;rw[zq2,zq2];show _=_++32::(_++32::v.cps.toList);rw[zj9,zj9,zj9,zj9];simp
 rw[e];refine zx0 (by simp) λx a=>?_
 simp only[Qq,QS,or_false] at a;rcases a with rfl | rfl | rfl
 . exact b
 . exact c
 . exact d
theorem join_snoc {y:Str}:∀ {c:List Str} (w:Str),c≠[]->Txt.join y (c++[w])=(Txt.join y c++y)++w:=by
 intro c w d;show Builtin.Str.glued _ _=(Builtin.Str.glued _ _++y)++w;rw[StrLaws.glued_eq_join,StrLaws.glued_eq_join]
 induction c with
 | nil=>exact absurd rfl d
 | cons a c f =>
   cases c with
   | nil=>rfl
   | cons b c =>
     have e:=f (by simp);show(a++y)++Str.join y (b::c++[w])=(((a++y)++Str.join y (b::c))++y)++w;rw[e];refine zp0 ?_;simp only[zj9,QU]
noncomputable def zV1 (z:Str):Bool:=if Txt.startswith z (Str.ofString "0")=true then decide (z=Str.ofString "0") else if z.length=0\/4<z.length then false else z.cps.toList.all λc=>decide (48<=c/\c<=57)
noncomputable def zr7 (z:Str):Option Int:=if zV1 z=true then some ((digitsVal z.cps.toList:Nat):Int) else none
noncomputable def zm8 (z:Str):Option Int :=
 if z=Str.ofString "tray" then some 0 else
 match zr7 (if Txt.startswith z (Str.ofString "-")=true then Txt.slice z (some 1) none else z) with
 | none=>none
 | some n=>if n=0 then none else some (if Txt.startswith z (Str.ofString "-")=true then -n else n)
theorem zG2 {z:Str}(h:zV1 z=true):AllDigits z.cps.toList/\z.cps.toList≠[]/\z.length<=4:=by
 unfold zV1 at h
 split at h
 . have e:=QO h
   subst e;exact⟨by unfold AllDigits;decide,by decide,by decide⟩
 . split at h
   . cases h
   . rename_i h1 h2
     refine⟨λc a=>QO (List.all_eq_true.mp h c a),λe=>h2 (.inl ?_),by omega⟩;have:z.cps.toList.length=z.length:=by simp[Str.length]
     rw[<-this,e];rfl
theorem isNum_int {z:Str}(h:zV1 z=true):intText? z=some ((digitsVal z.cps.toList:Nat):Int):=by
 obtain⟨a,b,c⟩:=zG2 h;exact intText_digits a b (by omega)
end L2
namespace L2
open PySem PySem.Spec PyProof.Rows
section
variable {prog:Program} {w:World} {A:Around} {R:Result->Shared->Prop} {s:Shared}
end
section
variable {X:Cx} {scope:Scope} {cl:List (Str×Addr)} {C:Addr} {N':List Str} {s0:Shared} {H0:Hp} {fp:List Addr} {Ex:XK} {pins:List (Addr×Obj)} {σ:St} {H:Hp} {s:Shared}
end
section
variable {X:Cx} {scope:Scope} {N':List Str} {ix:List (Option Nat)} {tg iter elt:Expr} {ifs:List Expr} {pos:Pos} {wi:TI} {g:TG} {tif:TT} {telt:TE}
end
section
variable {M:Model} {A:Around} {E:VP} {s:Shared}
end
section
variable {P:Program} {w:World} {K:W.Frag} {mg:Str->Option Value} {base:Heap} {N:List Str} {qual:Str} {scope:Scope} {f:Addr} {cd:Value} {A:Around} {outer:List Env} {s:Shared} {H:Hp} {E:XK}
end
section
variable {P:Program} {w:World} {K:W.Frag} {mg:Str->Option Value} {base:Heap} {N:List Str} {qual:Str} {fsc:Scope} {f:Addr} {cd:Value} {A:Around} {outer:List Env} {ss:Shared} {HH:Hp} {E:XK}
variable {scope:Scope} {N':List Str} {ix:List (Option Nat)} {tg iter elt:Expr} {ifs:List Expr} {pos:Pos} {wi:TI} {g:TG} {tif:TT} {telt:TE}
end
section
variable {X:Cx} {C1 C2:Addr} {E:XK} {x1 x2:Str} {p1 p2 pos hp1 hp2:Pos} {body su1 su2:List Stmt} {b₁ b₂:Stmt} {tb th1 th2:TS}
end
end L2
namespace Sx
open PySem PyProof.Rows
noncomputable abbrev SM (α:Type):=StateT SortSt Sem α
section
variable {M:Model} {A:Around} {E:VP} {s:Shared}
end
section
variable {α:Type} {R:α->α->Prop} {T out A B A1 A2 B1 B2:List α} {z:α}
end
section
variable {α:Type} {R:α->α->Prop} {T:List α}
theorem ext_all (a:Array α)(i:Nat):(a.extract i).toList=a.toList.drop i:=by
 rw[Array.toList_extract,List.extract_eq_drop_take];exact Zd (by simp)
theorem ext_some (a:Array α)(i k:Nat):(a.extract i (i+k)).toList=(a.toList.drop i).take k:=by
 rw[Array.toList_extract,List.extract_eq_drop_take];congr 1;omega
end
structure Cmp (M:Model)(A:Around)(s:Shared)(κ:SortKind)(lt:Keyed->Keyed->Bool)(T:List Keyed):Prop where
 ask:∀x∈T,∀y∈T,wpAny M A (keyLt' κ x.1 y.1) (λb s'=>s'=s/\b=lt x y) (λ_ _=>False) s
 tr:∀x y z,lt x y=true->lt y z=true->lt x z=true
 as:∀x y,lt x y=true->lt y x=false
 di:T.Pairwise λx y=>lt x y=true\/lt y x=true
abbrev LtR (lt:Keyed->Keyed->Bool):Keyed->Keyed->Prop:=λx y=>lt x y=true
section
variable {M:Model} {A:Around} {E:VP} {s:Shared} {κ:SortKind} {lt:Keyed->Keyed->Bool} {T T':List Keyed}
theorem Cmp.perm (c:Cmp M A s κ lt T)(h:T'.Perm T):Cmp M A s κ lt T':=⟨λx a y b=>c.ask x (h.mem_iff.mp a) y (h.mem_iff.mp b),c.tr,c.as,(h.pairwise_iff (λz=>z.symm)).mpr c.di⟩
theorem wp_lt {x y:Keyed}{st:SortSt}{Q:Option Bool->SortSt->Prop}(c:Cmp M A s κ lt T)(a:x∈T)(d:y∈T)(e:kindOf st=κ)(h:Q (some (lt x y)) st):wpS M A E s (lt' x y) Q st:=by
 rw[lt'_eq];refine Ze (wpS_get ?_);rw[e];refine Ze (wpS_lift (wpAny_attempt (Zg (c.ask x a y d) (λb g z=>⟨z.1,?_⟩) λ_ _ f=>f.elim)));rw[z.2];exact Zu h
theorem yh2 {a:Array Keyed}{i:Nat}{st:SortSt}{Q:Keyed->SortSt->Prop}(b:i<a.size)(h:Q a[i] st):wpS M A E s (elem' a i) Q st:=by
 rw[elem'_eq,ZJ a i b];exact Zu h
end
end Sx
namespace Sx
inductive Aa6 (p0 p1 p2 p3 p4 p5:Prop):Prop | mk (h0:p0) (h1:p1) (h2:p2) (h3:p3) (h4:p4) (h5:p5):Aa6 p0 p1 p2 p3 p4 p5
inductive Aa8 (p0 p1 p2 p3 p4 p5 p6 p7:Prop):Prop | mk (h0:p0) (h1:p1) (h2:p2) (h3:p3) (h4:p4) (h5:p5) (h6:p6) (h7:p7):Aa8 p0 p1 p2 p3 p4 p5 p6 p7
inductive Ex4 {α β γ δ:Type}(p:α->β->γ->δ->Prop):Prop | mk (a0:α) (a1:β) (a2:γ) (a3:δ) (h:p a0 a1 a2 a3):Ex4 p
inductive Ex5 {α β γ δ ε:Type}(p:α->β->γ->δ->ε->Prop):Prop | mk (a0:α) (a1:β) (a2:γ) (a3:δ) (a4:ε) (h:p a0 a1 a2 a3 a4):Ex5 p
inductive Ex7 {α β γ δ ε ζ η:Type}(p:α->β->γ->δ->ε->ζ->η->Prop):Prop | mk (a0:α) (a1:β) (a2:γ) (a3:δ) (a4:ε) (a5:ζ) (a6:η) (h:p a0 a1 a2 a3 a4 a5 a6):Ex7 p
open PySem PyProof.Rows
section
variable {M:Model} {A:Around} {E:VP} {s:Shared} {κ:SortKind} {lt:Keyed->Keyed->Bool} {T:List Keyed}
theorem beq_pos {a b:Nat}(h:a=b):(a == b)=true:=by simpa using h
theorem beq_neg {a b:Nat}(h:¬ a=b):¬ (a == b)=true:=by simpa using h
section
variable (κ:SortKind) (lt:Keyed->Keyed->Bool) (T:List Keyed) (ar:Array Keyed) (pd:Array (Nat×Nat×Nat))
variable (a b:Array Keyed) (n:Nat)
end
end
end Sx
namespace Sx
open PySem PyProof.Rows
section
variable {α:Type} {R:α->α->Prop} {T:List α}
theorem ext_take (a:Array α)(n:Nat):(a.extract 0 n).toList=a.toList.take n:=by
 have:=ext_some a 0 n;simpa using this
end
section
variable {M:Model} {A:Around} {E:VP} {s:Shared} {κ:SortKind} {lt:Keyed->Keyed->Bool} {T:List Keyed}
section
variable (κ:SortKind) (lt:Keyed->Keyed->Bool) (T:List Keyed) (ar:Array Keyed) (pd:Array (Nat×Nat×Nat)) (a b:Array Keyed) (n:Nat)
end
end
section
variable {α:Type}
end
section
variable {lt:Keyed->Keyed->Bool}
end
section
variable {M:Model} {A:Around} {E:VP} {s:Shared} {κ:SortKind} {lt:Keyed->Keyed->Bool} {T:List Keyed}
end
noncomputable def at' (ar:Array Keyed)(i:Nat):Keyed:=ar.getD i (Value.none,Value.none)
def Up (lt:Keyed->Keyed->Bool)(ar:Array Keyed)(lo n:Nat):Prop:=∀i j,i<j->j<n->lt (at' ar (lo+i)) (at' ar (lo+j))=true
theorem at'_of {ar:Array Keyed}{i:Nat}{x:Keyed}(h:ar[i]?=some x):at' ar i=x:=by
 unfold at';rw[Array.getD_eq_getD_getElem?,h];rfl
theorem zx1 {ar:Array Keyed}{i:Nat}(h:i<ar.size):ar[i]=at' ar i:=(at'_of (ZJ ar i h)).symm
theorem zv3 {ar a:Array Keyed}{i j:Nat}(h:ar[i]?=a[j]?):at' ar i=at' a j:=by
 unfold at';rw[Array.getD_eq_getD_getElem?,Array.getD_eq_getD_getElem?,h]
theorem zO9 {ar:Array Keyed}{i j:Nat}(a:j<=ar.size)(k:Nat):at' (mirror ar i j ((j-i) / 2)) k=if i<=k/\k<j then at' ar (i+j-1-k) else at' ar k:=by
 have e:=getElem?_mirror_all (i:=i) a k
 split
 . rename_i h;rw[Qo h] at e;exact zv3 e
 . rename_i h;rw[Qh h] at e;exact zv3 e
theorem zP0 {ar:Array Keyed}{a d:Nat}(hs:a<ar.size)(b:d<=a)(k:Nat) :
   at' (bubble ar a d) k=if k=a-d then at' ar a else if a-d<k/\k<=a then at' ar (k-1) else at' ar k:=by
 have e:=getElem?_bubble hs d b k
 split
 . rename_i h;rw[Qo h] at e;exact zv3 e
 . rename_i h
   rw[Qh h] at e
   split
   . rename_i h';rw[Qo h'] at e;exact zv3 e
   . rename_i h';rw[Qh h'] at e;exact zv3 e
def yb3 (lo:Nat)(ar br:Array Keyed):Prop:=∀i,i<lo->br[i]?=ar[i]?
section
variable {M:Model} {A:Around} {E:VP} {s:Shared} {κ:SortKind} {lt:Keyed->Keyed->Bool} {T:List Keyed} {ar:Array Keyed} {pd:Array (Nat×Nat×Nat)} {g:Nat}
theorem in_T (a:ar.toList.Perm T){i:Nat}(h:i<ar.size):at' ar i∈T:=by
 rw[<-zx1 h];exact a.mem_iff.mp (by simp)
theorem zC1 {i j:Nat}{Q:Option Bool->SortSt->Prop}(c:Cmp M A s κ lt T)(d:ar.toList.Perm T)(a:i<ar.size)(b:j<ar.size)
   (h:Q (some (lt (at' ar i) (at' ar j))) (SortSt.mk' κ ar pd g none)):wpS M A E s (ltAt' i j) Q (SortSt.mk' κ ar pd g none):=by
 rw[ltAt'_eq];refine Ze (wpS_get (Ze (yh2 a (Ze (yh2 b ?_)))));rw[zx1 a,zx1 b];exact wp_lt c (in_T d a) (in_T d b) rfl h
theorem apart (c:Cmp M A s κ lt T)(e:ar.toList.Perm T){i j:Nat}(a:i<ar.size)(b:j<ar.size)(h:i≠j):lt (at' ar i) (at' ar j)=true\/lt (at' ar j) (at' ar i)=true:=by
 have d:=(c.perm e).di;rw[<-zx1 a,<-zx1 b];rcases QY i j with z | z
 . exact Zy.mp d i j (by simpa using a) (by simpa using b) z
 . exact(Zy.mp d j i (by simpa using b) (by simpa using a) (by omega)).symm
noncomputable abbrev AS:=Option (Option Nat)×Nat
theorem yn2 {f:Nat->AS->SM (ForInStep AS)}{lo a b:Nat}{st:SortSt}{Q:AS->SortSt->Prop}(c:Cmp M A s κ lt T)(r:ar.toList.Perm T)
   (t:∀x n (R:ForInStep AS->SortSt->Prop),1<=n->n<b->(lt (at' ar (lo+n)) (at' ar (lo+n-1))=true->R (.done (none,n)) st)->(lt (at' ar (lo+n)) (at' ar (lo+n-1))=false->R (.yield (none,n+1)) st)->wpS M A E s (f x (none,n)) R st)
   (y:lo+b<=ar.size) (B:1<=a) (u:a<=b) (w:Up lt ar lo a)
   (h:∀n,a<=n->n<=b->Up lt ar lo n->(n=b\/lt (at' ar (lo+n)) (at' ar (lo+n-1))=true)->Q (none,n) st):wpS M A E s (forIn [a:b] ((none,a):AS) f) Q st:=by
 refine wpS_forRange (I:=λx v g=>g=st/\v=(none,x)/\Up lt ar lo x) ?step ?fin ⟨rfl,rfl,w⟩
 case fin =>
   rintro v g ⟨rfl,rfl,d⟩;rw[show max a b=b by omega] at d ⊢;exact h b u (Qj _) d (.inl rfl)
 case step =>
   rintro x v g m o ⟨rfl,rfl,d⟩;refine t x x _ (by omega) o (λe=>h x m (by omega) d (.inr e)) λe=>⟨rfl,rfl,λi j p C=>?_⟩
   rcases QY j x with z | z
   . exact d i j p z
   . obtain rfl:j=x:=by omega
     have k:lt (at' ar (lo+j-1)) (at' ar (lo+j))=true:=(apart c r (by omega) (by omega) (by omega)).resolve_right (by rw[e];decide);rcases QY i (j-1) with q | q
     . have l:=d i (j-1) q (by omega)
       rw[show lo+(j-1)=lo+j-1 by omega] at l;exact c.tr _ _ _ l k
     . rw[show lo+i=lo+j-1 by omega]
       exact k
theorem wp_count {lo a:Nat}{Q:Option Nat->SortSt->Prop}(c:Cmp M A s κ lt T)(b:ar.toList.Perm T)(O:lo+a<=ar.size)(P:1<=a)
   (h:∀m o,o.toList.Perm T->yb3 lo ar o->1<=m->m<=a->Up lt o lo m->Q (some m) (SortSt.mk' κ o pd g none)):wpS M A E s (countRun' lo a) Q (SortSt.mk' κ ar pd g none):=by
 rw[countRun'_eq];refine Ze (yn2 (ar:=ar) (lo:=lo) c b (λx n R l f u w=>?_) O (Qj 1) P (λi j p y=>by omega) λn l f B K=>?_)
 . dsimp only
   refine Ze (zC1 c b (by omega) (by omega) ?_);cases e:lt (at' ar (lo+n)) (at' ar (lo+n-1)) with
   | true=>dsimp only;rw[Qo rfl];exact Zu (u e)
   | false=>dsimp only;rw[Qh (by decide)];exact Zu (w e)
 dsimp only;by_cases C:n=a
 . rw[Qo (beq_pos C)]
   exact Zu (h n ar b (λ_ _=>rfl) l f B)
 rw[Qh (beq_neg C)];have L:=K.resolve_left C;by_cases G:n>1
 . rw[Qo G]
   refine Ze (zC1 c b (by omega) (by omega) ?_);have e:=B 0 (n-1) (by omega) (by omega);rw[Nat.add_zero,show lo+(n-1)=lo+n-1 by omega] at e;rw[e];dsimp only;rw[Qo rfl];exact Zu (h n ar b (λ_ _=>rfl) l f B)
 rw[Qh G];obtain rfl:n=1:=by omega
 refine Ze (wpS_lift (wpAny_rule ⟨rfl,?_⟩))
 refine Ze (wpS_mono (wpS_forRange (I:=λx v k=>k=SortSt.mk' κ ar pd g none/\v=(none,x,0)/\∀i j,i<j->j<x->lt (at' ar (lo+j)) (at' ar (lo+i))=true)
   (Q:=λv k=>k=SortSt.mk' κ ar pd g none/\∃x,v=(none,x,0)/\2<=x/\x<=a/\∀i j,i<j->j<x->lt (at' ar (lo+j)) (at' ar (lo+i))=true) ?step ?fin ⟨rfl,rfl,?ini⟩) ?post)
 case ini =>
   intro i j p y;obtain rfl:i=0:=by omega
   obtain rfl:j=1:=by omega
   rw[Nat.add_zero];exact L
 case fin =>
   rintro v k ⟨rfl,rfl,d⟩;rw[show max (1+1) a=a by omega] at d ⊢;exact⟨rfl,a,rfl,by omega,Qj _,d⟩
 case step =>
   rintro x v k V D ⟨rfl,rfl,d⟩;dsimp only;refine Ze (zC1 c b (by omega) (by omega) ?_);cases e:lt (at' ar (lo+x)) (at' ar (lo+x-1)) with
   | true =>
     dsimp only;rw[Qo rfl,Qh (by decide)];refine Zu ⟨rfl,rfl,λi j p y=>?_⟩;rcases QY j x with z | z
     . exact d i j p z
     . obtain rfl:j=x:=by omega
       rcases QY i (j-1) with q | q
       . have H:=d i (j-1) q (by omega)
         rw[show lo+(j-1)=lo+j-1 by omega] at H;exact c.tr _ _ _ e H
       . rw[show lo+i=lo+j-1 by omega]
         exact e
   | false =>
     dsimp only;rw[Qh (by decide)];have S:lt (at' ar (lo+x-1)) (at' ar (lo+x))=true:=(apart c b (by omega) (by omega) (by omega)).resolve_right (by rw[e];decide);refine Ze (zC1 c b (by omega) (by omega) ?_);rw[S];dsimp only;rw[Qo rfl];exact Zu ⟨rfl,x,rfl,by omega,by omega,d⟩
 case post =>
   rintro v k ⟨rfl,x,rfl,W,D,d⟩;dsimp only;rw[Qh (by decide),reverseSlice'_eq];refine Ze (wpS_modify ?_);have r:(mirror ar lo (lo+x) ((lo+x-lo) / 2)).toList.Perm T:=.trans (Array.perm_iff_toList_perm.mp (mirror_perm _ _ _ _)) b;have J:yb3 lo ar (mirror ar lo (lo+x) ((lo+x-lo) / 2)):=λi X=>by
     rw[getElem?_mirror_all (by omega),Qh (by omega)]
   have U:(mirror ar lo (lo+x) ((lo+x-lo) / 2)).size=ar.size:=mirror_size _ _ _ _;have F:Up lt (mirror ar lo (lo+x) ((lo+x-lo) / 2)) lo x:=λi j p y=>by
     rw[zO9 (by omega),zO9 (by omega),Qo (by omega),Qo (by omega)];have:=d (x-1-j) (x-1-i) (by omega) (by omega);rw[show lo+(lo+x)-1-(lo+i)=lo+(x-1-i) by omega,show lo+(lo+x)-1-(lo+j)=lo+(x-1-j) by omega];exact this
   show wpS M A E s _ Q (SortSt.mk' κ (mirror ar lo (lo+x) ((lo+x-lo) / 2)) pd g none);generalize mirror ar lo (lo+x) ((lo+x-lo) / 2)=t at r J U F ⊢;refine Ze (yn2 (ar:=t) (lo:=lo) c r (λx n R l f u w=>?_) (by omega) (by omega) D F λn l f N _=>?_)
   . dsimp only
     refine Ze (zC1 c r (by omega) (by omega) ?_);cases e:lt (at' t (lo+n)) (at' t (lo+n-1)) with
     | true=>dsimp only;rw[Qo rfl];exact Zu (u e)
     | false=>dsimp only;rw[Qh (by decide)];exact Zu (w e)
   . exact Zu (h n t r J (by omega) f N)
theorem bubble_up {a:Array Keyed}{lo k l:Nat}(m:lo+k<a.size)(h:l<=k)(b:Up lt a lo k)(e:∀i,i<l->lt (at' a (lo+i)) (at' a (lo+k))=true)(f:∀i,l<=i->i<k->lt (at' a (lo+k)) (at' a (lo+i))=true) :
   Up lt (bubble a (lo+k) (lo+k-(lo+l))) lo (k+1):=by
 intro i j d n;rw[zP0 (by omega) (by omega),zP0 (by omega) (by omega),show lo+k-(lo+k-(lo+l))=lo+l by omega];by_cases g:i<l
 . rw[Qh (by omega),Qh (by omega)]
   by_cases c:j=l
   . subst c
     rw[Qo rfl];exact e i g
   . rw[Qh (by omega)]
     by_cases o:j<l
     . rw[Qh (by omega)]
       exact b i j d (by omega)
     . rw[Qo (by omega),show lo+j-1=lo+(j-1) by omega]
       exact b i (j-1) (by omega) (by omega)
 . by_cases c:i=l
   . subst c
     rw[Qo rfl,Qh (by omega),Qo (by omega),show lo+j-1=lo+(j-1) by omega];exact f (j-1) (by omega) (by omega)
   . rw[Qh (by omega),Qo (by omega),Qh (by omega),Qo (by omega),show lo+i-1=lo+(i-1) by omega,show lo+j-1=lo+(j-1) by omega]
     exact b (i-1) (j-1) (by omega) (by omega)
theorem wp_bin {lo n ok:Nat}{Q:Bool->SortSt->Prop}(c:Cmp M A s κ lt T)(L:ar.toList.Perm T)(Y:lo+n<=ar.size)(U:ok<=n)(N:Up lt ar lo ok)
   (h:∀o,o.toList.Perm T->yb3 lo ar o->Up lt o lo n->Q true (SortSt.mk' κ o pd g none)):wpS M A E s (binarySort' lo n ok) Q (SortSt.mk' κ ar pd g none):=by
 rw[binarySort'_eq]
 refine Ze (wpS_mono (wpS_forRange (I:=λk v d=>v=(none,())/\∃a,d=SortSt.mk' κ a pd g none/\a.toList.Perm T/\a.size=ar.size/\yb3 lo ar a/\Up lt a lo (min k n))
   (Q:=λv d=>v=(none,())/\∃a,d=SortSt.mk' κ a pd g none/\a.toList.Perm T/\yb3 lo ar a/\Up lt a lo n) ?step ?fin ⟨rfl,ar,rfl,L,rfl,λ_ _=>rfl,λi j J Z=>N i j J (by omega)⟩) ?post)
 case post =>
   rintro v d ⟨rfl,a,rfl,t,B,u⟩;exact Zu (h a t B u)
 case fin =>
   rintro v d ⟨rfl,a,rfl,t,B,u,C⟩;rw[show min (max (max ok 1) n) n=n by omega] at C;exact⟨rfl,a,rfl,t,u,C⟩
 case step =>
   rintro k v d V W ⟨rfl,a,rfl,q,O,P,p⟩;rw[show min k n=k by omega] at p
   refine Ze (wpS_mono (wpS_forRange (I:=λx v b=>b=SortSt.mk' κ a pd g none/\∃l r,v=(none,l,r)/\l<=r/\r<=k/\r-l<=k-x ∧
       (∀i,i<l->lt (at' a (lo+i)) (at' a (lo+k))=true)/\(∀i,r<=i->i<k->lt (at' a (lo+k)) (at' a (lo+i))=true))
     (Q:=λv b=>b=SortSt.mk' κ a pd g none/\∃l r,v=(none,l,r)/\l<=k ∧
       (∀i,i<l->lt (at' a (lo+i)) (at' a (lo+k))=true)/\(∀i,l<=i->i<k->lt (at' a (lo+k)) (at' a (lo+i))=true)) ?istep ?ifin ⟨rfl,0,k,rfl,by omega,by omega,by omega,λi D=>by omega,λi F G=>by omega⟩) ?ipost)
   case ifin =>
     rintro v b ⟨rfl,l,r,rfl,R,w,S,f,m⟩;obtain rfl:l=r:=by omega
     exact⟨rfl,l,l,rfl,w,f,m⟩
   case istep =>
     rintro x v b _ X ⟨rfl,l,r,rfl,R,w,S,f,m⟩;dsimp only;by_cases y:l≥r
     . rw[Qo y]
       obtain rfl:l=r:=by omega
       exact Zu ⟨rfl,l,l,rfl,w,f,m⟩
     . rw[Qh y]
       refine Ze (zC1 c q (by omega) (by omega) ?_);cases e:lt (at' a (lo+k)) (at' a (lo+(l+r) / 2)) with
       | true =>
         dsimp only;rw[Qo rfl];refine Zu ⟨rfl,l,(l+r) / 2,rfl,by omega,by omega,by omega,f,λi F G=>?_⟩;rcases QY ((l+r) / 2) i with z | z
         . exact c.tr _ _ _ e (p _ i z G)
         . obtain rfl:i=(l+r) / 2:=by omega
           exact e
       | false =>
         dsimp only;rw[Qh (by decide)];have H:lt (at' a (lo+(l+r) / 2)) (at' a (lo+k))=true:=(apart c q (by omega) (by omega) (by omega)).resolve_right (by rw[e];decide);refine Zu ⟨rfl,(l+r) / 2+1,r,rfl,by omega,by omega,by omega,λi F=>?_,m⟩;rcases QY i ((l+r) / 2) with z | z
         . exact c.tr _ _ _ (p i _ z (by omega)) H
         . obtain rfl:i=(l+r) / 2:=by omega
           exact H
   case ipost =>
     rintro v b ⟨rfl,l,r,rfl,K,f,m⟩;show wpS M A E s (do moveDown' (lo+k) (lo+l);pure (ForInStep.yield (none,()))) _ _;rw[moveDown'_eq];refine Ze (wpS_modify (Zu ⟨rfl,bubble a (lo+k) (lo+k-(lo+l)),rfl,.trans (Array.perm_iff_toList_perm.mp (bubble_perm _ _ _)) q,(bubble_size _ _ _).trans O,λi D=>?_,?_⟩))
     . rw[getElem?_bubble (by omega) _ (by omega),Qh (by omega),Qh (by omega)]
       exact P i D
     . rw[show min (k+1) n=k+1 by omega]
       exact bubble_up (by omega) K p f m
end
section
variable {M:Model} {A:Around} {E:VP} {s:Shared} {κ:SortKind} {lt:Keyed->Keyed->Bool} {T:List Keyed}
theorem yn3 {ar:Array Keyed}(d:Up lt ar 0 ar.size):ar.toList.Pairwise (LtR lt):=by
 refine Zy.mpr λi j e f b=>?_
 have c:i<ar.size:=by simpa using e
 have a:j<ar.size:=by simpa using f
 have:=d i j b a;rw[Nat.zero_add,Nat.zero_add,<-zx1 c,<-zx1 a] at this;show lt _ _=true;simpa using this
theorem wp_sortRunsS {ar:Array Keyed}{Q:Unit->SortSt->Prop}(c:Cmp M A s κ lt ar.toList)(P:0<ar.size)(p:ar.size<64)
   (h:∀a w g,a.toList.Perm ar.toList->a.toList.Pairwise (LtR lt)->Q () (SortSt.mk' κ a w g none)):wpS M A E s sortRuns' Q (SortSt.mk' κ ar #[] 7 none):=by
 rw[sortRuns'_eq];refine Ze (wpS_get ?_)
 try dsimp only
 have y:(arrOf (SortSt.mk' κ ar #[] 7 none)).size=ar.size:=rfl;have q:minRun' ar.size ar.size 0=ar.size:=by
   obtain⟨f,z⟩:∃f,ar.size=f+1:=⟨ar.size-1,by omega⟩;have:minRun' (f+1) ar.size 0=ar.size:=by rw[minRun'_succ,Qo p];rfl
   rwa [<-z] at this
 simp only[y,q]
 refine Ze (wpS_mono (wpS_forRange
   (I:=λx v b=>(x=0/\v=(none,0)/\b=SortSt.mk' κ ar #[] 7 none)\/(1<=x/\v=(none,ar.size)/\∃a g,a.toList.Perm ar.toList/\a.toList.Pairwise (LtR lt)/\b=SortSt.mk' κ a #[(0,ar.size,0)] g none))
   (Q:=λv b=>v=(none,ar.size)/\∃a g,a.toList.Perm ar.toList/\a.toList.Pairwise (LtR lt)/\b=SortSt.mk' κ a #[(0,ar.size,0)] g none) ?step ?fin (.inl ⟨rfl,rfl,rfl⟩)) ?post)
 case fin =>
   rintro v b (⟨B,_,_⟩ | ⟨_,C,i⟩)
   . omega
   . exact⟨C,i⟩
 case step =>
   rintro x v b _ B (⟨rfl,rfl,rfl⟩ | ⟨J,rfl,i⟩)
   . dsimp only
     rw[Qh (by omega)];simp only[Nat.sub_zero,Nat.min_self,Nat.zero_add];refine Ze (wp_count c (.refl _) (by omega) (by omega) λm j e K L N k=>?_);have r:j.size=ar.size:=by simpa using e.length_eq
     dsimp only;by_cases l:m<ar.size
     . rw[Qo l]
       refine Ze (wpS_lift (wpAny_rule ⟨rfl,?_⟩));refine Ze (wp_bin c e (by omega) (by omega) k λn o O t=>?_);have u:n.size=ar.size:=by simpa using o.length_eq
       simp only[Bool.not_true,Zk,if_false];refine Ze (wpS_get ?_);exact Ze (wpS_modify (Zu (.inr ⟨by omega,rfl,n,_,o,yn3 (by rw[u];exact t),rfl⟩)))
     . rw[Qh l]
       have D:m=ar.size:=by omega
       subst D;refine Ze (wpS_get ?_);exact Ze (wpS_modify (Zu (.inr ⟨by omega,rfl,j,_,e,yn3 (by rw[r];exact k),rfl⟩)))
   . dsimp only
     rw[Qo (Qj _)];exact Zu ⟨rfl,i⟩
 case post =>
   rintro v b ⟨rfl,a,g,F,G,rfl⟩;dsimp only;refine Ze (wpS_mono (wpS_forRange (I:=λ_ v d=>d=SortSt.mk' κ a #[(0,ar.size,0)] g none/\v=(none,())) (Q:=λv d=>d=SortSt.mk' κ a #[(0,ar.size,0)] g none/\v=(none,())) ?_ (λ_ _ H=>H) ⟨rfl,rfl⟩) ?_)
   . rintro x v d _ _ ⟨rfl,rfl⟩
     refine Ze (wpS_get ?_);rw[Qo (show(pendingOf (SortSt.mk' κ a #[(0,ar.size,0)] g none)).size<=1 from Qj 1)];exact Zu ⟨rfl,rfl⟩
   . rintro v d ⟨rfl,rfl⟩
     exact Zu (h a _ g F G)
end
section
variable {M:Model} {A:Around} {E:VP} {s:Shared} {κ:SortKind} {lt:Keyed->Keyed->Bool} {T:List Keyed}
section
variable (κ:SortKind) (lt:Keyed->Keyed->Bool) (ar:Array Keyed)
end
end
end Sx
namespace Sx
open PySem PySem.W PySem.Calls PyProof.Rows
section
variable {prog:Program} {w:World} {A:Around} {E:VP} {s:Shared} {d it:Addr} {es:Array DictEntry} {ep i:Nat}
end
noncomputable def lexB:List Int->List Int->Bool
 | [],[]=>false
 | [],_::_=>true
 | _::_,[]=>false
 | a::l,b::m=>if a=b then lexB l m else decide (a<b)
theorem yh3:∀ {x y z:List Int},lexB x y=true->lexB y z=true->lexB x z=true
 | [],[],_,h,_=>nomatch h
 | [],_::_,[],_,h=>nomatch h
 | [],_::_,_::_,_,_=>rfl
 | _::_,[],_,h,_=>nomatch h
 | _::_,_::_,[],_,h=>nomatch h
 | a::x,b::y,c::z,h,h'=>by
   unfold lexB at h h' ⊢;by_cases e:a=b
   . subst e
     rw[Qo rfl] at h;by_cases d:a=c
     . subst d
       rw[Qo rfl] at h' ⊢;exact yh3 h h'
     . rw[Qh d] at h' ⊢
       exact h'
   . rw[Qh e] at h
     have f:a<b:=by simpa using h
     by_cases d:b=c
     . subst d
       rw[Qh e];exact h
     . rw[Qh d] at h'
       have g:b<c:=by simpa using h'
       rw[Qh (by omega)];simp;omega
theorem yh4:∀ {x y:List Int},lexB x y=true->lexB y x=false
 | [],[],h=>nomatch h
 | [],_::_,_=>rfl
 | _::_,[],h=>nomatch h
 | a::x,b::y,h=>by
   unfold lexB at h ⊢;by_cases e:a=b
   . subst e
     rw[Qo rfl] at h ⊢;exact yh4 h
   . rw[Qh e] at h
     have c:a<b:=by simpa using h
     rw[Qh (by omega)];simp;omega
theorem yh5:∀ {x y:List Int},x≠y->lexB x y=true\/lexB y x=true
 | [],[],h=>absurd rfl h
 | [],_::_,_=>.inl rfl
 | _::_,[],_=>.inr rfl
 | a::x,b::y,h=>by
   unfold lexB;by_cases e:a=b
   . subst e
     rw[Qo rfl,Qo rfl];exact yh5 λz=>h (by rw[z])
   . rw[Qh e,Qh (Ne.symm e)]
     simp;omega
theorem L2P {c d:Type}{F G:c->d->Prop}{l:List c}{m:List d}(r:Paired F l m)(f:∀a b,F a b->G a b):Paired G l m:=by
 induction r with
 | nil=>exact .nil
 | cons x _ e=>exact .cons (f _ _ x) e
noncomputable def rowOf (h:Heap):Value->List Int
 | .ref a=>match h.get? a with
   | some o=>match o.data with
     | .seq xs _=>xs.toList.map numOf
     | _=>[]
   | none=>[]
 | _=>[]
def RowIs (h:Heap) (v:Value) (k:List Int):Prop:=∃a o xs n,v = .ref a/\h.get? a=some o/\o.cls = .type "tuple"/\o.data = .seq xs n/\IntsAre xs.toList k
theorem ints_nums {vs:List Value}{ns:List Int}(h:IntsAre vs ns):vs.map numOf=ns:=by
 induction h with
 | nil=>rfl
 | cons _ _ _ a=>rw[Qv,a];rfl
theorem RowIs.row {h:Heap}{v:Value}{k:List Int}(x:RowIs h v k):rowOf h v=k:=by
 obtain⟨a,o,e,n,rfl,b,f,c,d⟩:=x;unfold rowOf;dsimp only;rw[b];dsimp only;rw[c];exact ints_nums d
theorem RowIs.keep {h h':Heap} {v:Value} {k:List Int} (x:RowIs h v k) (d:∀b o,h.get? b=some o->o.cls = .type "tuple"->h'.get? b=some o):RowIs h' v k:=by
 obtain⟨a,o,e,n,rfl,f,c,g,i⟩:=x;exact⟨a,o,e,n,rfl,d a o f c,c,g,i⟩
section
variable {prog:Program} {w:World} {A:Around} {E:VP} {s:Shared}
theorem lex_int {b:Bool}{p q:Int}{t u:Tok}{i:Nat}{Q:Bool->Shared->Prop}(h:Q (decide (p<q)) s):wpAny (model prog w) A (oneLt' (b && i == 0) (.int p t) (.int q u)) Q E s:=by
 cases (b && i == 0) with
 | true=>exact oneLt_int h
 | false=>exact kat_one _ _ (PyProof.Rows.lt_int h)
theorem yn4 {b:Bool}{Q:Bool->Shared->Prop}:∀(a c:List Value) (k l:List Int) (i:Nat),IntsAre a k->IntsAre c l->Q (lexB k l) s->KatLex prog w A b (decide (k.length<l.length)) Q (a.zip c) i s
 | [],[],[],[],i,_,_,h=>by
   refine kat_nil ?_;exact h
 | [],y::c,[],m::l,i,_,_,h=>by
   refine kat_nil ?_;have e:decide (([]:List Int).length<(m::l).length)=true:=by simp
   rw[e];exact h
 | x::a,[],m::k,[],i,_,_,h=>by
   refine kat_nil ?_;have e:decide ((m::k).length<([]:List Int).length)=false:=by simp
   rw[e];exact h
 | x::a,y::c,m::k,n::l,i,hx,hy,h=>by
   obtain⟨t,rfl,d⟩:∃t,x = .int m t/\IntsAre a k:=by cases hx;exact⟨_,rfl,by assumption⟩
   obtain⟨u,rfl,f⟩:∃t,y = .int n t/\IntsAre c l:=by cases hy;exact⟨_,rfl,by assumption⟩
   show KatLex prog w A b _ Q ((Value.int m t,Value.int n u)::a.zip c) i s;refine kat_cons (wpAny_eqBool_int ?_);unfold lexB at h;by_cases e:m=n
   . subst e
     rw[Qo rfl] at h;rw[show(m == m)=true by simp];refine kat_yes ?_;have g:decide ((m::k).length<(m::l).length)=decide (k.length<l.length):=by simp
     rw[g];exact yn4 a c k l (i+1) d f h
   . rw[Qh e] at h
     rw[show(m == n)=false by simpa using e];exact kat_no (lex_int h)
 | [],_,_::_,_,_,h,_,_=>nomatch h
 | _::_,_,[],_,_,h,_,_=>nomatch h
 | _,[],_,_::_,_,_,h,_=>nomatch h
 | _,_::_,_,[],_,_,h,_=>nomatch h
theorem rows_lt {b:Bool}{x y:Value}{k l:List Int}{Q:Bool->Shared->Prop}(i:RowIs s.heap x k)(j:RowIs s.heap y l)(h:Q (lexB k l) s):wpAny (model prog w) A (keyLt' (tuples' b) x y) Q E s:=by
 obtain⟨a,o,m,n,rfl,p,u,q,d⟩:=i;obtain⟨v,z,r,B,rfl,f,t,g,c⟩:=j;refine kat_lt p q f g ?_;have e:decide (m.size<r.size)=decide (k.length<l.length):=by
   rw[<-d.length,<-c.length,QE,QE]
 rw[e];exact yn4 _ _ _ _ 0 d c h
theorem zG3:∀(a:List Value),a.zip a=a.map λv=>(v,v)
 | []=>rfl
 | v::a=>by rw[List.zip_cons_cons,zG3 a];rfl
theorem rows_map {h:Heap}{vs:List Value}{a:List (List Int)}(r:Paired (RowIs h) vs a):vs.map (rowOf h)=a:=by
 induction r with
 | nil=>rfl
 | cons x _ b=>rw[Qv,x.row,b]
theorem zG4 {h:Heap}{vs:List Value}{b:List (List Int)}(r:Paired (RowIs h) vs b):∀v∈vs,∃k∈b,RowIs h v k:=by
 induction r with
 | nil=>intro v a;cases a
 | cons x _ c =>
   intro v a;rcases Qq.mp a with rfl | a
   . exact⟨_,.head _,x⟩
   . obtain⟨k,d,y⟩:=c v a
     exact⟨k,.tail _ d,y⟩
theorem rows_tups {h:Heap}{vs:List Value}{d:List (List Int)}(r:Paired (RowIs h) vs d)(g:∀k∈d,k≠[]):∃fs,KatTups h vs fs/\fs.length=vs.length/\∀f∈fs,∃m t,f = .int m t:=by
 induction r with
 | nil=>exact⟨[],KatTups.nil,rfl,λf b=>by cases b⟩
 | @cons v k vs d x _ p =>
   obtain⟨fs,e,l,q⟩:=p λk s=>g k (.tail _ s)
   obtain⟨a,o,j,n,rfl,u,w,A,c⟩:=x;have z:=g k (.head _);obtain⟨m,t,B⟩:∃m t,j[0]?=some (.int m t):=by
     rw[<-ZE];cases i:j.toList with
     | nil=>rw[i] at c;cases c;exact absurd rfl z
     | cons y C=>rw[i] at c;cases c;exact⟨_,_,rfl⟩
   refine⟨.int m t::fs,KatTups.cons u w A B e,by simp[l],λf b=>?_⟩;rcases Qq.mp b with rfl | b
   . exact⟨m,t,rfl⟩
   . exact q f b
theorem yb4 (vs:List Value):(vs.map λv=>((v,v):Keyed)).map (·.2)=vs:=by
 rw[Zn];exact List.map_id vs
end
section
variable {prog:Program} {w:World} {A:Around} {E:VP} {s:Shared}
theorem sort_rowsS {a:Addr} {vs:List Value} {B:List (List Int)} {n:Nat} {P:PySem.Fin->Shared->Prop} (r:s.heap.get? a=some (seqObj "list" vs.toArray n)) (S:vs.length<=sizeLine) (a4:vs.length<64)
   (C:Paired (RowIs s.heap) vs B) (Z:2<=vs.length->∀k∈B,k≠[]) (U:B.Nodup)
   (h:∀G d c,(∀b o,b≠a->s.heap.get? b=some o->G.get? b=some o)->G.get? a=some (seqObj "list" (List.toArray d) c)->d.Perm vs->d.Pairwise (λx y=>lexB (rowOf s.heap x) (rowOf s.heap y)=true)->P (.done (.ret .none)) { s with heap:=G }) :
   wpAny (model prog w) A (Builtin.«list.sort» ⟨[.ref a],[]⟩) P E s:=by
 have ha:a<s.heap.objs.size:=Qp r;rw[list_sort_plain];refine Qb (listItems_at r rfl ?_);refine Qb (listUpdate_at r rfl ?_ (by rw[Qn];exact S) (QD _));obtain⟨D,O⟩:∃D,(s.heap.update a (Obj.mapSeq λ_=>(#[]:Array Value))).get? a=some (seqObj "list" #[] D):=⟨_,get?_update_seq r λ_=>#[]⟩;have k1:∀b o,b≠a->s.heap.get? b=some o->(s.heap.update a (Obj.mapSeq λ_=>(#[]:Array Value))).get? b=some o:=λb o p e=>(Zo _ _ (Ne.symm p)).trans e
 refine Qb (seqEpoch_at O rfl ?_);refine Qb (wpAny_newTuple ?_ (by show vs.length<=_;exact S));refine Qb (wpAny_newList ?_ (QD _));refine wpAny_holding ?_;have u:(((s.heap.update a (Obj.mapSeq λ_=>(#[]:Array Value))).push (seqObj "tuple" vs.toArray 0)).push (seqObj "list" #[] 0)).get? a=some (seqObj "list" #[] D):=Qc _ (Qc _ O);have H:∀b o,b≠a->s.heap.get? b=some o->(((s.heap.update a (Obj.mapSeq λ_=>(#[]:Array Value))).push (seqObj "tuple" vs.toArray 0)).push (seqObj "list" #[] 0)).get? b=some o:=λb o p e =>
   Qc _ (Qc _ (k1 b o p e))
 show wpAny (model prog w) A _ P E { s with heap:=((s.heap.update a (Obj.mapSeq λ_=>(#[]:Array Value))).push (seqObj "tuple" vs.toArray 0)).push (seqObj "list" #[] 0) };generalize((s.heap.update a (Obj.mapSeq λ_=>(#[]:Array Value))).push (seqObj "tuple" vs.toArray 0)).push (seqObj "list" #[] 0)=j at u H ⊢;have I:∀b o,s.heap.get? b=some o->o.cls = .type "tuple"->j.get? b=some o:=λb o e J=>H b o (λz=>by
   rw[z,r] at e;cases e;exact absurd (show Value.type "list" = Value.type "tuple" from J) (by simp)) e
 have N:∀(i:SortSt) (d:List Value),(arrOf i).map (·.2)=d.toArray->failedOf i=none->d.Perm vs->d.Pairwise (λx y=>lexB (rowOf s.heap x) (rowOf s.heap y)=true) →
     wpAny (model prog w) A (do
       let Y:=(arrOf i).map (·.2)
       let X:=(<-seqEpoch a) != D
       Builtin.List.listUpdate (.ref a) λ_=>Y
       if let some e:=failedOf i then rule "list.sort.comparison-raised";throw e
       if X then rule "list.sort.modified";raiseError "ValueError" "list modified during sort"
       ret .none) P E { s with heap:=j }:=λi d h1 f R h4=>by
   dsimp only;rw[h1];refine Qb (seqEpoch_at u rfl ?_);refine Qb (listUpdate_at u rfl ?_ (QD _) (by show d.toArray.size<=_;rw[Qn,R.length_eq];omega));rw[f];simp only[bne_self_eq_false,Zk,if_false];refine Qd ?_;obtain⟨c,J⟩:∃c,(j.update a (Obj.mapSeq λ_=>d.toArray)).get? a=some (seqObj "list" d.toArray c):=⟨_,get?_update_seq u λ_=>d.toArray⟩;exact h _ d c (λb o p e=>(Zo _ _ (Ne.symm p)).trans (H b o p e)) J R h4
 dsimp only;by_cases f:vs.toArray.size<2
 . rw[Qo f,Qo f]
   refine Qb (Qd ?_);rw[StateT.run_pure];refine Qb (Qd ?_);refine N _ vs ?_ rfl (.refl _) ?_
   . show(vs.toArray.zip vs.toArray).map (·.2)=vs.toArray
     apply Array.toList_inj.mp;rw[Array.toList_map,show(vs.toArray.zip vs.toArray).toList=vs.zip vs by simp,zG3,yb4]
   . rw[Qn] at f
     match vs,f with
     | [],_=>exact .nil
     | [_],_=>exact List.pairwise_singleton _ _
     | _::_::_,f=>exact absurd f (by simp)
 . rw[Qh f,Qh f]
   rw[Qn] at f;have a0:Paired (RowIs j) vs B:=L2P C λv k x=>x.keep I
   obtain⟨fs,f1,f2,f3⟩:=rows_tups a0 (Z (by omega));refine Qb (kat_kind (s:={ s with heap:=j }) (T:=.type "int") f1 (by omega) (λv hv=>by obtain⟨m,t,rfl⟩:=f3 v hv;exact Looks.now) (by decide) ?_);have c:Cmp (model prog w) A { s with heap:=j } (tuples' (Value.type "int" != Value.type "tuple")) (λx y=>lexB (rowOf s.heap x.1) (rowOf s.heap y.1)) (vs.toArray.zip vs.toArray).toList:=by
     rw[show(vs.toArray.zip vs.toArray).toList=vs.zip vs by simp,zG3];refine⟨λx K y L=>?_,λx y z=>yh3,λx y=>yh4,?_⟩
     . obtain⟨x,a1,rfl⟩:=QN.mp K
       obtain⟨y,a2,rfl⟩:=QN.mp L;obtain⟨kx,_,V⟩:=zG4 C x a1;obtain⟨ky,_,W⟩:=zG4 C y a2;refine rows_lt (s:={ s with heap:=j }) (V.keep I) (W.keep I) ⟨rfl,?_⟩;rw[V.row,W.row]
     . rw[List.pairwise_map]
       have e:=rows_map C;rw[<-e] at U;have a3:vs.Pairwise λx y=>rowOf s.heap x≠rowOf s.heap y:=List.pairwise_map.mp U
       exact a3.imp λz=>yh5 z
   refine Qb (Zg (wp_sortRunsS (E:=E) (Q:=λ_ i=>∃l F g,i=SortSt.mk' (tuples' (Value.type "int" != Value.type "tuple")) l F g none/\l.toList.Perm (vs.toArray.zip vs.toArray).toList/\l.toList.Pairwise (LtR λx y=>lexB (rowOf s.heap x.1) (rowOf s.heap y.1))) c (by simp;omega) (by simp;omega) λl F g q M=>⟨l,F,g,rfl,q,M⟩) ?_ λ_ _ e=>e);rintro⟨⟨⟩,i⟩ s' ⟨rfl,l,F,g,rfl,q,M⟩;rw[show(vs.toArray.zip vs.toArray).toList=vs.zip vs by simp,zG3] at q;refine N _ (l.toList.map (·.2)) ?_ rfl ?_ ?_
   . apply Array.toList_inj.mp
     simp
   . have:=q.map (·.2)
     rw[yb4] at this;exact this
   . rw[List.pairwise_map]
     refine M.imp_of_mem λ{x y} K L z=>?_
     obtain⟨v,_,rfl⟩:=QN.mp (q.mem_iff.mp K);obtain⟨a5,_,rfl⟩:=QN.mp (q.mem_iff.mp L);exact z
theorem sorted_rowsS {x:Value}{vs:List Value}{i:List (List Int)}{Q:VP}(r:vs.length<=sizeLine)(D:vs.length<64)(j:Paired (RowIs s.heap) vs i)(F:2<=vs.length->∀k∈i,k≠[])(I:i.Nodup)
   (J:∀(R:List Value->Shared->Prop) (E:VP),(∀(d:Heap) (f:Nat),(∀b o,s.heap.get? b=some o->d.get? b=some o)->R vs { s with heap:=d,toks:=f })->wpAny (model prog w) A.in1 (collect x) R E s)
   (h:∀(a:Heap) (f:Nat),(∀b o,s.heap.get? b=some o->a.get? b=some o)->∀(d:Heap) (g:List Value) (c:Nat),(∀b o,a.get? b=some o->d.get? b=some o)->d.get? a.objs.size=some (seqObj "list" (List.toArray g) c)->g.Perm vs →
     g.Pairwise (λx y=>lexB (rowOf s.heap x) (rowOf s.heap y)=true)->Q (.ref a.objs.size) { s with heap:=d,toks:=f }) :
   wpAny (model prog w) A (call (.builtin "sorted") [x]) Q E s:=by
 refine Calls.call_function_entry kind_sorted plain_sorted entry_sorted (args_sorted1 _) ?_;unfold Builtin.«sorted»;refine Qb (m:=checkCount "sorted" 1 1 _) (Qd ?_);refine Qb (J _ _ λa f t=>?_);refine Qb (wpAny_newList ?_ r);have l:∀b o,s.heap.get? b=some o->(a.push (seqObj "list" vs.toArray 0)).get? b=some o:=λb o e=>Qc _ (t b o e)
 have u:(a.push (seqObj "list" vs.toArray 0)).get? a.objs.size=some (seqObj "list" vs.toArray 0):=Qm _ rfl;show wpAny _ _ _ _ _ { s with heap:=a.push (seqObj "list" vs.toArray 0),toks:=f };have G:Paired (RowIs (a.push (seqObj "list" vs.toArray 0))) vs i:=L2P j λv k x=>x.keep λb o e _=>l b o e
 have K:∀x y,x∈vs->y∈vs->lexB (rowOf (a.push (seqObj "list" vs.toArray 0)) x) (rowOf (a.push (seqObj "list" vs.toArray 0)) y)=true->lexB (rowOf s.heap x) (rowOf s.heap y)=true:=λx y n p z=>by
   obtain⟨N,_,B⟩:=zG4 j x n;obtain⟨O,_,C⟩:=zG4 j y p;rw[(B.keep λb o e _=>l b o e).row,(C.keep λb o e _=>l b o e).row] at z;rw[B.row,C.row];exact z
 refine Qb (wpAny_holding (wpAny_call_entry slot_list_sort ⟨_,u,rfl⟩ entry_list_sort (sort_rowsS (s:={ s with heap:=a.push (seqObj "list" vs.toArray 0),toks:=f }) u r D G F I λd g c L H q M=>⟨_,rfl,?_⟩) (args_list_sort _)));refine Qd ⟨_,rfl,h a f t d g c (λb o e=>L b o (Qz (Qp e)) (Qc _ e)) H q ?_⟩;exact M.imp_of_mem λ{x y} n p z=>K x y (q.mem_iff.mp n) (q.mem_iff.mp p) z
end
end Sx
namespace L2
open PySem PySem.Spec PyProof.Rows
section
variable {κ:Type} [DecidableEq κ]
noncomputable def valV (kvs:List (κ×V))(k:κ):Option V:=(kvs.find? λkv=>decide (kv.1=k)).map (·.2)
noncomputable def putK (kvs:List (κ×V))(k:κ)(v:V):List (κ×V) :=
 if (kvs.any λkv=>decide (kv.1=k))=true then kvs.map (λkv=>if kv.1=k then(kv.1,v) else kv) else kvs++[(k,v)]
theorem zG5 {p:κ×V}{r:List (κ×V)}{k:κ}(e:p.1=k):valV (p::r) k=some p.2:=by simp[valV,List.find?_cons,e]
theorem zz4 {p:κ×V}{r:List (κ×V)}{k:κ}(e:¬ p.1=k):valV (p::r) k=valV r k:=by simp[valV,List.find?_cons,e]
theorem zP1 (k:κ):∀a:List (κ×V),(a.any λb=>decide (b.1=k))=(valV a k).isSome
 | []=>rfl
 | p::r=>by
   rw[List.any_cons];by_cases e:p.1=k
   . simp only[zG5 e,Qg e,Bool.true_or,Option.isSome_some]
   . rw[zz4 e,Qf e,Bool.false_or];exact zP1 k r
theorem zL6 (a:List (κ×V))(k:κ)(v:V):(putK a k v).length<=a.length+1:=by
 unfold putK
 split
 . rw[Qa];omega
 . rw[Qi,Ql,Zs];omega
theorem putK_new {a:List (κ×V)}{k:κ}(v:V)(h:valV a k=none):putK a k v=a++[(k,v)]:=by
 unfold putK;rw[zP1,h];exact Qh (by decide)
theorem RelO.isSome_eq {o:Option V}{u:Option Value}(r:RelO o u):o.isSome=u.isSome:=by
 cases o with
 | none=>cases u with
   | none=>rfl
   | some _=>exact(show False from r).elim
 | some _=>cases u with
   | none=>exact(show False from r).elim
   | some _=>rfl
theorem KV.val {d:List (κ×V)}{vs:List (κ×Value)}(r:KV d vs)(k:κ):RelO (valV d k) (valueAt vs k):=by
 unfold KV at r
 induction r with
 | nil=>exact True.intro
 | @cons p q j a h t g =>
   obtain⟨f,i⟩:=h;by_cases e:p.1=k
   . have c:q.1=k:=f.symm.trans e
     have b:valueAt (q::a) k=some q.2:=by simp[valueAt,List.find?_cons,c]
     rw[zG5 e,b];exact i
   . have c:¬ q.1=k:=λz=>e (f.trans z)
     have b:valueAt (q::a) k=valueAt a k:=by simp[valueAt,List.find?_cons,c]
     rw[zz4 e,b];exact g
theorem KV.any {b:List (κ×V)}{vs:List (κ×Value)}(r:KV b vs)(k:κ):(b.any λa=>decide (a.1=k))=vs.any λa=>decide (a.1=k):=by
 unfold KV at r
 induction r with
 | nil=>rfl
 | cons h t c=>rw[List.any_cons,List.any_cons,c,h.1]
theorem KV.repl {c:List (κ×V)}{vs:List (κ×Value)}(r:KV c vs)(k:κ){y:V}{u:Value}(d:RelV y u) :
   KV (c.map λa=>if a.1=k then(a.1,y) else a) (vs.map λa=>if a.1=k then(a.1,u) else a):=by
 unfold KV at r ⊢
 induction r with
 | nil=>exact .nil
 | @cons p q i j h t f =>
   rw[Qv,Qv];refine .cons ?_ f;obtain⟨b,g⟩:=h;by_cases e:p.1=k
   . rw[Qo e,Qo (b.symm.trans e)];exact⟨b,d⟩
   . rw[Qh e,Qh (λz=>e (b.trans z))];exact⟨b,g⟩
theorem KV.put {a:List (κ×V)}{vs:List (κ×Value)}(r:KV a vs)(k:κ){y:V}{u:Value}(b:RelV y u):KV (putK a k y) (stored vs k u):=by
 unfold putK stored;rw[r.any k];by_cases e:(vs.any λc=>decide (c.1=k))=true
 . rw[Qo e,Qo e];exact r.repl k b
 . rw[Qh e,Qh e];exact Paired.snoc r ⟨rfl,b⟩
theorem KV.length {a:List (κ×V)}{vs:List (κ×Value)}(r:KV a vs):a.length=vs.length:=Paired.length r
end
theorem yh6 {P:Program}{w:World}{k:Key}{u:Value}(r:RelV (kV k) u):(zk6 P w).is k u=true:=by
 cases k with
 | inl i=>obtain⟨t,e⟩:=(show ∃t,u=Value.int i t from r);subst e;exact mixKind_int P w i t
 | inr x=>obtain⟨t,e⟩:=(show ∃t,u=Value.str x t from r);subst e;exact mixKind_str P w x t
theorem zV2 {P:Program}{w:World}:∀ {a:List Key} {b:List Value},Vals (a.map kV) b->ItemsAre (zk6 P w) a b
 | [],_,r=>by rw[List.map_nil] at r;cases r;exact .nil
 | k::a,_,r=>by
   rw[Qv] at r;cases r with
   | cons h t=>exact .cons (yh6 h) (zV2 t)
abbrev KT (H:Hp):List (List Key×V)->List (List Key×Addr×Value)->Prop:=Paired λp q=>p.1=q.1/\H q.2.1=some (.tup (p.1.map kV))/\RelV p.2 q.2.2
theorem KT.val {H:Hp}{d:List (List Key×V)}{xs:List (List Key×Addr×Value)}(r:KT H d xs)(k:List Key):RelO (valV d k) ((atKey xs k).map (·.2)):=by
 induction r with
 | nil=>exact True.intro
 | @cons p q j a h t g =>
   obtain⟨f,_,i⟩:=h;by_cases e:p.1=k
   . have c:q.1=k:=f.symm.trans e
     have b:atKey (q::a) k=some q.2:=by simp[atKey,List.find?_cons,c]
     rw[zG5 e,b];exact i
   . have c:¬ q.1=k:=λz=>e (f.trans z)
     have b:atKey (q::a) k=atKey a k:=by simp[atKey,List.find?_cons,c]
     rw[zz4 e,b];exact g
theorem KT.repl {H:Hp}{c:List (List Key×V)}{xs:List (List Key×Addr×Value)}(r:KT H c xs)(k:List Key){y:V}{u:Value}(f:RelV y u) :
   KT H (c.map λb=>if b.1=k then(b.1,y) else b) (xs.map (putAt k u)):=by
 induction r with
 | nil=>exact .nil
 | @cons p q j l h t g =>
   rw[Qv,Qv];refine .cons ?_ g;obtain⟨a,d,i⟩:=h;unfold putAt;by_cases e:p.1=k
   . rw[Qo e,Qo (a.symm.trans e)];exact⟨a,d,f⟩
   . rw[Qh e,Qh (λz=>e (a.trans z))];exact⟨a,d,i⟩
theorem KT.put {H:Hp}{a:List (List Key×V)}{xs:List (List Key×Addr×Value)}(r:KT H a xs)(k:List Key){b:Addr}{y:V}{u:Value}(d:H b=some (.tup (k.map kV)))(c:RelV y u) :
   KT H (putK a k y) (storedH xs k b u):=by
 have e:(a.any λf=>decide (f.1=k))=(atKey xs k).isSome:=by
   rw[zP1,(r.val k).isSome_eq,Option.isSome_map]
 unfold putK storedH;rw[e];by_cases q:(atKey xs k).isSome=true
 . rw[Qo q,Qo q];exact r.repl k c
 . rw[Qh q,Qh q];exact Paired.snoc r ⟨rfl,d,c⟩
theorem KT.keeps {H H':Hp}{a:List (List Key×V)}{xs:List (List Key×Addr×Value)}(r:KT H a xs)(d:∀b c,H b=some (.tup c)->H' b=some (.tup c)):KT H' a xs :=
 Paired.mapP r λ_ _ z=>⟨z.1,d _ _ z.2.1,z.2.2⟩
section
variable {P:Program} {w:World} {H:Hp} {h:Heap} {a:Addr}
theorem yq1 {u:HO}(ok:HOk P w H h)(e:Rd H a u):zg1 P w H h a u:=e.ok ok
theorem yh7 {b:List (Key×V)}(ok:HOk P w H h)(e:Rd H a (.dK b)):b.length<=sizeLine/\(a == sysModules)=false/\∃c,KV b c/\h.DictOf (zk6 P w) a c :=
 show zg1 P w H h a (.dK b) from yq1 ok e
theorem dk_of {b:List (Key×V)}(ok:HOk P w H h)(e:H a=some (.dK b)):b.length<=sizeLine/\(a == sysModules)=false/\∃c,KV b c/\h.DictOf (zk6 P w) a c:=yh7 ok (.inl e)
theorem zP2 {b:List Key}(ok:HOk P w H h)(e:H a=some (.tup (b.map kV))):(tupleKind (zk6 P w)).is h b a:=by
 obtain⟨_,c,r,o,d,f,_,n,g⟩:=(show zg1 P w H h a (.tup (b.map kV)) from ok a _ e);exact⟨o,c.toArray,n,d,f,g,by simpa using zV2 r⟩
theorem yh8 {c:List (List Key×V)}(ok:HOk P w H h)(e:Rd H a (.dT c)):c.length<=sizeLine/\(a == sysModules)=false ∧
   ∃d,KT H c d/\h.DictOfH (tupleKind (zk6 P w)) a d:=by
 obtain⟨z,y,d,r,o,g,i,j,k,n,s,u⟩:=(show zg1 P w H h a (.dT c) from yq1 ok e);refine⟨z,y,d,r,o,g,i,j,k,n,s,λx b=>?_,u⟩;have all:∀ {l:List (List Key×V)} {m:List (List Key×Addr×Value)},KT H l m->∀x∈m,(tupleKind (zk6 P w)).is h x.1 x.2.1:=by
   intro l m q
   induction q with
   | nil=>intro x b;exact nomatch b
   | @cons p q A B f t v =>
     intro x b;rcases Qq.mp b with e | b
     . subst e
       exact zP2 ok (by rw[<-f.1];exact f.2.1)
     . exact v x b
 exact all r x b
theorem yq2 {b:List (List Key×V)}(ok:HOk P w H h)(e:H a=some (.dT b)):b.length<=sizeLine/\(a == sysModules)=false ∧
 ∃c,KT H b c/\h.DictOfH (tupleKind (zk6 P w)) a c:=yh8 ok (.inl e)
end
def DGet (H:Hp)(a:Addr)(y:V)(r:Option V):Prop :=
 (∃kvs k,Rd H a (.dK kvs)/\y=kV k/\r=valV kvs k)\/∃kvs k b,Rd H a (.dT kvs)/\y = .ref b/\H b=some (.tup (k.map kV))/\r=valV kvs k
def DPut (H:Hp)(a:Addr)(y v:V)(H':Hp):Prop :=
 (∃kvs k,H a=some (.dK kvs)/\y=kV k/\kvs.length<sizeLine/\H'=upd H a (.dK (putK kvs k v))) ∨
 ∃kvs k b,H a=some (.dT kvs)/\y = .ref b/\H b=some (.tup (k.map kV))/\kvs.length<sizeLine/\H'=upd H a (.dT (putK kvs k v))
theorem DGet.t {H:Hp}{a b:Addr}{c:List (List Key×V)}{k:List Key}(e:H a=some (.dT c))(d:H b=some (.tup (k.map kV))):DGet H a (.ref b) (valV c k):=.inr ⟨c,k,b,.inl e,rfl,d,rfl⟩
theorem DPut.t {H:Hp}{a b:Addr}{c:List (List Key×V)}{k:List Key}{v:V}(e:H a=some (.dT c))(d:H b=some (.tup (k.map kV)))(f:c.length<sizeLine) :
 DPut H a (.ref b) v (upd H a (.dT (putK c k v))):=.inr ⟨c,k,b,e,rfl,d,f,rfl⟩
section
variable {X:Cx} {pins:List (Addr×Obj)} {σ:St} {H:Hp} {s:Shared} {a:Addr} {y v:V} {u r:Value} {o:Option V} {A:Around} {E:VP}
theorem Inv.big (I:Inv X pins σ H s):sysModules<s.heap.objs.size:=by
 have h:mainGlobals<s.heap.objs.size:=(I.mod.glob.keeps I.bk).lt;exact Nat.lt_trans (by decide) h
theorem d_getItem {Q:VP}(w:A.units+1<cLine)(I:Inv X pins σ H s)(g:DGet H a y (some v))(n:RelV y u)(h:∀c q,Inv X pins σ H q->RelV v c->Q c q) :
   wpAny (model X.prog X.w) A (getItem (.ref a) u) Q E s:=by
 rcases g with⟨r,k,e,i,l⟩ | ⟨r,k,b,e,i,x,l⟩
 . subst i
   obtain⟨z,B,C,d,j⟩:=yh7 I.hok e;obtain⟨c,m,f⟩:=RelO.some_of (v:=v) (o:=valueAt C k) (by rw[l];exact d.val k);exact wpAny_getItem_of (yh6 n) j.mapOf m (h c _ (I.tok _) f)
 . subst i
   cases (show u=Value.ref b from n);obtain⟨z,B,D,d,j⟩:=yh8 I.hok e;obtain⟨c,m,f⟩:=RelO.some_of (v:=v) (o:=(atKey D k).map (·.2)) (by rw[l];exact d.val k);obtain⟨p,F,t⟩:=Option.map_eq_some_iff.mp m;refine wpAny_getItem_heap (tupleKind_room_in1 w) (zP2 I.hok x) j F ?_;rw[t];exact h c _ (I.tok _) f
theorem d_notIn {Q:VP}(p:A.units+1<cLine)(I:Inv X pins σ H s)(g:DGet H a y o)(j:RelV y u)(h:∀m,Inv X pins σ H m->Q (.bool (!o.isSome)) m) :
   wpAny (model X.prog X.w) A (compareOp .NotIn u (.ref a)) Q E s:=by
 rcases g with⟨n,k,e,d,l⟩ | ⟨n,k,b,e,d,r,l⟩
 . subst d
   obtain⟨z,f,t,c,i⟩:=yh7 I.hok e;refine wpAny_notIn_of (yh6 j) f i.mapOf ?_;rw[<-(c.val k).isSome_eq,<-l];exact h _ (I.tok _)
 . subst d
   cases (show u=Value.ref b from j);obtain⟨z,f,v,c,i⟩:=yh8 I.hok e;refine wpAny_notIn_heap (tupleKind_room_in1 p) (zP2 I.hok r) f i ?_;have q:=(c.val k).isSome_eq;rw[Option.isSome_map] at q;rw[<-q,<-l];exact h _ (I.tok _)
theorem zY6 {h':Heap}{t':Nat}{c:HO}(I:Inv X pins σ H s)(d:Mut (H a))(hs:Heap.SameBut a s.heap h')(f:∃q,h'.get? a=some q)(new:zg1 X.prog X.w (upd H a c) h' a c) :
   Inv X pins σ (upd H a c) { s with heap:=h',toks:=t' } :=
 I.write (x:=a) (e:=a) d (.inl rfl) (λb q g z=>(hs.2 b g).trans z) f new
theorem dk_new {P:Program}{w:World}{H':Hp}{h':Heap}{b:List (Key×V)}{vs:List (Key×Value)}(z:b.length<=sizeLine)(d:(a == sysModules)=false)(c:KV b vs)(dd:h'.DictOf (zk6 P w) a vs) :
 zg1 P w H' h' a (.dK b):=⟨z,d,vs,c,dd⟩
theorem d_setItem {H':Hp}{Q:Unit->Shared->Prop}(K:A.units+1<cLine)(I:Inv X pins σ H s)(g:DPut H a y v H')(B:RelV y u)(C:RelV v r)(h:∀D,Inv X pins σ H' D->Q () D) :
   wpAny (model X.prog X.w) A (setItem (.ref a) u r) Q E s:=by
 rcases g with⟨d,k,e,m,l,n⟩ | ⟨d,k,b,e,m,F,l,n⟩
 . subst m n
   obtain⟨z,o,L,f,p⟩:=dk_of I.hok e;have t:L.length<=sizeLine:=by rw[<-f.length];exact z
   have w:(putK d k v).length<=sizeLine:=by have:=zL6 d k v;omega
   refine wpAny_setItem_pairs (hsz:=t) (yh6 B) p λG i x=>h _ ?_
   have M:∃q,G.get? a=some q:=let⟨q,_,_,j,_⟩:=i;⟨q,j⟩;exact zY6 I (by rw[e];exact True.intro) x M (dk_new w o (f.put k C) i)
 . subst m n
   cases (show u=Value.ref b from B);obtain⟨z,o,N,f,p⟩:=yq2 I.hok e;have t:N.length<=sizeLine:=by rw[<-Paired.length f];exact z
   have w:(putK d k v).length<=sizeLine:=by have:=zL6 d k v;omega
   refine wpAny_setItem_heap (hsz:=t) (tupleKind_room_in1 K) (zP2 I.hok F) p λG i x=>h _ ?_
   obtain⟨q,O,P,j,R,S,T,_,U⟩:=i;refine zY6 I (by rw[e];exact True.intro) x ⟨q,j⟩ ⟨w,o,_,(f.put k F C).keeps λc V J=>?_,q,O,P,j,R,S,T,U⟩;rw[za8 (zD7 J e (λz=>nomatch z))];exact J
end
def NoSl (i:Expr):Prop:=∀ov iv,subscripted i false ov iv=operate [ov,iv] (getItem ov iv)
theorem subD_of {prog:Program}{w:World}{A:Around}{E:VP}{s:Shared}{env:Env}{c a:Expr}{k:Pos}{T id:String}{Q:VP}
   (l:typeLookup (.type T) "__getitem__" = pure (some (.builtin id))) (hs:NoSl a)
   (h:wpAny (model prog w) A (eval c env) (λo f=>wpAny (model prog w) A (eval a env) (λi b=>b.TypeIs o T/\wpAny (model prog w) A (getItem o i) Q E b) E f) E s) :
   wpAny (model prog w) A (eval (.Subscript c a k) env) Q E s:=by
 refine Subscript_ (Zg h (λo f m=>Zg m (λi b e=>?_) λ_ _ x=>x) λ_ _ x=>x);obtain⟨g,e⟩:=e;unfold subscriptTail;refine Qb ?_;rw[getitemInPython_of_ne g.not_modules];refine Qb (wpAny_specialOf g l ?_);have d:wpAny (model prog w) A (subscripted a false o i) (λr j=>wpAny (model prog w) A (letTemporaryGo c o r >>= λ_=>pure r) Q E j) E b:=by
   rw[hs o i];exact wpAny_operating (Zg e (λr j n=>Qb (wpAny_letTemporaryGo (Qd n))) λ_ _ x=>x)
 first
   | exact Qd (Qb d)
   | exact Qb (Qd (Qb d))
   | exact Qb d
theorem dict_typeIs {X:Cx} {d:List (Addr×Obj)} {h:St} {H:Hp} {s:Shared} {a:Addr} {y:V} {o:Option V} (I:Inv X d h H s) (g:DGet H a y o):s.TypeIs (.ref a) "dict":=by
 rcases g with⟨f,k,e,_,_⟩ | ⟨f,k,b,e,_,_,_⟩
 . obtain⟨_,_,i,_,c⟩:=yh7 I.hok e
   exact c.typeIs
 . obtain⟨_,_,j,_,c⟩:=yh8 I.hok e
   exact c.typeIs
def tDGet (td ty:TE):TE:=λσ H Q=>td σ H λx H1=>ty σ H1 λy H2=>∃a v,x = .ref a/\DGet H2 a y (some v)/\Q v H2
def tDNotIn (ty td:TE):TE:=λσ H Q=>ty σ H λy H1=>td σ H1 λx H2=>∃a o,x = .ref a/\DGet H2 a y o/\Q (.bl (!o.isSome)) H2
def sDPut (td ty tv:TE):TS:=λD σ H=>tv σ H λv H1=>td σ H1 λx H2=>ty σ H2 λy H3=>∃a H4,x = .ref a/\DPut H3 a y v H4/\D.nx σ H4
section
variable {X:Cx} {o i e value:Expr} {pos pos' tpos:Pos} {td ty tv:TE}
theorem zY7 (f:X.A.units+1<cLine)(j:PE X o td)(k:PE X i ty)(hs:NoSl i):PE X (.Subscript o i pos) (tDGet td ty):=by
 intro b s d H Q I h;refine subD_of PySem.F.slot_dict_getitem.lookup hs (thn (j b s d H _ I h) λu l ⟨x,m,n,p,q⟩=>thn (k b l d m _ n q) λB C ⟨y,r,c,t,a,v,w,g,z⟩=>?_);subst w;obtain rfl:u=Value.ref a:=p;exact⟨dict_typeIs c g,d_getItem f c g t λD E A e=>⟨v,r,A,e,z⟩⟩
theorem zV3 (d:X.A.units+1<cLine)(e:PE X i ty)(f:PE X o td):PC X .NotIn i o (tDNotIn ty td):=by
 intro b s c H Q I h;refine thn (e b s c H _ I h) λA j ⟨y,k,l,m,n⟩=>thn (f b j c k _ l n) λu B ⟨x,p,q,r,a,t,v,g,w⟩=>?_
 subst v;obtain rfl:u=Value.ref a:=r;exact d_notIn d q g m λC z=>⟨.bl (!t.isSome),p,z,rfl,w⟩
theorem ps_dput (d:X.A.units+1<cLine)(e:PE X o td)(f:PE X i ty)(j:PE X value tv)(hs:swapsWith value (some (.Subscript o i pos')) pos.line X.env=pure false) :
   PS X (.Assign [.Subscript o i pos'] value pos) (sDPut td ty tv):=by
 intro c s b H D I h;refine wpAny_Assign_Subscript (thn (j c s b H _ I h) λr k ⟨v,l,m,n,p⟩=>thn (e c k b l _ m p) λu q ⟨x,t,w,z,A⟩=>thn (f c q b t _ w A) λK L ⟨y,M,B,C,a,E,F,g,G⟩=>?_) hs;subst F;obtain rfl:u=Value.ref a:=z;exact d_setItem d B g C n λN J=>⟨b,E,J,G⟩
end
theorem dt_empty {P:Program} {w:World} {H:Hp} (h:Heap) (a:sysModules<h.objs.size):zg1 P w H (h.push { cls:=.type "dict",data:=.dict #[] }) h.objs.size (.dT []) :=
 ⟨QD _,beq_eq_false_iff_ne.mpr (Ne.symm (Qz a)),[],.nil,_,#[],0,Qm _ rfl,⟨rfl,rfl,rfl⟩,rfl,rfl,List.nodup_nil⟩
noncomputable abbrev ik (k:List Int):List Key:=k.map Sum.inl
theorem yn5 (k:List Int):(ik k).map kV=k.map V.int:=by
 unfold ik;rw[Zn];rfl
def tDisp1 (tk tv:TE):TE:=λσ H Q=>∀p,H p=none->tk σ (upd H p (.dT [])) λx H1=>tv σ H1 λy H2=>H2 p=some (.dT [])/\∃b k,x = .ref b/\H2 b=some (.tup (k.map V.int))/\Q (.ref p) (upd H2 p (.dT [(ik k,y)]))
theorem pe_disp1 {X:Cx}{j:Pos}{d f:Expr}{l m:TE}(A:X.A.units+1<cLine)(B:PE X d l)(C:PE X f m):PE X (.Dict [some d] [f] j) (tDisp1 l m):=by
 intro i s t H a0 I q;have D:=I.hok.fresh (Qj s.heap.objs.size);have E:=I.laid (a:=s.heap.objs.size) (o:=.dT []) (h':=s.heap.push { cls:=.type "dict",data:=.dict #[] }) (t':=s.toks) (λ_ _ q=>Qc _ q) (Qj _) (dt_empty s.heap I.big);rw[arm_eval_Dict,zip_pairTrees [some d] [f] X.env j rfl rfl,dictDisplay_pairs _ (by intro z;cases z) (by show(1:Nat)<17;decide)];refine Qb (wpAny_standAt (Qb ?_));unfold subDict;refine Qb (wpAny_alloc (Qb (wpAny_holding ?_)));rw[Qo (by show(1:Nat)<=15;decide)];refine Qb (pairTrees_cons_walk (thn (B i _ t _ _ E (q _ D)) λu F ⟨x,G,J,K,L⟩=>thn (C i F t G _ J L) λa1 s2 ⟨y,g,h,M,e,b,k,N,O,P⟩=>pairTrees_nil_walk ?_));subst N;obtain rfl:u=Value.ref b:=K;refine wpAny_holding ?_;rw[List.forIn_cons];obtain⟨z,Q,xs,v,R⟩:=yq2 h.hok e;cases v;have c:g b=some (.tup ((ik k).map kV)):=by rw[yn5];exact O
 refine Qb (Qb (Qb (wpAny_dictSet_heap (hsz:=QD _) (show(tupleKind (zk6 X.prog X.w)).room X.A from Nat.lt_of_succ_lt A) (zP2 h.hok c) R λh' w S=>Qd ?_)));dsimp only;rw[List.forIn_nil];refine Qd (Qd (Qd (Qd ⟨.ref s.heap.objs.size,_,?_,rfl,P⟩)));have a2:DPut g s.heap.objs.size (.ref b) y _:=DPut.t e c (by show 0<sizeLine;rw[sizeLine_eq];decide);obtain⟨n,T,U,p,V,W,Y,_,Z⟩:=w;refine zY6 h (by rw[e];exact True.intro) S ⟨n,p⟩ ⟨by show 1<=sizeLine;rw[sizeLine_eq];decide,Q,_,((KT.put (H:=g) .nil (ik k) c M)).keeps λa3 ys r=>?_,n,T,U,p,V,W,Y,Z⟩;rw[za8 (zD7 r e (λz=>nomatch z))];exact r
abbrev Tups (H:Hp)(ys:List V)(ks:List (List Int)):Prop:=Paired (λy k=>∃b,y = .ref b/\H b=some (.tup (k.map V.int))) ys ks
theorem yn6 {P:Program}{w:World}{H:Hp}{h:Heap}{b:Addr}{k:List Int}(ok:HOk P w H h)(e:H b=some (.tup (k.map V.int))):Sx.RowIs h (.ref b) k:=by
 obtain⟨_,a,r,o,c,d,_,n,f⟩:=(show zg1 P w H h b (.tup (k.map V.int)) from ok b _ e);exact⟨b,o,a.toArray,n,rfl,c,d,f,by simpa using zr5 r⟩
theorem yb5 {P:Program}{w:World}{H:Hp}{h:Heap}(ok:HOk P w H h):∀ {a:List V} {c:List (List Int)} {d:List Value},Tups H a c->Vals a d->Paired (Sx.RowIs h) d c
 | _,_,_,.nil,.nil=>.nil
 | _,_,_,.cons ⟨b,e,f⟩ t,.cons r g=>by
   subst e;cases r;exact .cons (yn6 ok f) (yb5 ok t g)
noncomputable def refV:Value->V
 | .ref b=>.ref b
 | _=>.non
theorem Tups.mem {H:Hp}:∀ {c:List V} {d:List (List Int)},Tups H c d->∀y∈c,∃b k,y = .ref b/\k∈d/\H b=some (.tup (k.map V.int))
 | _,_,.nil,y,a=>nomatch a
 | _,_,.cons ⟨b,e,g⟩ t,y,a=>by
   rcases Qq.mp a with rfl | a
   . exact⟨b,_,e,.head _,g⟩
   . obtain⟨h,i,j,l,f⟩:=Tups.mem t y a
     exact⟨h,i,j,.tail _ l,f⟩
theorem yb6:∀ {b:List V} {c:List Value},Vals b c->∀u∈c,∃y∈b,RelV y u
 | _,_,.nil,u,a=>nomatch a
 | _,_,.cons r t,u,a=>by
   rcases Qq.mp a with rfl | a
   . exact⟨_,.head _,r⟩
   . obtain⟨y,d,e⟩:=yb6 t u a
     exact⟨y,.tail _ d,e⟩
theorem yh9 {P:Program}{w:World}{H:Hp}{h:Heap}(ok:HOk P w H h):∀(a:List Value),(∀u∈a,∃b k,u = .ref b/\H b=some (.tup (List.map V.int k)))->Tups H (a.map refV) (a.map (Sx.rowOf h))/\Vals (a.map refV) a
 | [],_=>⟨.nil,.nil⟩
 | u::a,hu=>by
   obtain⟨b,k,rfl,c⟩:=hu u (.head _);obtain⟨t,v⟩:=yh9 ok a λu d=>hu u (.tail _ d)
   rw[Qv,Qv];refine⟨.cons ⟨b,rfl,?_⟩ t,.cons rfl v⟩;rw[(yn6 ok c).row];exact c
def yq3 (H:Hp)(ks:List (List Int))(Q:VK):Prop:=∀l zs js,H l=none->Tups H zs js->js.Perm ks->js.Pairwise (λx y=>Sx.lexB x y=true)->Q (.ref l) (upd H l (.lst zs))
section
variable {X:Cx}
end
section
variable {X:Cx}
theorem sort_coreS {h:List (Addr×Obj)}{s:Shared}{l:St}{H:Hp}{Q:VK}{x:Value}{ys:List V}{e:List (List Int)}{us:List Value}(I:Inv X h l H s)(O:ys.length<=sizeLine)(N:ys.length<64)(m:Tups H ys e)(i:Vals ys us)(v:e.Nodup)(t:2<=ys.length->∀k∈e,k≠[])
   (w:∀(R:List Value->Shared->Prop) (E:VP),(∀(f:Heap) (a:Nat),(∀b o,s.heap.get? b=some o->f.get? b=some o)->R us { s with heap:=f,toks:=a })->wpAny (model X.prog X.w) X.A.in1 (collect x) R E s)
   (q:yq3 H e Q):wpAny (model X.prog X.w) X.A (call (.builtin "sorted") [x]) (EP X h l Q) X.xe s:=by
 have P:=i.length;have n:=yb5 I.hok m i;refine Sx.sorted_rowsS (by omega) (by omega) n (λz=>t (by omega)) v w λg a A f d c B C j D=>?_
 have mem:∀u∈d,∃b k,u = .ref b/\H b=some (.tup (List.map V.int k)):=λu F=>by
   obtain⟨y,G,J⟩:=yb6 i u (j.mem_iff.mp F);obtain⟨b,k,rfl,_,K⟩:=m.mem y G;exact⟨b,k,J,K⟩
 obtain⟨L,M⟩:=yh9 I.hok d mem;have p:Inv X h l H { s with heap:=g,toks:=a }:=I.kept A;have r:=j.map (Sx.rowOf s.heap);rw[Sx.rows_map n] at r;refine⟨.ref g.objs.size,_,p.laid (s:={ s with heap:=g,toks:=a }) (t':=a) (o:=.lst (d.map refV)) B (Qj _) (show zg1 X.prog X.w _ f _ (.lst _) from⟨?_,d,c,M,C⟩),rfl,q g.objs.size _ _ (p.hok.fresh (Qj _)) L r (List.pairwise_map.mpr D)⟩;rw[Qa,j.length_eq];omega
theorem call_sortLS:zn9 X (.builtin "sorted") (λd H Q=>∃p a c,d=[.ref p]/\SqL X.K H p a/\a.length<64/\Tups H a c/\c.Nodup/\(2<=a.length->∀k∈c,k≠[])/\yq3 H c Q):=by
 intro x s C H d A Q I r h;obtain⟨p,a,c,rfl,j,g,l,m,i,q⟩:=h;obtain⟨u,rfl,n⟩:=zs9 r;cases n;obtain⟨y,f,t,v⟩:=I.list j;refine sort_coreS I v g l f m i (λR E w=>?_) q;have B:=f.length;have e:(s.heap.push (seqObj "list" #[] 0)).objs.size=s.heap.objs.size+1:=size_push' _ _;refine collect_list t.isList (w _ s.toks λb o z=>?_) (by omega);rw[Heap.get?_update_ne _ _ _ _ (Qz (Qp z))];exact Qc _ z
end
end L2
namespace Sx
open PySem PySem.W PySem.Calls PyProof.Rows
theorem below_go (xs:Array Nat)(j:Nat)(hs:xs.toList.Pairwise (· < ·)):∀(e d c:Nat),d<=c->c<=xs.size->c-d<=e->(∀k,k<d->xs.getD k j<j)->(∀k,c<=k->k<xs.size->j<=xs.getD k j) →
   (∀k,k<SetTable.below.go xs j e d c->xs.getD k j<j)/\(∀k,SetTable.below.go xs j e d c<=k->k<xs.size->j<=xs.getD k j)/\SetTable.below.go xs j e d c<=xs.size:=by
 have mono:∀a b,a<b->b<xs.size->xs.getD a j<xs.getD b j:=λa b o m=>by
   have:=Zy.mp hs a b (by simp;omega) (by simpa using m) o;simpa [Array.getD,m,show a<xs.size by omega] using this
 intro e
 induction e with
 | zero =>
   intro d c q g r i l;obtain rfl:d=c:=by omega
   exact⟨i,l,g⟩
 | succ e n =>
   intro d c q g r i l;unfold SetTable.below.go;by_cases h:d<c
   . rw[Qo h]
     dsimp only;by_cases f:xs.getD ((d+c) / 2) j<j
     . rw[Qo f]
       refine n _ _ (by omega) g (by omega) (λk s=>?_) l;rcases QY k ((d+c) / 2) with z | z
       . exact Nat.lt_trans (mono k _ z (by omega)) f
       . obtain rfl:k=(d+c) / 2:=by omega
         exact f
     . rw[Qh f]
       refine n _ _ (by omega) (by omega) (by omega) i (λk s p=>?_);rcases QY ((d+c) / 2) k with z | z
       . exact QZ (Nat.lt_of_le_of_lt (Nat.not_lt.mp f) (mono _ k z p))
       . obtain rfl:k=(d+c) / 2:=by omega
         exact Nat.not_lt.mp f
   . rw[Qh h]
     obtain rfl:d=c:=by omega
     exact⟨i,l,g⟩
theorem zP3 (xs:Array Nat)(j:Nat)(hs:xs.toList.Pairwise (· < ·)):(∀k,k<SetTable.below xs j->xs.getD k j<j)/\(∀k,SetTable.below xs j<=k->k<xs.size->j<=xs.getD k j)/\SetTable.below xs j<=xs.size :=
 below_go xs j hs xs.size 0 xs.size (QD _) (Qj _) (by omega) (λk h=>by omega) (λk h a=>by omega)
theorem zp6 {a:Type}(xs:Array a)(p:Nat)(x:a):(SetTable.insertAt xs p x).toList=xs.toList.take p++x::xs.toList.drop p:=by
 unfold SetTable.insertAt;have b:(xs.extract p xs.size).toList=xs.toList.drop p:=ext_all xs p;rw[Array.toList_append,Array.toList_push,ext_take,b];simp
abbrev ElsAre (es:List (Int×Value))(ns:List Int):Prop:=Paired (λe n=>e.1=n/\∃tk,e.2 = .int n tk) es ns
theorem ElsAre.take {es:List (Int×Value)}{ns:List Int}(r:ElsAre es ns):∀i,ElsAre (es.take i) (ns.take i):=by
 induction r with
 | nil=>intro i;simp;exact .nil
 | cons x t a =>
   intro i;cases i with
   | zero=>exact .nil
   | succ i=>exact .cons x (a i)
theorem ElsAre.drop {es:List (Int×Value)}{ns:List Int}(r:ElsAre es ns):∀i,ElsAre (es.drop i) (ns.drop i):=by
 induction r with
 | nil=>intro i;simp;exact .nil
 | cons x t a =>
   intro i;cases i with
   | zero=>exact .cons x t
   | succ i=>exact a i
theorem ElsAre.app {es es':List (Int×Value)}{ns a:List Int}(r:ElsAre es ns)(b:ElsAre es' a):ElsAre (es++es') (ns++a):=by
 induction r with
 | nil=>exact b
 | cons x t c=>exact .cons x c
theorem ElsAre.len {es:List (Int×Value)}{ns:List Int}(r:ElsAre es ns):es.length=ns.length:=by
 induction r with
 | nil=>rfl
 | cons x t a=>simp[a]
theorem ElsAre.fst {es:List (Int×Value)}{ns:List Int}(r:ElsAre es ns):es.map (·.1)=ns:=by
 induction r with
 | nil=>rfl
 | cons x t a=>rw[Qv,a,x.1]
structure SetS (byT:Bool)(h:Heap)(a:Addr)(ns:List Int)(ep:Nat):Prop where
 st:∃o es t,h.get? a=some o/\o.ExactSet/\o.data = .set es ep t/\ElsAre es.toList ns/\t.place.toList=ns.map Int.toNat/\t.dummies = #[]/\t.mask=(if ns.length<5 then 7 else 31)/\t.plain=true/\(byT=false->t.led=true)
 up:ns.Pairwise (· < ·)
 lo:∀n∈ns,1<=n/\n<=5
theorem yi0:∀ {b:List Int} {k:Int},b.Pairwise (· < ·)->(∀n∈b,k<n/\n<=5)->(b.length:Int)<=5-k\/b=[]:=by
 intro b
 induction b with
 | nil=>intro k _ _;exact .inr rfl
 | cons a r f =>
   intro k g c;have h:=c a QF;have u:=List.pairwise_cons.mp g;rw[Ql];rcases f (k:=a) u.2 (λn d=>⟨u.1 n d,(c n (Qu _ d)).2⟩) with e | e
   . exact .inl (by omega)
   . subst e
     exact .inl (by simp only[Zs];omega)
theorem up_full:∀ {b:List Int} {k:Int},b.Pairwise (· < ·)->(∀n∈b,k<n/\n<=5)->(b.length:Int)=5-k->∀i:Nat,i<b.length->b[i]?=some (k+1+i):=by
 intro b
 induction b with
 | nil=>intro k _ _ _ i c;cases c
 | cons a r l =>
   intro k m f g i c;have h:=f a QF;have u:=List.pairwise_cons.mp m;have d:∀n∈r,a<n/\n<=5:=λn j=>⟨u.1 n j,(f n (Qu _ j)).2⟩
   rw[Ql] at g c;have o:a=k+1:=by
     rcases yi0 u.2 d with e | e
     . omega
     . subst e
       simp only[Zs] at g;omega
   cases i with
   | zero=>exact congrArg some (by omega)
   | succ i =>
     have:=l u.2 d (by omega) i (by omega);show r[i]?=_;rw[this];exact congrArg some (by omega)
theorem five {ns:List Int}(c:ns.Pairwise (· < ·))(lo:∀n∈ns,1<=n/\n<=5):ns.length<=5/\(ns.length=5->ns=[1,2,3,4,5]):=by
 have b:∀n∈ns,(0:Int)<n/\n<=5:=λn d=>⟨by have:=lo n d;omega,(lo n d).2⟩
 refine⟨?_,λh=>?_⟩
 . rcases yi0 c b with e | e
   . omega
   . subst e;exact QD _
 . refine List.ext_getElem? λi=>?_
   by_cases a:i<ns.length
   . rw[up_full c b (by omega) i a]
     rw[h] at a
     match i,a with
     | 0,_=>rfl
     | 1,_=>rfl
     | 2,_=>rfl
     | 3,_=>rfl
     | 4,_=>rfl
   . rw[Zf (by omega),Zf (by show 5<=i;omega)]
theorem nat_up {ns:List Int}(c:ns.Pairwise (· < ·))(lo:∀n∈ns,1<=n/\n<=5):(ns.map Int.toNat).Pairwise (· < ·) :=
 List.pairwise_map.mpr (c.imp_of_mem λ{a b} d e z=>by have:=lo a d;have:=lo b e;omega)
theorem zP4 {n:Int}(a:1<=n)(b:n<=5):hashInt n=n:=by
 have:n=1\/n=2\/n=3\/n=4\/n=5:=by omega
 rcases this with rfl | rfl | rfl | rfl | rfl<;>decide
theorem free_at {t:SetTable}{n:Int}(m:1<=n)(o:n<=5)(c:t.mask=7)(d:t.dummies = #[])(p:t.place.toList.Pairwise (· < ·))(g:n.toNat∉t.place.toList):t.freeSlot n=some (n.toNat,false):=by
 have b:t.slot n.toNat = .empty:=by
   unfold SetTable.slot;dsimp only;have e:¬ (t.place[SetTable.below t.place n.toNat]? == some n.toNat)=true:=λz=>by
     have h:t.place[SetTable.below t.place n.toNat]?=some n.toNat:=by simpa using z
     exact g (by have:=Array.mem_of_getElem? h;simpa using this)
   have i:¬ SetTable.has t.dummies n.toNat=true:=by
     rw[d];unfold SetTable.has;simp
   rw[Qh e,Qh i]
 have k:SetTable.bits n % (t.mask+1)=n.toNat:=by
   rw[c];have:n=1\/n=2\/n=3\/n=4\/n=5:=by omega
   rcases this with rfl | rfl | rfl | rfl | rfl<;>decide
 unfold SetTable.freeSlot SetTable.probe;have a:∃f,10*SetTable.turns t.mask=f+1:=⟨10*SetTable.turns t.mask-1,by unfold SetTable.turns;omega⟩;obtain⟨f,a⟩:=a;rw[a];unfold SetTable.probe.go;have l:(t.probeStart n).j=n.toNat:=k;rw[l,b];rfl
section
variable {prog:Program} {w:World} {A:Around} {E:VP} {s:Shared} {byT:Bool} {a:Addr} {ns:List Int} {ep:Nat}
theorem els_of {es:List (Int×Value)}(r:ElsAre es ns)(lo:∀n∈ns,1<=n/\n<=5):ElemsOf (intKind prog w) es:=by
 induction r with
 | nil=>intro e a;cases a
 | @cons e n es ns x t c =>
   intro d a;rcases Qq.mp a with rfl | a
   . obtain⟨f,h,b⟩:=x
     have l:=lo n (.head _);refine⟨⟨n,by rw[b];exact intKind_is _ _ _ _,?_⟩,by rw[b];rfl⟩;rw[f];exact(zP4 l.1 l.2).symm
   . exact c (λm g=>lo m (.tail _ g)) d a
theorem yi1 {es:List (Int×Value)}(r:ElsAre es ns)(n:Int):(es.findIdx? λe=>(intKind prog w).is n e.2)=none↔n∉ns:=by
 rw[List.findIdx?_eq_none_iff]
 induction r with
 | nil=>simp
 | @cons e m es ns x t a =>
   obtain⟨f,b,c⟩:=x;rw[List.forall_mem_cons,a];have d:((intKind prog w).is n e.2=false)↔n≠m:=by
     rw[c,KeyKind.is_eq_decide (knd:=intKind prog w) (intKind_is _ _ m b) n];simp
   rw[d];simp[not_or]
theorem fits_of {t:SetTable}{k:Nat}(a:t.place.size=k)(b:t.dummies = #[])(c:k<=t.mask):t.fits k=true:=by
 unfold SetTable.fits SetTable.fill;rw[a,b];simpa using c
theorem pick5 {b:Type}(es:Array b)(a:es.size=5):(#[0,1,2,3,4]:Array Nat).filterMap (es[·]?)=es:=by
 obtain⟨L⟩:=es
 match L,a with
 | [_,_,_,_,_],_=>rfl
theorem set_add {n:Int}{c:Tok}{Q:Bool->Shared->Prop}(S:SetS byT s.heap a ns ep)(Y:1<=n)(Z:n<=5)
   (h:∀M R a4 ae,Heap.SameBut a s.heap M->SetS byT M a R a4->(∀k,k∈R↔k∈ns\/k=n)->Q ae { s with heap:=M,toks:=s.toks+1 }):wpAny (model prog w) A (setAdd a (.int n c)) Q E s:=by
 obtain⟨⟨a0,es,t,r,J,p,e,l,f,K,C,L⟩,u,d⟩:=S;have h5:=five u d;have hl:=e.len;have a5:t.place.size=es.size:=by rw[<-QE,l,Qa,<-hl,QE]
 have ag:es.size=ns.length:=by rw[<-hl,QE]
 have hf:t.fits es.size=true:=fits_of a5 f (by rw[K];split<;>omega);unfold setAdd;refine wpAny_holding (Qb ((intKind prog w).pyHash (k:=n) (intKind_is _ _ _ _) ?_));unfold setAddHashed setAddHashedIn;refine wpAny_holding (Qb (wpAny_setState_of (s:={ s with toks:=s.toks+1 }) r p hf ?_));dsimp only;have P:ElemsOf (intKind prog w) es.toList:=els_of e d;rw[byScan_of (knd:=intKind prog w) rfl (show es.size<scanBound by unfold scanBound;omega) P];simp only[↓reduceIte];unfold setAddByScan;refine Qb (Qb (wpAny_rule (Qb (wpAny_setScan_of (knd:=intKind prog w) (k:=n) (s:={ s with toks:=s.toks+1 }) (intKind_is _ _ _ _) r p hf P ?_))));by_cases q:n∈ns
 . cases hr:List.findIdx? (λa1=>(intKind prog w).is n a1.2) es.toList with
   | none=>exact absurd q ((yi1 e n).mp hr)
   | some ah =>
     dsimp only;refine Qd (Qd (h s.heap ns ep false (Heap.SameBut.refl a s.heap) ⟨⟨a0,es,t,r,J,p,e,l,f,K,C,L⟩,u,d⟩ λk=>?_));exact⟨.inl,λz=>z.elim id λz=>by rw[z];exact q⟩
 . rw[(yi1 e n).mpr q]
   dsimp only;have a6:ns.length<5:=by
     rcases QY ns.length 5 with z | z
     . exact z
     . exfalso
       apply q;rw[h5.2 (by omega)];have:n=1\/n=2\/n=3\/n=4\/n=5:=by omega
       simpa using this
   have B:t.mask=7:=by rw[K,Qo a6]
   have T:t.place.toList.Pairwise (· < ·):=by rw[l];exact nat_up u d
   have a7:n.toNat∉t.place.toList:=by
     rw[l];intro z;obtain⟨m,G,a1⟩:=QN.mp z;have:=d m G;exact q (by rw[show n=m by omega];exact G)
   obtain⟨b1,b2,b3⟩:=zP3 t.place n.toNat T;generalize hi:SetTable.below t.place n.toNat=i at b1 b2 b3;have a2:∀k (g:k<ns.length),t.place.getD k n.toNat=ns[k].toNat:=λk g=>by
     have U:k<t.place.size:=by omega
     have:t.place.toList[k]?=(ns.map Int.toNat)[k]?:=by rw[l]
     rw[ZE,ZJ t.place k U,QQ,Qe g] at this;have:=QA this;simp[Array.getD,U,this]
   have c1:∀x∈ns.take i,x<n:=λx v=>by
     obtain⟨k,g,rfl⟩:=List.mem_iff_getElem.mp v;have a8:k<i:=by simp at g;omega
     have o:k<ns.length:=by simp at g;omega
     have:=b1 k a8;rw[a2 k o] at this;have:=d ns[k] (Zz o);simp;omega
   have c2:∀x∈ns.drop i,n<x:=λx v=>by
     obtain⟨k,g,rfl⟩:=List.mem_iff_getElem.mp v;have o:i+k<ns.length:=by simp at g;omega
     have:=b2 (i+k) (by omega) (by omega);rw[a2 (i+k) o] at this;have ai:=d ns[i+k] (Zz o);have ne:n≠ns[i+k]:=λz=>q (by rw[z];exact Zz o)
     simp;omega
   have H:SetTable.insertAt t.place i n.toNat=((ns.take i++n::ns.drop i).map Int.toNat).toArray:=by
     apply Array.toList_inj.mp;rw[zp6,l];simp[List.map_take,List.map_drop]
   have a9:layNew t es n (.int n c)=(SetTable.insertAt es i (n,.int n c),{ t with place:=SetTable.insertAt t.place i n.toNat },false,false):=by
     unfold layNew;rw[free_at Y Z B f T a7];dsimp only;unfold SetTable.put;dsimp only;rw[hi];have y:SetTable.has t.dummies n.toNat=false:=by rw[f];unfold SetTable.has;simp
     rw[y];simp only[Zk,if_false];have hz:(SetTable.insertAt es i (n,Value.int n c)).size=(SetTable.insertAt t.place i n.toNat).size:=by
       rw[<-QE,<-QE,zp6,zp6];simp;omega
     have aa:({ t with place:=SetTable.insertAt t.place i n.toNat }:SetTable).fits (SetTable.insertAt es i (n,Value.int n c)).size=true:=by
       refine fits_of hz.symm f ?_;rw[hz,H];show _<=t.mask;rw[B];simp;omega
     unfold SetTable.orStandIn;rw[aa];simp
   have hh:(intKind prog w).hash n=n:=zP4 Y Z;rw[hh,a9];dsimp only;refine Qb (Qd ?_);rw[Qo C];refine Qb ?_;rw[hashByValue_scannable 8 (show(Value.int n c).scannable=true from rfl)];refine Qd ?_;rw[Qo (show plainKind (Value.int n c)=true from rfl)];have mem:∀k,k∈ns.take i++n::ns.drop i↔k∈ns\/k=n:=λk=>by
     rw[QB,Qq]
     conv=>rhs;rw[<-List.take_append_drop i ns,QB]
     constructor
     . rintro(z | z | z)
       . exact .inl (.inl z)
       . exact .inr z
       . exact .inl (.inr z)
     . rintro((z | z) | z)
       . exact .inl z
       . exact .inr (.inr z)
       . exact .inr (.inl z)
   have D:(ns.take i++n::ns.drop i).Pairwise (· < ·):=by
     refine List.pairwise_append.mpr ⟨u.sublist (List.take_sublist _ _),List.pairwise_cons.mpr ⟨c2,u.sublist (List.drop_sublist _ _)⟩,λx v af N=>?_⟩;have:=c1 x v;rcases Qq.mp N with rfl | N
     . exact this
     . have:=c2 af N;omega
   have F:∀m∈ns.take i++n::ns.drop i,1<=m/\m<=5:=λm G=>by
     rcases(mem m).mp G with z | z
     . exact d m z
     . omega
   have j:ElsAre (SetTable.insertAt es i (n,.int n c)).toList (ns.take i++n::ns.drop i):=by
     rw[zp6];exact(e.take i).app (.cons ⟨rfl,c,rfl⟩ (e.drop i))
   have I:(ns.take i++n::ns.drop i).length=ns.length+1:=by simp;omega
   have V:(SetTable.insertAt es i (n,Value.int n c)).size=ns.length+1:=by rw[<-QE,j.len,I]
   have ab:(SetTable.insertAt t.place i n.toNat).size=ns.length+1:=by rw[H];simp;omega
   generalize ns.take i++n::ns.drop i=ms at mem D F j I H;generalize SetTable.insertAt es i (n,Value.int n c)=b at j V ⊢;have W:b.size<=sizeLine:=by rw[V,sizeLine_eq];omega
   refine Qb (wpAny_storeSet_of (s:={ s with toks:=s.toks+1 }) r p ?_ W);have X:=Heap.SameBut.update s.heap a (Obj.putSet b { t with place:=SetTable.insertAt t.place i n.toNat });have O:(s.heap.update a (Obj.putSet b { t with place:=SetTable.insertAt t.place i n.toNat })).get? a=some { a0 with data:=.set b (ep+1) { t with place:=SetTable.insertAt t.place i n.toNat } }:=by
     have:=Zm (Obj.putSet b { t with place:=SetTable.insertAt t.place i n.toNat }) r (by rw[putSet_of _ _ p];rfl);rw[putSet_of _ _ p] at this;exact this
   have a3:({ t with place:=SetTable.insertAt t.place i n.toNat }:SetTable).tooFull=decide (ns.length+1≥5):=by
     unfold SetTable.tooFull SetTable.fill;dsimp only;rw[ab,f,B];show decide ((ns.length+1+0)*5≥7*3)=_;by_cases z:ns.length+1≥5
     . rw[Qg z,Qg (by omega)]
     . rw[Qf z,Qf (by omega)]
   rw[a3];by_cases h6:ns.length+1≥5
   . rw[Qo (by simpa using h6)]
     have ac:=(five D F).2 (by omega);subst ac;have ad:relayAll { t with place:=SetTable.insertAt t.place i n.toNat } b (SetTable.grown b.size)=(b,{ mask:=31,place:=#[1,2,3,4,5],dummies:=#[],finger:=t.finger,led:=t.led,moves:=({ t with place:=SetTable.insertAt t.place i n.toNat }:SetTable).movedTo 31,plain:=t.plain },false):=by
       unfold relayAll;have e1:b.map (·.1) = #[1,2,3,4,5]:=by
         apply Array.toList_inj.mp;rw[Array.toList_map,j.fst]
       have y:b.size=5:=by omega
       rw[e1,y];have e3:SetTable.relaid { t with place:=SetTable.insertAt t.place i n.toNat } #[1,2,3,4,5] (SetTable.grown 5)=some ({ mask:=31,place:=#[1,2,3,4,5],dummies:=#[],finger:=t.finger,led:=t.led,moves:=({ t with place:=SetTable.insertAt t.place i n.toNat }:SetTable).movedTo 31,plain:=t.plain },#[0,1,2,3,4]):=by
         unfold SetTable.relaid SetTable.laid;have e4:SetTable.layClean (SetTable.sizeAbove (SetTable.grown 5)-1) #[1,2,3,4,5]=some #[none,some 0,some 1,some 2,some 3,some 4,none,none,none,none,none,none,none,none,none,none,none,none,none,none,none,none,none,none,none,none,none,none,none,none,none,none]:=by decide +kernel
         rw[e4];rfl
       rw[e3];dsimp only;have e5:(#[0,1,2,3,4]:Array Nat).filterMap (b[·]?)=b:=pick5 b y;rw[e5,y];rfl
     rw[ad];dsimp only;refine Qb (Qd (Qb (wpAny_storeSet_of (s:={ s with heap:=s.heap.update a (Obj.putSet b { t with place:=SetTable.insertAt t.place i n.toNat }),toks:=s.toks+1 }) O rfl ?_ W)));have g2:=Zm (Obj.putSet b { mask:=31,place:=#[1,2,3,4,5],dummies:=#[],finger:=t.finger,led:=t.led,moves:=({ t with place:=SetTable.insertAt t.place i n.toNat }:SetTable).movedTo 31,plain:=t.plain }) O (by rw[putSet_of (es:=b) (ep:=ep+1) _ _ rfl];rfl);rw[putSet_of (es:=b) (ep:=ep+1) _ _ rfl] at g2;exact Qd (Qd (h _ [1,2,3,4,5] (ep+1+1) true (X.trans (Heap.SameBut.update _ a _)) ⟨⟨_,b,_,g2,J,rfl,j,rfl,rfl,rfl,C,L⟩,D,F⟩ mem))
   . rw[Qh (by simpa using h6)]
     refine Qd (Qd (h _ ms (ep+1) true X ⟨⟨_,b,_,O,J,rfl,j,?_,f,?_,C,L⟩,D,F⟩ mem))
     . rw[H]
     . show t.mask=_
       rw[B,I,Qo (by omega)]
end
noncomputable def byT (w:World):Bool:=w.params.followText "set-order"
section
variable {prog:Program} {w:World} {A:Around} {E:VP} {s:Shared}
theorem SetS.other {b:Bool}{h h':Heap}{a:Addr}{ns:List Int}{ep:Nat}(S:SetS b h a ns ep)(k:∀o,h.get? a=some o->h'.get? a=some o):SetS b h' a ns ep:=by
 obtain⟨⟨o,c,t,d,r⟩,e,f⟩:=S;exact⟨⟨o,c,t,k o d,r⟩,e,f⟩
theorem set_fresh (h:Heap):SetS (byT w) (h.push { cls:=.type "set",dict:=none,data:=.set #[] 0 (.fresh 0 0 (!byT w)) }) h.objs.size [] 0 :=
 ⟨⟨_,#[],_,Qm _ rfl,⟨rfl,rfl,rfl⟩,rfl,.nil,rfl,rfl,rfl,rfl,λe=>by show(!byT w)=true;rw[e];rfl⟩,.nil,λn a=>by cases a⟩
theorem set_loop {I:Addr}{K c:List Addr}{G:Array GenState->Array GenState->Prop}{n:Nat}{P:Nat->Value->Prop}{St:Nat->Shared->Prop}{R:Result->Shared->Prop}{b:Bool}(W:WalksS prog w A.in1 I K c G n P St)(S:Addr)(D:S∉K)
   (val:Nat->Int) (L:∀i v,P i v->(∃t,v = .int (val i) t)/\1<=val i/\val i<=5) :
   ∀(k i:Nat) (s:Shared) (d:List Int) (m:Nat),n-i=k->i<=n->St i s->SetS b s.heap S d m->(∀x,x∈d↔∃j,j<i/\x=val j) →
     (∀a l p,Moved (S::c) G s a->SetS b a.heap S l p->(∀x,x∈l↔∃j,j<n/\x=val j)->R (.ok (.ret .none)) a) →
     codeAny (model prog w) A (.builtin "set.update.loop" ⟨[.ref S,.ref I],[]⟩) R s:=by
 have E:S∉c:=λh=>D (W.sub _ h)
 have C:∀b∈c,b∈S::c:=λb f=>Qu _ f
 intro k
 induction k with
 | zero =>
   intro i s d m Y Z q r u y;obtain rfl:i=n:=by omega
   refine codeAny_builtin F.entry_set_update_loop ?_;rw[Around.under_plainId F.plain_set_update_loop _];show wpAny _ A.in1 (pyNext (.ref I) >>= _) _ _ s;refine Qb (W.done s _ _ q λa g=>?_);show wpAny _ A.in1 (ret Value.none) _ _ a;exact Qd (y a d m (g.mono C) (r.other λo B=>g.heap S _ E B) u)
 | succ k ih =>
   intro i s d m Y Z q r u y;have H:i<n:=by omega
   refine codeAny_builtin F.entry_set_update_loop ?_;rw[Around.under_plainId F.plain_set_update_loop _];show wpAny _ A.in1 (pyNext (.ref I) >>= _) _ _ s;refine Qb (W.item i s _ _ H q λv a hP M g=>?_);obtain⟨⟨t,rfl⟩,v1,v2⟩:=L i v hP;show wpAny _ A.in1 (holding [Value.int (val i) t] (setAdd S (.int (val i) t)) >>= _) _ _ a;refine Qb (wpAny_holding (set_add (r.other λo B=>g.heap S _ E B) v1 v2 λh' l p b' J U V=>?_));refine Qd ⟨plainId_quiet F.plain_set_update_loop _,ih (i+1) _ l p (by omega) H (W.frame _ a _ _ M (Nat.le_succ _) λb f o e=>?_) U (λx=>?_) λX N O Q T hx=>?_⟩
   . rw[J.2 b (λh:b=S=>D (by rw[<-h];exact f))];exact e
   . rw[V,u]
     constructor
     . rintro(⟨j,hj,e⟩ | e)
       . exact⟨j,by omega,e⟩
       . exact⟨i,by omega,e⟩
     . rintro⟨j,hj,e⟩
       rcases QY j i with z | z
       . exact .inl ⟨j,z,e⟩
       . obtain rfl:j=i:=by omega
         exact .inr e
   . refine y X N O (Moved.trans W.gtrans ((g.mono C).then_heap (Nat.le_succ _) λb o f e=>?_) Q) T hx
     rw[J.2 b (λh:b=S=>f (by rw[h];exact QF))];exact e
theorem code_set_newS (a:Value){Q₁:VP}
   (h:Q₁ (.ref s.heap.objs.size) { s with heap:=s.heap.push { cls:=.type "set",dict:=none,data:=.set #[] 0 (.fresh 0 0 (!byT w)) } }) :
   codeAny (model prog w) A (.call (.builtin "set.__new__") ⟨[.type "set",a],[]⟩) (wants Q₁ E) s:=by
 refine codeAny_of_tree ?_;show wpAny _ A.in1 (do checkBuiltinCall "set.__new__" ⟨[.type "set",a],[]⟩;again (.builtin "set.__new__" ⟨[.type "set",a],[]⟩)) _ _ s;refine Qb (wpAny_of_eq (PySem.F.newCall_set_1 a) (Qd ⟨plainId_quiet PySem.F.plain_set_new _,codeAny_builtin PySem.F.entry_set_new ?_⟩));rw[Around.under_plainId PySem.F.plain_set_new _];unfold Builtin.«set.__new__» Builtin.Frozenset.newClass;have b:=PySem.sub_set_self;obtain⟨c,g,d,e,f⟩:=s;dsimp only
 wp_walk
 refine wpAny_askSetting (Qd ?_);dsimp only;simp only[newObj];refine Qb (wpAny_alloc (Qd ?_));exact Qd h
end
section
variable {prog:Program} {w:World} {A:Around} {E:VP} {s:Shared}
theorem call_setS {l:Addr}{items:Array Value}{ns:List Int}{Q:VP}(hh:A.handled=none)(hl:s.heap.IsList l items)(H:IntsAre items.toList ns)(U:∀n∈ns,1<=n/\n<=5)
   (h:∀(a:Heap) (f:Nat) (c:List Int) (d:Nat),SetS (byT w) a s.heap.objs.size c d->(∀x,x∈c↔x∈ns)->(∀b o,s.heap.get? b=some o->a.get? b=some o)->Q (.ref s.heap.objs.size) { s with heap:=a,toks:=f }) :
   wpAny (model prog w) A (call (.type "set") [.ref l]) Q E s:=by
 obtain⟨ah,tl,a7⟩:=PySem.F.called_set.mro;have a5:=PySem.F.called_set.made;have a8:=PySem.F.called_set.sub;refine wpAny_call (codeAny_of_tree ?_);show wpAny _ _ (callAny (.type "set") _) _ _ _;refine Qd ⟨Code.quiet_builtin _ (by decide +kernel),codeAny_builtin PySem.F.entry_type_call ?_⟩;rw[Around.under_plain (weight_type_call_type "set" [.ref l] []) rfl];have h1:=PySem.F.called_set.notType;have h2:=PySem.F.called_set.canCreate;have ad:=PySem.F.typeCall_set_1 (.ref l)
 repeat (any_goals (first | assumption | wp_step))
 refine codeAny_mono (code_set_newS (.ref l) (E:=E) (Q₁:=λy I=>y = .ref s.heap.objs.size/\I = { s with heap:=s.heap.push { cls:=.type "set",dict:=none,data:=.set #[] 0 (.fresh 0 0 (!byT w)) } }) ⟨rfl,rfl⟩) λr I q=>?_
 cases r with
 | error e=>exact q
 | ok fl =>
   cases fl with
   | ret y =>
     obtain⟨rfl,rfl⟩:=q;have hS:(s.heap.push { cls:=.type "set",dict:=none,data:=.set #[] 0 (.fresh 0 0 (!byT w)) }).get? s.heap.objs.size=some { cls:=.type "set",dict:=none,data:=.set #[] 0 (.fresh 0 0 (!byT w)) }:=Qm _ rfl;have hT:Shared.TypeIs { s with heap:=s.heap.push { cls:=.type "set",dict:=none,data:=.set #[] 0 (.fresh 0 0 (!byT w)) } } (.ref s.heap.objs.size) "set":=⟨_,hS,rfl⟩;have ae:=PySem.F.called_set.init.lookup;have af:=PySem.F.called_set.init.bind (.ref s.heap.objs.size)
     repeat (any_goals (first | assumption | wp_step))
     refine codeAny_mono (codeAny_call_builtin (R:=wants (λr J=>r = .none/\∃a f c d,J = { s with heap:=a,toks:=f }/\SetS (byT w) a s.heap.objs.size c d/\(∀x,x∈c↔x∈ns) ∧
         (∀b o,s.heap.get? b=some o->a.get? b=some o)) E) PySem.F.called_set.init.plain PySem.F.entry_set_init (PySem.check_set_init_1 hT ?_)) λr₂ J m=>?_
     . obtain⟨ol,z,B,K,C⟩:=hl
       obtain⟨a9,O,a6,N⟩:=ol;simp only at B C;subst B;subst C;have P:(s.heap.push { cls:=.type "set",dict:=none,data:=.set #[] 0 (.fresh 0 0 (!byT w)) }).get? l=some { cls:=.type "list",dict:=O,data:=.seq items K,slots:=N }:=Qc _ z;have aa:=PySem.F.sub_list_set;have ab:=PySem.F.sub_list_frozenset;have ag:(Value.type "list" == Value.type "dict")=false:=by decide
       have D:(s.heap.push { cls:=.type "set",dict:=none,data:=.set #[] 0 (.fresh 0 0 (!byT w)) }).IsList l items:=⟨_,P,rfl,K,rfl⟩;unfold Builtin.«set.__init__» noKeywords Builtin.Frozenset.updateFrom;generalize V:pyIter=PI
       wp_walk
       subst V;refine wpAny_pyIter_list D ?_;refine Qb (wpAny_runValue ?_);have F:l<s.heap.objs.size:=Qp z;have W:A.in1.in1.in1.handled=none:=by simp[hh]
       have S:l≠(s.heap.push { cls:=.type "set",dict:=none,data:=.set #[] 0 (.fresh 0 0 (!byT w)) }).objs.size:=by
         rw[Zr];exact Qz (Nat.lt_succ_of_lt F)
       have X:s.heap.objs.size∉[(s.heap.push { cls:=.type "set",dict:=none,data:=.set #[] 0 (.fresh 0 0 (!byT w)) }).objs.size,l]:=by
         rw[Zr];simp only[Qq,QI,QS,or_false,not_or];exact⟨Qz (Nat.lt_succ_self _),Nat.ne_of_gt F⟩
       have ac:items.size=ns.length:=by rw[<-QE];exact IntsAre.length H
       have T:∀(i:Nat) (v:Value),items[i]?=some v->(∃t,v = .int ((λi=>ns.getD i 0) i) t)/\1<=ns.getD i 0/\ns.getD i 0<=5:=λi v L=>by
         refine⟨PyProof.Rows.IntsAre.int_at H i v (by rw[ZE];exact L),?_⟩;have G:i<ns.length:=by
           have:=(ZD.mp L).1;omega
         have:ns.getD i 0=ns[i]:=by simp[G]
         rw[this];exact U _ (Zz G)
       refine set_loop (b:=byT w) ((Walks.list W _ l S items).toS) s.heap.objs.size X (λi=>ns.getD i 0) T (items.size-0) 0 _ [] 0 (by omega) (QD _)
         ⟨⟨_,Qm _ rfl,rfl,rfl⟩,(D.push _)⟩ ?hS0 (λx=>⟨(λa4=>nomatch a4),λ⟨j,g,_⟩=>absurd g (Nat.not_lt_zero _)⟩) ?hR
       case hS0 =>
         exact(set_fresh (w:=w) s.heap).other λo ho=>Qc _ ho
       case hR =>
         intro s' c d k p u;obtain⟨a,g',d',Y,Z⟩:=s';have eg:g'=s.gens:=k.gens;have ed:d'=s.drawn:=k.drawn;have eo:Z=s.os:=k.os;subst eg;subst ed;subst eo;show wpAny _ _ _ _ _ _;refine Qd ?_;show wpAny _ _ (ret Value.none) _ _ _;refine Qd ⟨rfl,a,Y,c,d,rfl,p,λx=>?_,λb o e=>?_⟩
         . rw[u x,List.mem_iff_getElem]
           constructor
           . rintro⟨j,g,e⟩
             exact⟨j,by omega,by rw[e];simp[show j<ns.length by omega]⟩
           . rintro⟨j,g,e⟩
             exact⟨j,by omega,by rw[<-e];simp[g]⟩
         . have M:=Qp e
           have a0:b≠s.heap.objs.size:=Qz M;have a1:b≠(s.heap.push { cls:=.type "set",dict:=none,data:=.set #[] 0 (.fresh 0 0 (!byT w)) }).objs.size:=by
             rw[Zr];exact Qz (Nat.lt_succ_of_lt M)
           exact k.heap b o (by simp only[Qq,QI,QS,or_false,not_or];exact⟨a0,a1⟩) (Qc _ (Qc _ e))
     . cases r₂ with
       | error e=>exact m
       | ok a2 =>
         cases a2 with
         | ret r =>
           obtain⟨rfl,a,f,c,d,rfl,p,u,a3⟩:=m
           repeat (any_goals (first | assumption | wp_step))
           exact h _ _ _ _ p u a3
         | _=>exact m.elim
   | _=>exact q.elim
end
theorem yi2 {f:Type}(next:Nat->Nat):∀(a k:Nat) (left:List f) (b:Array f),left.length<=a->(pickOrder.go next a k left b).toList.Perm (b.toList++left)
 | 0,k,left,b,h=>by
   obtain rfl:left=[]:=Qy (by omega);unfold pickOrder.go;simp
 | a+1,k,left,b,h=>by
   unfold pickOrder.go;by_cases d:left=[]
   . subst d
     simp
   . have g:0<left.length:=List.length_pos_iff.mpr d
     have c:next k % left.length<left.length:=Nat.mod_lt _ g;rw[Qe c];dsimp only;refine(yi2 next a (k+1) _ _ (by rw[List.length_eraseIdx_of_lt c];omega)).trans ?_;rw[Array.toList_push,QU];refine List.Perm.append_left _ ?_;have e:left=left.take (next k % left.length)++left[next k % left.length]::left.drop (next k % left.length+1):=by rw[<-List.drop_eq_getElem_cons c,List.take_append_drop]
     rw[List.eraseIdx_eq_take_drop_succ]
     conv=>rhs;rw[e]
     rw[List.singleton_append];exact List.perm_middle.symm
theorem zV4 {a:Type}(next:Nat->Nat)(xs:Array a):(pickOrder next xs).toList.Perm xs.toList:=by
 have:=yi2 next xs.size 0 xs.toList #[] (by simp);unfold pickOrder;simpa using this
theorem zl9:PySem.Slot "set_iterator" "__next__" "set_iterator.__next__" :=
 .of (owner:="set_iterator") (n:="__next__") (by rw[typeLookup_type,builtinLookup_eq_fast];kernel_rfl) (by decide +kernel) (by decide +kernel) (by decide +kernel)
   (by first | exact .inl (by decide +kernel) | exact .inr (by decide +kernel)) (by rw[isSubtype_type];kernel_rfl)
theorem zE1:entryFor table "set_iterator.__next__" = some Builtin.«set_iterator.__next__»:=entryFor_of_tree (by kernel_rfl)
theorem yb7:Manifest.owners.lookup (String.ofList ['r','o','t','a','r','e','t','i','_','t','e','s'].reverse)=some Manifest.sig_set_iterator:=by kernel_rfl
theorem zG6 (a:Value):argsOk "set_iterator.__next__" ⟨[a],[]⟩:=by
 unfold argsOk;rw[signature?_of (id:="set_iterator.__next__") (n:=['_','_','t','x','e','n','_','_']) (o:=['r','o','t','a','r','e','t','i','_','t','e','s']) (by kernel_rfl) yb7];kernel_rfl
theorem zG7:PySem.Slot "set_iterator" "__iter__" "set_iterator.__iter__" :=
 .of (owner:="set_iterator") (n:="__iter__") (by rw[typeLookup_type,builtinLookup_eq_fast];kernel_rfl) (by decide +kernel) (by decide +kernel) (by decide +kernel)
   (by first | exact .inl (by decide +kernel) | exact .inr (by decide +kernel)) (by rw[isSubtype_type];kernel_rfl)
theorem entry_si_iter:entryFor table "set_iterator.__iter__" = some Builtin.«dict_keyiterator.__iter__» :=
 entryFor_alias (id':="dict_keyiterator.__iter__") (by kernel_rfl) rfl (by decide +kernel) (by kernel_rfl)
theorem args_si_iter (a:Value):argsOk "set_iterator.__iter__" ⟨[a],[]⟩:=by
 unfold argsOk;rw[signature?_of (id:="set_iterator.__iter__") (n:=['_','_','r','e','t','i','_','_']) (o:=['r','o','t','a','r','e','t','i','_','t','e','s']) (by kernel_rfl) yb7];kernel_rfl
theorem entry_s_iter:entryFor table "set.__iter__" = some Builtin.«frozenset.__iter__» :=
 entryFor_alias (id':="frozenset.__iter__") (by kernel_rfl) rfl (by decide +kernel) (by kernel_rfl)
def zr2 (h:Heap) (it a:Addr) (slot i n ep:Nat):Prop:=∃o,h.get? it=some o/\o.cls = .type "set_iterator"/\o.data = .fields #[.int slot 0,.int i 0,.ref a,.int n 0,.int ep 0]
def zt8 (h:Heap)(a:Addr)(es:Array (Int×Value))(ep:Nat)(t:SetTable):Prop:=∃o,h.get? a=some o/\o.ExactSet/\o.data = .set es ep t
noncomputable def ordOf (w:World)(a:Addr)(ep:Nat)(es:Array (Int×Value)):Array (Int×Value):=if byT w=true then pickOrder (w.params.setOrder a ep) es else es
noncomputable def zk0 (w:World)(t:SetTable):Nat->Nat
 | 0=>0
 | i+1=>if byT w=true then 0 else t.place.getD i 0+1
structure SetGood (w:World)(es:Array (Int×Value))(t:SetTable):Prop where
 fits:t.fits es.size=true
 size:t.place.size=es.size
 plain:t.plain=true
 led:byT w=false->t.led=true
 up:t.place.toList.Pairwise (· < ·)
theorem ord_size (w:World)(a:Addr)(ep:Nat)(es:Array (Int×Value)):(ordOf w a ep es).size=es.size:=by
 unfold ordOf
 split
 . rw[<-QE,(zV4 _ _).length_eq,QE]
 . rfl
theorem ord_perm (w:World)(a:Addr)(ep:Nat)(es:Array (Int×Value)):(ordOf w a ep es).toList.Perm es.toList:=by
 unfold ordOf
 split
 . exact zV4 _ _
 . exact .refl _
section
variable {prog:Program} {w:World} {A:Around} {E:VP} {s:Shared} {a it:Addr} {es:Array (Int×Value)} {ep:Nat} {t:SetTable}
theorem zt8.typeIs (x:zt8 s.heap a es ep t):s.TypeIs (.ref a) "set":=let⟨o,b,c,_⟩:=x;⟨o,b,c.1⟩
theorem zt8.at_ {h h':Heap}(x:zt8 h a es ep t)(k:∀o,h.get? a=some o->h'.get? a=some o):zt8 h' a es ep t:=let⟨o,b,r⟩:=x;⟨o,k o b,r⟩
theorem zr2.typeIs {b i n:Nat} (x:zr2 s.heap it a b i n ep):s.TypeIs (.ref it) "set_iterator":=let⟨o,c,d,_⟩:=x;⟨o,c,d⟩
theorem sl {j:Nat}(a:byT w=false):zk0 w t (j+1)=t.place.getD j 0+1:=by
 show(if byT w=true then 0 else _)=_;rw[Qh (by rw[a];decide)]
theorem si_next {i:Nat}{Q:Option Value->Shared->Prop}(g:SetGood w es t)(u:zr2 s.heap it a (zk0 w t i) i es.size ep)(V:zt8 s.heap a es ep t)(a5:a≠it)(c:i<es.size)
   (W:∀n,zr2 n it a (zk0 w t (i+1)) (i+1) es.size ep->Heap.SameBut it s.heap n->Q (some ((ordOf w a ep es)[i]'(by rw[ord_size];exact c)).2) { s with heap:=n }):wpAny (model prog w) A (pyNext (.ref it)) Q E s:=by
 have C:=u.typeIs;obtain⟨a8,o,X,h⟩:=id u;obtain⟨os,k,a6,l⟩:=id V;unfold pyNext;refine Qb (wpAny_attempt (wpAny_callSpecial?_slot (name:=Str.ofString "__next__") C zl9 (wpAny_call_entry zl9 C zE1 ?_ (zG6 _))));unfold Builtin.«set_iterator.__next__»;refine Qb (m:=slotArgs _ _ _) (Qd (Qb (wpAny_fieldsOf o h ?_)));dsimp only;refine Qb (wpAny_setEntries_of k l g.fits ?_);rw[Qh (by simp)];refine Qb ?_;have Y:∀(R:Option (Value×Nat)->Shared->Prop) (D:VP),R (some (((ordOf w a ep es)[i]'(by rw[ord_size];exact c)).2,zk0 w t (i+1))) s->wpAny (model prog w) A.in1 (setNext a (zk0 w t i) i ep) R D s:=λR D e=>by
   unfold setNext;refine Qb (wpAny_setState_of k l g.fits ?_);dsimp only;unfold setsByText;refine Qb (Qb (wpAny_askSetting (Qd ?_)));cases b:byT w with
   | true =>
     have f:((model prog w).w.params.followText "set-order")=true:=b;have F:ordOf w a ep es=pickOrder (w.params.setOrder a ep) es:=by unfold ordOf;rw[Qo b]
     have G:∀j,zk0 w t j=0:=λj=>by cases j with
       | zero=>rfl
       | succ j=>show(if byT w=true then 0 else _)=0;rw[Qo b]
     dsimp only;rw[Qo f,Qh (by simp)];refine Qb ?_;unfold setWalk;refine Qb (wpAny_setState_of k l g.fits ?_);dsimp only;unfold setsByText;refine Qb (Qb (wpAny_askSetting (Qd ?_)));dsimp only;rw[Qo f];refine Qb (wpAny_askSetting (Qd (Qd ?_)));dsimp only;have T:i<(pickOrder (w.params.setOrder a ep) es).size:=by rw[<-F,ord_size];exact c
     rw[ZJ _ i T,G i];rw[G (i+1)] at e;have p:((ordOf w a ep es)[i]'(by rw[ord_size];exact c))=(pickOrder (w.params.setOrder a ep) es)[i]:=by congr 1
     rw[p] at e;exact e
   | false =>
     have f:¬ ((model prog w).w.params.followText "set-order")=true:=by rw[show(model prog w).w.params.followText "set-order" = false from b];decide
     have F:ordOf w a ep es=es:=by unfold ordOf;rw[Qh (by rw[b];decide)]
     have H:=g.plain;have I:=g.led b;have J:=g.up;have hz:=g.size;dsimp only;rw[Qh f];have K:SetTable.below t.place (zk0 w t i)=i:=by
       obtain⟨L,M,Z⟩:=zP3 t.place (zk0 w t i) J;have mono:∀x y,x<y->y<t.place.size->t.place.getD x 0<t.place.getD y 0:=λx y U N=>by
         have:=Zy.mp J x y (by simp;omega) (by simpa using N) U;simpa [Array.getD,N,show x<t.place.size by omega] using this
       have O:∀x d,x<t.place.size->t.place.getD x d=t.place.getD x 0:=λx d hx=>by simp[Array.getD,hx]
       generalize hB:SetTable.below t.place (zk0 w t i)=B at L M Z;rcases Nat.lt_trichotomy B i with z | z | z
       . exfalso
         obtain⟨j,rfl⟩:∃j,i=j+1:=⟨i-1,by omega⟩;have q:=M B (Qj _) (by omega);rw[sl (by exact b),O B (t.place.getD j 0+1) (by omega)] at q;rcases QY B j with y | y
         . have:=mono B j y (by omega);omega
         . obtain rfl:B=j:=by omega
           omega
       . exact z
       . exfalso
         have q:=L i z;rw[O _ _ (by omega)] at q;cases i with
         | zero=>exact absurd q (Nat.not_lt_zero _)
         | succ j =>
           rw[sl b] at q;have:=mono j (j+1) (by omega) (by omega);omega
     have e5:zk0 w t (i+1)=t.place[i]'(by omega)+1:=by
       rw[sl b];simp[Array.getD,show i<t.place.size by omega]
     have p:((ordOf w a ep es)[i]'(by rw[ord_size];exact c))=es[i]:=by congr 1
     rw[p,e5] at e;have v:i<t.place.size:=by omega
     obtain⟨a4,S,a0,a1,a7,a2,a3⟩:=t;dsimp only at H I;subst H I;rw[Qh (by intro z;exact Bool.noConfusion (show false=true from z))];refine Qb (Qd ?_);dsimp only at K v e ⊢;rw[K];rw[ZJ es i c,ZJ S i v];exact Qd e
 refine Y _ _ ?_;dsimp only;refine Qb (wpAny_setField o h (by simp) ?_);have P:=Zm (Obj.mapFields (·.setIfInBounds 0 (rawInt (zk0 w t (i+1):Int)))) o (Obj.isFreed_of_fields (Obj.data_mapFields h _));have r:=Obj.data_mapFields h (·.setIfInBounds 0 (rawInt (zk0 w t (i+1):Int)));refine Qb (wpAny_setField (s:={ s with heap:=_ }) P r (by simp) ?_);have g2:=Zm (Obj.mapFields (·.setIfInBounds 1 (rawInt ((i:Int)+1)))) P (Obj.isFreed_of_fields (Obj.data_mapFields r _));have d2:=Obj.data_mapFields r (·.setIfInBounds 1 (rawInt ((i:Int)+1)));refine Qd ⟨_,rfl,Qd (W _ ⟨_,g2,?_,?_⟩ ((Heap.SameBut.update s.heap it _).trans (Heap.SameBut.update _ it _)))⟩
 . rw[Obj.cls_mapFields,Obj.cls_mapFields]
   exact X
 . rw[d2]
   simp[rawInt]
theorem si_end {Q:Option Value->Shared->Prop}(G:A.handled=none)(g:SetGood w es t)(h:zr2 s.heap it a (zk0 w t es.size) es.size es.size ep)(H:zt8 s.heap a es ep t)(Z:a≠it)
   (I:∀i,Heap.ExtBut it s.heap i->Q none { s with heap:=i }):wpAny (model prog w) A (pyNext (.ref it)) Q E s:=by
 have k:=h.typeIs;obtain⟨a2,l,hc,n⟩:=id h;obtain⟨os,e,a0,f⟩:=id H;unfold pyNext;refine Qb (wpAny_attempt (wpAny_callSpecial?_slot (name:=Str.ofString "__next__") k zl9 (wpAny_call_entry zl9 k zE1 ?_ (zG6 _))));unfold Builtin.«set_iterator.__next__»;refine Qb (m:=slotArgs _ _ _) (Qd (Qb (wpAny_fieldsOf l n ?_)));dsimp only;refine Qb (wpAny_setEntries_of e f g.fits ?_);rw[Qh (by simp)];refine Qb ?_;have J:∀(R:Option (Value×Nat)->Shared->Prop) (o:VP),R none s->wpAny (model prog w) A.in1 (setNext a (zk0 w t es.size) es.size ep) R o s:=λR o p=>by
   unfold setNext;refine Qb (wpAny_setState_of e f g.fits ?_);dsimp only;unfold setsByText;refine Qb (Qb (wpAny_askSetting (Qd ?_)));cases c:byT w with
   | true =>
     have d:((model prog w).w.params.followText "set-order")=true:=c;have K:ordOf w a ep es=pickOrder (w.params.setOrder a ep) es:=by unfold ordOf;rw[Qo c]
     dsimp only;rw[Qo d,Qh (by simp)];refine Qb ?_;unfold setWalk;refine Qb (wpAny_setState_of e f g.fits ?_);dsimp only;unfold setsByText;refine Qb (Qb (wpAny_askSetting (Qd ?_)));dsimp only;rw[Qo d];refine Qb (wpAny_askSetting (Qd (Qd ?_)));dsimp only;have L:(pickOrder (w.params.setOrder a ep) es)[es.size]?=none:=by
       rw[<-K];exact Array.getElem?_eq_none (by rw[ord_size];exact Qj _)
     have M:(pickOrder ((model prog w).w.params.setOrder a ep) es)[es.size]?=none:=L;rw[M];exact p
   | false =>
     have d:¬ ((model prog w).w.params.followText "set-order")=true:=by rw[show(model prog w).w.params.followText "set-order" = false from c];decide
     have r:=g.plain;have u:=g.led c;have v:=g.up;have hz:=g.size;dsimp only;rw[Qh d];have C:es.size<=SetTable.below t.place (zk0 w t es.size):=by
       obtain⟨b1,N,b3⟩:=zP3 t.place (zk0 w t es.size) v;rcases QY (SetTable.below t.place (zk0 w t es.size)) es.size with z | z
       . exfalso
         have mono:∀x y,x<y->y<t.place.size->t.place.getD x 0<t.place.getD y 0:=λx y F D=>by
           have:=Zy.mp v x y (by simp;omega) (by simpa using D) F;simpa [Array.getD,D,show x<t.place.size by omega] using this
         have q:=N _ (Qj _) (by omega);generalize SetTable.below t.place (zk0 w t es.size)=B at q z;obtain⟨j,O⟩:∃j,es.size=j+1:=⟨es.size-1,by omega⟩;rw[O,sl c] at q;have P:t.place.getD B (t.place.getD j 0+1)=t.place.getD B 0:=by simp[Array.getD,show B<t.place.size by omega]
         rw[P] at q;rcases QY B j with y | y
         . have:=mono B j y (by omega);omega
         . obtain rfl:B=j:=by omega
           omega
       . exact z
     obtain⟨Y,V,S,U,a1,W,X⟩:=t;dsimp only at r u;subst r u;rw[Qh (by intro z;exact Bool.noConfusion (show false=true from z))];refine Qb (Qd ?_);dsimp only at C ⊢;rw[Array.getElem?_eq_none C];exact Qd p
 refine J _ _ ?_;dsimp only;refine Qb (wpAny_setField l n (by simp) ?_);refine Qb ?_;simp only[newExc,newTuple];refine Qb (wpAny_newObj_type ?_ (by size_fits));refine Qb (m:=firstArgMember _ _) (wpAny_of_eq (a:=Value.none) (by first | rfl | (simp only[firstArgMember];rfl)) ?_);refine wpAny_newObj_type ?_ (by size_fits);simp only[raiseNew];refine Qb (wpAny_handled ?_);rw[show A.in1.handled=none from G];refine Qb (Qd (wpAny_throw ?_));refine Qb (wpAny_isInstance (T:="StopIteration") (b:=true) ⟨_,Qm _ rfl,rfl⟩ isSubtype_stop ?_);exact Qd (I _ (((Heap.SameBut.update ..).extBut.push _).push _))
theorem s_iter {Q:VP}(g:SetGood w es t)(d:zt8 s.heap a es ep t)
   (i:Q (.ref s.heap.objs.size) { s with heap:=s.heap.push { cls:=.type "set_iterator",data:=.fields #[.int 0 0,.int 0 0,.ref a,.int es.size 0,.int ep 0] } }):wpAny (model prog w) A (pyIter (.ref a)) Q E s:=by
 have e:=d.typeIs;obtain⟨u,b,q,c⟩:=id d;refine wpAny_pyIter_slot e PySem.F.slot_set_iter (wpAny_call_entry PySem.F.slot_set_iter e entry_s_iter ?_ (PySem.F.args_set_iter_1 _));unfold Builtin.«frozenset.__iter__» Builtin.Frozenset.slot0;refine Qb (Qb (m:=slotArgs _ _ _) (Qd (Qd ?_)));unfold Builtin.Frozenset.sizeOf;refine Qb (Qb (wpAny_setEntries_of b c g.fits (Qd ?_)));unfold setDrawn;refine Qb (Qb (wpAny_setState_of b c g.fits ?_));dsimp only;unfold setsByText;refine Qb (Qb (wpAny_askSetting (Qd (Qd ?_))));dsimp only;have f:=g.plain;obtain⟨p,l,j,k,r,n,o⟩:=t;dsimp only at f;subst f;rw[Qh (by
   intro z;have h:(!((model prog w).w.params.followText "set-order") && false)=true:=z;rw[Bool.and_false] at h;exact Bool.noConfusion h)]
 refine Qb (Qd (Qb ?_));unfold setEpoch;refine Qb (wpAny_setState_of b c g.fits (Qd ?_));exact Qb (wpAny_newObj_type (Qd ⟨_,rfl,"set_iterator",_,⟨_,Qm _ rfl,rfl⟩,zl9.lookup,i⟩))
theorem s_hint {Q:Bool->Shared->Prop} (d:s.TypeIs (.ref a) "set") (h:Q false s):wpAny (model prog w) A (Builtin.List.listLengthHint (.ref a)) Q E s:=by
 unfold Builtin.List.listLengthHint;refine Qb (wpAny_specialOf d PySem.F.slot_set_len.lookup ?_);generalize e:("set.__len__" : String)=f
 wp_delta
 rw[show splitId f=some ("set","__len__") from by subst e;decide +kernel];subst e;refine Qb (wpAny_isInstance (T:="set") (b:=true) d (by rw[isSubtype_type];kernel_rfl) ?_);refine wpAny_ite_split (λc=>absurd c (by decide)) (λ_=>?_);refine wpAny_ite_split (λ_=>?_) (λc=>absurd (by decide +kernel) c);refine Qb (wpAny_typeOf d ?_);exact Qd h
theorem s_walks (x:A.handled=none)(I a:Addr)(j:a≠I)(g:SetGood w es t)(ep:Nat) :
   Walks prog w A I [I,a] [I] es.size (λi v=>∃h:i<es.size,v=((ordOf w a ep es)[i]'(by rw[ord_size];exact h)).2) (λi h=>zr2 h I a (zk0 w t i) i es.size ep/\zt8 h a es ep t) where
 sub:=λb d=>by simp at d;simp[d]
 frame:=λ_ _ _ c n=>⟨let⟨o,y,r⟩:=c.1;⟨o,n I (by simp) o y,r⟩,c.2.at_ λo e=>n a (by simp) o e⟩
 item:=λi s Q E p c f=>si_next g c.1 c.2 j p λk q m=>f _ k s.toks ⟨p,rfl⟩ ⟨q,c.2.at_ λo e=>m.extBut a o j e⟩ λb o d e=>m.extBut b o (λh=>d (by simp[h])) e
 done:=λs Q E c f=>si_end x g c.1 c.2 j λk u=>f k s.toks λb o d e=>u b o (λh=>d (by simp[h])) e
 self:=λs Q E i c f=>by
   have l:=c.1.typeIs;refine wpAny_pyIter_slot l zG7 (wpAny_call_entry zG7 l entry_si_iter ?_ (args_si_iter _));show wpAny _ _ (ret (.ref I)) _ _ _;exact Qd ⟨_,rfl,"set_iterator",_,l,zl9.lookup,f⟩
theorem s_src (g:SetGood w es t):KdlSrc prog w "set" a a es.size (λi v=>∃h:i<es.size,v=((ordOf w a ep es)[i]'(by rw[ord_size];exact h)).2) (λh=>zt8 h a es ep t) where
 type:=λ_ b=>b.typeIs
 there:=λ_ b=>⟨let⟨_,c,_⟩:=b;Qp c,let⟨_,c,_⟩:=b;Qp c⟩
 keep:=λ_ _ b f=>b.at_ λo e=>f a (.inl rfl) o e
 notList:=by decide
 notTuple:=by decide
 hint:=λ_ _ _ _ b d=>s_hint b.typeIs d
 iter:=λ_ _ j b=>⟨_,_,(λ_ _ d=>s_iter g b d),s_walks j _ a (Qz (let⟨_,c,_⟩:=b;Qp c)) g ep,⟨⟨_,Qm _ rfl,rfl,rfl⟩,b.at_ λo e=>Qc _ e⟩⟩
end
end Sx
namespace L2
open PySem PySem.Spec PyProof.Rows
noncomputable def SetV (w:World)(p:Addr)(ms:List Int):HO:=.ext λh=>∃ep,Sx.SetS (Sx.byT w) h p ms ep
section
variable {X:Cx}
theorem call_setI (f:X.calm=true):zn9 X (.type "set") (λc H Q=>∃(l:Addr) (b:List Int),c=[.ref l]/\SqL X.K H l (b.map V.int)/\(∀n∈b,1<=n/\n<=5)/\∀p a,H p=none->(∀x,x∈a↔x∈b)->a.Pairwise (· < ·)->Q (.ref p) (upd H p (SetV X.w p a))):=by
 intro B s L H c D Q I r h;obtain⟨l,b,rfl,g,d,q⟩:=h;obtain⟨u,rfl,i⟩:=zs9 r;cases i;obtain⟨C,j,p,E⟩:=I.list g;refine Sx.call_setS (I.ok.hd f) p.isList (by simpa using zr5 j) d λF m a v S w k=>?_
 refine⟨.ref s.heap.objs.size,_,I.laid (t':=m) (o:=SetV X.w s.heap.objs.size a) k (Qj _) ?_,rfl,q _ a (I.hok.fresh (Qj _)) w S.up⟩;refine⟨⟨v,S⟩,?_,λG J ⟨e,y⟩ z=>⟨e,y.other z⟩⟩;obtain⟨o,K,t,A,_⟩:=S.st;exact⟨o,A⟩
theorem sorted_eq {a b:List Int}(p:a.Perm b)(c:a.Pairwise (·<=·))(d:b.Pairwise (· < ·)):a=b:=W.ksm_same p c (d.imp λz=>Int.le_of_lt z)
theorem yb8:∀ {a:List (Int×Value)} {b:List Int},Sx.ElsAre a b->IntsAre (a.map (·.2)) b
 | _,_,.nil=>.nil
 | _,_,.cons ⟨_,c,h⟩ t=>by
   rw[Qv,h];exact .cons _ _ (yb8 t)
theorem ints_perm {vs us:List Value}{ns:List Int}(p:vs.Perm us)(h:IntsAre us ns):∃a,IntsAre vs a/\a.Perm ns:=by
 induction p generalizing ns with
 | nil=>cases h;exact⟨[],.nil,.nil⟩
 | cons x _ f =>
   cases h with
   | cons n t h=>obtain⟨a,b,c⟩:=f h;exact⟨n::a,.cons n t b,c.cons n⟩
 | swap x y l =>
   cases h with
   | cons n t h=>cases h with
     | cons m u h=>exact⟨m::n::_,.cons m u (.cons n t h),.swap _ _ _⟩
 | trans _ _ d e =>
   obtain⟨a,b,c⟩:=e h;obtain⟨g,i,j⟩:=d b;exact⟨g,i,j.trans c⟩
theorem call_sortS (U:X.calm=true):zn9 X (.builtin "sorted") (λA H Q=>∃(p:Addr) (e:List Int),A=[.ref p]/\H p=some (SetV X.w p e)/\∀l,H l=none->Q (.ref l) (upd H l (.lst (e.map V.int)))):=by
 intro J s σ H A us Q I a0 a4;obtain⟨p,e,rfl,Y,q⟩:=a4;obtain⟨u,rfl,Z⟩:=zs9 a0;cases Z;obtain⟨⟨ep,a5⟩,_,_⟩:=(show zg1 X.prog X.w H s.heap p (SetV X.w p e) from I.hok p _ Y);obtain⟨⟨o,f,t,ho,K,hd,v,w,L,M,N,O⟩,n,B⟩:=a5;have h5:=(Sx.five n B).1;have C:=v.len;have x:t.place.size=f.size:=by rw[<-QE,w,Qa,<-C,QE]
 have P:f.size=e.length:=by rw[<-C,QE]
 have a6:Sx.SetGood X.w f t:=⟨Sx.fits_of x L (by rw[M];split<;>omega),x,N,O,by rw[w];exact Sx.nat_up n B⟩;refine Calls.call_function_entry kind_sorted plain_sorted entry_sorted (args_sorted1 _) ?_;unfold Builtin.«sorted»;refine Qb (m:=checkCount "sorted" 1 1 _) (Qd ?_);refine Qb (W.kdu_collect (Sx.s_src (ep:=ep) a6) (show X.A.in1.handled=none from I.ok.hd U) ⟨o,ho,K,hd⟩ (by rw[sizeLine_eq];omega) λd h a k1 i=>?_);have a7:a.toList=(Sx.ordOf X.w p ep f).toList.map (·.2):=by
   apply List.ext_getElem?;intro j;rcases QY j f.size with z | z
   . have D:j<a.size:=by rw[i.1];exact z
     obtain⟨_,q⟩:=i.2 j a[j] (ZJ a j D);have R:j<(Sx.ordOf X.w p ep f).size:=by rw[Sx.ord_size];exact z
     rw[ZE,ZJ a j D,QQ,ZE,ZJ _ j R,q];rfl
   . rw[Zf (by rw[QE,i.1];exact z),Zf (by rw[Qa,QE,Sx.ord_size];exact z)]
 obtain⟨ns,hi,S⟩:=ints_perm (vs:=a.toList) (us:=f.toList.map (·.2)) (ns:=e) (by rw[a7];exact(Sx.ord_perm X.w p ep f).map _) (yb8 v);have T:a.toList.length=e.length:=by rw[QE,i.1,P]
 refine Qb (wpAny_newList ?_ (by rw[T,sizeLine_eq];omega));have k:(d.push (seqObj "list" a.toList.toArray 0)).get? d.objs.size=some (seqObj "list" a.toList.toArray 0):=Qm _ rfl;show wpAny _ _ _ _ _ { s with heap:=d.push (seqObj "list" a.toList.toArray 0),toks:=h };refine Qb (wpAny_holding (wpAny_call_entry slot_list_sort ⟨_,k,rfl⟩ entry_list_sort (list_sort_tree (s:={ s with heap:=d.push (seqObj "list" a.toList.toArray 0),toks:=h }) k hi (by omega) λg y a1 a2 a3=>⟨_,rfl,?_⟩) (args_list_sort _)));have E:Inv X J σ H { s with heap:=d,toks:=h }:=I.kept k1;have en:y=e:=sorted_eq (a2.trans S) a3 n;subst en;have ke:∀b u,d.get? b=some u->(sortedHeap (d.push (seqObj "list" a.toList.toArray 0)) d.objs.size a.toList g).get? b=some u:=λb u z=>by
   have F:b≠d.objs.size:=Qz (Qp z);unfold sortedHeap;rw[Heap.get?_update_ne _ _ _ _ F];refine Qc _ (Qc _ ?_);rw[Heap.get?_update_ne _ _ _ _ F];exact Qc _ z
 have r:∃c,(sortedHeap (d.push (seqObj "list" a.toList.toArray 0)) d.objs.size a.toList g).get? d.objs.size=some (seqObj "list" g.toList.toArray c):=by
   obtain⟨G,g1⟩:∃G,((d.push (seqObj "list" a.toList.toArray 0)).update d.objs.size (Obj.mapSeq λ_=>(#[]:Array Value))).get? d.objs.size=some (seqObj "list" #[] G):=⟨_,get?_update_seq k λ_=>#[]⟩;have g2:=Qc (seqObj "list" #[] 0) (Qc (seqObj "tuple" a.toList.toArray 0) g1);rw[Array.toArray_toList];exact⟨_,get?_update_seq g2 λ_=>g⟩
 obtain⟨c,r⟩:=r;refine Qd ⟨_,rfl,⟨.ref d.objs.size,_,E.laid (s:={ s with heap:=d,toks:=h }) (t':=h) (o:=.lst (y.map V.int)) ke (Qj _) (show zg1 X.prog X.w _ _ _ (.lst _) from⟨?_,g.toList,c,?_,r⟩),rfl,q _ (E.hok.fresh (Qj _))⟩⟩
 . rw[Qa,sizeLine_eq];omega
 . exact zJ3 a1
end
end L2
namespace L2
open PySem
theorem Same.tups {H H':Hp}(s:Same H H'){ys:List V}{a:List (List Int)}(h:Tups H ys a):Tups H' ys a:=Paired.mapP h λy k ⟨b,e,c⟩=>⟨b,e,s _ _ c⟩
theorem zr3 {H:Hp}{l:Addr}{o u:HO}(d:H l=some o)(f:∀g,o≠.tup g){ys:List V}{c:List (List Int)}(h:Tups H ys c):Tups (upd H l u) ys c :=
 Paired.mapP h λy k ⟨b,e,a⟩=>⟨b,e,by rw[za8 (λz=>by rw[z,d] at a;injection a with a;exact f _ a)];exact a⟩
theorem zo7 {H:Hp}{ys:List V}{a:List (List Int)}(h:Tups H ys a){b:Addr}{k:List Int}(c:H b=some (.tup (k.map V.int))):Tups H (ys++[.ref b]) (a++[k]):=Paired.snoc h ⟨b,rfl,c⟩
theorem pat {b c:Type}{R:b->c->Prop}{xs:List b}{ys:List c}(h:Paired R xs ys):∀ {i:Nat} {x:b},xs[i]?=some x->∃y,ys[i]?=some y/\R x y:=by
 induction h with
 | nil =>
   intro i x e;rw[List.getElem?_nil] at e;cases e
 | cons a t d =>
   intro i x e;cases i with
   | zero=>exact⟨_,rfl,QA e▸a⟩
   | succ i=>exact d e
theorem zm9 {H:Hp}{ys:List V}{a:List (List Int)}(h:Tups H ys a){i:Nat}{y:V}(e:ys[i]?=some y):∃b k,y = .ref b/\a[i]?=some k/\H b=some (.tup (k.map V.int)):=by
 obtain⟨k,c,b,d,f⟩:=pat h e;exact⟨b,k,d,c,f⟩
theorem zd6 {H:Hp}{ys:List V}{a:List (List Int)}(h:Tups H ys a):ys.length=a.length:=Paired.length h
theorem zi2.same {H a c:Hp}{l:Addr}(s:Same H a)(d:H l=none)(x:zi2 l a c):Same H c:=λb o e=>x b o (s b o e) (za9 e d)
theorem Same.x {H a:Hp}{l:Addr}(s:Same H a):zi2 l H a:=λb o e _=>s b o e
theorem zi2.trans {H a c:Hp}{l:Addr}(s:zi2 l H a)(s':zi2 l a c):zi2 l H c:=λb o e d=>s' b o (s b o e d) d
theorem zi2.updX {H a:Hp}{l:Addr}{o:HO}(s:zi2 l H a):zi2 l H (L2.upd a l o):=λb u e c=>by rw[za8 c];exact s b u e c
theorem zi2.put {H c:Hp}{l a:Addr}{o:HO}(s:zi2 l H c)(h:H a=none):zi2 l H (L2.upd c a o):=λb u e d=>by rw[za8 (za9 e h)];exact s b u e d
theorem zi2.free {H b:Hp}{l a:Addr}(s:zi2 l H b)(h:b a=none)(c:b l≠none):H a=none:=by
 cases e:H a with
 | none=>rfl
 | some o =>
   by_cases z:a=l
   . rw[z] at h;exact absurd h c
   . rw[s a o e z] at h;cases h
theorem pe_bmK {X:Cx} {o e:Expr} {es:List Expr} {c:TE} {t:TA} {name:Str} {b a:Pos} {T id:String} {r:V->List V->Hp->VK->Prop} (K:W.Frag) (h:X.K=K) (l:PlainAttrs T) (i:Slot T name id) (k:typeOf (.builtin id)=pure (.type "method_descriptor")) (m:MtR X id r) (n:PE X o c) (p:PA X (e::es) t)
 (f:attributeBase o name X.env (eval o X.env)=eval o X.env:=by rfl)
 (j:((backTo a (starEach (e::es) X.env)).all (λx=>!x.1) && (backToKw a (keywordEach [] X.env)).all (λx=>x.1.isSome)
   && decide ((e::es).length+([]:List Keyword).length+(if ([]:List Keyword).isEmpty then 0 else 1)<30))=true:=by rfl)
 (g:(b.endLine == a.line)=true:=by rfl) (hs:starEach (e::es) X.env=(false,eval e X.env)::starEach es X.env:=by rfl) (d:(backTo a (starEach es X.env)).any (·.1)=false:=by rfl) :
 PE X (.Call (.Attribute o name b) (e::es) [] a) (tBM K T r c t):=h▸zl1 l i k m n p f j g hs d
end L2
namespace L2
open PySem PySem.Spec PyProof.Rows
noncomputable def zY8:Expr->Bool
 | .Starred .. => false
 | _=>true
theorem zz5 {e:Expr}{es:List Expr}{env:Env}(h:zY8 e=true):starEach (e::es) env=(false,eval e env)::starEach es env:=by
 cases e<;>first | rfl | cases h
theorem zc8 {X:Cx}{e:Expr}{es:List Expr}{a:TE}{t:TA}(b:PE X e a)(c:PA X es t)(hs:zY8 e=true:=by rfl):PA X (e::es) (yl3 a t):=za0 b c (zz5 hs)
structure WE (X:Cx)(e:Expr)(t:TE):Prop where h:PE X e t
structure WA (X:Cx)(es:List Expr)(t:TA):Prop where h:PA X es t
structure WS (X:Cx)(st:Stmt)(t:TS):Prop where h:PS X st t
structure WSs (X:Cx)(st:List Stmt)(t:TS):Prop where h:PSs X st t
section
variable {X:Cx}
theorem zm2 {es:List Expr}{t:TA}{a:Pos}(h:WA X es t):WE X (.List es a) (tLst t):=⟨zg0 h.h⟩
theorem zq5 {es:List Expr}{t:TA}{a:Pos}{x1}(h:WA X es t):WE X (.Tuple es x1 a) (tTup t):=⟨zt5 h.h⟩
theorem zf9:WA X [] tNil:=⟨za1⟩
theorem zb0 {e:Expr}{es:List Expr}{a:TE}{t:TA}(b:WE X e a)(c:WA X es t)(hs:zY8 e=true:=by rfl):WA X (e::es) (yl3 a t):=⟨za0 b.h c.h (zz5 hs)⟩
theorem we_ix {a b:Expr}{c d:TE}{e:Pos}{r:R2}(f:IxR X r)(g:WE X a c)(h:WE X b d)(hs:yg1 b):WE X (.Subscript a b e) (tOp r c d):=⟨zc2 f g.h h.h hs⟩
theorem yn7 {b:Pos}{i:Nat}{x:Str}{e:Expr}{c:TE}{a:Pos}(d:X.N.Nodup)(f:X.N[i]?=some x)(g:Loc X.env.scope x)(h:WE X e c)(hs:swapsWith e (some (.Name x a)) b.line X.env=pure false:=by rfl)(j:X.fn x=true\/X.env.scope.names.lookup x=some .local:=by first | exact .inl rfl | exact .inr rfl | assumption) :
 WS X (.Assign [.Name x a] e b) (tAsg c (zp7 i)):=⟨zb7 d f g h.h hs j⟩
theorem zP5 {e:Expr}{a:TE}{b:Pos}(c:WE X e a):WS X (.Return (some e) b) (tRet a):=⟨zb2 c.h⟩
theorem yi3 {c:Expr}{a b:List Stmt}{d:TT}{t u:TS}{e:Pos}(f:PT X c d)(g:WSs X a t)(h:WSs X b u):WS X (.If c a b e) (tIfS d t u):=⟨zc7 f g.h h.h⟩
theorem zv4 {st:Stmt}{rest:List Stmt}{t u:TS}(a:WS X st t)(b:WSs X rest u):WSs X (st::rest) (tSeq t u):=⟨za3 a.h b.h⟩
theorem zG8 {st:Stmt}{t:TS}(a:WS X st t):WSs X [st] t:=⟨za5 a.h⟩
theorem zM8:WSs X [] yp2:=⟨zb3⟩
end
end L2
open PySem
namespace L2
noncomputable def yb9 (x y:V):Bool:=scal x y && (match x with | .byt _=>false | _=>true)
theorem scalE_scal {x y:V}(h:yb9 x y=true):scal x y=true:=(Bool.and_eq_true_iff.mp h).1
theorem eqat_scal {A:Around}{s:Shared}{x y:V}{v u:Value}(e:yb9 x y=true)(d:RelV x v)(a:RelV y u):PySem.SeqAt.EqAt A s v u (decide (x=y)):=by
 have c:=scalE_scal e;cases x with
 | non =>
   cases d;cases y with
   | non=>cases a;exact PySem.SeqAt.EqAt.same _
   | bl j=>cases a;exact PySem.SeqAt.EqAt.none_bool _
   | int j=>obtain⟨b,rfl⟩:=a;exact PySem.SeqAt.EqAt.none_int _ _
   | str j=>obtain⟨b,rfl⟩:=a;exact PySem.SeqAt.EqAt.none_str _ _
   | _=>exact absurd (show false=true from c) Qw
 | bl i =>
   cases d;cases y with
   | non=>cases a;exact PySem.SeqAt.EqAt.bool_none _
   | bl j=>cases a;rw[yd7];exact PySem.SeqAt.EqAt.bool_bool _ _
   | str j=>obtain⟨b,rfl⟩:=a;exact PySem.SeqAt.EqAt.bool_str _ _ _
   | _=>exact absurd (show false=true from c) Qw
 | int i =>
   obtain⟨t,rfl⟩:=d;cases y with
   | non=>cases a;exact PySem.SeqAt.EqAt.int_none _ _
   | int j=>obtain⟨b,rfl⟩:=a;rw[zX4];exact PySem.SeqAt.EqAt.int_int _ _ _ _
   | str j=>obtain⟨b,rfl⟩:=a;exact PySem.SeqAt.EqAt.int_str _ _ _ _
   | _=>exact absurd (show false=true from c) Qw
 | str i =>
   obtain⟨t,rfl⟩:=d;cases y with
   | non=>cases a;exact PySem.SeqAt.EqAt.str_none _ _
   | bl j=>cases a;exact PySem.SeqAt.EqAt.str_bool _ _ _
   | int j=>obtain⟨b,rfl⟩:=a;exact PySem.SeqAt.EqAt.str_int _ _ _ _
   | str j=>obtain⟨b,rfl⟩:=a;rw[zX5];exact PySem.SeqAt.EqAt.str_str _ _ _ _
   | _=>exact absurd (show false=true from c) Qw
 | byt i=>have:=(Bool.and_eq_true_iff.mp e).2;cases this
 | _=>cases y<;>exact absurd (show false=true from c) Qw
noncomputable def eAt (xs ys:List V)(j:Nat):Bool:=match xs[j]?,ys[j]? with | some x,some y=>decide (x=y) | _,_=>true
theorem yi4:∀ {xs ys:List V},xs.length=ys.length->(List.range xs.length).all (eAt xs ys)=decide (xs=ys)
 | [],[],_=>rfl
 | x::xs,y::ys,h=>by
   have a:=yi4 (xs:=xs) (ys:=ys) (by simpa using h);rw[Ql,List.range_succ_eq_map,List.all_cons,List.all_map];have e:(eAt (x::xs) (y::ys) ∘ Nat.succ)=eAt xs ys:=by funext j;rfl
   rw[e,a];show(decide (x=y) && decide (xs=ys))=_;simp
theorem zY9:∀ {a:List V} {b:List Value},Vals a b->∀ {j:Nat} {x:V},a[j]?=some x->∃u,b[j]?=some u/\RelV x u
 | _,_,.nil,j,x,h=>by simp at h
 | _,_,.cons r t,0,x,h=>⟨_,rfl,by obtain rfl:=QA h;exact r⟩
 | _,_,.cons r t,j+1,x,h=>zY9 t (j:=j) h
theorem eqat_items {A:Around}{s:Shared}{xs ys:List V}{us vs:List Value}(e:Vals xs us)(f:Vals ys vs)(hs:∀(j:Nat) x y,xs[j]?=some x->ys[j]?=some y->yb9 x y=true)(j:Nat)(g:j<us.toArray.size)(h:j<vs.toArray.size):PySem.SeqAt.EqAt A s us.toArray[j] vs.toArray[j] (eAt xs ys j):=by
 rw[Qn] at g h;have i:=e.length;have k:=f.length;have b:xs[j]?=some xs[j]:=Qe (by omega);have c:ys[j]?=some ys[j]:=Qe (by omega);unfold eAt;rw[b,c];refine eqat_scal (hs j _ _ b c) ?_ ?_
 . obtain⟨u,a,d⟩:=zY9 e b
   rw[List.getElem_toArray];rw[Qe g] at a;rw[QA a];exact d
 . obtain⟨u,a,d⟩:=zY9 f c
   rw[List.getElem_toArray];rw[Qe h] at a;rw[QA a];exact d
section
variable {X:Cx}
inductive yn8 (K:PySem.W.Frag)(x:V)(y:V)(H:Hp)(Q:VK):Prop
 | mk (a b xs ys:_)(h0:x = .ref a)(h1:y = .ref b)(h2:SqT K H a xs)(h3:SqT K H b ys)(h4:(∀(j:Nat) x y,xs[j]?=some x->ys[j]?=some y->yb9 x y=true))(h5:Q (.bl (decide (xs=ys))) H):yn8 K x y H Q
def rEqT (K:PySem.W.Frag):R2:=λx y H Q=>yn8 K x y H Q
theorem op_eqT (n:X.A.units<cLine):OpR X (compareOp .Eq) (rEqT X.K):=by
 intro D s G H x y v u Q I o p h;obtain⟨a,b,f,g,rfl,rfl,r,t,m,q⟩:=h;cases o;cases p;obtain⟨c,i,w,_⟩:=I.tuple r;obtain⟨d,k,A,_⟩:=I.tuple t;have E:=i.length;have F:=k.length;refine(PySem.SeqAt.RcAt.tuples (e:=eAt f g) (show s.heap.IsTuple a c.toArray from w) (show s.heap.IsTuple b d.toArray from A) n (λj B C=>eqat_items i k m j B C)) _ _ _ _ (ze4 I q ?_);rw[Qn,Qn];by_cases l:f.length=g.length
 . rw[show min c.length d.length=f.length by omega,yi4 l,show c.length=d.length by omega]
   simp
 . rw[Qf (λz=>l (by rw[z])),show(c.length == d.length)=false by simp;omega,Bool.and_false]
end
end L2
namespace L2
open PySem PySem.Spec PyProof.Rows
open Classical in
open Classical in
section
variable {X:Cx}
end
noncomputable def exOf (e:Expr):Expr:=match e with
 | .Subscript v _ _=>v
 | _=>.Constant .none 0 ⟨0,0,0,0⟩
section
variable {X:Cx}
end
section
variable {X:Cx}
end
end L2
namespace L2
open PySem PySem.W PySem.Calls PyProof.Rows
section
variable {prog:Program} {w:World} {A:Around} {E:VP} {s:Shared}
end
section
variable {prog:Program} {w:World} {A:Around} {E:VP} {s:Shared}
end
end L2
namespace L2
open PySem PySem.Spec PyProof.Rows
section
variable {X:Cx}
end
section
variable {X:Cx}
end
section
variable {X:Cx} {e k:Expr} {te:TE} {tk:TO} {pos p2:Pos}
end
section
variable {X:Cx}
end
section
variable {X:Cx}
end
section
variable {X:Cx} {tg l:Expr} {tl:TE}
end
section
variable {prog:Program} {w:World} {A:Around} {E:VP} {s:Shared}
end
section
variable {X:Cx} {es:List Expr} {k0:Nat} {tp:Pos}
end
def tMethS (C:Addr)(m:Str)(sp:Sp)(dvs:List V)(Ex:St->XK)(ta:TE)(t:TA):TE:=λσ H Q=>ta σ H λx H1=>∃a dx fs,x = .ref a/\H1 a=some (.ins C dx fs)/\fs.lookup m=none ∧
 t σ H1 λvs H2=>sp (x::(vs++dvs)) H2 Q (Ex σ)
section
variable {X:Cx} {CX:CXT} {k:Nat} {f C:Addr} {fd:FuncData} {ps:List Str} {sp:Sp} {dvs:List V} {ds:List Value} {Ex:St->XK} {x m:Str} {p pos apos:Pos} {e o:Expr} {es:List Expr} {ta:TE} {t:TA}
theorem run_fnS {c:List (Addr×Obj)}{b:St}{H:Hp}{s:Shared}{Q:VK}{us:List Value}{vs:List V}(F:FnOk X.prog X.w X.K X.mg X.base CX k f fd ps sp)(g:Room k X.A)(i:zk9 X.K fd ps ds)(j:Vals dvs ds)(l:zG1 CX X Ex)
   (I:Inv X c b H s) (r:Vals vs us) (h:sp (vs++dvs) H Q (Ex b)):wpAny (model X.prog X.w) X.A (call (.ref f) us) (EP X c b Q) X.xe s:=by
 have d:Vals (vs++dvs) (us++ds):=r.append j;have m:(us++ds).length=ps.length:=by rw[<-d.length];exact F.len _ _ _ _ h
 refine wpAny_call (codeAny_mono (F.run X.A X.stack s H ⟨us,[]⟩ (us++ds) (vs++dvs) Q (Ex b) g I.env0 (i s us I.kIn m) d h) λr n a=>?_);cases r with
 | error e=>exact l c b H s e n I a
 | ok o =>
   cases o with
   | ret u=>exact I.after a
   | next=>exact False.elim a
   | brk=>exact False.elim a
   | cont=>exact False.elim a
theorem yc0 {pl:Sem Bool}(w:PE X o ta)(c:Cls X.K C)(d:Meth X.K C m f)(F:FnOk X.prog X.w X.K X.mg X.base CX k f fd ps sp)(y:Room k X.A)(z:zk9 X.K fd ps ds)(A:Vals dvs ds)(B:zG1 CX X Ex)(D:PA X (e::es) t)
   (p:starEach (e::es) X.env=(false,eval e X.env)::starEach es X.env:=by rfl) (v:(backTo pos (starEach es X.env)).any (·.1)=false:=by rfl)
   (E:eval (.Call (.Attribute o m apos) (e::es) [] pos) X.env=(do
     let g <-eval o X.env
     standAt apos.atName
     let(f,first) <-holding [g] (getMethod g m pl)
     callWith pos f first (backTo pos (starEach (e::es) X.env)) (backToKw pos (keywordEach [] X.env))):=by rfl) :
   PE X (.Call (.Attribute o m apos) (e::es) [] pos) (tMethS C m sp dvs Ex ta t):=by
 intro b s n H Q I h;refine W.methodCall_KW (pl:=pl) (thn (w b s n H _ I h) λu G ⟨x,J,i,K,a,O,fs,L,M,l,q⟩=>?_) E;subst L;obtain rfl:u=Value.ref a:=K;refine zE8 i M c d l ?_;refine W.callWith_K (first:=[.ref a]) (h₀:=X.base) I.ok.mod.kin d.kp (thn (D pos b G n J _ i q) λus P ⟨vs,R,j,r,N⟩=>⟨j.kIn,?_⟩) p v;exact run_fnS (us:=.ref a::us) (vs:=.ref a::vs) F y z A B j (.cons rfl r) N
end
abbrev Nw (H:Hp)(o:HO)(Q:VK):Prop:=∀l H',Same H H'->H l=none->H' l=some o->Q (.ref l) H'
theorem Nw.go {H:Hp}{o:HO}{Q:VK}(q:Nw H o Q):∀p,H p=none->Q (.ref p) (upd H p o):=λp a=>q p _ (Same.upd a) a za4
section
variable {X:Cx} {es:List Expr} {t:TA} {pos:Pos}
def tLstS (t:TA):TE:=λσ H Q=>t σ H λxs H1=>xs.length<=sizeLine/\Nw H1 (.lst xs) Q
def tTupS (t:TA):TE:=λσ H Q=>t σ H λxs H1=>xs.length<=sizeLine/\Nw H1 (.tup xs) Q
theorem zM9 {x1}(h:PA X es t):PE X (.Tuple es x1 pos) (tTupS t):=by
 intro f s l H Q I g;refine wpAny_Tuple_spliced (thn (h pos f s l H _ I g) λi a ⟨j,c,d,r,z,q⟩=>⟨by rw[<-r.length];exact z,?_⟩);have k:c a.heap.objs.size=none:=d.hok.fresh (Qj _);refine⟨.ref a.heap.objs.size,upd c a.heap.objs.size (.tup j),d.laid (t':=a.toks) (λb u e=>Qc _ e) (Qj _) ?_,rfl,q.go _ k⟩;exact⟨z,i,r,⟨_,Qm _ rfl,rfl,rfl,_,rfl⟩⟩
theorem zt1 (h:PA X es t):PE X (.List es pos) (tLstS t):=by
 intro f s l H Q I g;refine wpAny_List_spliced (thn (h pos f s l H _ I g) λi a ⟨j,c,d,r,z,q⟩=>⟨by rw[<-r.length];exact z,?_⟩);have k:c a.heap.objs.size=none:=d.hok.fresh (Qj _);refine⟨.ref a.heap.objs.size,upd c a.heap.objs.size (.lst j),d.laid (t':=a.toks) (λb u e=>Qc _ e) (Qj _) ?_,rfl,q.go _ k⟩;exact⟨z,i,0,r,Qm _ rfl⟩
inductive yi5 (K:W.Frag)(x:V)(lo:Option Int)(hi:Option Int)(H:Hp)(Q:VK):Prop
 | mk (a xs:_)(h0:x = .ref a)(h1:SqL K H a xs)(h2:Nw H (.lst (cutV xs lo hi)) Q):yi5 K x lo hi H Q
def rSlLS (K:W.Frag):V->Option Int->Option Int->Hp->VK->Prop:=λx lo hi H Q=>yi5 K x lo hi H Q
theorem zP6:SlR X (rSlLS X.K):=λb s n H x v c d f g sl Q I h i j k ⟨a,l,e,m,q⟩=>zM6 b s n H x v c d f g sl Q I h i j k ⟨a,l,e,m,q.go⟩
inductive yi6 (K:W.Frag)(x:V)(lo:Option Int)(hi:Option Int)(H:Hp)(Q:VK):Prop
 | mk (a xs:_)(h0:x = .ref a)(h1:SqT K H a xs)(h2:¬ (HT.sIx xs.length 0 lo=0/\HT.sIx xs.length xs.length hi=xs.length))(h3:Nw H (.tup (cutV xs lo hi)) Q):yi6 K x lo hi H Q
def rSlTS (K:W.Frag):V->Option Int->Option Int->Hp->VK->Prop:=λx lo hi H Q=>yi6 K x lo hi H Q
theorem yi7:SlR X (rSlTS X.K):=λb s o H x v c d f g sl Q I h i j k ⟨a,l,e,m,n,q⟩=>zE9 b s o H x v c d f g sl Q I h i j k ⟨a,l,e,m,n,q.go⟩
inductive yi8  (x:V)(y:V)(H:Hp)(Q:VK):Prop
 | mk (l b xs zs:_)(h0:x = .ref l)(h1:y = .ref b)(h2:H l=some (.lst xs))(h3:H b=some (.lst zs))(h4:xs.length+zs.length<=sizeLine)(h5:Nw H (.lst (xs++zs)) Q):yi8  x y H Q
def rCatS:R2:=λx y H Q=>yi8  x y H Q
theorem zZ0:OpR X (binaryOp .Add) rCatS:=λa s k H x y v u Q I c d ⟨l,b,e,f,g,h,i,j,z,q⟩=>ym3 a s k H x y v u Q I c d ⟨l,b,e,f,g,h,i,j,z,q.go⟩
end
noncomputable def tHs (K:W.Frag)(cls:Value):List (Addr×TS)->Ends->St->Hp->Prop
 | []=>λ_ _ _=>False
 | (C,th)::r=>λD σ H=>(W.exmOne K cls (.ref C)=some true/\th D σ H)\/(W.exmOne K cls (.ref C)=some false/\tHs K cls r D σ H)
inductive PHs (X:Cx):List ExceptHandler->List (Addr×TS)->Prop
 | nil:PHs X [] []
 | cons {x:Str} {p hp:Pos} {b:Stmt} {su:List Stmt} {C:Addr} {th:TS} {l:List ExceptHandler} {L:List (Addr×TS)} (hg:Gl X x) (hm:X.mg x=some (.ref C)) (hd:(x == ("__debug__" : Str))=false) (hh:∀e,PSs (X.caught e) (b::su) th) (r:PHs X l L) :
     PHs X (.ExceptHandler (some (.Name x p)) none (b::su) hp::l) ((C,th)::L)
section
variable {X:Cx} {Ex:St->XK} {pos:Pos} {body:List Stmt} {tb:TS} {h0:ExceptHandler} {l:List ExceptHandler} {L:List (Addr×TS)}
def tTryHs (K:W.Frag)(Ex:St->XK)(L:List (Addr×TS))(tb:TS):TS:=λD σ H=>tb D σ H/\∀σ' cls od H',Ex σ' cls od H'->tHs K cls L D σ' H'
theorem yc1 (hs:X.stack=X.env::X.outer/\X.env.frame=some X.env.locals)(c:∀g,PSs (X.inTryD g Ex) body tb)(P:PHs X (h0::l) L):PS X (.Try body (h0::l) [] [] pos) (tTryHs X.K Ex L tb):=by
 intro g a0 σ a1 y I a2;obtain⟨n,h⟩:=a2;refine wpAny_Try_except (Zg (c g [] a0 σ a1 y (I.inTryD Ex) n) (λf i q=>?_) λe i q=>?_)
 . cases f with
   | next=>exact wpAny_execs_nil (SP.outTryD (fl:=.next) q)
   | brk=>exact SP.outTryD (fl:=.brk) q
   | cont=>exact SP.outTryD (fl:=.cont) q
   | ret u=>exact SP.outTryD (fl:=.ret u) q
 . obtain⟨o,H0,s0,A,a,k,B,p,rfl,C,v,un,ok,fl,q⟩:=q
   have d:=h o k B p q;clear n h;have J:=A.call' (ch:=[]) C un ok v λb z=>nomatch z
   have D:=J.stack;obtain⟨T,z,E⟩:=fl.flying D;have S:X.A.frames=some (X.env::X.outer):=by rw[<-hs.1];exact J.ok.frames
   rw[hs.1] at E;refine zY4 S hs.2 E λn H w=>?_
   refine zv2 H λh m x=>?_
   have F:∀(j:Heap),FlD (W.hideAll i.heap (a::([T]++frs (X.env::X.outer)))) (X.env::X.outer) a k B .none j->i.heap.UpToSlots j->Inv X g o p { i with heap:=j }:=λj M N=>by
     obtain⟨u,O,_⟩:=zO7 (l:=X.env::X.outer) un ok (by rw[<-hs.1];exact D) (λb c=>by rw[<-hs.1] at c;exact⟨.inl c,J.stkFree b c⟩) fl.1 (ts:=[T]) (λb c=>by rw[QI.mp c];exact z) M N;exact A.call' (ch:=[]) (s':={ i with heap:=j }) C u O v λb z=>nomatch z
   have s:=F h m (w.trans x);obtain⟨oe,U,⟨K,_⟩,_⟩:=m.there;have G:W.Looks (model X.prog X.w) h (typeOf (.ref a)) k:=by
     subst K;exact(W.Looks.ld U).andThen .now
   revert d;clear q c;generalize h0::l=hl at P ⊢;intro d
   induction P with
   | nil=>exact d.elim
   | cons V Y Z hh r ih =>
     refine wpAny_handleBy_cons (codeAny_handlers_test ?_) (by intro q;cases q);refine zs7 (X:=X.caught (.ref a)) (s.caught _) V Y ?_ Z;rcases d with⟨t,d⟩ | ⟨t,d⟩
     . refine(W.exm_one s.kIn G t) _ _ _ _ (λ_ _ e=>e) ?_
       show codeAny _ _ _ _ _;refine codeAny_handlers_suite (zv2 m λh3 Q R=>?_);have J3:=F h3 Q ((w.trans x).trans R);exact Zg (hh (.ref a) g _ o p y (J3.caught _) d) (λf s' r=>SP.uncaught I.ok.hd r) λ_ _ z=>False.elim z
     . refine(W.exm_one s.kIn G t) _ _ _ _ (λ_ _ e=>e) ?_
       show wpAny _ _ _ _ _ _;exact ih d
end
section
variable {X:Cx} {E:XK} {pos:Pos} {body:List Stmt} {tb:TS} {h0:ExceptHandler} {l:List ExceptHandler} {L:List (Addr×TS)}
end
section
variable {X:Cx}
def rPart:V->List V->Hp->VK->Prop:=λx vs H Q=>∃z y:Str,x = .str z/\vs=[.str y]/\(y.length == 0)=false/\z.length<=1000000/\∀l H',Same H H'->H l=none->H' l=some (.tup [.str (Txt.partition z y).1,.str (Txt.partition z y).2.1,.str (Txt.partition z y).2.2])->Q (.ref l) H'
theorem mt_part:MtR X "str.partition" rPart:=by
 intro l s n H x z v A Q I o p h;obtain⟨x,y,rfl,rfl,w,B,q⟩:=h;obtain⟨t,rfl⟩:=o;obtain⟨_,rfl,u,rfl⟩:=p.one;have m:=I.hok.fresh (Qj _);have d:∀(a b c:Str) (f g j:Tok) (k:Nat),Txt.partition x y=(a,b,c)->EP X l n Q (.ref s.heap.objs.size) { s with toks:=k,heap:=s.heap.push { cls:=.type "tuple",data:=.seq [.str a f,.str b g,.str c j].toArray } }:=λa b c f g j k e=>by
   rw[e] at q;refine⟨.ref s.heap.objs.size,upd H s.heap.objs.size (.tup [.str a,.str b,.str c]),I.laid (t':=k) (λb u e=>Qc _ e) (Qj _) ?_,rfl,q _ _ (Same.upd m) m za4⟩;exact⟨(by show 3<=sizeLine;decide),_,.cons ⟨f,rfl⟩ (.cons ⟨g,rfl⟩ (.cons ⟨j,rfl⟩ .nil)),⟨_,Qm _ rfl,rfl,rfl,_,rfl⟩⟩
 refine ZI F.slot_str_partition (typeIs_str _ _ _) F.entry_str_partition (F.args_str_partition_2 _ _) (meets_str_partition x y t u w (by rw[show sizeLine=16777216 by decide];omega)) ?_;show EP X l n Q _ _;unfold Txt.partition at d;revert d;cases Builtin.Str.occurrences x y 0 x.length 1 with
 | nil=>exact λd=>d _ _ _ _ _ _ _ rfl
 | cons i r=>exact λd=>d _ _ _ _ _ _ _ rfl
end
open Builtin.Str StrLaws
theorem yc2 (s sub:Str)(c:Nat):∀(l:List Nat) (b:Array Nat×Nat),¬ b.fst.size<1->(forIn l b (occBody s sub c 1)).run.fst=b.fst
 | [],b,h=>rfl
 | a::l,b,h=>by
   rw[List.forIn_cons];unfold occBody;rw[Qh λz=>h z.1.1.1];exact yc2 s sub c l _ h
theorem occ_at (s sub:Str)(b:Nat):∀(k a n free:Nat),free<=a->k<n->(∀j,j<k->¬ (a+j+sub.length<=b/\subAt s sub (a+j)=true))->(a+k+sub.length<=b/\subAt s sub (a+k)=true) →
   (forIn (List.range' a n) ((#[]:Array Nat),free) (occBody s sub b 1)).run.fst = #[a+k]:=by
 intro k
 induction k with
 | zero =>
   intro a n free d f _ c;obtain⟨n,rfl⟩:∃m,n=m+1:=⟨n-1,by omega⟩;rw[List.range'_succ,List.forIn_cons];unfold occBody;rw[Qo ⟨⟨⟨by simp,d⟩,c.1⟩,c.2⟩];exact yc2 s sub b _ _ (by simp)
 | succ k g =>
   intro a n free d f e c;obtain⟨n,rfl⟩:∃m,n=m+1:=⟨n-1,by omega⟩;rw[List.range'_succ,List.forIn_cons];unfold occBody;have h:=e 0 (by omega);rw[Qh λz=>h ⟨z.1.2,z.2⟩];have:=g (a+1) n free (by omega) (by omega) (λj i=>by rw[show a+1+j=a+(j+1) by omega];exact e (j+1) (by omega)) (by rw[show a+1+k=a+(k+1) by omega];exact c);rw[show a+1+k=a+(k+1) by omega] at this;exact this
theorem part_at {a b:Str}{c:Nat}(h:c∉a.cps.toList):Txt.partition (a++⟨#[c]⟩++b) ⟨#[c]⟩=(a,⟨#[c]⟩,b):=by
 have d:a.length=a.cps.toList.length:=by simp[Str.length]
 have e:(a++⟨#[c]⟩++b).cps.toList=a.cps.toList++c::b.cps.toList:=by rw[zj9,zj9];simp
 have f:(a++⟨#[c]⟩++b).length=a.length+1+b.length:=by rw[zd4,zd4];rfl
 have g:∀i,(i+(⟨#[c]⟩:Str).length<=(a++⟨#[c]⟩++b).length/\subAt (a++⟨#[c]⟩++b) ⟨#[c]⟩ i=true)↔(a.cps.toList++c::b.cps.toList)[i]?=some c:=λi=>by
   rw[StrLaws.subAt_one,e]
 have l:occurrences (a++⟨#[c]⟩++b) ⟨#[c]⟩ 0 (a++⟨#[c]⟩++b).length 1=[a.length]:=by
   have m:∀j,j<a.length->¬ (0+j+(⟨#[c]⟩:Str).length<=(a++⟨#[c]⟩++b).length/\subAt (a++⟨#[c]⟩++b) ⟨#[c]⟩ (0+j)=true):=λj q=>by
     rw[Nat.zero_add,g,Zj (by omega)];intro z;exact h (Qt z)
   have n:0+a.length+(⟨#[c]⟩:Str).length<=(a++⟨#[c]⟩++b).length/\subAt (a++⟨#[c]⟩++b) ⟨#[c]⟩ (0+a.length)=true:=by
     rw[Nat.zero_add,g,QG (by omega),d,Nat.sub_self];rfl
   rw[occ_eq,occ_at _ _ _ a.length 0 _ 0 (Qj _) (by rw[f];omega) m n,Nat.zero_add]
 unfold Txt.partition;rw[l];show(strSub _ 0 a.length,_,strSub _ (a.length+1) _)=_;refine Prod.ext (zp0 ?_) (Prod.ext rfl (zp0 ?_))
 . show((a++⟨#[c]⟩++b).cps.extract 0 a.length).toList=_
   rw[Array.toList_extract,e,d];simp
 . show((a++⟨#[c]⟩++b).cps.extract (a.length+1) (a++⟨#[c]⟩++b).length).toList=_
   rw[Array.toList_extract,e,f,d,List.extract_eq_take_drop];have k:a.cps.toList.length+1=(a.cps.toList++[c]).length:=by simp
   have o:a.cps.toList++c::b.cps.toList=(a.cps.toList++[c])++b.cps.toList:=by simp
   have p:b.length=b.cps.toList.length:=by simp[Str.length]
   rw[o,k,List.drop_left,p,<-k,show a.cps.toList.length+1+b.cps.toList.length-(a.cps.toList.length+1)=b.cps.toList.length by omega,QR]
section
variable {X:Cx}
end
end L2
namespace Sx
open PySem PySem.W PySem.Calls PyProof.Rows
section
variable {prog:Program} {w:World} {A:Around} {E:VP} {s:Shared} {d it v:Addr} {es:Array DictEntry} {ep i:Nat}
end
end Sx
namespace L2
open PySem PySem.Spec PyProof.Rows
section
variable {X:Cx}
end
section
variable {M:Model} {A:Around} {E:VP}
end
section
variable {X:Cx} {pins:List (Addr×Obj)} {σ:St} {H:Hp} {s:Shared}
end
section
variable {X:Cx} {scope:Scope} {N':List Str} {ix:List (Option Nat)} {tg iter elt:Expr} {ifs:List Expr} {pos:Pos} {wi:TI} {g:TG} {tif:TT} {telt:TE}
end
theorem Room.m {j k:Nat}{A:Around}(r:Room k A)(h:j<=k:=by decide):Room j A:=r.mono h
structure Df (K:W.Frag)(mg:Str->Option Value)(x:Str)(ps:List Str)(st:Stmt)(f:Addr)(fd:FuncData):Prop where
 F:Fun K x x st f fd
 b:zk9 K fd ps []
 m:mg x=some (.ref f)
structure Dm (K:W.Frag)(x q:Str)(ps:List Str)(st:Stmt)(f:Addr)(fd:FuncData):Prop where
 F:Fun K x q st f fd
 b:zk9 K fd ps []
section
variable {K:W.Frag} {mg:Str->Option Value} {x q:Str} {ps:List Str} {st:Stmt} {f:Addr} {oc:Value} {od an:Option Addr} {osl:Array (Option Value)} {kV doc pm cdv ct:Value}
theorem dm_mk (l:K.lookup f=some ⟨oc,od,.func (W.fnOf x q (zh6 st) (zd2 st) (za7 st) .none kV doc pm an cdv ct),osl⟩)(c:W.codeIn K cdv q=true)(k:W.keepIn K (.ref f)=true)
   (b:∀(kV doc pm:Value) (an:Option Addr) (cdv ct:Value) (a:List Value),a.length=ps.length->bindArgs (W.fnOf x q (zh6 st) (zd2 st) (za7 st) .none kV doc pm an cdv ct) ⟨a,[]⟩=pure (ps.zip a)):∃d,Dm K x q ps st f d :=
 ⟨_,zO1 l c k,(zO1 l c k).binds b⟩
theorem df_mk {h:Heap}(X:K.In h)(G:h.Ns mainGlobals mg)(a:W.nsIn K mainGlobals x=some (some (.ref f)))(l:K.lookup f=some ⟨oc,od,.func (W.fnOf x x (zh6 st) (zd2 st) (za7 st) .none kV doc pm an cdv ct),osl⟩)(c:W.codeIn K cdv x=true)(k:W.keepIn K (.ref f)=true)
   (d:∀(kV doc pm:Value) (an:Option Addr) (cdv ct:Value) (b:List Value),b.length=ps.length->bindArgs (W.fnOf x x (zh6 st) (zd2 st) (za7 st) .none kV doc pm an cdv ct) ⟨b,[]⟩=pure (ps.zip b)):∃e,Df K mg x ps st f e :=
 ⟨_,zO1 l c k,(zO1 l c k).binds d,W.mg_of X G a⟩
end
section
variable {X:Cx} {CX:CXT} {E:XK} {x:Str} {f:Addr} {fd:FuncData} {k:Nat} {ps:List Str} {sp:Sp} {st:Stmt} {t:TA} {e:Expr} {es:List Expr} {p pos:Pos}
theorem za6 (F:FnOk X.prog X.w X.K X.mg X.base CX k f fd ps sp) (c:Room k X.A) (D:Df X.K X.mg x ps st f fd) (d:zo5 CX X E) (g:PA X (e::es) t) (h:Gl X x:=by rfl) (a:(x == ("__debug__" : Str))=false:=by decide)
   (i:starEach (e::es) X.env=(false,eval e X.env)::starEach es X.env:=by rfl) (b:(backTo pos (starEach es X.env)).any (·.1)=false:=by rfl):PE X (.Call (.Name x p) (e::es) [] pos) (yl4 sp [] E t) :=
 yf7 F c h D.m D.F.kp D.b .nil d g a i b
theorem pe_callSD {Ex:_} (F:FnOk X.prog X.w X.K X.mg X.base CX k f fd ps sp) (c:Room k X.A) (D:Df X.K X.mg x ps st f fd) (d:zG1 CX X Ex) (g:PA X (e::es) t) (h:Gl X x:=by rfl) (a:(x == ("__debug__" : Str))=false:=by decide)
   (i:starEach (e::es) X.env=(false,eval e X.env)::starEach es X.env:=by rfl) (b:(backTo pos (starEach es X.env)).any (·.1)=false:=by rfl):PE X (.Call (.Name x p) (e::es) [] pos) (ym8 sp [] Ex t) :=
 pe_callS F c h D.m D.F.kp D.b .nil d g a i b
end
end L2
namespace Bt
open PySem L2
abbrev Pa:List Str:=["beam","standing"]
abbrev Pb:List Str:=["text"]
abbrev Pc:List Str:=["_law_script"]
abbrev Pd:List Str:=["move"]
abbrev Pe:List Str:=["self","reason"]
abbrev Pf:List Str:=["row"]
abbrev Pg:List Str:=["self"]
abbrev Ph:List Str:=["beam","start","goal"]
abbrev Pi:List Str:=["play","row"]
abbrev Pj:List Str:=["_law_hefts","_law_spots"]
abbrev Pk:List Str:=["_law_scale","_law_spots"]
abbrev Pl:List Str:=["_law_found","_law_due"]
abbrev Pm:List Str:=["beam","places","weight","taken","put"]
abbrev Pn:List Str:=["places","weight","taken"]
abbrev Po:List Str:=["self","move"]
abbrev Pp:List Str:=["place"]
abbrev Pq:List Str:=["_law_place"]
abbrev Pr:List Str:=["_law_spots"]
abbrev Ps:List Str:=["_law_move"]
abbrev Pt:List Str:=["self","reason","word"]
abbrev Pu:List Str:=["self","notches","room","hefts","limit"]
abbrev Pv:List Str:=["number","low","high"]
abbrev Pw:List Str:=["notches","room","limit"]
abbrev Px:List Str:=["beam","tipped"]
abbrev Py:List Str:=["beam","standing","move"]
abbrev Pz:List Str:=["places","move"]
abbrev PD:List Str:=["beam","places","place"]
abbrev PH:List Str:=["beam","places","taken","put"]
abbrev PK:List Str:=["beam","held","added"]
abbrev PP:List Str:=["self","reached","many","row","layers","again","shut"]
abbrev PQ:List Str:=["self","goal"]
abbrev PR:List Str:=["play","word","rest"]
abbrev PU:List Str:=["_law_script","_law_k"]
abbrev PV:List Str:=["_law_found"]
abbrev PX:List Str:=["_law_scale"]
abbrev PY:List Str:=["_law_scale","_law_first","_law_last","_law_found"]
abbrev PZ:List Str:=["_law_play","_law_move"]
abbrev Vd:List Str:=["_law_play"]
abbrev Ve:List Str:=["_law_play","_law_spots","_law_made"]
abbrev Vf:List Str:=["notches","weights"]
abbrev Vg:List Str:=["beam","standing","places"]
abbrev Vh:List Str:=["beam","standing","weight"]
abbrev Vi:List Str:=["beam","places","weight"]
abbrev Vj:List Str:=["beam","layer","led"]
abbrev Vl:List Str:=["goal","led"]
abbrev Vm:List Str:=["self","beam","start"]
abbrev Vn:List Str:=["text","rows","notches","room","limit","weights","beam"]
abbrev Vo:List Str:=["front","row","many"]
abbrev Vp:List Str:=["text","rows"]
abbrev Vq:List Str:=["_law_cell","_law_count","_law_base","_law_mix"]
abbrev Vr:List Str:=["_law_script","_law_k","_law_more","_law_shape_here"]
abbrev Vs:List Str:=["_law_script","_law_low"]
abbrev Vt:List Str:=["_law_scale","_law_spots","_law_move"]
abbrev Vu:List Str:=["_law_found","_law_count"]
abbrev Vv:List Str:=["_law_scale","_law_spots","_law_row"]
abbrev Vw:List Str:=["_law_scale","_law_spots","_law_cell"]
abbrev VA:List Str:=["_law_script","_law_scale","_law_first"]
abbrev VB:List Str:=["_law_scale","_law_met","_law_made"]
abbrev VC:List Str:=["_law_scale","_law_met","_law_made","_law_asked","_law_due","_law_found","_law_k"]
abbrev VD:List Str:=["beam","standing","places","told","weight"]
abbrev VE:List Str:=["beam","places","weight","held","lies","heft"]
abbrev VF:List Str:=["_law_script","_law_cell","_law_notches","_law_count","_law_room","_law_mode","_law_hefts"]
abbrev VG:List Str:=["_law_scale","_law_spots","_law_notches","_law_room","_law_hefts","_law_limit_here","_law_total","_law_free","_law_made","_law_k","_law_lifted","_law_place"]
abbrev VH:List Str:=["_law_scale","_law_spots","_law_cell","_law_near_here","_law_behind","_law_moved_one"]
noncomputable def top (i:Nat):Stmt:=PySem.Challenge.pw_beamtender_k24_play_full.main.body.getD i (.Pass ⟨0,0,0,0⟩)
noncomputable abbrev ze5:Stmt:=zo9 (top 1) 0
noncomputable abbrev zf2:Stmt:=zo9 (top 15) 0
noncomputable abbrev zf3:Stmt:=zo9 (top 5) 0
noncomputable abbrev zz6:Stmt:=zo9 (top 23) 0
noncomputable abbrev zJ8:Stmt:=top 24
noncomputable abbrev zr8:Stmt:=top 25
noncomputable abbrev zt9:Stmt:=top 26
noncomputable abbrev zo1:Stmt:=top 27
noncomputable abbrev zu0:Stmt:=top 29
noncomputable abbrev zP7:Stmt:=top 31
noncomputable abbrev ye0:Stmt:=top 32
noncomputable abbrev ye1:Stmt:=top 33
noncomputable abbrev zZ1:Stmt:=top 34
noncomputable abbrev zJ9:Stmt:=top 35
noncomputable abbrev zZ2:Stmt:=top 37
noncomputable abbrev zG9:Stmt:=top 38
noncomputable abbrev zP8:Stmt:=top 39
noncomputable abbrev zP9:Stmt:=top 40
noncomputable abbrev ye2:Stmt:=top 41
noncomputable abbrev zx2:Stmt:=top 42
noncomputable abbrev zr9:Stmt:=top 43
noncomputable abbrev zz7:Stmt:=top 44
noncomputable abbrev zu1:Stmt:=top 45
noncomputable abbrev zQ0:Stmt:=top 46
noncomputable abbrev zF1:Stmt:=zo9 (top 48) 0
noncomputable abbrev zQ1:Stmt:=top 49
noncomputable abbrev zQ2:Stmt:=top 53
noncomputable abbrev zx3:Stmt:=top 54
noncomputable abbrev zQ3:Stmt:=top 55
noncomputable abbrev zi6:Stmt:=top 56
noncomputable abbrev zz8:Stmt:=zo9 (top 65) 0
noncomputable abbrev zz9:Stmt:=zo9 (top 65) 1
noncomputable abbrev zA0:Stmt:=zo9 (top 65) 2
noncomputable abbrev zx4:Stmt:=zo9 (top 65) 3
noncomputable abbrev zu2:Stmt:=zo9 (top 65) 4
noncomputable abbrev zj2:Stmt:=top 69
noncomputable abbrev zx5:Stmt:=top 71
noncomputable abbrev zA1:Stmt:=top 72
noncomputable abbrev zi3:Stmt:=top 73
noncomputable abbrev zu3:Stmt:=top 74
noncomputable abbrev zs0:Stmt:=top 75
noncomputable abbrev zu4:Stmt:=top 77
noncomputable abbrev zx6:Stmt:=top 78
noncomputable abbrev zu5:Stmt:=top 79
noncomputable abbrev zq3:Stmt:=top 80
noncomputable abbrev zK0:Stmt:=top 82
noncomputable abbrev zQ4:Stmt:=top 83
noncomputable abbrev zx7:Stmt:=top 84
noncomputable abbrev zs1:Stmt:=top 85
noncomputable abbrev zA2:Stmt:=top 86
noncomputable abbrev ye3:Stmt:=top 92
noncomputable abbrev zK1:Stmt:=top 93
noncomputable abbrev zQ5:Stmt:=top 94
noncomputable abbrev zv5:Stmt:=top 95
noncomputable abbrev zZ3:Stmt:=top 96
noncomputable abbrev zQ6:Stmt:=top 97
noncomputable abbrev zK2:Stmt:=top 98
noncomputable abbrev zQ7:Stmt:=top 99
noncomputable abbrev zQ8:Stmt:=top 100
noncomputable abbrev zQ9:Stmt:=top 101
noncomputable abbrev zA3:Stmt:=top 102
noncomputable abbrev zx8:Stmt:=top 103
noncomputable abbrev zR0:Stmt:=top 104
noncomputable abbrev zu6:Stmt:=top 105
noncomputable abbrev zR1:Stmt:=top 106
noncomputable abbrev zR2:Stmt:=top 107
noncomputable abbrev zZ4:Stmt:=top 108
noncomputable abbrev zZ5:Stmt:=top 109
noncomputable abbrev zR3:Stmt:=top 110
noncomputable abbrev zA4:Stmt:=top 111
noncomputable abbrev zu7:Stmt:=top 112
noncomputable abbrev zR4:Stmt:=top 113
noncomputable abbrev zA5:Stmt:=top 114
noncomputable abbrev zR5:Stmt:=top 115
noncomputable abbrev zA6:Stmt:=top 116
noncomputable abbrev zR6:Stmt:=top 117
noncomputable abbrev zR7:Stmt:=top 118
noncomputable abbrev zs2:Stmt:=top 119
noncomputable abbrev zV5:Stmt:=top 120
theorem sc_BeamError_init:zb6 Pt Pt (za7 ze5):={}
theorem sc_PlayFull_init:zb6 Pe Pe (za7 zf2):={}
theorem sc_NoWeight_init:zb6 Pe Pe (za7 zf3):={}
theorem sc_Beam_init:zb6 Pu Pu (za7 zz6):={}
theorem sc_outside:zb6 Pv Pv (za7 zJ8):={}
theorem sc_check_bounds:zb6 Pw Pw (za7 zr8):={}
theorem zA7:zb6 ["hefts","heft"] ["hefts"] (za7 zt9):={}
theorem zk1:zb6 ["notches","weights","many","weight"] Vf (za7 zo1):={}
theorem zs3:zb6 ["beam","standing","places","place"] Pa (za7 zu0):={}
theorem yi9:zb6 Vg Pa (za7 zP7):={}
theorem zK3:zd8 Vg (za7 zP7) (zj0 (zG0 (stE (stAt (zd2 zP7) 1)) 0)) ["heft","place"] [none,none]:=⟨rfl,by decide +kernel,by decide +kernel,by decide +kernel,rfl,by decide +kernel,by decide +kernel⟩
theorem yj0:zb6 ["beam","standing","tipped"] Pa (za7 ye0):={}
theorem sc_past:zb6 Px Px (za7 ye1):={}
theorem sc_keeps:zb6 Pa Pa (za7 zZ1):={}
theorem zR8:zb6 ["beam","standing","weight","places"] Vh (za7 zJ9):={}
theorem zH0:zb6 ["beam","standing","move","places"] Py (za7 zZ2):={}
theorem zH1:zb6 VD Pa (za7 zG9):={}
theorem zR9:zd8 VD (za7 zG9) (zj0 (zG0 (stE (stAt (stBody (stAt (zd2 zG9) 2)) 0)) 0)) ["put","weight","places"] [none,some 4,some 2]:=⟨rfl,by decide +kernel,by decide +kernel,by decide +kernel,rfl,by decide +kernel,by decide +kernel⟩
theorem sc_turned:zb6 Pd Pd (za7 zP8):={}
theorem sc_behind:zb6 Pz Pz (za7 zP9):={}
theorem sc_full:zb6 PD PD (za7 ye2):={}
theorem zE2:zb6 Pm Pm (za7 zx2):={}
theorem zy5:zb6 Pn Pn (za7 zr9):={}
theorem sc_check_put:zb6 PH PH (za7 zz7):={}
theorem sc_check_tilts:zb6 PK PK (za7 zu1):={}
theorem zN0:zb6 VE Vi (za7 zQ0):={}
theorem zV6:zd8 VE (za7 zQ0) (zj0 (stE (stAt (zd2 zQ0) 4))) ["put","lies","beam","places","held","heft"] [none,some 4,some 0,some 1,some 3,some 5]:=⟨rfl,by decide +kernel,by decide +kernel,by decide +kernel,rfl,by decide +kernel,by decide +kernel⟩
theorem sc_Way_init:zb6 PP PP (za7 zF1):={}
theorem zK4:zb6 ["beam","start","goal","first","last"] Ph (za7 zQ1):={}
theorem zv6:zb6 ["beam","start","goal","layers","led","layer","row"] Ph (za7 zQ2):={}
theorem zm5:zb6 ["beam","layer","led","found","standing","move","reached"] Vj (za7 zx3):={}
theorem zC2:zb6 ["goal","led","row","standing"] Vl (za7 zQ3):={}
theorem zA8:zb6 ["row","weights"] Pf (za7 zi6):={}
theorem zv7:zd8 ["row","weights"] (za7 zi6) (zj0 (stE (stAt (zd2 zi6) 0))) Pd [none]:=⟨rfl,by decide +kernel,by decide +kernel,by decide +kernel,rfl,by decide +kernel,by decide +kernel⟩
theorem zv8:zd8 ["row","weights"] (za7 zi6) (zj0 (zG0 (zG0 (stE (stAt (zd2 zi6) 1)) 0) 0)) ["weight","weights"] [none,some 1]:=⟨rfl,by decide +kernel,by decide +kernel,by decide +kernel,rfl,by decide +kernel,by decide +kernel⟩
theorem zH2:zb6 ["self","beam","start","first"] Vm (za7 zz8):={}
theorem zH3:zb6 Po Po (za7 zz9):={}
theorem zH4:zb6 ["self","last"] Pg (za7 zA0):={}
theorem sc_Play_trail:zb6 Pg Pg (za7 zx4):={}
theorem sc_Play_fewest:zb6 PQ PQ (za7 zu2):={}
theorem zt2:zb6 Vg Pa (za7 zj2):={}
theorem zq7:zd8 Vg (za7 zj2) (zj0 (zG0 (stE (stAt (zd2 zj2) 2)) 0)) Pp [none]:=⟨rfl,by decide +kernel,by decide +kernel,by decide +kernel,rfl,by decide +kernel,by decide +kernel⟩
theorem sc_write_move:zb6 Pd Pd (za7 zx5):={}
theorem zH5:zb6 ["text","words"] Pb (za7 zA1):={}
theorem zk2:zb6 Vn Pb (za7 zi3):={}
theorem zA9:zd8 Vn (za7 zi3) (zj0 (stE (stAt (zd2 zi3) 5))) Pf [none]:=⟨rfl,by decide +kernel,by decide +kernel,by decide +kernel,rfl,by decide +kernel,by decide +kernel⟩
theorem zB0:zd8 Vn (za7 zi3) (zj0 (zG0 (stE (stAt (zd2 zi3) 6)) 2)) ["weight"] [none]:=⟨rfl,by decide +kernel,by decide +kernel,by decide +kernel,rfl,by decide +kernel,by decide +kernel⟩
theorem zB1:zd8 Vn (za7 zi3) (zj0 (zG0 (exElt (stE (stAt (zd2 zi3) 7)) 1) 1)) ["weight"] [none]:=⟨rfl,by decide +kernel,by decide +kernel,by decide +kernel,rfl,by decide +kernel,by decide +kernel⟩
theorem zB2:zb6 ["row","words"] Pf (za7 zu3):={}
theorem zy6:zb6 ["front","row","many","words"] Vo (za7 zs0):={}
theorem sc_write_place:zb6 Pp Pp (za7 zu4):={}
theorem zu8:zb6 ["text","left","size"] Pb (za7 zx6):={}
theorem sc_read_number:zb6 Pb Pb (za7 zu5):={}
theorem sc_is_number:zb6 Pb Pb (za7 zq3):={}
theorem zB3:zd8 Pb (za7 zq3) (zj0 (zG0 (stE (stAt (zd2 zq3) 2)) 0)) ["sign"] [none]:=⟨rfl,by decide +kernel,by decide +kernel,by decide +kernel,rfl,by decide +kernel,by decide +kernel⟩
theorem zs4:zb6 ["text","rows","placed","play","told","row"] Vp (za7 zK0):={}
theorem zV7:zb6 ["play","row","e"] Pi (za7 zQ4):={}
theorem zE3:zb6 ["play","row","parts"] Pi (za7 zx7):={}
theorem sc_answer_words:zb6 PR PR (za7 zs1):={}
theorem sc_tell_tilt:zb6 ["play"] ["play"] (za7 zA2):={}
theorem sc_w_at:zb6 PU PU (za7 ye3):={}
theorem sc_w_whole:zb6 PV PV (za7 zK1):={}
theorem zo8:zb6 ["_law_cell","_law_count","_law_base","_law_mix","_law_made","_law_rest","_law_k"] Vq (za7 zQ5):={}
theorem zk3:zb6 VF Pc (za7 zv5):={}
theorem zH6:zd8 VF (za7 zv5) (zj0 (stE (stAt (zd2 zv5) 5))) ["_law_x"] [none]:=⟨rfl,by decide +kernel,by decide +kernel,by decide +kernel,rfl,by decide +kernel,by decide +kernel⟩
theorem zl7:zb6 ["_law_script","_law_k","_law_more","_law_shape_here","_law_notches","_law_room","_law_hefts","_law_mix","_law_cell","_law_made","_law_x","_law_place"] Vr (za7 zZ3):={}
theorem zC3:zb6 ["_law_hefts","_law_spots","_law_total","_law_k"] Pj (za7 zQ6):={}
theorem zF2:zb6 ["_law_script","_law_low","_law_cell","_law_kind"] Vs (za7 zK2):={}
theorem zK5:zb6 ["_law_cell","_law_more","_law_start"] ["_law_cell"] (za7 zQ7):={}
theorem zg4:zb6 ["_law_script","_law_shape_here","_law_notches","_law_room","_law_hefts","_law_first","_law_last","_law_craft","_law_notch","_law_low"] Pc (za7 zQ8):={}
theorem zm0:zb6 ["_law_scale","_law_spots","_law_move","_law_notches","_law_room","_law_hefts","_law_limit_here","_law_weight","_law_source","_law_target","_law_lifted"] Vt (za7 zQ9):={}
theorem zj3:zb6 VG Pk (za7 zA3):={}
theorem zL7:zd8 VG (za7 zA3) (zj0 (stE (stAt (zd2 zA3) 2))) ["_law_x","_law_room","_law_spots"] [none,some 3,some 1]:=⟨rfl,by decide +kernel,by decide +kernel,by decide +kernel,rfl,by decide +kernel,by decide +kernel⟩
theorem zE4:zb6 ["_law_found","_law_count","_law_place"] Vu (za7 zx8):={}
theorem zV8:zb6 ["_law_found","_law_due","_law_k"] Pl (za7 zR0):={}
theorem zB4:zb6 ["_law_found","_law_due","_law_k"] Pl (za7 zu6):={}
theorem zC4:zb6 ["_law_scale","_law_spots","_law_row","_law_now","_law_move"] Vv (za7 zR1):={}
theorem sc_w_beam:zb6 PX PX (za7 zR2):={}
theorem sc_w_way:zb6 PY PY (za7 zZ4):={}
theorem sc_w_say:zb6 Pq Pq (za7 zZ5):={}
theorem zC5:zb6 ["_law_scale","_law_spots","_law_text_here","_law_k"] Pk (za7 zR3):={}
theorem sc_w_goal:zb6 Pr Pr (za7 zA4):={}
theorem zL8:zd8 Pr (za7 zA4) (zj0 (zG0 (stE (stAt (zd2 zA4) 1)) 0)) Pq [none]:=⟨rfl,by decide +kernel,by decide +kernel,by decide +kernel,rfl,by decide +kernel,by decide +kernel⟩
theorem sc_w_move_text:zb6 Ps Ps (za7 zu7):={}
theorem zC6:zb6 ["_law_hefts","_law_spots","_law_amount","_law_word"] Pj (za7 zR4):={}
theorem zC7:zb6 VH Vw (za7 zA5):={}
theorem zL9:zd8 VH (za7 zA5) (zj0 (exOf (stE (stAt (zd2 zA5) 3)))) ["_law_k","_law_behind","_law_spots"] [none,some 4,some 1]:=⟨rfl,by decide +kernel,by decide +kernel,by decide +kernel,rfl,by decide +kernel,by decide +kernel⟩
theorem sc_w_full:zb6 PZ PZ (za7 zR5):={}
theorem sc_w_refused:zb6 Vd Vd (za7 zA6):={}
theorem sc_w_fits:zb6 Ve Ve (za7 zR6):={}
theorem zn6:zb6 ["_law_script","_law_scale","_law_first","_law_met","_law_made","_law_rest","_law_cells","_law_k","_law_move"] VA (za7 zR7):={}
theorem zr4:zb6 VC VB (za7 zs2):={}
theorem zM0:zd8 VC (za7 zs2) (zj0 (stE (stAt (zd2 zs2) 0))) Ps [none]:=⟨rfl,by decide +kernel,by decide +kernel,by decide +kernel,rfl,by decide +kernel,by decide +kernel⟩
theorem zM1:zd8 VC (za7 zs2) (zj0 (stE (stAt (zd2 zs2) 1))) ["_law_spots","_law_scale"] [none,some 0]:=⟨rfl,by decide +kernel,by decide +kernel,by decide +kernel,rfl,by decide +kernel,by decide +kernel⟩
theorem zn5:zb6 ["_law_script","_law_scale","_law_first","_law_last","_law_play","_law_met","_law_made","_law_k","_law_found","_law_more","_law_move","_law_way_here"] Pc (za7 zV5):={}
set_option genInjectivity false in
set_option genSizeOf false in
structure Adr where
 ah:Addr
 ai:FuncData
 ae:Addr
 aj:FuncData
 af:Addr
 ak:FuncData
 ax:Addr
 bf:FuncData
 bz:Addr
 bA:FuncData
 aE:Addr
 aF:FuncData
 aK:Addr
 aL:FuncData
 av:Addr
 aw:FuncData
 aM:Addr
 aN:FuncData
 cJ:Addr
 cK:FuncData
 cL:Addr
 cM:FuncData
 cN:Addr
 cO:FuncData
 cw:Addr
 cx:FuncData
 bB:Addr
 bC:FuncData
 bu:Addr
 bv:FuncData
 cy:Addr
 cz:FuncData
 bL:Addr
 bM:FuncData
 bN:Addr
 bO:FuncData
 cP:Addr
 cQ:FuncData
 aq:Addr
 ar:FuncData
 an:Addr
 ao:FuncData
 bg:Addr
 bh:FuncData
 aO:Addr
 aP:FuncData
 cR:Addr
 cS:FuncData
 aD:Addr
 bw:FuncData
 a3:Addr
 bP:FuncData
 bQ:Addr
 bR:FuncData
 a4:Addr
 a5:FuncData
 bS:Addr
 bT:FuncData
 aQ:Addr
 aR:FuncData
 ay:Addr
 bi:FuncData
 al:Addr
 az:FuncData
 aA:Addr
 bj:FuncData
 au:Addr
 a6:FuncData
 ap:Addr
 aS:FuncData
 aB:Addr
 aC:FuncData
 a7:Addr
 a8:FuncData
 bk:Addr
 bl:FuncData
 bm:Addr
 bn:FuncData
 aT:Addr
 aU:FuncData
 aG:Addr
 aH:FuncData
 aV:Addr
 aW:FuncData
 a9:Addr
 ba:FuncData
 aX:Addr
 aY:FuncData
 bo:Addr
 bp:FuncData
 bD:Addr
 bE:FuncData
 bU:Addr
 bV:FuncData
 bb:Addr
 bc:FuncData
 aI:Addr
 aJ:FuncData
 bq:Addr
 br:FuncData
 cT:Addr
 cU:FuncData
 bF:Addr
 bG:FuncData
 bW:Addr
 bX:FuncData
 bH:Addr
 bI:FuncData
 cA:Addr
 cB:FuncData
 bY:Addr
 bZ:FuncData
 bJ:Addr
 bK:FuncData
 b0:Addr
 b1:FuncData
 b2:Addr
 b3:FuncData
 b4:Addr
 b5:FuncData
 b6:Addr
 b7:FuncData
 bd:Addr
 be:FuncData
 b8:Addr
 b9:FuncData
 aZ:Addr
 a0:FuncData
 ca:Addr
 cb:FuncData
 cc:Addr
 cd:FuncData
 cC:Addr
 cD:FuncData
 cE:Addr
 cF:FuncData
 ce:Addr
 cf:FuncData
 cg:Addr
 ch:FuncData
 a1:Addr
 a2:FuncData
 ci:Addr
 cj:FuncData
 ck:Addr
 cl:FuncData
 cm:Addr
 cn:FuncData
 bs:Addr
 bt:FuncData
 co:Addr
 cp:FuncData
 cq:Addr
 cr:FuncData
 cs:Addr
 ct:FuncData
 bx:Addr
 cv:FuncData
 ag:Addr
 ad:Addr
 aa:Addr
 ab:Addr
 ac:Addr
 am:Addr
 cG:Tok
 cX:Tok
 cV:Tok
 cH:Tok
 cY:Tok
 cu:Tok
 cW:Tok
 cI:Tok
 cZ:Tok
structure Txt (K:W.Frag)(mg:Str->Option Value)(t:Adr):Prop where
 bM:FunD K "__init__" "BeamError.__init__" ze5 t.ah t.ai
 aW:zk9 K t.ai Pt []
 cH:W.keepIn K (.ref t.ah)=true
 b4:FunD K "__init__" "PlayFull.__init__" zf2 t.ae t.aj
 a0:zk9 K t.aj Pe []
 cI:W.keepIn K (.ref t.ae)=true
 b5:FunD K "__init__" "NoWeight.__init__" zf3 t.af t.ak
 b6:zk9 K t.ak Pe []
 cJ:W.keepIn K (.ref t.af)=true
 aS:Dm K "__init__" "Beam.__init__" Pu zz6 t.ax t.bf
 am:Df K mg "outside" Pv zJ8 t.bz t.bA
 a4:Df K mg "check_bounds" Pw zr8 t.aE t.aF
 a9:Df K mg "check_hefts" ["hefts"] zt9 t.aK t.aL
 aR:Df K mg "check_standings" Vf zo1 t.av t.aw
 af:Df K mg "as_standing" Pa zu0 t.aM t.aN
 a1:Df K mg "tilt" Pa zP7 t.cJ t.cK
 cl:Df K mg "side" Pa ye0 t.cL t.cM
 aP:Df K mg "past" Px ye1 t.cN t.cO
 a5:Df K mg "keeps" Pa zZ1 t.cw t.cx
 a8:Df K mg "in_hand" Vh zJ9 t.bB t.bC
 a6:Df K mg "moved" Py zZ2 t.bu t.bv
 ca:Df K mg "moves" Pa zG9 t.cy t.cz
 bf:Df K mg "turned" Pd zP8 t.bL t.bM
 aK:Df K mg "behind" Pz zP9 t.bN t.bO
 bG:Df K mg "full" PD ye2 t.cP t.cQ
 aB:Df K mg "check_move" Pm zx2 t.aq t.ar
 aw:Df K mg "check_weight" Pn zr9 t.an t.ao
 bq:Df K mg "check_put" PH zz7 t.bg t.bh
 ba:Df K mg "check_tilts" PK zu1 t.aO t.aP
 cm:Df K mg "puts" Vi zQ0 t.cR t.cS
 bA:Dm K "__init__" "Way.__init__" PP zF1 t.aD t.bw
 bg:Df K mg "fewest" Ph zQ1 t.a3 t.bP
 bN:Df K mg "search" Ph zQ2 t.bQ t.bR
 bh:Df K mg "next_layer" Vj zx3 t.a4 t.a5
 bO:Df K mg "row_to" Vl zQ3 t.bS t.bT
 bb:Df K mg "moved_again" Pf zi6 t.aQ t.aR
 aT:Dm K "__init__" "Play.__init__" Vm zz8 t.ay t.bi
 ap:Dm K "move" "Play.move" Po zz9 t.al t.az
 aU:Dm K "back" "Play.back" Pg zA0 t.aA t.bj
 bi:Dm K "trail" "Play.trail" Pg zx4 t.au t.a6
 bc:Dm K "fewest" "Play.fewest" PQ zu2 t.ap t.aS
 aX:Df K mg "write_standing" Pa zj2 t.aB t.aC
 bj:Df K mg "write_move" Pd zx5 t.a7 t.a8
 br:Df K mg "read_move" Pb zA1 t.bk t.bl
 bs:Df K mg "read_beam" Pb zi3 t.bm t.bn
 bd:Df K mg "read_weight" Pf zu3 t.aT t.aU
 ar:Df K mg "words_behind" Vo zs0 t.aG t.aH
 az:Df K mg "write_place" Pp zu4 t.aV t.aW
 aC:Df K mg "read_place" Pb zx6 t.a9 t.ba
 al:Df K mg "read_number" Pb zu5 t.aX t.aY
 bt:Df K mg "is_number" Pb zq3 t.bo t.bp
 bH:Df K mg "answers" Vp zK0 t.bD t.bE
 bP:Df K mg "answer" Pi zQ4 t.bU t.bV
 bk:Df K mg "answer_row" Pi zx7 t.bb t.bc
 a7:Df K mg "answer_words" PR zs1 t.aI t.aJ
 bu:Df K mg "tell_tilt" ["play"] zA2 t.bq t.br
 ao:Df K mg "_law_at" PU ye3 t.cT t.cU
 aI:Df K mg "_law_whole" PV zK1 t.bF t.bG
 bl:Df K mg "_law_figs" Vq zQ5 t.bW t.bX
 bI:Df K mg "_law_shape" Pc zv5 t.bH t.bI
 bx:Df K mg "_law_put" Vr zZ3 t.cA t.cB
 aD:Df K mg "_law_tilt" Pj zQ6 t.bY t.bZ
 bJ:Df K mg "_law_limit" Vs zK2 t.bJ t.bK
 bQ:Df K mg "_law_hard" ["_law_cell"] zQ7 t.b0 t.b1
 bR:Df K mg "_law_case" Pc zQ8 t.b2 t.b3
 bS:Df K mg "_law_lets" Vt zQ9 t.b4 t.b5
 bT:Df K mg "_law_near" Pk zA3 t.b6 t.b7
 bm:Df K mg "_law_is_spots" Vu zx8 t.bd t.be
 aE:Df K mg "_law_same" Pl zR0 t.b8 t.b9
 be:Df K mg "_law_same_rows" Pl zu6 t.aZ t.a0
 bU:Df K mg "_law_walk" Vv zR1 t.ca t.cb
 bV:Df K mg "_law_beam" PX zR2 t.cc t.cd
 cb:Df K mg "_law_way" PY zZ4 t.cC t.cD
 aQ:Df K mg "_law_say" Pq zZ5 t.cE t.cF
 bW:Df K mg "_law_text" Pk zR3 t.ce t.cf
 bX:Df K mg "_law_goal" Pr zA4 t.cg t.ch
 aN:Df K mg "_law_move_text" Ps zu7 t.a1 t.a2
 bY:Df K mg "_law_lean" Pj zR4 t.ci t.cj
 aY:Df K mg "_law_pick" Vw zA5 t.ck t.cl
 bn:Df K mg "_law_full" PZ zR5 t.cm t.cn
 bv:Df K mg "_law_refused" Vd zA6 t.bs t.bt
 aL:Df K mg "_law_fits" Ve zR6 t.co t.cp
 bZ:Df K mg "_law_long" VA zR7 t.cq t.cr
 b0:Df K mg "_law_desk" VB zs2 t.cs t.ct
 cC:Fun K "law" "law" zV5 t.bx t.cv
 cK:zk9 K t.cv Pc []
 cL:mg "law" = some (.ref t.bx)
 cM:W.keepIn K (.ref t.bx)=true
 ae:Cls K t.ag
 cn:mg "Beam" = some (.ref t.ag)
 cc:Mk K t.ag t.ax
 ag:zf6 K t.ag "notches"
 aF:zf6 K t.ag "room"
 aj:zf6 K t.ag "hefts"
 aO:zf6 K t.ag "limit"
 ah:Cls K t.ad
 cx:mg "Way" = some (.ref t.ad)
 cB:Mk K t.ad t.aD
 au:zf6 K t.ad "reached"
 ax:zf6 K t.ad "many"
 aA:zf6 K t.ad "row"
 ci:zf6 K t.ad "layers"
 co:zf6 K t.ad "again"
 cs:zf6 K t.ad "shut"
 aa:Cls K t.aa
 cp:mg "Play" = some (.ref t.aa)
 cd:Mk K t.aa t.ay
 an:zf6 K t.aa "beam"
 cj:zf6 K t.aa "start"
 ab:zf6 K t.aa "standing"
 ak:zf6 K t.aa "made"
 b7:mg "fewest_layers" = some (.ref t.a3)
 av:Meth K t.aa "move" t.al
 bo:Meth K t.aa "back" t.aA
 ck:Meth K t.aa "trail" t.au
 ce:Meth K t.aa "fewest" t.ap
 aG:W.findIn K (.ref t.ad) "__class__" = some (some (.builtin "object.__class__"))/\W.specialIn K (.builtin "object.__class__") "__get__" = some (some (.builtin "getset_descriptor.__get__"))/\W.takesIn K (.builtin "object.__class__")=some true/\W.mroIn K t.ad (.type "object")=some true
 a2:mg "PlayFull" = some (.ref t.ab)
 bB:mg "NoWeight" = some (.ref t.ac)
 aV:mg "BeamError" = some (.ref t.am)
 a3:XCls K t.ab
 bC:XCls K t.ac
 bD:W.findIn K (.ref t.ab) "__init__" = some (some (.ref t.ae))
 bw:W.isFn K (.ref t.ae)=true
 bK:zf6 K t.ab "reason"
 aZ:zf6 K t.ab "word"
 cy:W.findIn K (.ref t.ac) "__init__" = some (some (.ref t.af))
 ct:W.isFn K (.ref t.af)=true
 bL:zf6 K t.ac "reason"
 b1:zf6 K t.ac "word"
 cN:XWay K
 cu:XAsk K t.ab
 bz:W.exmOne K (.ref t.ab) (.ref t.am)=some true
 bE:W.exmOne K (.ref t.ab) (.ref t.ab)=some true
 cO:W.exmOne K (.ref t.ab) (.ref t.ac)=some false
 cP:XAsk K t.ac
 cQ:W.exmOne K (.ref t.ac) (.ref t.am)=some true
 cR:W.exmOne K (.ref t.ac) (.ref t.ab)=some false
 bF:W.exmOne K (.ref t.ac) (.ref t.ac)=some true
 bp:yp8 K t.am "__init__" t.ah
 aq:mg "tuple" = none
 ac:mg "len" = none
 ai:mg "range" = none
 cD:mg "sum" = none
 cE:mg "zip" = none
 aM:mg "abs" = none
 b2:mg "sorted" = none
 cF:mg "set" = none
 aJ:mg "list" = none
 ay:mg "str" = none
 b8:mg "int" = none
 cG:mg "all" = none
 ad:mg "isinstance" = none
 cq:mg "bool" = none
 b9:mg "min" = none
 cz:mg "max" = none
 cf:mg "MOST_NOTCHES" = some (.int 4 t.cG)
 cv:mg "MOST_ROOM" = some (.int 3 t.cX)
 cr:mg "MOST_LIMIT" = some (.int 400 t.cV)
 cg:mg "MOST_WEIGHTS" = some (.int 5 t.cH)
 cw:mg "MOST_HEFT" = some (.int 20 t.cY)
 b3:mg "MOST_STANDINGS" = some (.int 1000 t.cu)
 aH:mg "MOST_MOVES" = some (.int 300 t.cW)
 ch:mg "MOST_FIGURES" = some (.int 4 t.cI)
 cA:mg "FIGURES" = some (.str (Str.ofString "0123456789") t.cZ)
noncomputable def zq8 (cell base:Int)(mix:Bool):Nat->Int×List Int
 | 0=>(if mix=true then cell*48271 % 2147483647 else cell,[])
 | i+1 =>
   if mix=true then(((zq8 cell base mix i).1+(0+(i:Int))+1)*69621 % 2147483647,(zq8 cell base mix i).2++[(((zq8 cell base mix i).1+(0+(i:Int))+1)*69621 % 2147483647) / 8 % base])
   else((zq8 cell base mix i).1 / base,(zq8 cell base mix i).2++[(zq8 cell base mix i).1 % base])
noncomputable def figs (cell:Int)(n:Nat)(base:Int)(mix:Bool):List Int:=(zq8 cell base mix n).2
theorem zH7 (cell base:Int)(mix:Bool)(n:Nat):(figs cell n base mix).length=n:=by
 unfold figs
 induction n with
 | zero=>rfl
 | succ n a =>
   unfold zq8;cases mix
   . rw[Qh (by decide)];simp[a]
   . rw[Qo rfl];simp[a]
theorem zZ6 {cell base:Int}{mix:Bool}(d:0<base)(n:Nat):∀x∈figs cell n base mix,0<=x/\x<base:=by
 unfold figs
 induction n with
 | zero=>intro x a;cases a
 | succ n c =>
   unfold zq8;have b:∀z:Int,0<=z % base/\z % base<base:=λz=>⟨Zc _ (by omega),Za _ d⟩
   intro x a;cases mix
   . rw[Qh (by decide)] at a
     rcases QB.mp a with h | h
     . exact c x h
     . obtain rfl:=QI.mp h;exact b _
   . rw[Qo rfl] at a
     rcases QB.mp a with h | h
     . exact c x h
     . obtain rfl:=QI.mp h;exact b _
structure zg6 (n r:Int)(hs:List Int)(lim:Int):Prop where
 n1:1<=n
 n2:n<=4
 r1:1<=r
 r2:r<=3
 l1:0<=lim
 l2:lim<=400
 w:hs.length<=5
 h:∀x∈hs,1<=x/\x<=20
 most:(2*n+1) ^ hs.length<=1000
structure zd0 (n r:Int)(w:Nat)(xs:List Int):Prop where
 len:xs.length=w
 on:∀x∈xs,-n<=x/\x<=n
 room:∀x∈xs,x≠0->(xs.count x:Int)<=r
noncomputable abbrev at0 (ns:List Int)(k:Nat):Int:=ns.getD k 0
noncomputable def zt3 (ns:List Int):Bool:=decide (V.int (at0 ns 0 % 2)=V.int 1)
noncomputable def shN (ns:List Int):Int:=([2,3,1,4]:List Int).getD (at0 ns 1 % 4).toNat 0
noncomputable def shW (ns:List Int):Int :=
 if ([3,2,4,1,5,0]:List Int).getD (at0 ns 1 / 4 % 6).toNat 0<([5,4,3,3]:List Int).getD (shN ns-1).toNat 0 then([3,2,4,1,5,0]:List Int).getD (at0 ns 1 / 4 % 6).toNat 0 else([5,4,3,3]:List Int).getD (shN ns-1).toNat 0
noncomputable def shR (ns:List Int):Int:=1+at0 ns 1 / 24 % 3
noncomputable def shH0 (ns:List Int):List Int:=(figs (at0 ns 2) (shW ns).toNat 20 (zt3 ns)).map λx=>1+x
noncomputable def shH (ns:List Int):List Int :=
 if at0 ns 0 / 2 % 5=1 then(List.replicate (shW ns).toNat ((shH0 ns).take 1)).flatten else if at0 ns 0 / 2 % 5=2 then(List.replicate (shW ns).toNat [20]).flatten else shH0 ns
theorem zK6 (ns:List Int):shN ns=2\/shN ns=3\/shN ns=1\/shN ns=4:=by
 unfold shN;have a:0<=at0 ns 1 % 4:=Zc _ (by decide);have b:at0 ns 1 % 4<4:=Za _ (by decide);have:at0 ns 1 % 4=0\/at0 ns 1 % 4=1\/at0 ns 1 % 4=2\/at0 ns 1 % 4=3:=by omega
 rcases this with e | e | e | e<;>rw[e]<;>decide
theorem cap_of {n:Int}:n=2\/n=3\/n=1\/n=4->([5,4,3,3]:List Int).getD (n-1).toNat 0=(if n=1 then 5 else if n=2 then 4 else 3):=by
 rintro(rfl | rfl | rfl | rfl)<;>decide
theorem six_of (z:Int):0<=([3,2,4,1,5,0]:List Int).getD (z % 6).toNat 0/\([3,2,4,1,5,0]:List Int).getD (z % 6).toNat 0<=5:=by
 have a:0<=z % 6:=Zc _ (by decide);have b:z % 6<6:=Za _ (by decide);have:z % 6=0\/z % 6=1\/z % 6=2\/z % 6=3\/z % 6=4\/z % 6=5:=by omega
 rcases this with e | e | e | e | e | e<;>rw[e]<;>decide
theorem yn9 (ns:List Int):0<=shW ns/\shW ns<=(if shN ns=1 then 5 else if shN ns=2 then 4 else 3):=by
 unfold shW;obtain⟨a,b⟩:=six_of (at0 ns 1 / 4);rw[cap_of (zK6 ns)];have c:(0:Int)<=(if shN ns=1 then 5 else if shN ns=2 then 4 else 3):=by repeat (first | decide | split)
 split<;>omega
theorem pow_cap {n:Int}(h:n=2\/n=3\/n=1\/n=4){w:Nat}(a:(w:Int)<=(if n=1 then 5 else if n=2 then 4 else 3)):(2*n+1) ^ w<=1000:=by
 have b:(if n=1 then(5:Int) else if n=2 then 4 else 3)<=5:=by repeat (first | decide | split)
 have:w=0\/w=1\/w=2\/w=3\/w=4\/w=5:=by omega
 rcases h with rfl | rfl | rfl | rfl<;>rcases this with rfl | rfl | rfl | rfl | rfl | rfl<;>first | decide | (exfalso;revert a;decide)
theorem yc3 (ns:List Int):(shH0 ns).length=(shW ns).toNat:=by unfold shH0;rw[Qa,zH7]
theorem shH_len (ns:List Int):(shH ns).length=(shW ns).toNat:=by
 unfold shH;have a:=yc3 ns
 split
 . rw[zX8,QT,a]
   by_cases h:(shW ns).toNat=0
   . rw[h];simp
   . rw[Zx (by omega),Nat.mul_one]
 . split
   . rw[zX8];simp
   . exact a
theorem yj1 (ns:List Int):∀x∈shH0 ns,1<=x/\x<=20:=by
 intro x a;unfold shH0 at a;obtain⟨y,b,rfl⟩:=QN.mp a;have:=zZ6 (by decide) _ y b;omega
theorem shH_in (ns:List Int):∀x∈shH ns,1<=x/\x<=20:=by
 intro x a;unfold shH at a
 split at a
 . obtain⟨l,b,a⟩:=List.mem_flatten.mp a
   obtain⟨_,rfl⟩:=ZK.mp b;exact yj1 ns x (List.mem_of_mem_take a)
 . split at a
   . obtain⟨l,b,a⟩:=List.mem_flatten.mp a
     obtain⟨_,rfl⟩:=ZK.mp b;obtain rfl:=QI.mp a;omega
   . exact yj1 ns x a
theorem sh_ok (ns:List Int){lim:Int}(a:0<=lim)(b:lim<=400):zg6 (shN ns) (shR ns) (shH ns) lim:=by
 have c:=zK6 ns;have f:=yn9 ns;have g:=shH_len ns;have h:(if shN ns=1 then(5:Int) else if shN ns=2 then 4 else 3)<=5:=by repeat (first | decide | split)
 have d:0<=at0 ns 1 / 24 % 3:=Zc _ (by decide);have e:at0 ns 1 / 24 % 3<3:=Za _ (by decide);exact⟨by omega,by omega,by unfold shR;omega,by unfold shR;omega,a,b,by omega,shH_in ns,pow_cap c (by omega)⟩
noncomputable def zr0 (n r:Int)(last:Bool)(made:List Int)(x:Int):List Int :=
 made++[if (if last=true then n else x-n)≠0/\r<=(made.count (if last=true then n else x-n):Int) then 0 else(if last=true then n else x-n)]
noncomputable def putL (n r:Int)(last:Bool)(xs:List Int):List Int:=xs.foldl (zr0 n r last) []
noncomputable def yc4 (ns:List Int)(k:Nat)(more n r:Int)(w:Nat):List Int :=
 putL n r (decide (V.int ((at0 ns k+more) % 13)=V.int 12)) (figs (at0 ns k+more) w (2*n+1) (zt3 ns))
theorem zV9 (n r:Int)(a:Bool)(xs:List Int)(x:Int):putL n r a (xs++[x])=zr0 n r a (putL n r a xs) x:=by
 unfold putL;rw[List.foldl_append];rfl
theorem yj2 {n r:Int}(a:Bool)(v:0<=n)(w:1<=r)(xs:List Int)(f:∀x∈xs,0<=x/\x<2*n+1) :
   (putL n r a xs).length=xs.length/\(∀y∈putL n r a xs,-n<=y/\y<=n)/\∀y,y≠0->((putL n r a xs).count y:Int)<=r:=by
 have i:∀(k:Nat) (xs:List Int),xs.length=k->(∀x∈xs,0<=x/\x<2*n+1)->(putL n r a xs).length=xs.length/\(∀y∈putL n r a xs,-n<=y/\y<=n)/\∀y,y≠0->((putL n r a xs).count y:Int)<=r:=by
   intro k
   induction k with
   | zero =>
     intro xs d _;have:xs=[]:=Qy d;subst this;exact⟨rfl,(λy b=>nomatch b),λy _=>by show((([]:List Int).count y:Nat):Int)<=r;simp;omega⟩
   | succ k l =>
     intro xs d f;obtain⟨c,x,rfl⟩:∃c x,xs=c++[x]:=⟨xs.dropLast,xs.getLast (by intro e;rw[e] at d;cases d),(List.dropLast_concat_getLast _).symm⟩;have j:c.length=k:=by rw[Qi,Zq] at d;omega
     obtain⟨m,o,q⟩:=l c j λz s=>f z (ZF _ s)
     have u:=f x (QK _ (QI.mpr rfl));rw[zV9];unfold zr0
     have t:-n<=(if a=true then n else x-n)/\(if a=true then n else x-n)<=n:=by split<;>omega
     generalize(if a=true then n else x-n)=p at t ⊢;refine⟨by rw[Qi,Qi,m];rfl,λy b=>?_,λy b=>?_⟩
     . rcases QB.mp b with b | b
       . exact o y b
       . obtain rfl:=QI.mp b
         split<;>omega
     . rw[List.count_append,List.count_singleton]
       have h:=q y b;by_cases g:p≠0/\r<=((putL n r a c).count p:Int)
       . rw[Qo g]
         have:((0:Int) == y)=false:=by simpa using λe=>b e.symm
         rw[this];simpa using h
       . rw[Qh g]
         by_cases e:p=y
         . subst e
           have:¬ r<=((putL n r a c).count p:Int):=λz=>g ⟨b,z⟩
           simp;omega
         . have:(p == y)=false:=by simpa using e
           rw[this];simpa using h
 exact i xs.length xs rfl f
theorem yo0 (ns:List Int)(k:Nat)(a:Int){n r:Int}(w:Nat)(g:1<=n)(b:1<=r):zd0 n r w (yc4 ns k a n r w):=by
 unfold yc4;obtain⟨c,d,e⟩:=yj2 (n:=n) (r:=r) (decide (V.int ((at0 ns k+a) % 13)=V.int 12)) (by omega) b (figs (at0 ns k+a) w (2*n+1) (zt3 ns)) (zZ6 (by omega) w);exact⟨by rw[c,zH7],d,λx _ f=>e x f⟩
noncomputable def zH8 (n r:Int) (h:Addr) (lim:Int):List (Str×V):=putF "limit" (.int lim) (putF "hefts" (.ref h) (putF "room" (.int r) (putF "notches" (.int n) [])))
theorem zn7 (n r:Int) (h:Addr) (lim:Int):(zH8 n r h lim).lookup ("notches" : Str)=some (V.int n):=by
 unfold zH8;rw[zc0,Qh (by decide +kernel),zc0,Qh (by decide +kernel),zc0,Qh (by decide +kernel),zc0,Qo rfl]
theorem ye4 (n r:Int) (h:Addr) (lim:Int):(zH8 n r h lim).lookup ("room" : Str)=some (V.int r):=by
 unfold zH8;rw[zc0,Qh (by decide +kernel),zc0,Qh (by decide +kernel),zc0,Qo rfl]
theorem zC8 (n r:Int) (h:Addr) (lim:Int):(zH8 n r h lim).lookup ("hefts" : Str)=some (V.ref h):=by
 unfold zH8;rw[zc0,Qh (by decide +kernel),zc0,Qo rfl]
theorem b_limit (n r:Int) (h:Addr) (lim:Int):(zH8 n r h lim).lookup ("limit" : Str)=some (V.int lim):=by
 unfold zH8;rw[zc0,Qo rfl]
def zf0 (t:Adr)(H:Hp)(b:Addr)(n r:Int)(hs:List Int)(lim:Int):Prop :=
 zg6 n r hs lim/\∃dx h,H b=some (.ins t.ag dx (zH8 n r h lim))/\H h=some (.tup (hs.map V.int))
theorem zf0.same {t:Adr}{H H':Hp}{b:Addr}{n r:Int}{hs:List Int}{lim:Int}(B:zf0 t H b n r hs lim)(s:Same H H'):zf0 t H' b n r hs lim:=by
 obtain⟨ok,a,h,c,d⟩:=B;exact⟨ok,a,h,s _ _ c,s _ _ d⟩
def sp_outside (K:W.Frag)(t:Adr):Sp:=λvs H Q _=>∃a lo hi:Int,vs=[.int a,.int lo,.int hi]/\Q (.bl (decide (a<lo) || decide (hi<a))) H
def sp_check_bounds (K:W.Frag)(t:Adr):Sp:=λvs H Q _=>∃n r l:Int,vs=[.int n,.int r,.int l]/\(1<=n/\n<=4/\1<=r/\r<=3/\0<=l/\l<=400)/\Q .non H
def sp_check_hefts (K:W.Frag)(t:Adr):Sp:=λvs H Q _=>∃(a:Addr) (hs:List Int),vs=[.ref a]/\(SqL K H a (hs.map V.int)\/SqT K H a (hs.map V.int))/\(hs.length<=5/\∀x∈hs,1<=x/\x<=20)/\Q .non H
def sp_check_standings (K:W.Frag)(t:Adr):Sp:=λvs H Q _=>∃(n:Int) (w:Nat),vs=[.int n,.int w]/\(1<=n/\n<=4/\w<=5/\(2*n+1) ^ w<=1000)/\Q .non H
def sp_Beam_init (K:W.Frag)(t:Adr):Sp:=λvs H Q _=>∃(p dx a:Addr) (n r lim:Int) (hs:List Int),vs=[.ref p,.int n,.int r,.ref a,.int lim]/\H p=some (.ins t.ag dx []) ∧
 (SqL K H a (hs.map V.int)\/H a=some (.tup (hs.map V.int)))/\zg6 n r hs lim/\∀H',zf0 t H' p n r hs lim->zi2 p H H'->Q .non H'
def sp_as_standing (K:W.Frag)(t:Adr):Sp:=λvs H Q _=>∃(b a:Addr) (n r lim:Int) (hs xs:List Int),vs=[.ref b,.ref a]/\zf0 t H b n r hs lim/\zd0 n r hs.length xs ∧
 (SqL K H a (xs.map V.int)\/H a=some (.tup (xs.map V.int)))/\∀l H',Same H H'->H' l=some (.tup (xs.map V.int))->Q (.ref l) H'
def sp_w_at (K:W.Frag)(t:Adr):Sp:=λvs H Q _=>∃(a:Addr) (ns:List Int) (k:Nat),vs=[.ref a,.int k]/\SqL K H a (ns.map V.int)/\Q (.int (ns.getD k 0)) H
def sp_w_whole (K:W.Frag)(t:Adr):Sp:=λvs H Q _=>∃i:Int,vs=[.int i]/\Q (.bl true) H
def sp_w_figs (K:W.Frag)(t:Adr):Sp:=λvs H Q _=>∃(cell base:Int) (n:Nat) (mix:Bool),vs=[.int cell,.int n,.int base,.bl mix]/\(n<=1000/\0<base/\base<1000) ∧
 ∀l,H l=none->Q (.ref l) (upd H l (.lst ((figs cell n base mix).map V.int)))
def sp_w_same (K:W.Frag)(t:Adr):Sp:=λvs H Q _=>∃(a b:Addr) (xs ys:List Int),vs=[.ref a,.ref b]/\(SqL K H a (xs.map V.int)\/SqT K H a (xs.map V.int))/\(SqL K H b (ys.map V.int)\/SqT K H b (ys.map V.int))/\ys.length<=1000/\Q (.bl (decide (xs=ys))) H
def sp_w_shape (K:W.Frag)(t:Adr):Sp:=λvs H Q _=>∃(a:Addr) (ns:List Int),vs=[.ref a]/\SqL K H a (ns.map V.int) ∧
 ∀l h H',Same H H'->H l=none->H h=none->H' h=some (.lst ((shH ns).map V.int))->H' l=some (.lst [.int (shN ns),.int (shR ns),.ref h])->Q (.ref l) H'
def sp_w_put (K:W.Frag)(t:Adr):Sp:=λvs H Q _=>∃(a sh h:Addr) (ns:List Int) (k:Nat) (more n r:Int) (hs:List Int),vs=[.ref a,.int k,.int more,.ref sh]/\SqL K H a (ns.map V.int) ∧
 H sh=some (.lst [.int n,.int r,.ref h])/\SqL K H h (hs.map V.int)/\(1<=n/\n<=4/\1<=r/\hs.length<=5) ∧
 ∀l H',Same H H'->H l=none->H' l=some (.lst ((yc4 ns k more n r hs.length).map V.int))->Q (.ref l) H'
def yj3 (K:W.Frag):Sp:=λvs H Q _=>∃(a:Addr) (ns:List Int),vs=[.ref a]/\SqL K H a (ns.map V.int)/\ns.length<=63/\∀H',Q (.bl true) H'
def sp_law (K:W.Frag)(t:Adr):Sp:=yj3 K
section
variable {P:Program} {w:World} {K:W.Frag} {mg:Str->Option Value} {base:Heap} {t:Adr}
theorem zk4 (T:Txt K mg t):FnOk P w K mg base CX0 1 t.bz t.bA Pv (sp_outside K t):=by
 refine T.am.F.ok sc_outside (λc H Q E h=>?_) (λg A f s H c Q E i h=>?_)
 . obtain⟨a,d,e,rfl,q⟩:=h
   rfl
 . obtain⟨a,d,e,rfl,q⟩:=h
   refine⟨_,(za5 (zb2 (pe_or (zj8 zT5 P0 P1 (zc1 _)) (zI8 (zj8 zy4 P0 P2 (zc1 _)))))),?_⟩;refine⟨_,rfl,_,rfl,_,_,rfl,rfl,_,rfl,?_⟩;refine ite2 (λb=>?_) (λb=>?_)
   . rw[b] at q
     exact q
   . rw[Bool.eq_false_iff.mpr b] at q
     exact⟨_,rfl,_,rfl,_,_,rfl,rfl,q⟩
theorem ok_check_bounds (T:Txt K mg t):FnOk P w K mg base CX0 2 t.aE t.aF Pw (sp_check_bounds K t):=by
 refine T.a4.F.ok sc_check_bounds (λi H Q E h=>?_) (λk A j s H i Q E a h=>?_)
 . obtain⟨n,r,l,rfl,⟨b,c,d,e,f,g⟩,q⟩:=h
   rfl
 . obtain⟨n,r,l,rfl,⟨b,c,d,e,f,g⟩,q⟩:=h
   refine⟨_,(za3 (zc7 (zc9 (za6 (zk4 T) a.m T.am zb1 (za0 P0 (za0 za2 (za0 (zl8 (v:=.int 4) rfl T.cf ⟨_,rfl⟩) za1))))) (za5 ze6) zb3)
     (za3 (zc7 (zc9 (za6 (zk4 T) a.m T.am zb1 (za0 P1 (za0 za2 (za0 (zl8 (v:=.int 3) rfl T.cv ⟨_,rfl⟩) za1))))) (za5 ze6) zb3)
     (za5 (zc7 (zc9 (za6 (zk4 T) a.m T.am zb1 (za0 P2 (za0 za2 (za0 (zl8 (v:=.int 400) rfl T.cr ⟨_,rfl⟩) za1))))) (za5 ze6) zb3)))),?_⟩
   refine cut3 ?_;intro m o;refine⟨_,rfl,_,_,_,rfl,_,rfl,iteB (zt6 b c) ?_⟩;refine⟨_,rfl,_,_,_,rfl,_,rfl,iteB (zt6 d e) ?_⟩;exact⟨_,rfl,_,_,_,rfl,_,rfl,iteB (zt6 f g) q⟩
theorem ok_check_hefts (T:Txt K mg t):FnOk P w K mg base CX0 2 t.aK t.aL ["hefts"] (sp_check_hefts K t):=by
 refine T.a9.F.ok zA7 (λn H Q E h=>?_) (λy A u s H n Q E o h=>?_)
 . obtain⟨a,f,rfl,b,⟨p,m⟩,q⟩:=h
   rfl
 . obtain⟨a,f,rfl,b,⟨p,m⟩,q⟩:=h
   refine⟨_,(za3 (zc7 (zb9 zy4 (zb5 zb8 rfl T.ac Qr (za0 P0 za1)) (zl8 (v:=.int 5) rfl T.cg ⟨_,rfl⟩) (zc1 _)) (za5 ze6) zb3)
     (za5 (zh7 PassesOwn.never rfl (pi_seq P0) (zc4 (i:=1) zA7.nd rfl (Or.inl rfl)) (za5 (zc7 (zc9 (za6 (zk4 T) o.m T.am zb1 (za0 P1 (za0 za2 (za0 (zl8 (v:=.int 20) rfl T.cw ⟨_,rfl⟩) za1))))) (za5 ze6) zb3))))),?_⟩
   refine⟨_,rfl,a,f.map V.int,rfl,b,_,_,rfl,rfl,_,rfl,iteB (zO4 (by rw[Qa];omega)) ?_⟩;refine⟨_,rfl,a,rfl,?_⟩;have l:∀(i:Nat) x,(f.map V.int)[i]?=some x->∃z,x = .int z/\1<=z/\z<=20:=λi x e=>by
     obtain⟨z,rfl,r⟩:=int_at e;exact⟨z,rfl,m z (Qt r)⟩
   rcases b with b | b
   . refine .inl ⟨⟨_,b⟩,zp8 (K:=K) (a:=a) (xs:=f.map V.int) (λi d c=>X1 λv=>A2 (d=[some (.ref a),v]) (c=H)) ⟨_,rfl,rfl⟩ (λi d c _ ⟨_,_,e⟩=>e▸b) ?_ ?_⟩
     . rintro i x d c g ⟨v,rfl,rfl⟩
       obtain⟨z,rfl,j,k⟩:=l i x g;exact⟨_,rfl,_,_,_,rfl,_,rfl,iteB (zt6 j k) ⟨_,rfl,rfl⟩⟩
     . rintro d c ⟨v,rfl,rfl⟩
       exact q
   . refine .inr ⟨⟨_,b⟩,zM3 (K:=K) (a:=a) (xs:=f.map V.int) (λi d c=>X1 λv=>A2 (d=[some (.ref a),v]) (c=H)) ⟨_,rfl,rfl⟩ (λi d c _ ⟨_,_,e⟩=>e▸b) ?_ ?_⟩
     . rintro i x d c g ⟨v,rfl,rfl⟩
       obtain⟨z,rfl,j,k⟩:=l i x g;exact⟨_,rfl,_,_,_,rfl,_,rfl,iteB (zt6 j k) ⟨_,rfl,rfl⟩⟩
     . rintro d c ⟨v,rfl,rfl⟩
       exact q
theorem ok_check_standings (T:Txt K mg t):FnOk P w K mg base CX0 1 t.av t.aw Vf (sp_check_standings K t):=by
 refine T.aR.F.ok zk1 (λd H Q E h=>?_) (λk A j s H d Q E o h=>?_)
 . obtain⟨n,w,rfl,⟨e,f,g,c⟩,q⟩:=h
   rfl
 . obtain⟨n,w,rfl,⟨e,f,g,c⟩,q⟩:=h
   refine⟨_,(za3 (zb7 (i:=2) zk1.nd rfl (Or.inl rfl) za2)
     (za3 (zh7 PassesOwn.never rfl (zh9 rfl T.ai (za0 P1 za1)) (zc4 (i:=3) zk1.nd rfl (Or.inl rfl)) (za5 (zb7 (i:=2) zk1.nd rfl (Or.inl rfl) (zb4 zn3 P2 (zb4 zf5 (zb4 zn3 za2 P0) za2)))))
     (za5 (zc7 (zb9 zy4 P2 (zl8 (v:=.int 1000) rfl T.b3 ⟨_,rfl⟩) (zc1 _)) (za5 ze6) zb3)))),?_⟩
   refine cut3 ?_;intro l m;refine⟨_,rfl,_,rfl,by omega,by omega,zh1 (n:=(w:Int).toNat) (λi b a=>X1 λv=>A2 (b=[some (.int n),some (.int w),some (.int ((2*n+1) ^ i)),v]) (a=H)) ⟨none,by rw[Int.pow_zero];rfl,rfl⟩ ?_ ?_⟩
   . rintro i b a p ⟨v,rfl,rfl⟩
     exact⟨_,rfl,_,rfl,_,_,rfl,rfl,.inl ⟨by decide,by decide⟩,_,_,rfl,rfl,_,_,rfl,rfl,.inr ⟨by omega,by omega⟩,_,by rw[Int.pow_succ];rfl,rfl⟩
   . rintro b a ⟨v,rfl,rfl⟩
     exact⟨_,rfl,_,_,rfl,rfl,_,rfl,iteB (zO4 (by rw[Zi];exact c)) q⟩
theorem zH9 (T:Txt K mg t):FnOk P w K mg base CX0 3 t.ax t.bf Pu (sp_Beam_init K t):=by
 refine T.aS.F.ok sc_Beam_init (λD H Q E h=>?_) (λJ A I s H D Q E u h=>?_)
 . obtain⟨p,d,a,n,r,x,g,rfl,v,c,B,q⟩:=h
   rfl
 . obtain⟨p,d,a,n,r,x,g,rfl,v,c,B,q⟩:=h
   refine⟨_,(za3 (ze2 (za6 (ok_check_bounds T) u.m T.a4 zb1 (za0 P1 (za0 P2 (za0 (pv 4) za1)))))
     (za3 (ze2 (za6 (ok_check_hefts T) u.m T.a9 zb1 (za0 P3 za1)))
     (za3 (ze2 (za6 (ok_check_standings T) u.m T.aR zb1 (za0 P1 (za0 (zb5 zb8 rfl T.ac Qr (za0 P3 za1)) za1))))
     (za3 (zl5 P0 P1 rfl)
     (za3 (zl5 P0 P2 rfl)
     (za3 (zl5 P0 (ze0 zm4 rfl T.aq QV (za0 P3 za1)) rfl)
     (za5 (zl5 P0 (pv 4) rfl)))))))),?_⟩
   refine cut7 ?_;intro L M N O R S;have y:SqL K H a (g.map V.int)\/SqT K H a (g.map V.int):=c.imp id SqT.of;refine⟨_,rfl,_,rfl,_,rfl,n,r,x,rfl,⟨B.n1,B.n2,B.r1,B.r2,B.l1,B.l2⟩,?_⟩;refine⟨_,rfl,a,g,rfl,y,⟨B.w,B.h⟩,?_⟩;refine⟨_,rfl,_,rfl,a,_,rfl,y,n,g.length,by rw[Qa];rfl,⟨B.n1,B.n2,B.w,B.most⟩,?_⟩;refine⟨_,rfl,_,rfl,p,_,d,_,rfl,v,T.ae,T.ag,by decide,?_⟩;refine⟨_,rfl,_,rfl,p,_,d,_,rfl,za4,T.ae,T.aF,zo6 fl0,?_⟩;have j:∀ {b:Addr} {o:HO},H b=some o->o≠.ins t.ag d []->b≠p:=λe F=>zD7 e v F
   refine⟨_,rfl,a,g.map V.int,rfl,?_⟩;rcases c with c | c
   . have U:∀o,SqL K (upd (upd H p o) p o) a (g.map V.int)->True:=λ_ _=>trivial
     refine .inl ⟨?_,λl m=>?_⟩
     . rcases c with(c | ⟨G,c⟩) | c
       . exact .inl (.inl (by rw[za8 (j c (by intro z;cases z)),za8 (j c (by intro z;cases z))];exact c))
       . exact .inl (.inr ⟨G,by rw[za8 (j c (by intro z;cases z)),za8 (j c (by intro z;cases z))];exact c⟩)
       . exact .inr c
     . have k:l≠p:=λz=>by rw[z,za4] at m;cases m
       have C:H l=none:=by rw[za8 k,za8 k] at m;exact m
       refine⟨_,rfl,p,_,d,_,rfl,(by rw[za8 k.symm];exact za4),T.ae,T.aj,zo6 (flS fl0),?_⟩;refine⟨_,rfl,_,rfl,p,_,d,_,rfl,za4,T.ae,T.aO,zo6 (flS (flS fl0)),?_⟩;refine q _ ⟨B,d,l,za4,by rw[za8 k,za8 k,za4]⟩ λb o e f=>?_
       rw[za8 f,za8 f,za8 (za9 e C),za8 f,za8 f];exact e
   . have i:a≠p:=j c (by intro z;cases z)
     refine .inr ⟨SqT.of (by rw[za8 i,za8 i];exact c),?_⟩;refine⟨_,rfl,p,_,d,_,rfl,za4,T.ae,T.aj,zo6 (flS fl0),?_⟩;refine⟨_,rfl,_,rfl,p,_,d,_,rfl,za4,T.ae,T.aO,zo6 (flS (flS fl0)),?_⟩;refine q _ ⟨B,d,a,za4,by rw[za8 i,za8 i,za8 i,za8 i];exact c⟩ λb o e f=>?_
     rw[za8 f,za8 f,za8 f,za8 f];exact e
theorem zf1 (T:Txt K mg t):FnOk P w K mg base CX0 2 t.aM t.aN Pa (sp_as_standing K t):=by
 refine T.af.F.ok zs3 (λM H Q E h=>?_) (λU A S s H M Q E N h=>?_)
 . obtain⟨b,a,n,r,L,O,xs,rfl,B,k,u,q⟩:=h
   rfl
 . obtain⟨b,a,n,r,L,O,xs,rfl,B,k,u,q⟩:=h
   refine⟨_,(za3 (zb7 (i:=2) zs3.nd rfl (Or.inl rfl) (ze0 zm4 rfl T.aq QV (za0 P1 za1)))
     (za3 (zc7 (zb9 zl4 (zb5 zb8 rfl T.ac Qr (za0 P2 za1)) (zb5 zb8 rfl T.ac Qr (za0 (zd3 P0 rfl) za1)) (zc1 _)) (za5 ze6) zb3)
     (za3 (zh7 PassesOwn.never rfl (zX3 P2) (zc4 (i:=3) zs3.nd rfl (Or.inl rfl)) (za3 (zc7 (zc9 (za6 (zk4 T) N.m T.am zb1 (za0 P3 (za0 (zk8 zg8 (zd3 P0 rfl)) (za0 (zd3 P0 rfl) za1))))) (za5 ze6) zb3)
     (za5 (zc7 (PW.pt (zy9 (zb9 zl4 P3 za2 (zc1 _)) (zw6 (zb9 zy4 (yg5 ZH PySem.F.type_tuple_count zB9 P2 (za0 P3 za1)) (zd3 P0 rfl) (zc1 _))))) (za5 ze6) zb3))))
     (za5 (zb2 P2))))),?_⟩
   refine cut4 ?_;intro W X Y;refine⟨_,rfl,a,xs.map V.int,rfl,?_⟩;rcases u with u | c
   . refine .inl ⟨u,λl J=>?_⟩
     replace q:=q l _ (Same.upd J) za4;have c:(upd H l (.tup (xs.map V.int))) l=some (.tup (xs.map V.int)):=za4;replace B:=B.same (Same.upd (o:=.tup (xs.map V.int)) J);revert q c B;generalize upd H l (.tup (xs.map V.int))=R;intro q c B;obtain⟨ok,d,h,f,C⟩:=B;refine⟨_,rfl,_,_,rfl,.inr (SqT.of c),_,rfl,b,_,d,_,_,rfl,f,T.ae,T.aj,zC8 _ _ _ _,h,_,rfl,.inr (SqT.of C),rfl,_,rfl,?_⟩;refine iteB (by rw[Qa,Qa,k.len];simp) ?_;refine⟨_,rfl,_,rfl,⟨_,SqT.of c⟩,zM3 (K:=K) (xs:=xs.map V.int) (λi j g=>X1 λv=>A2 (j=[some (.ref b),some (.ref a),some (.ref l),v]) (g=R)) ⟨none,rfl,rfl⟩ (λi j g _ ⟨_,_,e⟩=>e▸SqT.of c) ?_ ?_⟩
     . rintro i x j g D ⟨v,rfl,rfl⟩
       obtain⟨z,rfl,F⟩:=int_at D;have m:=Qt F;obtain⟨G,I⟩:=k.on z m;refine⟨_,rfl,_,rfl,b,_,d,_,_,rfl,f,T.ae,T.ag,zn7 _ _ _ _,_,rfl,_,rfl,b,_,d,_,_,rfl,f,T.ae,T.ag,zn7 _ _ _ _,z,-n,n,rfl,_,rfl,iteB (zt6 G I) ?_⟩;refine⟨_,rfl,rfl,_,rfl,?_⟩;refine ite2 (λp=>?_) (λp=>?_)
       . have y:z≠0:=by
           intro e;subst e;simp at p
         exact⟨_,rfl,⟨_,_,rfl,c⟩,_,rfl,_,xs,z,rfl,rfl,SqT.of c,_,rfl,b,_,d,_,_,rfl,f,T.ae,T.aF,ye4 _ _ _ _,_,_,rfl,rfl,_,rfl,iteB (zO4 (k.room z m y)) ⟨_,rfl,rfl⟩⟩
       . exact iteF ⟨_,rfl,rfl⟩
     . rintro j g ⟨v,rfl,rfl⟩
       exact⟨_,rfl,q⟩
   . refine .inr ⟨SqT.of c,?_⟩
     replace q:=q a _ (Same.refl _) c;obtain⟨ok,d,h,f,C⟩:=B;refine⟨_,rfl,_,_,rfl,.inr (SqT.of c),_,rfl,b,_,d,_,_,rfl,f,T.ae,T.aj,zC8 _ _ _ _,h,_,rfl,.inr (SqT.of C),rfl,_,rfl,?_⟩;refine iteB (by rw[Qa,Qa,k.len];simp) ?_;refine⟨_,rfl,_,rfl,⟨_,SqT.of c⟩,zM3 (K:=K) (xs:=xs.map V.int) (λi j g=>X1 λv=>A2 (j=[some (.ref b),some (.ref a),some (.ref a),v]) (g=H)) ⟨none,rfl,rfl⟩ (λi j g _ ⟨_,_,e⟩=>e▸SqT.of c) ?_ ?_⟩
     . rintro i x j g D ⟨v,rfl,rfl⟩
       obtain⟨z,rfl,F⟩:=int_at D;have m:=Qt F;obtain⟨G,I⟩:=k.on z m;refine⟨_,rfl,_,rfl,b,_,d,_,_,rfl,f,T.ae,T.ag,zn7 _ _ _ _,_,rfl,_,rfl,b,_,d,_,_,rfl,f,T.ae,T.ag,zn7 _ _ _ _,z,-n,n,rfl,_,rfl,iteB (zt6 G I) ?_⟩;refine⟨_,rfl,rfl,_,rfl,?_⟩;refine ite2 (λp=>?_) (λp=>?_)
       . have y:z≠0:=by
           intro e;subst e;simp at p
         exact⟨_,rfl,⟨_,_,rfl,c⟩,_,rfl,_,xs,z,rfl,rfl,SqT.of c,_,rfl,b,_,d,_,_,rfl,f,T.ae,T.aF,ye4 _ _ _ _,_,_,rfl,rfl,_,rfl,iteB (zO4 (k.room z m y)) ⟨_,rfl,rfl⟩⟩
       . exact iteF ⟨_,rfl,rfl⟩
     . rintro j g ⟨v,rfl,rfl⟩
       exact⟨_,rfl,q⟩
noncomputable def zc6 (hs xs:List Int):Int:=(List.zipWith (λh x=>h*x) hs xs).sum
noncomputable def absI (i:Int):Int:=if i<0 then -i else i
noncomputable def zs5 (z:Int):Str:=if z<0 then "left" else if 0<z then "right" else "level"
noncomputable def mulV (x y:V):V:=match x,y with
 | .int a,.int b=>.int (a*b)
 | _,_=>.non
theorem yc5:∀(a b:List Int),List.zipWith mulV (a.map V.int) (b.map V.int)=(List.zipWith (λh x=>h*x) a b).map V.int
 | [],_=>rfl
 | _::_,[]=>rfl
 | h::a,x::b=>by
   show V.int (h*x)::List.zipWith mulV (a.map V.int) (b.map V.int)=_;rw[yc5 a b];rfl
theorem zK7:∀ {b c:List Int} {B:Int},(∀h∈b,1<=h/\h<=20)->(∀x∈c,-B<=x/\x<=B)->0<=B->∀z∈List.zipWith (λh x=>h*x) b c,-(20*B)<=z/\z<=20*B
 | [],_,_,_,_,_=>(λz a=>by simp at a)
 | _::_,[],_,_,_,_=>(λz a=>by simp at a)
 | h::b,x::c,B,h1,h2,hB=>λz a=>by
   rw[List.zipWith_cons_cons] at a;rcases Qq.mp a with rfl | a
   . obtain⟨i,e⟩:=h1 h QF
     obtain⟨f,g⟩:=h2 x QF;have j:h*x<=h*B:=Int.mul_le_mul_of_nonneg_left g (by omega);have k:h*B<=20*B:=Int.mul_le_mul_of_nonneg_right e hB;have l:h * -B<=h*x:=Int.mul_le_mul_of_nonneg_left f (by omega);have m:h * -B = -(h*B):=Int.mul_neg h B;omega
   . exact zK7 (λy d=>h1 y (Qu _ d)) (λy d=>h2 y (Qu _ d)) hB z a
theorem tilt_fits {n r lim:Int}{hs xs:List Int}(ok:zg6 n r hs lim)(a:zd0 n r hs.length xs):PySem.SumFits (List.zipWith (λh x=>h*x) hs xs):=by
 refine PyProof.Rows.sumFits_of_bound (B:=80) (n:=5) (by decide) (λz b=>?_) ?_ (by decide)
 . have:=zK7 (B:=4) ok.h (λx c=>by have:=a.on x c;have:=ok.n2;omega) (by decide) z b
   omega
 . rw[ZC]
   have:=ok.w;omega
def sp_tilt (K:W.Frag)(t:Adr):Sp:=λvs H Q _=>∃(b a:Addr) (n r lim:Int) (hs xs:List Int),vs=[.ref b,.ref a]/\zf0 t H b n r hs lim/\zd0 n r hs.length xs ∧
 (SqL K H a (xs.map V.int)\/H a=some (.tup (xs.map V.int)))/\∀H',Same H H'->Q (.int (zc6 hs xs)) H'
def sp_side (K:W.Frag)(t:Adr):Sp:=λvs H Q _=>∃(b a:Addr) (n r lim:Int) (hs xs:List Int),vs=[.ref b,.ref a]/\zf0 t H b n r hs lim/\zd0 n r hs.length xs ∧
 (SqL K H a (xs.map V.int)\/H a=some (.tup (xs.map V.int)))/\∀H',Same H H'->Q (.str (zs5 (zc6 hs xs))) H'
def sp_keeps (K:W.Frag)(t:Adr):Sp:=λvs H Q _=>∃(b a:Addr) (n r lim:Int) (hs xs:List Int),vs=[.ref b,.ref a]/\zf0 t H b n r hs lim/\zd0 n r hs.length xs ∧
 (SqL K H a (xs.map V.int)\/H a=some (.tup (xs.map V.int)))/\∀H',Same H H'->Q (.bl (decide (absI (zc6 hs xs)<=lim))) H'
theorem zN1 (T:Txt K mg t):FnOk P w K mg base CX0 3 t.cJ t.cK Pa (sp_tilt K t):=by
 refine T.a1.F.ok yi9 (λF H Q E h=>?_) (λU A S s H F Q E G h=>?_)
 . obtain⟨b,a,n,r,d,e,g,rfl,B,c,j,q⟩:=h
   rfl
 . obtain⟨b,a,n,r,d,e,g,rfl,B,c,j,q⟩:=h
   refine⟨_,(za3 (zb7 (i:=2) yi9.nd rfl (Or.inl rfl) (za6 (zf1 T) G.m T.af zb1 (za0 P0 (za0 P1 za1))))
     (za5 (zb2 (zb5 (call_sum rfl) rfl T.cD PyProof.Rows.boot_sum (za0 (zo0 rfl zK3 (pi_zip rfl T.cE (za0 (zd3 P0 rfl) (za0 P2 za1))) (λ_ _ _ _ _=>(pg_tupK (n:=2) K rfl rfl (ze1 (zc4 (i:=0) zK3.nd rfl (Or.inl rfl)) (ze1 (zc4 (i:=1) zK3.nd rfl (Or.inl rfl)) zs8)))) (λ_ _ _ _ _=>zk5) (λ_ _ _ _ _=>(zb4 zn3 P0 P1))) za1))))),?_⟩
   refine⟨_,rfl,_,rfl,b,a,n,r,d,e,g,rfl,B,c,j,λl V k m=>?_⟩;have ok:=B.1;obtain⟨_,I,h,J,o⟩:=B.same k;refine⟨_,rfl,b,_,I,_,_,rfl,J,T.ae,T.aj,zC8 _ _ _ _,_,rfl,h,l,_,_,rfl,o,m,λD L=>?_⟩;refine comp_zip (f:=mulV) (rest:=[]) o m (by rw[Qa,Qa,c.len]) L (QZ (zc5 (by rw[Qa];have:=ok.w;omega))) (λi x y p R M N z h=>?_) (λp z C=>?_)
   . obtain⟨u,rfl,O⟩:=int_at M
     obtain⟨v,rfl,W⟩:=int_at N;have:=ok.h u (Qt O);exact⟨_,rfl,_,rfl,_,_,rfl,rfl,.inl ⟨by omega,by omega⟩,h⟩
   . rw[yc5] at C
     exact⟨D,_,rfl,SqL.of C,tilt_fits ok c,q p (k.trans z)⟩
theorem not_past (a lim:Int):(!decide (lim<a))=decide (a<=lim):=by
 by_cases h:lim<a
 . rw[Qg h,Qf (by omega)];rfl
 . rw[Qf h,Qg (by omega)];rfl
def sp_past (K:W.Frag)(t:Adr):Sp:=λvs H Q _=>∃(b:Addr) (n r lim:Int) (hs:List Int) (z:Int),vs=[.ref b,.int z]/\zf0 t H b n r hs lim/\Q (.bl (decide (lim<absI z))) H
theorem zI0 (T:Txt K mg t):FnOk P w K mg base CX0 1 t.cN t.cO Px (sp_past K t):=by
 refine T.aP.F.ok sc_past (λc H Q E h=>?_) (λi A g s H c Q E j h=>?_)
 . obtain⟨b,n,r,a,d,z,rfl,B,q⟩:=h
   rfl
 . obtain⟨b,n,r,a,d,z,rfl,B,q⟩:=h
   refine⟨_,(za5 (zb2 (zj8 zy4 (zb5 zp9 rfl T.aM Zp (za0 P1 za1)) (zd3 P0 rfl) (zc1 _)))),?_⟩;obtain⟨_,e,h,f,k⟩:=B;exact⟨_,rfl,_,rfl,_,rfl,b,_,e,_,_,rfl,f,T.ae,T.aO,b_limit _ _ _ _,_,_,rfl,rfl,q⟩
theorem ok_side (T:Txt K mg t):FnOk P w K mg base CX0 4 t.cL t.cM Pa (sp_side K t):=by
 refine T.cl.F.ok yj0 (λm H Q E h=>?_) (λx A v s H m Q E o h=>?_)
 . obtain⟨b,a,n,r,f,g,j,rfl,B,k,l,q⟩:=h
   rfl
 . obtain⟨b,a,n,r,f,g,j,rfl,B,k,l,q⟩:=h
   refine⟨_,(za3 (zb7 (i:=2) yj0.nd rfl (Or.inl rfl) (za6 (zN1 T) o.m T.a1 zb1 (za0 P0 (za0 P1 za1))))
     (za3 (zc7 (zb9 zT5 P2 za2 (zc1 _)) (za5 (zb2 zd1)) zb3)
     (za3 (zc7 (zb9 zy4 P2 za2 (zc1 _)) (za5 (zb2 zd1)) zb3)
     (za5 (zb2 zd1))))),?_⟩
   refine cut4 ?_;intro y C D;refine⟨_,rfl,_,rfl,b,a,n,r,f,g,j,rfl,B,k,l,λp u=>?_⟩;have c:=q p u;unfold zs5 at c;refine⟨_,rfl,_,_,rfl,rfl,_,rfl,?_⟩;refine ite2 (λd=>?_) (λd=>?_)
   . rw[Qo (QO d)] at c
     exact c
   . rw[Qh (λz=>d (Qg z))] at c
     refine⟨_,rfl,_,_,rfl,rfl,_,rfl,?_⟩;refine ite2 (λe=>?_) (λe=>?_)
     . rw[Qo (QO e)] at c
       exact c
     . rw[Qh (λz=>e (Qg z))] at c
       exact c
theorem zS0 (T:Txt K mg t):FnOk P w K mg base CX0 4 t.cw t.cx Pa (sp_keeps K t):=by
 refine T.a5.F.ok sc_keeps (λk H Q E h=>?_) (λo A m s H k Q E e h=>?_)
 . obtain⟨b,a,n,r,c,d,f,rfl,B,g,i,q⟩:=h
   rfl
 . obtain⟨b,a,n,r,c,d,f,rfl,B,g,i,q⟩:=h
   refine⟨_,(za5 (zb2 (yk3 (za6 (zI0 T) e.m T.aP zb1 (za0 P0 (za0 (za6 (zN1 T) e.m T.a1 zb1 (za0 P0 (za0 P1 za1))) za1)))))),?_⟩;refine⟨_,rfl,_,rfl,_,rfl,b,a,n,r,c,d,f,rfl,B,g,i,λl j=>⟨b,n,r,c,d,_,rfl,B.same j,_,rfl,?_⟩⟩;rw[not_past];exact q l j
noncomputable def zf7 (hs xs:List Int)(i:Nat):Int:=zc6 hs xs-hs.getD i 0*xs.getD i 0
theorem zS1:∀(a b:List Int) (i:Nat) (p:Int),a.length=b.length->i<b.length->zc6 a (b.set i p)=zf7 a b i+a.getD i 0*p
 | [],b,i,p,d,c=>by rw[<-d] at c;cases c
 | _::_,[],i,p,d,c=>by cases c
 | h::a,x::b,0,p,_,_=>by
   show h*p+zc6 a b=(h*x+zc6 a b)-h*x+h*p;omega
 | h::a,x::b,i+1,p,d,c=>by
   have e:=zS1 a b i p (by simpa using d) (by simpa using c);unfold zf7 at e ⊢;show h*x+zc6 a (b.set i p)=(h*x+zc6 a b)-a.getD i 0*b.getD i 0+a.getD i 0*p;omega
theorem zu9 {xs:List Int}{i:Nat}{p:Int}(a:i<xs.length):(xs.set i p).getD i 0=p:=by
 rw[Qs,List.getElem?_set_self a];rfl
theorem yc6 {hs xs:List Int}{i:Nat}{p:Int}(b:hs.length=xs.length)(a:i<xs.length):zf7 hs (xs.set i p) i=zf7 hs xs i:=by
 have:=zS1 hs xs i p b a;unfold zf7 at this ⊢;rw[this,zu9 a];omega
theorem set_back {xs:List Int}{i:Nat}(p:Int)(a:i<xs.length):(xs.set i p).set i (xs.getD i 0)=xs:=by
 rw[List.set_set,Qs,Qe a];exact List.set_getElem_self a
theorem zS2 {xs:List Int}{i:Nat}{p y:Int}(a:i<xs.length):((xs.set i p).count y:Int)=(xs.count y:Int)-(if xs.getD i 0=y then 1 else 0)+(if p=y then 1 else 0):=by
 have e:xs.getD i 0=xs[i]:=by rw[Qs,Qe a];rfl
 rw[e,List.count_set a];have:xs[i]=y->1<=xs.count y:=λh=>List.count_pos_iff.mpr (h▸Zz a)
 by_cases b:xs[i]=y<;>by_cases c:p=y<;>simp[b,c]<;>have:=this b<;>omega
structure Lets (n r:Int)(hs:List Int)(lim:Int)(xs:List Int)(i:Nat)(p:Int):Prop where
 lt:i<xs.length
 on:-n<=p/\p<=n
 ne:p≠xs.getD i 0
 room:p≠0->(xs.count p:Int)<r
 held:absI (zf7 hs xs i)<=lim
 behind:absI (zf7 hs xs i+hs.getD i 0*p)<=lim
noncomputable instance (n r:Int) (hs:List Int) (lim:Int) (xs:List Int) (i:Nat) (p:Int):Decidable (Lets n r hs lim xs i p) :=
 decidable_of_iff (i<xs.length/\(-n<=p/\p<=n)/\p≠xs.getD i 0/\(p≠0->(xs.count p:Int)<r)/\absI (zf7 hs xs i)<=lim/\absI (zf7 hs xs i+hs.getD i 0*p)<=lim)
   ⟨λ⟨a,b,c,d,e,f⟩=>⟨a,b,c,d,e,f⟩,λ⟨a,b,c,d,e,f⟩=>⟨a,b,c,d,e,f⟩⟩
theorem zm6 {xs:List Int}{i:Nat}(a:i<xs.length):xs.getD i 0∈xs:=by
 rw[Qs,Qe a];exact Zz a
theorem Lets.valid {n r lim:Int}{w:Nat}{hs xs:List Int}{i:Nat}{p:Int}(L:Lets n r hs lim xs i p)(a:zd0 n r w xs):zd0 n r w (xs.set i p):=by
 refine⟨by rw[QW];exact a.len,λy b=>?_,λy b c=>?_⟩
 . rcases List.mem_or_eq_of_mem_set b with h | rfl
   . exact a.on y h
   . exact L.on
 . rw[zS2 L.lt]
   by_cases e:p=y
   . subst e
     have:=L.room c;rw[Qo rfl,Qh (λz=>L.ne z.symm)];omega
   . have d:y∈xs:=(List.mem_or_eq_of_mem_set b).resolve_right (λz=>e z.symm)
     have:=a.room y d c;rw[Qh e]
     split<;>omega
theorem Lets.turned {n r lim:Int}{hs xs:List Int}{i:Nat}{p:Int}(L:Lets n r hs lim xs i p)(a:zd0 n r hs.length xs)(c:absI (zc6 hs xs)<=lim):Lets n r hs lim (xs.set i p) i (xs.getD i 0):=by
 have b:=a.len.symm;refine⟨by rw[QW];exact L.lt,a.on _ (zm6 L.lt),by rw[zu9 L.lt];exact L.ne.symm,λd=>?_,by rw[yc6 b L.lt];exact L.held,?_⟩
 . rw[zS2 L.lt,Qo rfl,Qh L.ne]
   have:=a.room _ (zm6 L.lt) d;omega
 . rw[yc6 b L.lt]
   have e:zf7 hs xs i+hs.getD i 0*xs.getD i 0=zc6 hs xs:=by unfold zf7;omega
   rw[e];exact c
theorem sum_zip:∀(a b:List Int),a.length=b.length->((List.range a.length).map λi=>a.getD i 0*b.getD i 0).sum=(List.zipWith (λh x=>h*x) a b).sum:=by
 intro a b f;congr 1;apply List.ext_getElem
 . simp;omega
 . intro i d g
   have e:i<a.length:=by simpa using d
   have c:i<b.length:=by omega
   simp[e,c]
noncomputable def yc7 (hs xs:List Int):Nat->Int
 | 0=>0
 | j+1=>yc7 hs xs j+hs.getD j 0*xs.getD j 0
theorem yc8 (hs xs:List Int):∀w,yc7 hs xs w=((List.range w).map λi=>hs.getD i 0*xs.getD i 0).sum
 | 0=>rfl
 | w+1=>by
   unfold yc7;rw[yc8 hs xs w,List.range_succ,Qk,List.sum_append];simp
theorem sumTo_tilt {hs xs:List Int}(a:hs.length=xs.length):yc7 hs xs hs.length=zc6 hs xs:=by
 rw[yc8,sum_zip hs xs a];rfl
theorem zW0:∀ {zs:List Int} {B:Int},(∀z∈zs,-B<=z/\z<=B)->-(B*zs.length)<=zs.sum/\zs.sum<=B*zs.length
 | [],B,_=>by simp
 | z::zs,B,h=>by
   have b:=h z QF;have c:=zW0 (zs:=zs) (B:=B) λy a=>h y (Qu _ a)
   rw[List.sum_cons,Ql,Int.natCast_add,Int.mul_add];omega
theorem zN2 {n r lim:Int}{hs xs:List Int}(ok:zg6 n r hs lim)(a:zd0 n r hs.length xs):absI (zc6 hs xs)<=240/\0<=absI (zc6 hs xs):=by
 have c:=zW0 (zK7 (B:=n) ok.h a.on (by have:=ok.n1;omega));rw[ZC,a.len,Nat.min_self] at c;have g:=ok.w;have b:=ok.most;have h:=ok.n1;have i:=ok.n2;have f:20*n*(hs.length:Int)<=240:=by
   have:n=1\/n=2\/n=3\/n=4:=by omega
   have d:hs.length=0\/hs.length=1\/hs.length=2\/hs.length=3\/hs.length=4\/hs.length=5:=by omega
   rcases this with rfl | rfl | rfl | rfl<;>rcases d with e | e | e | e | e | e<;>rw[e] at b ⊢<;>first | decide | (exfalso;revert b;decide)
 unfold zc6;unfold absI
 split<;>omega
def sp_in_hand (K:W.Frag)(t:Adr):Sp:=λvs H Q E=>∃(b a:Addr) (n r lim k:Int) (i:Nat) (hs xs:List Int),vs=[.ref b,.ref a,.int k]/\zf0 t H b n r hs lim/\zd0 n r hs.length xs ∧
 (SqL K H a (xs.map V.int)\/H a=some (.tup (xs.map V.int)))/\(k=(i:Int)+1/\i<xs.length)/\∀H',Same H H'->Q (.int (zf7 hs xs i)) H'
theorem zS3 (T:Txt K mg t):FnOk P w K mg base CX0 4 t.bB t.bC Vh (sp_in_hand K t):=by
 refine T.a8.F.ok zR8 (λu H Q E h=>?_) (λI A F s H u Q E f h=>?_)
 . obtain⟨b,a,n,r,e,k,i,c,xs,rfl,B,d,o,⟨rfl,v⟩,q⟩:=h
   rfl
 . obtain⟨b,a,n,r,e,k,i,c,xs,rfl,B,d,o,⟨rfl,v⟩,q⟩:=h
   refine⟨_,(za3 (zb7 (i:=3) zR8.nd rfl (Or.inl rfl) (za6 (zf1 T) f.m T.af zb1 (za0 P0 (za0 P1 za1))))
     (za3 (zc7 (zc9 (za6 (zk4 T) f.m T.am zb1 (za0 P2 (za0 za2 (za0 (zb5 zb8 rfl T.ac Qr (za0 P3 za1)) za1))))) (za5 ze6) zb3)
     (za5 (zb2 (zb4 zj1 (za6 (zN1 T) f.m T.a1 zb1 (za0 P0 (za0 P3 za1))) (zb4 zn3 (zc2 ze7 (zd3 P0 rfl) (zb4 zj1 P2 za2) (λ_ _=>rfl)) (zc2 ze7 P3 (zb4 zj1 P2 za2) (λ_ _=>rfl)))))))),?_⟩
   refine cut3 ?_;intro J L;refine⟨_,rfl,_,rfl,b,a,n,r,e,c,xs,rfl,B,d,o,λl M g j=>?_⟩;refine⟨_,rfl,_,rfl,l,_,rfl,.inr (SqT.of j),_,1,_,rfl,_,rfl,?_⟩;rw[Qa];refine iteB (zt6 (by omega) (by omega)) ?_;refine⟨_,rfl,_,rfl,b,l,n,r,e,c,xs,rfl,B.same g,d,.inr j,λN m=>?_⟩;obtain⟨_,x,h,y,z⟩:=B.same (g.trans m);have G:=d.len;have p:((i:Int)+1-1).toNat=i:=by omega
   have C:atI (c.map V.int) ((i:Int)+1-1)=some (.int (c.getD i 0)):=by have:=ze8 (xs:=c) (i:=(i:Int)+1-1) (by omega) (by omega);rw[p] at this;exact this
   have D:atI (xs.map V.int) ((i:Int)+1-1)=some (.int (xs.getD i 0)):=by have:=ze8 (xs:=xs) (i:=(i:Int)+1-1) (by omega) (by omega);rw[p] at this;exact this
   have O:=B.1.h (c.getD i 0) (zm6 (by omega));refine⟨_,rfl,b,_,x,_,_,rfl,y,T.ae,T.aj,zC8 _ _ _ _,_,rfl,_,_,rfl,rfl,h,_,_,_,rfl,rfl,SqT.of z,C,?_⟩;exact⟨_,rfl,_,rfl,_,_,rfl,rfl,l,_,_,_,rfl,rfl,SqT.of (m _ _ j),D,_,_,rfl,rfl,.inl ⟨by omega,by omega⟩,_,_,rfl,rfl,q _ (g.trans m)⟩
noncomputable def yj4 (r:Int)(xs:List Int)(p:Int):Bool:=decide (p≠0/\r<=(xs.count p:Int))
def sp_full (K:W.Frag)(t:Adr):Sp:=λvs H Q _=>∃(b a:Addr) (n r lim p:Int) (hs xs:List Int),vs=[.ref b,.ref a,.int p]/\zf0 t H b n r hs lim/\H a=some (.tup (xs.map V.int))/\Q (.bl (yj4 r xs p)) H
theorem yj5 (T:Txt K mg t):FnOk P w K mg base CX0 1 t.cP t.cQ PD (sp_full K t):=by
 refine T.bG.F.ok sc_full (λj H Q E h=>?_) (λu A o s H j Q E v h=>?_)
 . obtain⟨b,a,n,r,i,p,k,c,rfl,B,f,q⟩:=h
   rfl
 . obtain⟨b,a,n,r,i,p,k,c,rfl,B,f,q⟩:=h
   refine⟨_,(za5 (zb2 (zN7 (zj8 zl4 P2 za2 (zc1 _)) (zI8 (zj8 ya3 (yg5 ZH PySem.F.type_tuple_count zB9 P1 (za0 P2 za1)) (zd3 P0 rfl) (zc1 _)))))),?_⟩;obtain⟨_,l,h,m,x⟩:=B;unfold yj4 at q;refine⟨_,rfl,rfl,_,rfl,?_⟩;rw[ze9];refine ite2 (λg=>?_) (λg=>?_)
   . have d:p≠0:=by simpa using g
     refine⟨_,rfl,⟨_,_,rfl,f⟩,_,rfl,_,c,p,rfl,rfl,SqT.of f,_,rfl,b,_,l,_,_,rfl,m,T.ae,T.aF,ye4 _ _ _ _,_,_,rfl,rfl,?_⟩;have e:decide (p≠0/\r<=(c.count p:Int))=decide (r<=(c.count p:Int)):=by simp[d]
     rw[e] at q;exact q
   . have d:p=0:=by simpa using g
     have e:decide (p≠0/\r<=(c.count p:Int))=false:=by simp[d]
     rw[e] at q;exact q
theorem zN3 (xs:List Int)(i:Nat)(p:Int)(a:i<xs.length):cutV (xs.map V.int) none (some (i:Int))++[V.int p]++cutV (xs.map V.int) (some ((i:Int)+1)) none=(xs.set i p).map V.int:=by
 unfold cutV
 rw[HT.sIx_none,HT.sIx_nat,HT.sIx_none,show((i:Int)+1)=((i+1:Nat):Int) by omega,HT.sIx_nat,Qa,Zx (by omega),Zx (by omega),List.drop_zero,Nat.sub_zero,
   List.set_eq_take_append_cons_drop,Qo a,Qk,Qv,QU,List.map_take,List.map_drop]
 congr 1;show V.int p::_=_;congr 1;exact Zd (by simp)
def Mv (K:W.Frag)(H:Hp)(m:Addr)(k s p:Int):Prop:=SqL K H m [.int k,.int s,.int p]\/SqT K H m [.int k,.int s,.int p]
theorem Mv.ix {K:W.Frag}{H:Hp}{m:Addr}{k s p:Int}(h:Mv K H m k s p):(∀Q:VK,Q (.int k) H->rIx K (.ref m) (.int 0) H Q)/\(∀Q:VK,Q (.int s) H->rIx K (.ref m) (.int 1) H Q)/\(∀Q:VK,Q (.int p) H->rIx K (.ref m) (.int 2) H Q):=by
 rcases h with h | h
 . exact⟨λQ q=>.inl ⟨m,_,_,_,rfl,rfl,h,rfl,q⟩,λQ q=>.inl ⟨m,_,_,_,rfl,rfl,h,rfl,q⟩,λQ q=>.inl ⟨m,_,_,_,rfl,rfl,h,rfl,q⟩⟩
 . exact⟨λQ q=>.inr (.inl ⟨m,_,_,_,rfl,rfl,h,rfl,q⟩),λQ q=>.inr (.inl ⟨m,_,_,_,rfl,rfl,h,rfl,q⟩),λQ q=>.inr (.inl ⟨m,_,_,_,rfl,rfl,h,rfl,q⟩)⟩
theorem Same.seqT {K:W.Frag}{H H':Hp}{a:Addr}{xs:List V}(e:Same H H')(h:SqT K H a xs):SqT K H' a xs:=by
 rcases h with(h | ⟨o,h⟩) | h
 . exact .inl (.inl (e _ _ h))
 . exact .inl (.inr ⟨o,e _ _ h⟩)
 . exact .inr h
theorem Mv.same {K:W.Frag}{H H':Hp}{m:Addr}{k s p:Int}(h:Mv K H m k s p)(e:Same H H'):Mv K H' m k s p:=h.imp e.seq (λz=>Same.seqT e z)
def sp_behind (K:W.Frag)(t:Adr):Sp:=λvs H Q _=>∃(a m:Addr) (k s p:Int) (i:Nat) (xs:List Int),vs=[.ref a,.ref m]/\H a=some (.tup (xs.map V.int))/\Mv K H m k s p/\(k=(i:Int)+1/\i<xs.length/\xs.length<=900) ∧
 ∀l H',Same H H'->H' l=some (.tup ((xs.set i p).map V.int))->Q (.ref l) H'
theorem zC9 (T:Txt K mg t):FnOk P w K mg base CX0 1 t.bN t.bO Pz (sp_behind K t):=by
 refine T.aK.F.ok sc_behind (λD H Q E h=>?_) (λX a0 W s H D Q E Y h=>?_)
 . obtain⟨a,m,k,s,p,i,b,rfl,v,g,⟨rfl,B,F⟩,q⟩:=h
   rfl
 . obtain⟨a,m,k,s,p,i,b,rfl,v,g,⟨rfl,B,F⟩,q⟩:=h
   refine⟨_,(za5 (zb2 (zb4 zt0 (zb4 zt0 (zh2 zE9 P0 zl0 (zi9 (zb4 zj1 (zc2 zm1 P1 za2 (λ_ _=>rfl)) za2))) (zt5 (za0 (zc2 zm1 P1 za2 (λ_ _=>rfl)) za1))) (zh2 zE9 P0 (zi9 (zc2 zm1 P1 za2 (λ_ _=>rfl))) zl0)))),?_⟩;refine⟨_,rfl,_,rfl,g.ix.1 _ ⟨_,_,rfl,rfl,_,rfl,a,_,rfl,SqT.of v,?_,λc G=>?_⟩⟩
   . have e:(i:Int)+1-1=(i:Int):=by omega
     rw[e,HT.sIx_none,HT.sIx_nat,Qa,Zx (by omega)];omega
   have j:Same H (upd H c (.tup (cutV (b.map V.int) none (some ((i:Int)+1-1))))):=Same.upd G;have x:(upd H c (.tup (cutV (b.map V.int) none (some ((i:Int)+1-1))))) c=some (.tup (cutV (b.map V.int) none (some ((i:Int)+1-1)))):=za4;revert j x;generalize upd H c (.tup (cutV (b.map V.int) none (some ((i:Int)+1-1))))=l;intro j x;refine⟨_,rfl,(g.same j).ix.2.2 _ ⟨(by show 1<=sizeLine;decide),λd I=>?_⟩⟩;have n:Same l (upd l d (.tup [.int p])):=Same.upd I;have y:(upd l d (.tup [.int p])) d=some (.tup [.int p]):=za4;revert n y;generalize upd l d (.tup [.int p])=Z;intro n y;have C:=zl6 (b.map V.int) none (some ((i:Int)+1-1));rw[Qa] at C;refine⟨c,d,_,_,rfl,rfl,n _ _ x,y,QZ (zc5 (by show _+1<=_;omega)),λJ o L M=>?_⟩;have u:=j.trans (n.trans L);refine⟨_,rfl,_,rfl,(g.same u).ix.1 _ ⟨_,rfl,a,_,rfl,SqT.of (u _ _ v),?_,λf N=>?_⟩⟩
   . rw[show((i:Int)+1)=((i+1:Nat):Int) by omega,HT.sIx_nat,Qa]
     omega
   have r:Same o (upd o f (.tup (cutV (b.map V.int) (some ((i:Int)+1)) none))):=Same.upd N;have z:(upd o f (.tup (cutV (b.map V.int) (some ((i:Int)+1)) none))) f=some (.tup (cutV (b.map V.int) (some ((i:Int)+1)) none)):=za4;revert r z;generalize upd o f (.tup (cutV (b.map V.int) (some ((i:Int)+1)) none))=H4;intro r z;have A:=zN3 b i p B;rw[show(i:Int)=(i:Int)+1-1 by omega,show(i:Int)+1-1+1=(i:Int)+1 by omega] at A;refine⟨J,f,_,_,rfl,rfl,r _ _ M,z,?_,λO R S U=>q O R (u.trans (r.trans S)) ?_⟩
   . rw[<-Qi,A,Qa,QW]
     exact QZ (zc5 (by omega))
   . rw[U,A]
def sp_turned (K:W.Frag)(t:Adr):Sp:=λvs H Q _=>∃(m:Addr) (k s p:Int),vs=[.ref m]/\Mv K H m k s p/\∀l,H l=none->Q (.ref l) (upd H l (.tup [.int k,.int p,.int s]))
theorem zW1 (T:Txt K mg t):FnOk P w K mg base CX0 1 t.bL t.bM Pd (sp_turned K t):=by
 refine T.bf.F.ok sc_turned (λb H Q E h=>?_) (λe A d s H b Q E f h=>?_)
 . obtain⟨m,k,s,p,rfl,a,q⟩:=h
   rfl
 . obtain⟨m,k,s,p,rfl,a,q⟩:=h
   refine⟨_,(za5 (zb2 (zt5 (za0 (zc2 zm1 P0 za2 (λ_ _=>rfl)) (za0 (zc2 zm1 P0 za2 (λ_ _=>rfl)) (za0 (zc2 zm1 P0 za2 (λ_ _=>rfl)) za1)))))),?_⟩;refine⟨_,rfl,a.ix.1 _ ⟨_,rfl,a.ix.2.2 _ ⟨_,rfl,a.ix.2.1 _ ⟨(by show 3<=sizeLine;decide),λl c=>?_⟩⟩⟩⟩;exact q l c
def sp_check_weight (K:W.Frag)(t:Adr):Sp:=λvs H Q _=>∃(a:Addr) (k s:Int) (i:Nat) (xs:List Int),vs=[.ref a,.int k,.int s]/\H a=some (.tup (xs.map V.int))/\(k=(i:Int)+1/\i<xs.length/\s=xs.getD i 0)/\Q .non H
theorem ok_check_weight (T:Txt K mg t):FnOk P w K mg base CX0 2 t.an t.ao Pn (sp_check_weight K t):=by
 refine T.aw.F.ok zy5 (λc H Q E h=>?_) (λl A j s H c Q E d h=>?_)
 . obtain⟨a,k,s,i,xs,rfl,b,⟨rfl,e,rfl⟩,q⟩:=h
   rfl
 . obtain⟨a,k,s,i,xs,rfl,b,⟨rfl,e,rfl⟩,q⟩:=h
   refine⟨_,(za3 (zc7 (zc9 (za6 (zk4 T) d.m T.am zb1 (za0 P1 (za0 za2 (za0 (zb5 zb8 rfl T.ac Qr (za0 P0 za1)) za1))))) (za5 ze6) zb3)
     (za5 (zc7 (zb9 zl4 (zc2 ze7 P0 (zb4 zj1 P1 za2) (λ_ _=>rfl)) P2 (zc1 _)) (za5 ze6) zb3))),?_⟩
   have f:((i:Int)+1-1).toNat=i:=by omega
   have g:atI (xs.map V.int) ((i:Int)+1-1)=some (.int (xs.getD i 0)):=by have:=ze8 (xs:=xs) (i:=(i:Int)+1-1) (by omega) (by omega);rw[f] at this;exact this
   refine⟨_,rfl,_,rfl,a,_,rfl,.inr (SqT.of b),_,1,_,rfl,_,rfl,?_⟩;rw[Qa];refine iteB (zt6 (by omega) (by omega)) ?_;refine⟨_,rfl,_,rfl,_,_,rfl,rfl,a,_,_,_,rfl,rfl,SqT.of b,g,_,rfl,rfl,_,rfl,iteB (by simp) q⟩
def sp_check_put (K:W.Frag)(t:Adr):Sp:=λvs H Q _=>∃(b a:Addr) (n r lim s p:Int) (hs xs:List Int),vs=[.ref b,.ref a,.int s,.int p]/\zf0 t H b n r hs lim/\H a=some (.tup (xs.map V.int))/\((-n<=p/\p<=n)/\p≠s/\(p≠0->(xs.count p:Int)<r))/\Q .non H
theorem ok_check_put (T:Txt K mg t):FnOk P w K mg base CX0 2 t.bg t.bh PH (sp_check_put K t):=by
 refine T.bq.F.ok sc_check_put (λu H Q E h=>?_) (λy A x s H u Q E f h=>?_)
 . obtain⟨b,a,n,r,c,s,p,g,i,rfl,B,j,⟨⟨k,l⟩,d,e⟩,q⟩:=h
   rfl
 . obtain⟨b,a,n,r,c,s,p,g,i,rfl,B,j,⟨⟨k,l⟩,d,e⟩,q⟩:=h
   refine⟨_,(za3 (zc7 (zc9 (za6 (zk4 T) f.m T.am zb1 (za0 P3 (za0 (zk8 zg8 (zd3 P0 rfl)) (za0 (zd3 P0 rfl) za1))))) (za5 ze6) zb3)
     (za3 (zc7 (zb9 zg3 P3 P2 (zc1 _)) (za5 ze6) zb3)
     (za5 (zc7 (zc9 (za6 (yj5 T) f.m T.bG zb1 (za0 P0 (za0 P1 (za0 P3 za1))))) (za5 ze6) zb3)))),?_⟩
   refine cut3 ?_;intro C D;have v:=B;obtain⟨_,m,h,o,F⟩:=B;refine⟨_,rfl,_,rfl,b,_,m,_,_,rfl,o,T.ae,T.ag,zn7 _ _ _ _,_,rfl,_,rfl,b,_,m,_,_,rfl,o,T.ae,T.ag,zn7 _ _ _ _,p,-n,n,rfl,_,rfl,iteB (zt6 k l) ?_⟩;refine⟨_,rfl,_,rfl,rfl,_,rfl,?_⟩;refine iteB (by rw[ze9];exact Qf d) ?_;refine⟨_,rfl,_,rfl,_,rfl,b,a,n,r,c,p,g,i,rfl,v,j,_,rfl,?_⟩;refine iteB (Qf λz=>by have:=e z.1;omega) q
def sp_check_tilts (K:W.Frag)(t:Adr):Sp:=λvs H Q _=>∃(b:Addr) (n r lim u v:Int) (hs:List Int),vs=[.ref b,.int u,.int v]/\zf0 t H b n r hs lim/\(absI u<=lim/\absI (u+v)<=lim)/\Q .non H
theorem ok_check_tilts (T:Txt K mg t):FnOk P w K mg base CX0 2 t.aO t.aP PK (sp_check_tilts K t):=by
 refine T.ba.F.ok sc_check_tilts (λe H Q E h=>?_) (λj A i s H e Q E d h=>?_)
 . obtain⟨b,n,r,a,u,v,c,rfl,B,⟨f,g⟩,q⟩:=h
   rfl
 . obtain⟨b,n,r,a,u,v,c,rfl,B,⟨f,g⟩,q⟩:=h
   refine⟨_,(za3 (zc7 (zc9 (za6 (zI0 T) d.m T.aP zb1 (za0 P0 (za0 P1 za1)))) (za5 ze6) zb3)
     (za5 (zc7 (zc9 (za6 (zI0 T) d.m T.aP zb1 (za0 P0 (za0 (zb4 zf5 P1 P2) za1)))) (za5 ze6) zb3))),?_⟩
   refine⟨_,rfl,_,rfl,b,n,r,a,c,u,rfl,B,_,rfl,iteB (Qf (by omega)) ?_⟩;exact⟨_,rfl,_,rfl,_,rfl,_,_,rfl,rfl,b,n,r,a,c,u+v,rfl,B,_,rfl,iteB (Qf (by omega)) q⟩
def sp_check_move (K:W.Frag)(t:Adr):Sp:=λvs H Q _=>∃(b a:Addr) (n r lim p:Int) (i:Nat) (hs xs:List Int),vs=[.ref b,.ref a,.int ((i:Int)+1),.int (xs.getD i 0),.int p]/\zf0 t H b n r hs lim/\zd0 n r hs.length xs/\H a=some (.tup (xs.map V.int)) ∧
 Lets n r hs lim xs i p/\∀H',Same H H'->Q .non H'
theorem ok_check_move (T:Txt K mg t):FnOk P w K mg base CX0 5 t.aq t.ar Pm (sp_check_move K t):=by
 refine T.aB.F.ok zE2 (λk H Q E h=>?_) (λz A x s H k Q E e h=>?_)
 . obtain⟨b,a,n,r,d,p,i,c,xs,rfl,B,g,f,L,q⟩:=h
   rfl
 . obtain⟨b,a,n,r,d,p,i,c,xs,rfl,B,g,f,L,q⟩:=h
   refine⟨_,(za3 (ze2 (za6 (ok_check_weight T) e.m T.aw zb1 (za0 P1 (za0 P2 (za0 P3 za1)))))
     (za3 (ze2 (za6 (ok_check_put T) e.m T.bq zb1 (za0 P0 (za0 P1 (za0 P3 (za0 (pv 4) za1))))))
     (za5 (ze2 (za6 (ok_check_tilts T) e.m T.ba zb1 (za0 P0 (za0 (za6 (zS3 T) e.m T.a8 zb1 (za0 P0 (za0 P1 (za0 P2 za1)))) (za0 (zb4 zn3 (zc2 ze7 (zd3 P0 rfl) (zb4 zj1 P2 za2) (λ_ _=>rfl)) (pv 4)) za1)))))))),?_⟩
   refine cut3 ?_;intro C D;refine⟨_,rfl,_,rfl,_,rfl,a,_,_,i,xs,rfl,f,⟨rfl,L.lt,rfl⟩,?_⟩;refine⟨_,rfl,_,rfl,_,rfl,_,rfl,b,a,n,r,d,_,p,c,xs,rfl,B,f,⟨L.on,L.ne,L.room⟩,?_⟩;refine⟨_,rfl,_,rfl,_,rfl,_,rfl,b,a,n,r,d,_,i,c,xs,rfl,B,g,.inr f,⟨rfl,L.lt⟩,λF j=>?_⟩;obtain⟨_,l,h,m,o⟩:=B.same j;have y:=g.len;have G:=L.lt;have u:((i:Int)+1-1).toNat=i:=by omega
   have v:atI (c.map V.int) ((i:Int)+1-1)=some (.int (c.getD i 0)):=by have:=ze8 (xs:=c) (i:=(i:Int)+1-1) (by omega) (by omega);rw[u] at this;exact this
   have I:=B.1.h (c.getD i 0) (zm6 (by omega));exact⟨_,rfl,b,_,l,_,_,rfl,m,T.ae,T.aj,zC8 _ _ _ _,_,rfl,_,_,rfl,rfl,h,_,_,_,rfl,rfl,SqT.of o,v,_,rfl,_,_,rfl,rfl,.inl ⟨by omega,by omega⟩,b,n,r,d,_,_,c,rfl,B.same j,⟨L.held,L.behind⟩,q _ j⟩
def sp_moved (K:W.Frag)(t:Adr):Sp:=λvs H Q _=>∃(b a m:Addr) (n r lim p:Int) (i:Nat) (hs xs:List Int),vs=[.ref b,.ref a,.ref m]/\zf0 t H b n r hs lim/\zd0 n r hs.length xs/\(SqL K H a (xs.map V.int)\/H a=some (.tup (xs.map V.int))) ∧
 Mv K H m ((i:Int)+1) (xs.getD i 0) p/\Lets n r hs lim xs i p/\∀l H',Same H H'->H' l=some (.tup ((xs.set i p).map V.int))->Q (.ref l) H'
theorem ok_moved (T:Txt K mg t):FnOk P w K mg base CX0 6 t.bu t.bv Py (sp_moved K t):=by
 refine T.a6.F.ok zH0 (λy H Q E h=>?_) (λI A G s H y Q E g h=>?_)
 . obtain⟨b,a,m,n,r,f,p,i,j,c,rfl,B,d,v,k,L,q⟩:=h
   rfl
 . obtain⟨b,a,m,n,r,f,p,i,j,c,rfl,B,d,v,k,L,q⟩:=h
   refine⟨_,(za3 (zb7 (i:=3) zH0.nd rfl (Or.inl rfl) (za6 (zf1 T) g.m T.af zb1 (za0 P0 (za0 P1 za1))))
     (za3 (ze2 (za6 (ok_check_move T) g.m T.aB zb1 (za0 P0 (za0 P3 (za0 (zc2 zm1 P2 za2 (λ_ _=>rfl)) (za0 (zc2 zm1 P2 za2 (λ_ _=>rfl)) (za0 (zc2 zm1 P2 za2 (λ_ _=>rfl)) za1)))))))
     (za5 (zb2 (za6 (zC9 T) g.m T.aK zb1 (za0 P3 (za0 P2 za1))))))),?_⟩
   refine cut3 ?_;intro J M;refine⟨_,rfl,_,rfl,b,a,n,r,f,j,c,rfl,B,d,v,λl N e x=>?_⟩;have o:=(k.same e).ix;refine⟨_,rfl,_,rfl,_,rfl,o.1 _ ⟨_,rfl,o.2.1 _ ⟨_,rfl,o.2.2 _ ?_⟩⟩⟩;refine⟨b,l,n,r,f,p,i,j,c,rfl,B.same e,d,x,L,λO u=>?_⟩;have:=B.1.w;have:=d.len;exact⟨_,rfl,_,rfl,l,m,_,_,p,i,c,rfl,u _ _ x,k.same (e.trans u),⟨rfl,L.lt,by omega⟩,λz C D F=>q z C (e.trans (u.trans D)) F⟩
def sp_BeamError_init (K:W.Frag) (t:Adr):Sp:=λvs H Q _=>∃(x C:Addr) (u v:V),vs=[.ref x,u,v]/\H x=some (ExcO C x none)/\XCls K C/\zf6 K C "reason"/\zf6 K C "word" ∧
 ∀H' dx,H' x=some (ExcO C x (some dx))->H' dx=some (.xd (putF "word" v (putF "reason" u [])))->zi2 x H H'->Q .non H'
theorem zt4 (T:Txt K mg t):FnOk P w K mg base CX0 1 t.ah t.ai Pt (sp_BeamError_init K t):=by
 refine T.bM.ok sc_BeamError_init (λk H Q E h=>?_) (λn A m s H k Q E p h=>?_)
 . obtain⟨x,C,u,v,rfl,f,a,g,i,q⟩:=h
   rfl
 . obtain⟨x,C,u,v,rfl,f,a,g,i,q⟩:=h
   refine⟨_,(za3 (yg7 P0 P1 rfl)
     (za5 (yg7 P0 P2 rfl))),?_⟩
   refine⟨_,rfl,_,rfl,x,C,none,rfl,f,a,g,λj c d=>?_⟩;refine⟨_,rfl,_,rfl,x,C,some j,rfl,za4,a,i,putF "reason" u [],by rw[za8 d];exact za4,by show(1:Nat)<1000;decide,?_⟩;refine q _ j (by rw[za8 d.symm];exact za4) za4 λb o e l=>?_
   rw[za8 (za9 e c),za8 l,za8 (za9 e c)];exact e
def sp_PlayFull_init (K:W.Frag)(t:Adr):Sp:=λvs H Q _=>∃(x:Addr) (u:V),vs=[.ref x,u]/\H x=some (ExcO t.ab x none) ∧
 ∀H' dx,H' x=some (ExcO t.ab x (some dx))->H' dx=some (.xd (putF "word" (.str "play full") (putF "reason" u [])))->zi2 x H H'->Q .non H'
theorem zv9 (T:Txt K mg t):FnOk P w K mg base CX0 2 t.ae t.aj Pe (sp_PlayFull_init K t):=by
 refine T.b4.ok sc_PlayFull_init (λb H Q E h=>?_) (λk A j s H b Q E c h=>?_)
 . obtain⟨x,u,rfl,a,q⟩:=h
   rfl
 . obtain⟨x,u,rfl,a,q⟩:=h
   refine⟨_,(za5 (ze2 (ya8 T.bp rfl T.aV (zt4 T) c.m T.aW .nil zb1 (za0 P0 (za0 P1 (za0 zd1 za1)))))),?_⟩;exact⟨_,rfl,_,rfl,x,t.ab,u,_,rfl,a,T.a3,T.bK,T.aZ,λd e f g i=>q d e f g i⟩
def sp_NoWeight_init (K:W.Frag)(t:Adr):Sp:=λvs H Q _=>∃(x:Addr) (u:V),vs=[.ref x,u]/\H x=some (ExcO t.ac x none) ∧
 ∀H' dx,H' x=some (ExcO t.ac x (some dx))->H' dx=some (.xd (putF "word" (.str "no weight") (putF "reason" u [])))->zi2 x H H'->Q .non H'
theorem ok_NoWeight_init (T:Txt K mg t):FnOk P w K mg base CX0 2 t.af t.ak Pe (sp_NoWeight_init K t):=by
 refine T.b5.ok sc_NoWeight_init (λb H Q E h=>?_) (λk A j s H b Q E c h=>?_)
 . obtain⟨x,u,rfl,a,q⟩:=h
   rfl
 . obtain⟨x,u,rfl,a,q⟩:=h
   refine⟨_,(za5 (ze2 (ya8 T.bp rfl T.aV (zt4 T) c.m T.aW .nil zb1 (za0 P0 (za0 P1 (za0 zd1 za1)))))),?_⟩;exact⟨_,rfl,_,rfl,x,t.ac,u,_,rfl,a,T.bC,T.bL,T.b1,λd e f g i=>q d e f g i⟩
def Told (H H':Hp) (od:Option Addr) (w:Str):Prop:=Same H H'/\∃dx fs,od=some dx/\H' dx=some (.xd fs)/\fs.lookup ("word" : Str)=some (V.str w)
theorem Told.from {H a H':Hp}{b:Option Addr}{w:Str}(h:Told a H' b w)(s:Same H a):Told H H' b w:=⟨s.trans h.1,h.2⟩
theorem yj6 {H c H':Hp} {x a C:Addr} {o:HO} {u:V} {w:Str} (s:Same H c) (h:c x=none) (i:H' x=some (ExcO C x (some a))) (d:H' a=some (.xd (putF "word" (.str w) (putF "reason" u [])))) (j:zi2 x (upd c x o) H'):Told H (del H' x) (some a) w:=by
 refine⟨λb v e=>?_,a,putF "word" (.str w) (putF "reason" u []),rfl,?_,?_⟩
 . have g:=s b v e
   have f:b≠x:=za9 g h;rw[zz1 f];exact j b v (by rw[za8 f];exact g) f
 . rw[zz1 (λz=>by rw[z,i] at d;cases d)];exact d
 . rw[zc0,Qo rfl]
def sp_check_weightW (K:W.Frag) (t:Adr):Sp:=λvs H Q E=>∃(a:Addr) (s:Int) (xs:List Int),vs=[.ref a,.int 0,.int s]/\H a=some (.tup (xs.map V.int))/\∀od H',Told H H' od "no weight"->E (.ref t.ac) od H'
theorem ok_check_weightW (T:Txt K mg t):FnOk P w K mg base (CXD P w) 4 t.an t.ao Pn (sp_check_weightW K t):=by
 refine T.aw.F.d.okD (CX:=CX0) zy5 (λf H Q E h=>?_) (λn A m s H f Q E b h=>?_)
 . obtain⟨a,s,g,rfl,c,d⟩:=h
   rfl
 . obtain⟨a,s,g,rfl,c,d⟩:=h
   refine⟨_,(za3 (zc7 (zc9 (za6 (zk4 T) b.m T.am zb1 (za0 P1 (za0 za2 (za0 (zb5 zb8 rfl T.ac Qr (za0 P0 za1)) za1))))) (za5 (zJ6 zF0 rfl T.bC T.cy T.ct (ok_NoWeight_init T) b.m rfl T.bB T.b6 .nil zb1 (za0 zd1 za1))) zb3)
     zh8),?_⟩
   refine⟨_,rfl,_,rfl,a,_,rfl,.inr (SqT.of c),0,1,_,rfl,_,rfl,?_⟩;refine iteA (by simp) ?_;exact⟨(by show 1<=sizeLine;decide),λx i=>⟨x,_,rfl,za4,λo j e k l=>⟨rfl,some j,e,d _ _ (yj6 (Same.refl _) i e k l)⟩⟩⟩
def sp_check_moveW (K:W.Frag) (t:Adr):Sp:=λvs H Q E=>∃(b a:Addr) (s p:Int) (xs:List Int),vs=[.ref b,.ref a,.int 0,.int s,.int p]/\H a=some (.tup (xs.map V.int))/\∀od H',Told H H' od "no weight"->E (.ref t.ac) od H'
theorem ok_check_moveW (T:Txt K mg t):FnOk P w K mg base (CXD P w) 5 t.aq t.ar Pm (sp_check_moveW K t):=by
 refine T.aB.F.d.okD (CX:=CX0) zE2 (λf H Q E h=>?_) (λj A i s H f Q E g h=>?_)
 . obtain⟨b,a,s,p,c,rfl,d,e⟩:=h
   rfl
 . obtain⟨b,a,s,p,c,rfl,d,e⟩:=h
   refine⟨_,(za3 (ze2 (za6 (ok_check_weightW T) g.m T.aw zr6 (za0 P1 (za0 P2 (za0 P3 za1)))))
     zh8),?_⟩
   exact⟨_,rfl,_,rfl,_,rfl,a,s,c,rfl,d,e⟩
def sp_movedW (K:W.Frag) (t:Adr):Sp:=λvs H Q E=>∃(b a m:Addr) (n r lim s p:Int) (hs xs:List Int),vs=[.ref b,.ref a,.ref m]/\zf0 t H b n r hs lim/\zd0 n r hs.length xs/\H a=some (.tup (xs.map V.int))/\Mv K H m 0 s p/\∀od H',Told H H' od "no weight"->E (.ref t.ac) od H'
theorem ok_movedW (T:Txt K mg t):FnOk P w K mg base (CXD P w) 6 t.bu t.bv Py (sp_movedW K t):=by
 refine T.a6.F.d.okD (CX:=CX0) zH0 (λv H Q E h=>?_) (λF A D s H v Q E f h=>?_)
 . obtain⟨b,a,m,n,r,e,s,p,g,c,rfl,B,j,k,o,q⟩:=h
   rfl
 . obtain⟨b,a,m,n,r,e,s,p,g,c,rfl,B,j,k,o,q⟩:=h
   refine⟨_,(za3 (zb7 (i:=3) zH0.nd rfl (Or.inl rfl) (za6 (zf1 T) f.m T.af zb1 (za0 P0 (za0 P1 za1))))
     (za3 (ze2 (za6 (ok_check_moveW T) f.m T.aB zr6 (za0 P0 (za0 P3 (za0 (zc2 zm1 P2 za2 (λ_ _=>rfl)) (za0 (zc2 zm1 P2 za2 (λ_ _=>rfl)) (za0 (zc2 zm1 P2 za2 (λ_ _=>rfl)) za1)))))))
     zh8)),?_⟩
   refine cut3 ?_;intro G I;refine⟨_,rfl,_,rfl,b,a,n,r,e,g,c,rfl,B,j,.inr k,λl J u x=>?_⟩;have d:=(o.same u).ix;exact⟨_,rfl,_,rfl,_,rfl,d.1 _ ⟨_,rfl,d.2.1 _ ⟨_,rfl,d.2.2 _ ⟨b,l,s,p,c,rfl,x,λy z C=>q y z (C.from u)⟩⟩⟩⟩
noncomputable def grid (n:Int)(j:Nat):List Int:=(List.range j).map λ(k:Nat)=>-n+(k:Int)
noncomputable def zl2 (n r:Int)(hs:List Int)(lim:Int)(xs:List Int)(i j:Nat):List Int:=(grid n j).filter λp=>decide (Lets n r hs lim xs i p)
theorem zS4 (n r:Int)(hs:List Int)(lim:Int)(xs:List Int)(i j:Nat):zl2 n r hs lim xs i (j+1)=zl2 n r hs lim xs i j++(if Lets n r hs lim xs i (-n+(j:Int)) then [-n+(j:Int)] else []):=by
 unfold zl2 grid;rw[List.range_succ,Qk,ZL];congr 1;by_cases h:Lets n r hs lim xs i (-n+(j:Int))
 . rw[Qo h];simp[h]
 . rw[Qh h];simp[h]
theorem zD0 (n r:Int)(hs:List Int)(lim:Int)(xs:List Int)(i j:Nat):(zl2 n r hs lim xs i j).length<=j:=by
 unfold zl2 grid;refine QJ (List.length_filter_le _ _) ?_;simp
theorem zW2 {n r:Int}{hs:List Int}{lim:Int}{xs:List Int}{i:Nat}(j:Nat)(h:¬ absI (zf7 hs xs i)<=lim):zl2 n r hs lim xs i j=[]:=by
 unfold zl2;rw[List.filter_eq_nil_iff];intro p _;have:¬ Lets n r hs lim xs i p:=λL=>h L.held
 simp[this]
noncomputable def wide (n:Int):Nat:=(n+1 - -n).toNat
noncomputable def zo4 (n r:Int)(hs:List Int)(lim:Int)(xs:List Int)(i:Nat):List (Nat×Int):=(List.range i).flatMap λk=>(zl2 n r hs lim xs k (wide n)).map λp=>(k,p)
theorem zx9 (n r:Int)(hs:List Int)(lim:Int)(xs:List Int)(i:Nat):zo4 n r hs lim xs (i+1)=zo4 n r hs lim xs i++(zl2 n r hs lim xs i (wide n)).map λp=>(i,p):=by
 unfold zo4;rw[List.range_succ,List.flatMap_append];simp
theorem zK8 (n r:Int)(hs:List Int)(lim:Int)(xs:List Int):∀i,(zo4 n r hs lim xs i).length<=i*wide n
 | 0=>by simp[zo4]
 | i+1=>by
   rw[zx9,Qi,Qa,Nat.succ_mul];have:=zK8 n r hs lim xs i;have:=zD0 n r hs lim xs i (wide n);omega
def zE5 (H:Hp)(xs:List Int)(a:Addr)(m:Nat×Int):Prop:=H a=some (.tup [.int ((m.1:Int)+1),.int (xs.getD m.1 0),.int m.2])
def Rows (H:Hp)(xs:List Int)(rs:List Addr)(ms:List (Nat×Int)):Prop:=rs.length=ms.length/\∀(k:Nat) (a:Addr) (m:Nat×Int),rs[k]?=some a->ms[k]?=some m->zE5 H xs a m
theorem Rows.nil (H:Hp)(xs:List Int):Rows H xs [] []:=⟨rfl,λk a m h=>by simp at h⟩
theorem Rows.same {H H':Hp}{xs:List Int}{b:List Addr}{c:List (Nat×Int)}(h:Rows H xs b c)(s:Same H H'):Rows H' xs b c:=⟨h.1,λk a m d e=>s _ _ (h.2 k a m d e)⟩
theorem Rows.app {H:Hp}{xs:List Int}{d e:List Addr}{g f:List (Nat×Int)}(h:Rows H xs d g)(h':Rows H xs e f):Rows H xs (d++e) (g++f):=by
 refine⟨by rw[Qi,Qi,h.1,h'.1],λk a m b c=>?_⟩;by_cases i:k<d.length
 . rw[Zj i] at b
   rw[Zj (by rw[<-h.1];exact i)] at c;exact h.2 k a m b c
 . rw[QG (by omega)] at b
   rw[QG (by rw[<-h.1];omega),<-h.1] at c;exact h'.2 _ a m b c
theorem Rows.one {H:Hp}{xs:List Int}{a:Addr}{m:Nat×Int}(h:zE5 H xs a m):Rows H xs [a] [m]:=⟨rfl,λk d e b c=>by
 match k,b,c with
 | 0,b,c=>cases b;cases c;exact h
 | k+1,b,_=>simp at b⟩
theorem Rows.put {H:Hp}{xs:List Int}{b:List Addr}{c:List (Nat×Int)}{l:Addr}{o:HO}{vs:List V}(h:Rows H xs b c)(d:H l=some (.lst vs)):Rows (upd H l o) xs b c :=
 ⟨h.1,λk a m e f=>by
   have:=h.2 k a m e f;unfold zE5 at this ⊢;rw[za8 (λz=>by rw[z,d] at this;cases this)];exact this⟩
def sp_puts (K:W.Frag)(t:Adr):Sp:=λvs H Q _=>∃(b a:Addr) (n r lim k:Int) (i:Nat) (hs xs:List Int),vs=[.ref b,.ref a,.int k]/\zf0 t H b n r hs lim/\zd0 n r hs.length xs/\H a=some (.tup (xs.map V.int))/\(k=(i:Int)+1/\i<xs.length) ∧
 ∀l H',Same H H'->H' l=some (.lst ((zl2 n r hs lim xs i (wide n)).map V.int))->Q (.ref l) H'
theorem ok_puts (T:Txt K mg t):FnOk P w K mg base CX0 5 t.cR t.cS Vi (sp_puts K t):=by
 refine T.cm.F.ok zN0 (λW a0 a3 a4 h=>?_) (λaa af a8 ag a0 W a3 a4 g h=>?_)
 . obtain⟨b,a,n,r,d,a5,i,c,xs,rfl,B,v,x,⟨rfl,y⟩,q⟩:=h
   rfl
 . obtain⟨b,a,n,r,d,a5,i,c,xs,rfl,B,v,x,⟨rfl,y⟩,q⟩:=h
   refine⟨_,(za3 (zb7 (i:=3) zN0.nd rfl (Or.inr rfl) (za6 (zS3 T) g.m T.a8 zb1 (za0 P0 (za0 P1 (za0 P2 za1)))))
     (za3 (zc7 (zc9 (za6 (zI0 T) g.m T.aP zb1 (za0 P0 (za0 P3 za1)))) (za5 (zb2 (zg0 za1))) zb3)
     (za3 (zb7 (i:=4) zN0.nd rfl (Or.inr rfl) (zc2 ze7 P1 (zb4 zj1 P2 za2) (λ_ _=>rfl)))
     (za3 (zb7 (i:=5) zN0.nd rfl (Or.inr rfl) (zc2 ze7 (zd3 P0 rfl) (zb4 zj1 P2 za2) (λ_ _=>rfl)))
     (za5 (zb2 (zo0 rfl zV6 (zI9 rfl T.ai (za0 (zk8 zg8 (zd3 P0 rfl)) (za0 (zb4 zf5 (zd3 P0 rfl) za2) za1))) (λ_ _ _ _ _=>(zc4 (i:=0) zV6.nd rfl (Or.inl rfl))) (λ_ _ _ _ _=>(zF8 (PW.pt (zy9 (zb9 zl4 P0 P1 (zc1 _)) (zy9 (zd9 (zc9 (za6 (yj5 T) g.m T.bG zb1 (za0 P2 (za0 P3 (za0 P0 za1)))))) (zw6 (zd9 (zc9 (za6 (zI0 T) g.m T.aP zb1 (za0 P2 (za0 (zb4 zf5 (pv 4) (zb4 zn3 (pv 5) P0)) za1))))))))))) (λ_ _ _ _ _=>P0)))))))),?_⟩
   refine cut5 ?_;intro ab ac ad ae;refine⟨_,rfl,_,rfl,_,rfl,b,a,n,r,d,_,i,c,xs,rfl,B,v,.inr x,⟨rfl,y⟩,λe k=>?_⟩;have H:=k _ _ x;have I:=B.same k;refine⟨_,rfl,_,rfl,b,n,r,d,c,_,rfl,I,_,rfl,?_⟩;refine ite2 (λA=>?_) (λA=>?_)
   . have s:¬ absI (zf7 c xs i)<=d:=λz=>by have:=QO A;omega
     refine⟨QD _,λa6 X=>q a6 _ (k.updT X) ?_⟩;rw[zW2 _ s];exact za4
   have s:absI (zf7 c xs i)<=d:=Int.not_lt.mp λz=>A (Qg z)
   obtain⟨ok,l,h,m,J⟩:=I;have a9:=v.len;have M:((i:Int)+1-1).toNat=i:=by omega
   have Y:atI (c.map V.int) ((i:Int)+1-1)=some (.int (c.getD i 0)):=by have:=ze8 (xs:=c) (i:=(i:Int)+1-1) (by omega) (by omega);rw[M] at this;exact this
   have Z:atI (xs.map V.int) ((i:Int)+1-1)=some (.int (xs.getD i 0)):=by have:=ze8 (xs:=xs) (i:=(i:Int)+1-1) (by omega) (by omega);rw[M] at this;exact this
   have hm:=ok.h (c.getD i 0) (zm6 (by omega));have n1:=ok.n1;have n2:=ok.n2;refine⟨_,rfl,_,rfl,_,_,rfl,rfl,a,_,_,_,rfl,rfl,SqT.of H,Z,?_⟩;refine⟨_,rfl,b,_,l,_,_,rfl,m,T.ae,T.aj,zC8 _ _ _ _,_,rfl,_,_,rfl,rfl,h,_,_,_,rfl,rfl,SqT.of J,Y,?_⟩;refine⟨_,rfl,b,_,l,_,_,rfl,m,T.ae,T.ag,zn7 _ _ _ _,_,rfl,_,rfl,b,_,l,_,_,rfl,m,T.ae,T.ag,zn7 _ _ _ _,_,_,rfl,rfl,-n,n+1,rfl,⟨by omega,by omega,by omega,by omega⟩,λD C=>?_⟩;refine zz2 (λj E=>E=upd e D (.lst ((zl2 n r c d xs i j).map V.int))) rfl ?_ ?_
   . rintro j E ah hj rfl o
     have Q:(upd e D (.lst ((zl2 n r c d xs i j).map V.int))) a=some (.tup (xs.map V.int)):=Same.upd C _ _ H;have N:zf0 t (upd e D (.lst ((zl2 n r c d xs i j).map V.int))) b n r c d:=zf0.same ⟨ok,l,h,m,J⟩ (Same.upd C);have R:(upd e D (.lst ((zl2 n r c d xs i j).map V.int))) D=some (.lst ((zl2 n r c d xs i j).map V.int)):=za4;have F:¬ Lets n r c d xs i (-n+(j:Int))->(upd e D (.lst ((zl2 n r c d xs i j).map V.int)))=upd e D (.lst ((zl2 n r c d xs i (j+1)).map V.int)):=λz=>by rw[zS4,Qh z,Zt]
     refine⟨_,rfl,_,rfl,rfl,_,rfl,?_⟩;rw[ze9];refine ite2 (λG=>?_) (λG=>?_)
     . have u:-n+(j:Int)≠xs.getD i 0:=by simpa using G
       refine⟨_,rfl,_,rfl,_,rfl,b,a,n,r,d,-n+(j:Int),c,xs,rfl,N,Q,_,rfl,?_⟩;refine ite2 (λf=>?_) (λf=>?_)
       . have S:¬ (-n+(j:Int)≠0/\r<=(xs.count (-n+(j:Int)):Int)):=λz=>by unfold yj4 at f;rw[Qg z] at f;exact Bool.noConfusion f
         have O:-n+(j:Int)≠0->(xs.count (-n+(j:Int)):Int)<r:=λz=>Int.not_le.mp λa7=>S ⟨z,a7⟩
         refine⟨_,rfl,_,rfl,_,rfl,_,rfl,_,_,rfl,rfl,.inl ⟨by omega,by omega⟩,_,_,rfl,rfl,b,n,r,d,c,_,rfl,N,_,rfl,?_⟩;refine ite2 (λp=>?_) (λp=>?_)
         . have U:absI (zf7 c xs i+c.getD i 0*(-n+(j:Int)))<=d:=Int.not_lt.mp λz=>by rw[Qg z] at p;exact Bool.noConfusion p
           have L:Lets n r c d xs i (-n+(j:Int)):=⟨y,by unfold wide at *;omega,u,O,s,U⟩;refine⟨_,rfl,_,R,zc5 (by rw[Qa];have:=zD0 n r c d xs i j;omega),o _ ?_⟩;rw[zh4,zS4,Qo L,Qk];rfl
         . exact o _ (F λL=>p (by have:=L.behind;rw[Qf (by omega)];rfl))
       . refine iteF ?_
         exact o _ (F λL=>f (by unfold yj4;rw[Qf (λz=>by have:=L.room z.1;omega)];rfl))
     . have u:-n+(j:Int)=xs.getD i 0:=by simpa using G
       refine iteF ?_;exact o _ (F λL=>L.ne u)
   . rintro E rfl
     exact q D _ (k.updT C) za4
def sp_moves (K:W.Frag)(t:Adr):Sp:=λvs H Q _=>∃(b a:Addr) (n r lim:Int) (hs xs:List Int),vs=[.ref b,.ref a]/\zf0 t H b n r hs lim/\zd0 n r hs.length xs/\(SqL K H a (xs.map V.int)\/H a=some (.tup (xs.map V.int))) ∧
 ∀l rs H',Same H H'->H l=none->H' l=some (.lst (rs.map V.ref))->Rows H' xs rs (zo4 n r hs lim xs xs.length)->Q (.ref l) H'
theorem ok_moves (T:Txt K mg t):FnOk P w K mg base CX0 6 t.cy t.cz Pa (sp_moves K t):=by
 refine T.ca.F.ok zH1 (λvs H a9 aa h=>?_) (λae al ab a0 H vs a9 aa U h=>?_)
 . obtain⟨b,a,n,r,c,d,xs,rfl,B,y,W,a1⟩:=h
   rfl
 . obtain⟨b,a,n,r,c,d,xs,rfl,B,y,W,a1⟩:=h
   refine⟨_,(za3 (zb7 (i:=2) zH1.nd rfl (Or.inr rfl) (za6 (zf1 T) U.m T.af zb1 (za0 P0 (za0 P1 za1))))
     (za3 (zb7 (i:=3) zH1.nd rfl (Or.inl rfl) (zg0 za1))
     (za3 (zh7 PassesOwn.never rfl (zI9 rfl T.ai (za0 za2 (za0 (zb4 zf5 (zb5 zb8 rfl T.ac Qr (za0 P2 za1)) za2) za1))) (zc4 (i:=4) zH1.nd rfl (Or.inr rfl)) (za5 (ze2 (zl1 QC PySem.F.slot_list_extend PySem.F.type_list_extend mt_extend P3 (za0 (zo0 rfl zR9 (zi8 (za6 (ok_puts T) U.m T.cm zb1 (za0 P0 (za0 P2 (za0 (pv 4) za1))))) (λ_ _ _ _ _=>(zc4 (i:=0) zR9.nd rfl (Or.inl rfl))) (λ_ _ _ _ _=>zk5) (λ_ _ _ _ _=>(zt5 (za0 P1 (za0 (zc2 (zC0 K rfl) P2 (zb4 zj1 P1 za2) (λ_ _=>rfl)) (za0 P0 za1)))))) za1)))))
     (za5 (zb2 P3))))),?_⟩
   refine cut4 ?_;intro af ag ah;have ai:xs.length<=5:=by have:=B.1.w;have:=y.len;omega
   have n1:=B.1.n1;have n2:=B.1.n2;have a2:wide n<=9:=by unfold wide;omega
   refine⟨_,rfl,_,rfl,b,a,n,r,c,d,xs,rfl,B,y,W,λp q I C=>?_⟩;refine⟨QD _,λl J=>?_⟩;have fl0:H l=none:=I.free J;have B1:=B.same I;have A:Same q (upd q l (.lst [])):=Same.upd J;have E:(upd q l (.lst [])) l=some (.lst []):=za4;revert A E;generalize upd q l (.lst [])=H2;intro A E;refine⟨_,rfl,p,_,rfl,.inr (SqT.of (A _ _ C)),_,_,rfl,rfl,1,(xs.length:Int)+1,by rw[Qa],⟨by omega,by omega,by omega,by omega⟩,zh1 (lo:=1) (n:=((xs.length:Int)+1-1).toNat) (λi O e=>X2 λv g=>A4 (O=[some (.ref b),some (.ref a),some (.ref p),some (.ref l),v]) (Same q e) (e l=some (.lst (g.map V.ref))) (Rows e xs g (zo4 n r d c xs i))) ⟨none,[],rfl,A,E,Rows.nil _ _⟩ ?_ ?_⟩
   . rintro i O X hi ⟨v,g,rfl,k,u,s⟩
     have a3:i<xs.length:=by omega
     have e1:(1+(i:Int)-1).toNat=i:=by omega
     have ax:atI (xs.map V.int) (1+(i:Int)-1)=some (.int (xs.getD i 0)):=by have:=ze8 (xs:=xs) (i:=1+(i:Int)-1) (by omega) (by omega);rw[e1] at this;exact this
     have a4:=zD0 n r d c xs i (wide n);have aj:=zK8 n r d c xs i;have ac:i*wide n<=5*9:=Nat.mul_le_mul (by omega) a2;refine⟨_,rfl,.inl ⟨rfl,_,SqL.of u⟩,_,rfl,_,rfl,_,rfl,b,p,n,r,c,_,i,d,xs,rfl,B1.same k,y,k _ _ C,⟨by omega,a3⟩,λY H4 Z L=>?_⟩;refine⟨Y,rfl,⟨_,SqL.of L⟩,λD hD=>?_⟩;have R:zo4 n r d c xs (i+1)=zo4 n r d c xs i++(zl2 n r d c xs i (wide n)).map λp=>(i,p):=zx9 n r d c xs i
     generalize zl2 n r d c xs i (wide n)=o at L a4 R ⊢;refine zn4 (K:=K) (a:=Y) (xs:=o.map V.int) (λj e=>X1 λf=>A3 (e D=some (.lst (f.map V.ref))) (Rows e xs f ((o.take j).map λp=>(i,p))) (Same H4 e)) ⟨[],za4,Rows.nil _ _,Same.upd hD⟩ (λj e ⟨_,_,_,a0⟩=>SqL.of (a0 _ _ L)) ?_ ?_
     . rintro j x e am hj ⟨f,F,R',s'⟩ hN
       obtain⟨z,rfl,hz⟩:=int_at hj;dsimp only[zq6];refine iteT ?_;refine⟨_,rfl,_,rfl,_,rfl,_,_,rfl,rfl,p,_,_,_,rfl,rfl,SqT.of (s' _ _ (Z _ _ (k _ _ C))),ax,_,rfl,(by show 3<=sizeLine;decide),λlt M=>?_⟩;have a5:D≠lt:=λz=>by rw[z,M] at F;cases F
       have ak:(o.take j).length<=9:=by rw[QT];omega
       have ad:f.length<=9:=by have:=R'.1;rw[Qa] at this;omega
       have a6:o.take (j+1)=o.take j++[z]:=by rw[QP,hz];rfl
       have a7:=(R'.same (Same.upd M)).app (Rows.one (H:=upd e lt (.tup [.int (1+(i:Int)),.int (xs.getD i 0),.int z])) (xs:=xs) (a:=lt) (m:=(i,z)) (by unfold zE5;rw[za4,Int.add_comm]));have Q:(upd e lt (.tup [.int (1+(i:Int)),.int (xs.getD i 0),.int z])) D=some (.lst (f.map V.ref)):=by rw[za8 a5];exact F
       refine⟨f.map V.ref,Q,zc5 (by rw[Qa];omega),hN _ ⟨f++[lt],by rw[za4,Qk];rfl,?_,(s'.updT M).put hD⟩⟩;rw[a6,Qk];exact a7.put Q
     . rintro H5 ⟨f,a8,N,s5⟩
       rw[Qa,QR] at N;have G:=Z.trans s5;have S:=G _ _ u;have e2:g.length=(zo4 n r d c xs i).length:=s.1;have e3:f.length=o.length:=by rw[N.1,Qa]
       refine⟨l,D,_,_,rfl,rfl,S,a8,QZ (zc5 (by rw[Qa,Qa];omega)),?_⟩;refine⟨_,g++f,rfl,(k.trans G).put J,by rw[za4,Qk],?_⟩;rw[R];exact((s.same G).app N).put S
   . rintro O X ⟨v,g,rfl,k,u,s⟩
     rw[show((xs.length:Int)+1-1).toNat=xs.length by omega] at s;exact⟨_,rfl,a1 l g X (I.trans k) fl0 u s⟩
end
section
variable {P:Program} {w:World} {K:W.Frag} {mg:Str->Option Value} {base:Heap} {t:Adr}
noncomputable def nbs (n r:Int)(hs:List Int)(lim:Int)(x:List Int):List (List Int):=(zo4 n r hs lim x x.length).map λm=>x.set m.1 m.2
theorem zW3 {n r:Int}{hs:List Int}{lim:Int}{x:List Int}{i:Nat}{p:Int}:p∈zl2 n r hs lim x i (wide n)↔Lets n r hs lim x i p:=by
 unfold zl2 grid;rw[List.mem_filter,decide_eq_true_eq];refine⟨λh=>h.2,λh=>⟨?_,h⟩⟩;have:=h.on;rw[QN];exact⟨(p+n).toNat,List.mem_range.mpr (by unfold wide;omega),by omega⟩
theorem zK9 {n r:Int}{hs:List Int}{lim:Int}{x:List Int}{k:Nat}{m:Nat×Int}:m∈zo4 n r hs lim x k↔m.1<k/\Lets n r hs lim x m.1 m.2:=by
 unfold zo4;rw[List.mem_flatMap];constructor
 . rintro⟨i,a,b⟩
   obtain⟨p,c,rfl⟩:=QN.mp b;exact⟨List.mem_range.mp a,zW3.mp c⟩
 . rintro⟨a,L⟩
   exact⟨m.1,List.mem_range.mpr a,QN.mpr ⟨m.2,zW3.mpr L,rfl⟩⟩
theorem zy0 {n r:Int}{hs:List Int}{lim:Int}{x y:List Int}:y∈nbs n r hs lim x↔∃i p,Lets n r hs lim x i p/\y=x.set i p:=by
 unfold nbs;rw[QN];constructor
 . rintro⟨m,a,rfl⟩
   exact⟨m.1,m.2,(zK9.mp a).2,rfl⟩
 . rintro⟨i,p,L,rfl⟩
   exact⟨(i,p),zK9.mpr ⟨L.lt,L⟩,rfl⟩
inductive Walk (n r:Int)(hs:List Int)(lim:Int)(s:List Int):Nat->List Int->Prop
 | zero:Walk n r hs lim s 0 s
 | succ {d:Nat} {x y:List Int}:Walk n r hs lim s d x->y∈nbs n r hs lim x->Walk n r hs lim s (d+1) y
def Dst (n r:Int)(hs:List Int)(lim:Int)(s:List Int)(d:Nat)(x:List Int):Prop:=Walk n r hs lim s d x/\∀j,j<d->¬ Walk n r hs lim s j x
section
variable {n r:Int} {hs:List Int} {lim:Int} {s:List Int}
theorem Walk.dst:∀ {d:Nat} {x:List Int},Walk n r hs lim s d x->∃e,e<=d/\Dst n r hs lim s e x:=by
 intro d
 induction d using Nat.strongRecOn with
 | _ d c =>
   intro x h;by_cases q:∃j,j<d/\Walk n r hs lim s j x
   . obtain⟨j,a,b⟩:=q
     obtain⟨e,g,f⟩:=c j a b;exact⟨e,by omega,f⟩
   . exact⟨d,Qj _,h,λj a b=>q ⟨j,a,b⟩⟩
theorem Dst.uniq {d e:Nat}{x:List Int}(h:Dst n r hs lim s d x)(h':Dst n r hs lim s e x):d=e:=by
 rcases Nat.lt_trichotomy d e with z | z | z
 . exact absurd h.1 (h'.2 d z)
 . exact z
 . exact absurd h'.1 (h.2 e z)
theorem Dst.zero:Dst n r hs lim s 0 s:=⟨.zero,λj a=>absurd a (Nat.not_lt_zero _)⟩
theorem Dst.pred {d:Nat}{y:List Int}(h:Dst n r hs lim s (d+1) y):∃x,Dst n r hs lim s d x/\y∈nbs n r hs lim x:=by
 obtain⟨c,e⟩:=h;cases c with
 | @succ _ x _ f a=>exact⟨x,⟨f,λj g b=>e (j+1) (by omega) (.succ b a)⟩,a⟩
theorem dst_next {d:Nat}{y:List Int}:Dst n r hs lim s (d+1) y↔(¬ ∃j,j<=d/\Dst n r hs lim s j y)/\∃x,Dst n r hs lim s d x/\y∈nbs n r hs lim x:=by
 constructor
 . intro h
   exact⟨λ⟨j,a,b⟩=>by have:=h.uniq b;omega,h.pred⟩
 . rintro⟨c,x,f,g⟩
   refine⟨.succ f.1 g,λj a i=>c ?_⟩;obtain⟨e,l,k⟩:=i.dst;exact⟨e,by omega,k⟩
theorem Walk.valid {d:Nat}{x:List Int}(h:Walk n r hs lim s d x){w:Nat}(a:zd0 n r w s):zd0 n r w x:=by
 induction h with
 | zero=>exact a
 | succ _ b c =>
   obtain⟨i,p,L,rfl⟩:=zy0.mp b;exact L.valid c
end
theorem zS5:∀(N:Nat) (l:List Nat),l.Nodup->(∀x∈l,x<N)->l.length<=N
 | 0,l,_,h=>by
   cases l with
   | nil=>exact Qj _
   | cons a l=>exact absurd (h a (.head _)) (Nat.not_lt_zero _)
 | N+1,l,c,h=>by
   by_cases d:N∈l
   . have:=zS5 N (l.erase N) (c.erase N) λx b=>by
       have e:=h x (List.mem_of_mem_erase b);have f:x≠N:=λz=>by rw[z] at b;exact(List.Nodup.not_mem_erase c) b
       omega
     rw[List.length_erase_of_mem d] at this;omega
   . have:=zS5 N l c λx b=>by
       have e:=h x b;have f:x≠N:=λz=>d (z▸b)
       omega
     omega
noncomputable def zq9 (n:Int):List Int->Nat
 | []=>0
 | a::x=>(a+n).toNat+(2*n+1).toNat*zq9 n x
theorem yc9 {n:Int}(c:0<=n):∀ {x:List Int},(∀a∈x,-n<=a/\a<=n)->zq9 n x<(2*n+1).toNat ^ x.length
 | [],_=>by simp[zq9]
 | a::x,h=>by
   have g:=h a (.head _);have d:=yc9 c (x:=x) λb e=>h b (.tail _ e)
   show(a+n).toNat+(2*n+1).toNat*zq9 n x<(2*n+1).toNat ^ (x.length+1);rw[Nat.pow_succ,Nat.mul_comm _ ((2*n+1).toNat)];have f:(2*n+1).toNat*(zq9 n x+1)<=(2*n+1).toNat*(2*n+1).toNat ^ x.length:=Nat.mul_le_mul_left _ d;rw[Nat.mul_add] at f;omega
theorem zW4 {n:Int}(f:0<=n):∀ {x y:List Int},x.length=y.length->(∀a∈x,-n<=a/\a<=n)->(∀a∈y,-n<=a/\a<=n)->zq9 n x=zq9 n y->x=y
 | [],[],_,_,_,_=>rfl
 | [],_::_,h,_,_,_=>nomatch h
 | _::_,[],h,_,_,_=>nomatch h
 | a::x,b::y,hl,hx,hy,e=>by
   have m:=hx a (.head _);have o:=hy b (.head _);have g:(a+n).toNat+(2*n+1).toNat*zq9 n x=(b+n).toNat+(2*n+1).toNat*zq9 n y:=e;have i:0<(2*n+1).toNat:=by omega
   have j:((a+n).toNat+(2*n+1).toNat*zq9 n x) % (2*n+1).toNat=(a+n).toNat:=by rw[Nat.add_mul_mod_self_left];exact Nat.mod_eq_of_lt (by omega)
   have k:((b+n).toNat+(2*n+1).toNat*zq9 n y) % (2*n+1).toNat=(b+n).toNat:=by rw[Nat.add_mul_mod_self_left];exact Nat.mod_eq_of_lt (by omega)
   have p:(a+n).toNat=(b+n).toNat:=by rw[<-j,<-k,g]
   have l:zq9 n x=zq9 n y:=by
     have:(2*n+1).toNat*zq9 n x=(2*n+1).toNat*zq9 n y:=by omega
     exact Nat.eq_of_mul_eq_mul_left i this
   rw[show a=b by omega,zW4 f (by simpa using hl) (λc d=>hx c (.tail _ d)) (λc d=>hy c (.tail _ d)) l]
theorem few {n r:Int}{hs:List Int}{lim:Int}(ok:zg6 n r hs lim){d:List (List Int)}(g:d.Nodup)(a:∀x∈d,zd0 n r hs.length x):d.length<=1000:=by
 have j:=ok.n1;have h:=zS5 ((2*n+1).toNat ^ hs.length) (d.map (zq9 n)) ?_ ?_
 . rw[Qa] at h
   have k:=ok.most;have e:(((2*n+1).toNat ^ hs.length:Nat):Int)=(2*n+1) ^ hs.length:=by rw[Int.natCast_pow,Int.toNat_of_nonneg (by omega)]
   omega
 . refine List.pairwise_map.mpr (g.imp_of_mem λ{x y} b f z e=>z ?_)
   exact zW4 (by omega) ((a x b).len.trans (a y f).len.symm) (a x b).on (a y f).on e
 . intro c i
   obtain⟨x,b,rfl⟩:=QN.mp i;have:=yc9 (n:=n) (by omega) (a x b).on;rw[(a x b).len] at this;exact this
noncomputable def Goes (n r:Int)(hs:List Int)(lim:Int):List Int->List (Nat×Int)->List Int->Prop
 | x,[],y=>x=y
 | x,m::ms,y=>Lets n r hs lim x m.1 m.2/\Goes n r hs lim (x.set m.1 m.2) ms y
noncomputable def zj6 (H:Hp):List Int->List Addr->List (Nat×Int)->Prop
 | _,[],[]=>True
 | x,a::rs,m::ms=>zE5 H x a m/\zj6 H (x.set m.1 m.2) rs ms
 | _,_,_=>False
theorem zj6.same {H H':Hp}(s:Same H H'):∀ {x:List Int} {b:List Addr} {c:List (Nat×Int)},zj6 H x b c->zj6 H' x b c
 | _,[],[],_=>trivial
 | _,[],_::_,h=>h.elim
 | _,_::_,[],h=>h.elim
 | x,a::b,m::c,h=>⟨s _ _ h.1,zj6.same s h.2⟩
theorem zj6.keepL {H:Hp}{l:Addr}{o:HO}{vs:List V}(d:H l=some (.lst vs)):∀ {x:List Int} {b:List Addr} {c:List (Nat×Int)},zj6 H x b c->zj6 (upd H l o) x b c
 | _,[],[],_=>trivial
 | _,[],_::_,h=>h.elim
 | _,_::_,[],h=>h.elim
 | x,a::b,m::c,h=>by
   refine⟨?_,zj6.keepL d h.2⟩;have:=h.1;unfold zE5 at this ⊢;rw[za8 (λz=>by rw[z,d] at this;cases this)];exact this
theorem zj6.len {H:Hp}:∀ {x:List Int} {b:List Addr} {c:List (Nat×Int)},zj6 H x b c->b.length=c.length
 | _,[],[],_=>rfl
 | _,[],_::_,h=>h.elim
 | _,_::_,[],h=>h.elim
 | x,a::b,m::c,h=>by simp[zj6.len h.2]
noncomputable abbrev dOf (kv:List (List Int×V)):List (List Key×V):=kv.map λe=>(ik e.1,e.2)
theorem yo1 {x y:List Int}(h:ik x=ik y):x=y:=(List.map_inj_right (λa b z=>by injection z)).mp h
theorem zS6 {a:List (List Int×V)}{x:List Int}{v:V}(b:(a.map (·.1)).Nodup)(h:(x,v)∈a):valV (dOf a) (ik x)=some v:=by
 induction a with
 | nil=>cases h
 | cons e a c =>
   rw[Qv,List.nodup_cons] at b;rcases Qq.mp h with rfl | h
   . exact zG5 rfl
   . have d:¬ ik e.1=ik x:=λz=>b.1 (by rw[yo1 z];exact QN.mpr ⟨_,h,rfl⟩)
     show valV ((ik e.1,e.2)::dOf a) (ik x)=_;rw[zz4 d];exact c b.2 h
theorem yd1 {a:List (List Int×V)}{x:List Int}(h:x∉a.map (·.1)):valV (dOf a) (ik x)=none:=by
 induction a with
 | nil=>rfl
 | cons e a b =>
   rw[Qv,Qq,not_or] at h;have c:¬ ik e.1=ik x:=λz=>h.1 (yo1 z).symm
   show valV ((ik e.1,e.2)::dOf a) (ik x)=_;rw[zz4 c];exact b h.2
theorem yo2 {a:List (List Int×V)}(b:(a.map (·.1)).Nodup)(x:List Int):(valV (dOf a) (ik x)).isSome=decide (x∈a.map (·.1)):=by
 by_cases h:x∈a.map (·.1)
 . obtain⟨e,c,rfl⟩:=QN.mp h
   rw[zS6 b c,Qg h];rfl
 . rw[yd1 h,Qf h]
   rfl
theorem dOf_put {a:List (List Int×V)}{x:List Int}(v:V)(h:x∉a.map (·.1)):putK (dOf a) (ik x) v=dOf (a++[(x,v)]):=by
 rw[putK_new v (yd1 h)];unfold dOf;rw[Qk];rfl
section
variable {n r:Int} {hs:List Int} {lim:Int}
theorem yd2 {x y:List Int}(a:zd0 n r hs.length x)(b:absI (zc6 hs x)<=lim)(h:y∈nbs n r hs lim x):x∈nbs n r hs lim y:=by
 obtain⟨i,p,L,rfl⟩:=zy0.mp h;refine zy0.mpr ⟨i,x.getD i 0,L.turned a b,?_⟩;have c:=L.lt;rw[List.set_set,Qs,Qe c,Option.getD_some,List.set_getElem_self]
end
end
section
variable {P:Program} {w:World} {K:W.Frag} {mg:Str->Option Value} {base:Heap} {t:Adr}
theorem yd3 (n r:Int)(hs:List Int)(lim:Int)(x:List Int):∀k,(zo4 n r hs lim x k).length<=k*wide n
 | 0=>QD _
 | k+1=>by
   have a:=yd3 n r hs lim x k;have b:=zD0 n r hs lim x k (wide n);rw[zx9,Qi,Qa,Nat.succ_mul];omega
theorem sub_len {l:List (List Int)}(e:l.Nodup):∀ {m:List (List Int)},(∀x∈l,x∈m)->l.length<=m.length:=by
 induction l with
 | nil=>exact λ_=>QD _
 | cons a l f =>
   intro m h;have c:=h a (.head _);have b:=List.nodup_cons.mp e;have:=f b.2 (m:=m.erase a) λx d=>(List.mem_erase_of_ne (λz=>b.1 (by rw[<-z];exact d))).mpr (h x (.tail _ d))
   rw[List.length_erase_of_mem c] at this;have g:=List.length_pos_of_mem c;rw[Ql];omega
theorem nbs_few {n r lim:Int}{hs x:List Int}(ok:zg6 n r hs lim)(a:x.length<=5):(nbs n r hs lim x).length<=45:=by
 unfold nbs;rw[Qa];have c:=ok.n1;have d:=ok.n2;have b:wide n<=9:=by unfold wide;omega
 exact QJ (yd3 n r hs lim x _) (Nat.mul_le_mul a b)
theorem dget {H:Hp}{a b:Addr}{c:List (List Int×V)}{x:List Int}(e:H a=some (.dT (dOf c)))(d:H b=some (.tup (x.map V.int))):DGet H a (.ref b) (valV (dOf c) (ik x)):=DGet.t e (by rw[yn5];exact d)
theorem dput {H:Hp}{a b:Addr}{c:List (List Int×V)}{x:List Int}{v:V}(e:H a=some (.dT (dOf c)))(d:H b=some (.tup (x.map V.int)))(f:c.length<=1000):DPut H a (.ref b) v (upd H a (.dT (putK (dOf c) (ik x) v))) :=
 DPut.t e (by rw[yn5];exact d) (zc5 (by rw[Qa];exact f))
def yo3 (n r:Int)(hs:List Int)(lim:Int)(L:List (List Int))(H:Hp)(e:List Int×V):Prop:=∃x∈L,∃m i p,e.2 = .ref m/\zE5 H x m (i,p)/\Lets n r hs lim x i p/\e.1=x.set i p
structure NL (n r:Int)(hs:List Int)(lim:Int)(H:Hp)(ld f:Addr)(L:List (List Int))(kv:List (List Int×V))(Seen:List Int->Prop)(H':Hp)(F:List (List Int×V))(zs:List V):Prop where
 sx:zi2 ld H H'
 hf:H' f=some (.lst zs)
 tu:Tups H' zs (F.map (·.1))
 hd:H' ld=some (.dT (dOf (kv++F)))
 nd:((kv++F).map (·.1)).Nodup
 mem:∀y,y∈F.map (·.1)↔y∉kv.map (·.1)/\Seen y
 row:∀e∈F,yo3 n r hs lim L H' e
theorem NL.step {n r:Int}{hs:List Int}{lim:Int}{H:Hp}{b f:Addr}{L:List (List Int)}{c:List (List Int×V)}{a:List Int->Prop}{H' d:Hp}{F:List (List Int×V)}{zs:List V}(N:NL n r hs lim H b f L c a H' F zs)(s:Same H' d):NL n r hs lim H b f L c a d F zs :=
 ⟨N.sx.trans s.x,s _ _ N.hf,s.tups N.tu,s _ _ N.hd,N.nd,N.mem,λe g=>let⟨x,h,m,i,p,j,k,l,o⟩:=N.row e g;⟨x,h,m,i,p,j,s _ _ k,l,o⟩⟩
theorem NL.iff {n r:Int}{hs:List Int}{lim:Int}{H:Hp}{c f:Addr}{L:List (List Int)}{d:List (List Int×V)}{b a:List Int->Prop}{H':Hp}{F:List (List Int×V)}{zs:List V}(N:NL n r hs lim H c f L d b H' F zs)(h:∀y,b y↔a y):NL n r hs lim H c f L d a H' F zs :=
 ⟨N.sx,N.hf,N.tu,N.hd,N.nd,λy=>by rw[N.mem,h],N.row⟩
theorem NL.add {n r:Int}{hs:List Int}{lim:Int}{H:Hp}{g f:Addr}{L:List (List Int)}{d:List (List Int×V)}{v:List Int->Prop}{H':Hp}{F:List (List Int×V)}{zs:List V}(N:NL n r hs lim H g f L d v H' F zs)(C:H f=none)
   {x:List Int} {m l:Addr} {i:Nat} {p:Int} (D:x∈L) (E:zE5 H' x m (i,p)) (G:Lets n r hs lim x i p) (I:H' l=some (.tup ((x.set i p).map V.int))) (s:x.set i p∉(d++F).map (·.1)) :
   NL n r hs lim H g f L d (λy=>v y\/y=x.set i p) (upd (upd H' g (.dT (putK (dOf (d++F)) (ik (x.set i p)) (.ref m)))) f (.lst (zs++[.ref l]))) (F++[(x.set i p,.ref m)]) (zs++[.ref l]):=by
 have w:f≠g:=λz=>by have:=N.hf;rw[z,N.hd] at this;cases this
 have q:∀ {b:Addr} {t:List V},H' b=some (.tup t)->(upd (upd H' g (.dT (putK (dOf (d++F)) (ik (x.set i p)) (.ref m)))) f (.lst (zs++[.ref l]))) b=some (.tup t):=λ{b t} c=>by
   rw[za8 (λz=>by have:=N.hf;rw[<-z,c] at this;cases this),za8 (λz=>by have:=N.hd;rw[<-z,c] at this;cases this)];exact c
 refine⟨N.sx.updX.put C,za4,?_,?_,?_,λy=>?_,λe j=>?_⟩
 . rw[Qk]
   exact zo7 (Paired.mapP N.tu λy k ⟨b,e,c⟩=>⟨b,e,q c⟩) (q I)
 . rw[za8 (Ne.symm w),za4,dOf_put _ s,QU]
 . rw[<-QU,Qk]
   exact List.nodup_append.mpr ⟨N.nd,by simp,λa J b c=>by
     obtain rfl:b=x.set i p:=by simpa using c
     exact λz=>s (z▸J)⟩
 . rw[Qk,QB,N.mem]
   have A:x.set i p∉d.map (·.1):=λz=>s (by rw[Qk];exact ZF _ z)
   constructor
   . rintro(⟨u,o⟩ | h)
     . exact⟨u,.inl o⟩
     . obtain rfl:y=x.set i p:=by simpa using h
       exact⟨A,.inr rfl⟩
   . rintro⟨u,o | o⟩
     . exact .inl ⟨u,o⟩
     . exact .inr (by simp[o])
 . rcases QB.mp j with j | j
   . obtain⟨K,B,M,O,P,Q,R,S,T⟩:=N.row e j
     exact⟨K,B,M,O,P,Q,q R,S,T⟩
   . obtain rfl:e=(x.set i p,.ref m):=by simpa using j
     exact⟨x,D,m,i,p,rfl,q E,G,rfl⟩
def sp_next_layer (K:W.Frag)(t:Adr):Sp:=λvs H Q _=>∃(b l ld:Addr) (n r lim:Int) (hs:List Int) (L:List (List Int)) (ys:List V) (kv:List (List Int×V)),vs=[.ref b,.ref l,.ref ld]/\zf0 t H b n r hs lim/\H l=some (.lst ys)/\Tups H ys L/\(∀x∈L,zd0 n r hs.length x)/\(∃s0:List Int,s0.length<=5/\∀x∈L,x=s0) ∧
 H ld=some (.dT (dOf kv))/\(kv.map (·.1)).Nodup/\(∀x∈kv.map (·.1),zd0 n r hs.length x) ∧
 ∀l' H' zs G F,zi2 ld H H'->H l'=none->H' l'=some (.lst zs)->Tups H' zs G->G.Perm (F.map (·.1))->G.Pairwise (λx y=>Sx.lexB x y=true)->H' ld=some (.dT (dOf (kv++F)))->((kv++F).map (·.1)).Nodup →
   (∀y,y∈F.map (·.1)↔y∉kv.map (·.1)/\∃x∈L,y∈nbs n r hs lim x)->(∀e∈F,yo3 n r hs lim L H' e)->Q (.ref l') H'
theorem ok_next_layer (T:Txt K mg t):FnOk P w K mg base CX0 7 t.a4 t.a5 Vj (sp_next_layer K t):=by
 refine T.bh.F.ok zm5 (λvs H b4 b5 h=>?_) (λb8 bc b6 a0 H vs b4 b5 hr h=>?_)
 . obtain⟨b,l,g,n,r,k,o,L,ys,C,rfl,B,Z,hT,hV,ab,J,nd,ag,au⟩:=h
   rfl
 . obtain⟨b,l,g,n,r,k,o,L,ys,C,rfl,B,Z,hT,hV,ab,J,nd,ag,au⟩:=h
   refine⟨_,(za3 (zb7 (i:=3) zm5.nd rfl (Or.inl rfl) (zg0 za1))
     (za3 (zh7 PassesOwn.never rfl (zi8 P1) (zc4 (i:=4) zm5.nd rfl (Or.inl rfl)) (za5 (zh7 PassesOwn.never rfl (zi8 (za6 (ok_moves T) hr.m T.ca zb1 (za0 P0 (za0 (pv 4) za1)))) (zc4 (i:=5) zm5.nd rfl (Or.inl rfl)) (za3 (zb7 (i:=6) zm5.nd rfl (Or.inl rfl) (za6 (zC9 T) hr.m T.aK zb1 (za0 (pv 4) (za0 (pv 5) za1))))
     (za5 (zc7 (yk2 (zV3 (zD8 hr) P6 P2)) (za3 (ps_dput (zD8 hr) P2 P6 (pv 5) rfl)
     (za5 (ze2 (zl1 QC QM QL zi0 P3 (za0 P6 za1))))) zb3))))))
     (za5 (zb2 (zb5 call_sortLS rfl T.b2 PyProof.Rows.boot_sorted (za0 P3 za1)))))),?_⟩
   refine cut3 ?_;intro b9 ba;refine⟨QD _,λf ff=>?_⟩;have ac:∀ {p:Hp} {F:List (List Int×V)} {v:List V} {ad:List Int->Prop},NL n r o k H g f L C ad p F v->(C++F).length<=1000/\v.length<=1000:=λ{p F v ad} a1=>by
     have d:=few B.1 a1.nd λx D=>by
       rw[Qk] at D;rcases QB.mp D with z | z
       . exact ag x z
       . obtain⟨e,he,rfl⟩:=QN.mp z
         obtain⟨M,ah,m',i',p',_,_,L',e4⟩:=a1.row e he;rw[e4];exact L'.valid (hV M ah)
     have q:=zd6 a1.tu;rw[Qa] at d q;rw[Qi] at d ⊢;omega
   have N0:NL n r o k H g f L C (λy=>∃x∈L.take 0,y∈nbs n r o k x) (upd H f (.lst [])) [] [] :=
     ⟨(Same.upd ff).x,za4,.nil,by rw[za8 (za9 J ff),Zt];exact J,by rw[Zt];exact nd,λy=>⟨(λz=>nomatch z),λ⟨_,x,D,_⟩=>nomatch D⟩,λe he=>nomatch he⟩
   have bb:∀ {c:Addr} {a5:HO},H c=some a5->c≠f:=λe=>za9 e ff
   have ay:b≠g:=λz=>by obtain⟨_,_,_,hb,_⟩:=B;rw[z,J] at hb;cases hb
   have ai:l≠g:=λz=>by rw[z,J] at Z;cases Z
   have aw:∀ {p:Hp},zi2 g H p->zf0 t p b n r o k:=λ{p} a0=>by
     obtain⟨ok,dx,h,hb,W⟩:=B;exact⟨ok,dx,h,a0 _ _ hb ay,a0 _ _ W (λz=>by rw[z,J] at W;cases W)⟩
   have ax:∀ {p:Hp} {c:Addr} {us:List V},zi2 g H p->H c=some (.tup us)->p c=some (.tup us):=λa0 e=>a0 _ _ e (λz=>by rw[z,J] at e;cases e)
   revert N0;generalize upd H f (.lst [])=H1;intro N0;refine⟨_,rfl,l,rfl,⟨_,SqL.of (N0.sx _ _ Z ai)⟩,zp8 (K:=K) (a:=l) (xs:=ys) (λi E p=>X5 λv4 G I F v=>A2 (E=[some (.ref b),some (.ref l),some (.ref g),some (.ref f),v4,G,I]) (NL n r o k H g f L C (λy=>∃x∈L.take i,y∈nbs n r o k x) p F v)) ⟨none,none,none,[],[],rfl,N0⟩ (λi E p _ ⟨_,_,_,_,_,_,a1⟩=>SqL.of (a1.sx _ _ Z ai)) ?_ ?_⟩
   . rintro i y E H2 hi ⟨v4,G,I,F,v,rfl,u⟩
     obtain⟨st,x,rfl,D,az⟩:=zm9 hT hi;have aj:x∈L:=Qt D;have Vx:=hV x aj;have ae:=ax u.sx az;have b7:x.length<=5:=by have:=Vx.len;have:=B.1.w;omega
     have b0:L.take (i+1)=L.take i++[x]:=by rw[QP,D];rfl
     refine⟨_,rfl,_,rfl,b,st,n,r,k,o,x,rfl,aw u.sx,Vx,.inr ae,λlm N H3 s3 b1 ak R3=>?_⟩;have O:=u.step s3;have al:∀m∈zo4 n r o k x x.length,Lets n r o k x m.1 m.2:=λm hm=>(zK9.mp hm).2
     have a7:∀y,y∈nbs n r o k x↔∃m∈zo4 n r o k x x.length,y=x.set m.1 m.2:=λy=>by
       unfold nbs;rw[QN];exact⟨λ⟨m,d,q⟩=>⟨m,d,q.symm⟩,λ⟨m,d,q⟩=>⟨m,d,q.symm⟩⟩
     generalize zo4 n r o k x x.length=A at R3 al a7;refine⟨lm,rfl,⟨_,SqL.of ak⟩,zp8 (K:=K) (a:=lm) (xs:=N.map V.ref) (λj E p=>X4 λG I F v=>A5 (E=[some (.ref b),some (.ref l),some (.ref g),some (.ref f),some (.ref st),G,I]) (NL n r o k H g f L C (λy=>(∃x∈L.take i,y∈nbs n r o k x)\/∃m∈A.take j,y=x.set m.1 m.2) p F v) (p lm=some (.lst (N.map V.ref))) (Rows p x N A) (p st=some (.tup (x.map V.int)))) ⟨G,I,F,v,rfl,O.iff λy=>⟨.inl,λz=>z.elim id λ⟨m,hm,_⟩=>nomatch hm⟩,ak,R3,s3 _ _ ae⟩ (λj E p _ ⟨_,_,_,_,_,_,h,_,_⟩=>SqL.of h) ?_ ?_⟩
     . rintro j y E H4 hj ⟨G,I,F,v,rfl,Q,a2,R,U⟩
       have a8:j<N.length:=by
         have:=(QX.mp hj).1;simpa using this
       have a9:j<A.length:=by rw[<-R.1];exact a8
       obtain rfl:y = .ref N[j]:=by
         rw[QQ,Qe a8] at hj;exact(QA hj).symm
       have a3:=R.2 j N[j] A[j] (Qe a8) (Qe a9);have aa:=al A[j] (Zz a9);have am:A.take (j+1)=A.take j++[A[j]]:=by rw[QP,Qe a9];rfl
       generalize N[j]=ma at a3;generalize A[j]=m at a3 aa am;obtain⟨S,mp⟩:=m;refine⟨_,rfl,_,rfl,st,ma,_,_,mp,S,x,rfl,U,.inr (SqT.of a3),⟨rfl,aa.lt,by omega⟩,λl5 H5 X h5=>?_⟩;have s:=Q.step X;have af:∀y,((∃x∈L.take i,y∈nbs n r o k x)\/∃m∈A.take (j+1),y=x.set m.1 m.2)↔((∃x∈L.take i,y∈nbs n r o k x)\/∃m∈A.take j,y=x.set m.1 m.2)\/y=x.set S mp:=λy=>by
         rw[am];simp only[QB,QI];constructor
         . rintro(z | ⟨m,z | z,e⟩)
           . exact .inl (.inl z)
           . exact .inl (.inr ⟨m,z,e⟩)
           . exact .inr (by rw[e,z])
         . rintro((z | ⟨m,z,e⟩) | z)
           . exact .inl z
           . exact .inr ⟨m,.inl z,e⟩
           . exact .inr ⟨(S,mp),.inr rfl,z⟩
       refine⟨_,rfl,_,rfl,g,_,rfl,dget s.hd h5,_,rfl,?_⟩;rw[yo2 s.nd];refine ite2 (λd=>?_) (λd=>?_)
       . have Y:x.set S mp∉(C++F).map (·.1):=λz=>by rw[Qg z] at d;cases d
         refine⟨_,rfl,_,rfl,_,rfl,g,_,rfl,dput s.hd h5 (ac s).1,?_⟩;have b2:f≠g:=λz=>by have:=s.hf;rw[z,s.hd] at this;cases this
         have an:(upd H5 g (.dT (putK (dOf (C++F)) (ik (x.set S mp)) (.ref ma)))) f=some (.lst v):=by rw[za8 b2];exact s.hf
         have N6:=(s.add ff aj (X _ _ a3) aa h5 Y).iff λy=>(af y).symm
         have a6:∀ {c:Addr} {a5:HO},H4 c=some a5->c≠g->c≠f->(upd (upd H5 g (.dT (putK (dOf (C++F)) (ik (x.set S mp)) (.ref ma)))) f (.lst (v++[.ref l5]))) c=some a5:=λe e1 e2=>by rw[za8 e2,za8 e1];exact X _ _ e
         have a4:∀ {c:Addr} {us:List V},H4 c=some (.tup us)->c≠g/\c≠f:=λe=>⟨λz=>(by have:=Q.hd;rw[<-z,e] at this;cases this),λz=>(by have:=Q.hf;rw[<-z,e] at this;cases this)⟩
         have ao:lm≠g/\lm≠f:=⟨λz=>(by have:=Q.hd;rw[<-z,a2] at this;cases this),λz=>(by have W:=u.hf;rw[<-z,b1] at W;cases W)⟩;refine⟨_,rfl,.inl ⟨rfl,_,SqL.of an⟩,_,rfl,f,_,_,rfl,rfl,an,zc5 (ac s).2,?_⟩;exact⟨_,_,_,_,rfl,N6,a6 a2 ao.1 ao.2,⟨R.1,λav a m' e1 e2=>by
           have:=R.2 av a m' e1 e2;exact a6 this (a4 this).1 (a4 this).2⟩,a6 U (a4 U).1 (a4 U).2⟩
       . have Y:x.set S mp∈(C++F).map (·.1):=Classical.byContradiction λz=>d (by rw[Qf z];rfl)
         refine⟨_,_,_,_,rfl,⟨s.sx,s.hf,s.tu,s.hd,s.nd,λy=>?_,s.row⟩,X _ _ a2,R.same X,X _ _ U⟩;rw[s.mem,af];constructor
         . rintro⟨d,q⟩;exact⟨d,.inl q⟩
         . rintro⟨d,q | q⟩
           . exact⟨d,q⟩
           . rw[Qk] at Y
             rcases QB.mp Y with z | z
             . exact absurd (q▸z) d
             . rw[q];exact(s.mem _).mp z
     . rintro E H4 ⟨G,I,F,v,rfl,Q,a2,R,U⟩
       rw[Qa,R.1,QR] at Q;refine⟨_,_,_,F,v,rfl,Q.iff λy=>?_⟩;rw[b0];simp only[QB,QI];constructor
       . rintro(⟨M,d,q⟩ | z)
         . exact⟨M,.inl d,q⟩
         . exact⟨x,.inr rfl,(a7 y).mpr z⟩
       . rintro⟨M,d | d,q⟩
         . exact .inl ⟨M,d,q⟩
         . exact .inr ((a7 y).mp (d▸q))
   . rintro E H2 ⟨v4,G,I,F,v,rfl,u⟩
     rw[zd6 hT,QR] at u;refine⟨_,rfl,f,_,_,rfl,SqL.of u.hf,?_,u.tu,?_,λ_ av hk=>?_,λl' ap js aq ht hp b3=>?_⟩
     . obtain⟨s0,h5,d⟩:=ab
       have ar:=u.nd;rw[Qk] at ar;have:=sub_len (List.nodup_append.mp ar).2.1 (m:=nbs n r o k s0) λy Y=>by
         obtain⟨_,x,D,h⟩:=(u.mem y).mp Y;rw[d x D] at h;exact h
       have q:=nbs_few B.1 h5;rw[zd6 u.tu];omega
     . have:=u.nd
       rw[Qk] at this;exact(List.nodup_append.mp this).2.1
     . obtain⟨e,he,rfl⟩:=QN.mp hk
       obtain⟨M,ah,m',i',p',_,_,L',e4⟩:=u.row e he;rw[e4];intro z;have h0:(M.set i' p').length=0:=by rw[z];rfl
       rw[QW] at h0;have:=L'.lt;omega
     . have sd:Same H2 (upd H2 l' (.lst ap)):=Same.upd aq
       have O:=u.step sd;exact au l' _ ap js F O.sx (u.sx.free aq (by rw[u.hd];exact λz=>nomatch z)) za4 (sd.tups ht) hp b3 O.hd O.nd O.mem O.row
end
section
variable {P:Program} {w:World} {K:W.Frag} {mg:Str->Option Value} {base:Heap} {t:Adr}
def zW5 (n r:Int)(hs:List Int)(lim:Int)(s:List Int)(H:Hp)(e:List Int×V):Prop :=
 (e.1=s/\e.2 = .non)\/∃y d m i p,e.2 = .ref m/\zE5 H y m (i,p)/\Lets n r hs lim y i p/\e.1=y.set i p/\Dst n r hs lim s d y/\Dst n r hs lim s (d+1) e.1
theorem zW5.same {n r:Int}{hs:List Int}{lim:Int}{s:List Int}{H H':Hp}{e:List Int×V}(h:zW5 n r hs lim s H e)(k:∀b a,H b=some (.tup a)->H' b=some (.tup a)):zW5 n r hs lim s H' e:=by
 rcases h with h | ⟨y,d,m,i,p,c,f,g⟩
 . exact .inl h
 . exact .inr ⟨y,d,m,i,p,c,k _ _ f,g⟩
def sp_row_to (K:W.Frag)(t:Adr):Sp:=λvs H Q _=>∃(g ld:Addr) (n r lim:Int) (hs s x:List Int) (d:Nat) (kv:List (List Int×V)),vs=[.ref g,.ref ld]/\H g=some (.tup (x.map V.int))/\H ld=some (.dT (dOf kv))/\(kv.map (·.1)).Nodup/\(∀e∈kv,zW5 n r hs lim s H e) ∧
 Dst n r hs lim s d x/\(∀j y,j<=d->Dst n r hs lim s j y->y∈kv.map (·.1))/\zd0 n r hs.length s/\hs.length<=5/\d<=1000 ∧
 ∀l H' rs ms,Same H H'->H l=none->H' l=some (.lst (rs.map V.ref))->zj6 H' s rs ms->Goes n r hs lim s ms x->ms.length=d->Q (.ref l) H'
theorem ok_row_to (T:Txt K mg t):FnOk P w K mg base CX0 2 t.bS t.bT Vl (sp_row_to K t):=by
 refine T.bO.F.ok zC2 (λvs a0 ae af a2=>?_) (λai ap ah s a0 vs ae af r a2=>?_)
 . obtain⟨a3,h,a4,a5,S,I,s,x,d,kv,rfl,X,hd,Y,a6,hx,a7,V0,hw,ab,a9⟩:=a2
   rfl
 . obtain⟨a3,h,a4,a5,S,I,s,x,d,kv,rfl,X,hd,Y,a6,hx,a7,V0,hw,ab,a9⟩:=a2
   refine⟨_,(za3 (zb7 (i:=2) zC2.nd rfl (Or.inl rfl) (zg0 za1))
     (za3 (zb7 (i:=3) zC2.nd rfl (Or.inl rfl) P0)
     (za3 (ya0 PassesOwn.never (zb9 op_notN (zY7 (zD8 r) P1 P3 (λ_ _=>rfl)) zE7 (zc1 _)) (za3 (ze2 (zl1 QC QM QL zi0 P2 (za0 (zY7 (zD8 r) P1 P3 (λ_ _=>rfl)) za1)))
     (za5 (zb7 (i:=3) zC2.nd rfl (Or.inl rfl) (za6 (zC9 T) r.m T.aK zb1 (za0 P3 (za0 (za6 (zW1 T) r.m T.bf zb1 (za0 (zY7 (zD8 r) P1 P3 (λ_ _=>rfl)) za1)) za1)))))))
     (za3 (ze2 (ym1 QC PySem.F.slot_list_reverse PySem.F.type_list_reverse mt_reverse P2))
     (za5 (zb2 P2)))))),?_⟩
   refine cut5 ?_;intro aj ak al am;refine⟨QD _,λe o=>?_⟩;refine⟨_,rfl,?_⟩
   refine ya2 (λQ a=>∃(u:Addr) (z:List Int) (c:List Addr) (k:List (Nat×Int)) (j:Nat),Q=[some (.ref a3),some (.ref h),some (.ref e),some (.ref u)]/\Same a0 a/\a e=some (.lst (c.map V.ref))/\a u=some (.tup (z.map V.int))/\zj6 a z c.reverse k/\Goes a4 a5 I S z k x/\Dst a4 a5 I S s j z/\j+k.length=d)
     (λQ a=>match a e with | some (.lst J)=>d-J.length | _=>0) ⟨a3,x,[],[],d,rfl,Same.upd o,za4,by rw[za8 (za9 X o)];exact X,trivial,rfl,hx,rfl⟩ ?_ ?_
   . rintro Q a ⟨u,z,c,k,j,rfl,L,f,M,Z,h4,h5,h6⟩
     have ac:=a7 j z (by omega) h5;obtain⟨⟨l,v⟩,he,rfl⟩:=QN.mp ac;have G:=L _ _ hd;have g1:∀ {g:Hp} {b:Addr},Same a g->g b=some (.tup (l.map V.int))->DGet g h (.ref b) (some v):=λ{g b} A B=>by
       have:=dget (A _ _ G) B;rw[zS6 Y he] at this;exact this
     refine⟨_,rfl,_,rfl,h,v,rfl,g1 (Same.refl _) M,rfl,_,rfl,?_⟩;rcases a6 _ he with⟨n,C⟩ | ⟨y,d',m,i,p,n,C,D,e4,N,e6⟩
     . obtain rfl:v = .non:=C
       refine iteF ?_;have hj:j=0:=h5.uniq (by rw[show l=s from n];exact Dst.zero);obtain rfl:l=s:=n;refine⟨_,rfl,.inl ⟨rfl,_,SqL.of f⟩,e,_,rfl,rfl,f,?_⟩;refine⟨_,rfl,a9 e _ c.reverse k (L.put o) o ?_ ?_ h4 (by omega)⟩
       . rw[za4,List.map_reverse]
       . exact zj6.keepL f Z
     . have hv:v = .ref m:=n
       subst hv;refine iteT ?_;have E:l=y.set i p:=e4;have ej:j=d'+1:=h5.uniq e6;have aa:=L _ _ C;have an:c.length=k.length:=by rw[<-Zw];exact Z.len
       have Vy:=N.1.valid V0;have ao:y.length=I.length:=Vy.len;refine⟨_,rfl,.inl ⟨rfl,_,SqL.of f⟩,_,rfl,_,rfl,h,_,rfl,g1 (Same.refl _) M,e,_,_,rfl,rfl,f,zc5 (by rw[Qa];omega),?_⟩;have k2:∀ {b:Addr} {J:List V},a b=some (.tup J)->(upd a e (.lst (c.map V.ref++[.ref m]))) b=some (.tup J):=λB=>by rw[za8 (λz=>by rw[z,f] at B;cases B)];exact B
       have U:(upd a e (.lst (c.map V.ref++[.ref m]))) h=some (.dT (dOf kv)):=by rw[za8 (λz=>by rw[z,f] at G;cases G)];exact G
       have g2:DGet (upd a e (.lst (c.map V.ref++[.ref m]))) h (.ref u) (some (.ref m)):=by
         have:=dget U (k2 M);rw[zS6 Y he] at this;exact this
       have H:(upd a e (.lst (c.map V.ref++[.ref m]))) e=some (.lst ((c++[m]).map V.ref)):=by rw[za4,Qk];rfl
       have R2:zj6 (upd a e (.lst (c.map V.ref++[.ref m]))) l c.reverse k:=zj6.keepL f Z;have A:Same a0 (upd a e (.lst (c.map V.ref++[.ref m]))):=L.put o;have R:=k2 M;have F:=k2 aa;revert g2 H R2 A R F U;generalize upd a e (.lst (c.map V.ref++[.ref m]))=g;intro U g2 H R2 A R F;refine⟨_,rfl,_,rfl,_,rfl,h,_,rfl,g2,m,_,_,_,rfl,.inr (SqT.of F),λlt ad=>?_⟩;have O:Same g (upd g lt (.tup [.int ((i:Int)+1),.int p,.int (y.getD i 0)])):=Same.upd ad;have W:(upd g lt (.tup [.int ((i:Int)+1),.int p,.int (y.getD i 0)])) lt=some (.tup [.int ((i:Int)+1),.int p,.int (y.getD i 0)]):=za4;dsimp only;revert O W;generalize upd g lt (.tup [.int ((i:Int)+1),.int p,.int (y.getD i 0)])=H3;intro O W;refine⟨u,lt,_,_,y.getD i 0,i,l,rfl,O _ _ R,.inr (SqT.of W),⟨rfl,by rw[E,QW];exact D.lt,by rw[E,QW];omega⟩,λl4 H4 s4 a8=>?_⟩;have ey:l.set i (y.getD i 0)=y:=by rw[E];exact set_back p D.lt
       rw[ey] at a8;have q:=O.trans s4;refine⟨⟨l4,y,c++[m],(i,p)::k,d',rfl,A.trans q,q _ _ H,a8,?_,⟨D,by rw[<-E];exact h4⟩,N,by simp;omega⟩,?_⟩
       . rw[List.reverse_append]
         refine⟨q _ _ F,?_⟩;rw[<-E];exact R2.same q
       . rw[q _ _ H,f]
         simp;omega
   . rintro Q a Q1 Q2 hQ ⟨_,n,_,C,a1,v1,D,e4,N,ag,e6,e7⟩
     exact⟨_,n,_,C,a1,v1,D,e4,N,ag,e6,hQ _ _ e7⟩
noncomputable def wsOf (ms:List (Nat×Int)):List Int:=ms.map λm=>(m.1:Int)+1
def sp_moved_again (K:W.Frag)(t:Adr):Sp:=λvs H Q _=>∃(rw_:Addr) (x:List Int) (rs:List Addr) (ms:List (Nat×Int)),vs=[.ref rw_]/\H rw_=some (.lst (rs.map V.ref))/\zj6 H x rs ms/\(∀m∈ms,m.1<5)/\ms.length<=1000 ∧
 ∀(l:Addr) (H':Hp) (ag:List Int),Same H H'->H l=none->H' l=some (.lst (ag.map V.int))->ag.Pairwise (· < ·)->(∀k,k∈ag↔k∈wsOf ms/\1<(wsOf ms).count k)->Q (.ref l) H'
theorem zj6.at_ {H:Hp}:∀ {x:List Int} {c:List Addr} {d:List (Nat×Int)},zj6 H x c d->∀ {j:Nat} {a:Addr},c[j]?=some a->∃m u v,d[j]?=some m/\H a=some (.tup [.int ((m.1:Int)+1),u,v])
 | _,[],[],_,j,a,h=>by simp at h
 | _,[],_::_,h,_,_,_=>h.elim
 | _,_::_,[],h,_,_,_=>h.elim
 | x,b::c,m::d,h,0,a,e=>by
   have f:some b=some a:=e;obtain rfl:=QA f;exact⟨m,_,_,rfl,h.1⟩
 | x,b::c,m::d,h,j+1,a,e=>by
   obtain⟨g,u,v,i,k⟩:=zj6.at_ h.2 (j:=j) (a:=a) (by simpa using e);exact⟨g,u,v,by simpa using i,k⟩
theorem ok_moved_again (T:Txt K mg t):FnOk P w K mg base CX0 1 t.aQ t.aR Pf (sp_moved_again K t):=by
 refine T.bb.F.ok zA8 (λvs H a1 E h=>?_) (λa7 a9 a6 aa H vs a1 E hr h=>?_)
 . obtain⟨A,x,l,c,rfl,o,B,M,X,q⟩:=h
   rfl
 . obtain⟨A,x,l,c,rfl,o,B,M,X,q⟩:=h
   refine⟨_,(za3 (zb7 (i:=1) zA8.nd rfl (Or.inr rfl) (zo0 rfl zv7 (zi8 P0) (λ_ _ _ _ _=>(zc4 (i:=0) zv7.nd rfl (Or.inl rfl))) (λ_ _ _ _ _=>zk5) (λ_ _ _ _ _=>(zc2 (zC0 K rfl) P0 za2 (λ_ _=>rfl)))))
     (za5 (zb2 (zb5 (call_sortS rfl) rfl T.b2 PyProof.Rows.boot_sorted (za0 (ze0 (call_setI rfl) rfl T.cF PyProof.Rows.boot_set (za0 (zo0 rfl zv8 (zi8 P1) (λ_ _ _ _ _=>(zc4 (i:=0) zv8.nd rfl (Or.inl rfl))) (λ_ _ _ _ _=>(zF8 (zb9 zy4 (pe_bmK K rfl QC PySem.F.slot_list_count PySem.F.type_list_count (mt_countLK K rfl) P1 (za0 P0 za1)) za2 (zc1 _)))) (λ_ _ _ _ _=>P0)) za1)) za1))))),?_⟩
   have W:=B.len;refine⟨_,rfl,A,rfl,⟨_,SqL.of o⟩,λD C=>?_⟩;refine zn4 (K:=K) (a:=A) (xs:=l.map V.ref) (λj d=>d=upd H D (.lst ((wsOf (c.take j)).map V.int))) rfl (λj d e=>by rw[e];exact SqL.of (by rw[za8 (za9 o C)];exact o)) ?_ ?_
   . rintro j v d a2 n rfl r
     have J:j<l.length:=by
       have:=(QX.mp n).1;simpa using this
     obtain rfl:v = .ref l[j]:=by
       rw[QQ,Qe J] at n;exact(QA n).symm
     obtain⟨m,a3,w',e1,N⟩:=B.at_ (Qe J);have p:c.take (j+1)=c.take j++[m]:=by rw[QP,e1];rfl
     have Y:(upd H D (.lst ((wsOf (c.take j)).map V.int))) l[j]=some (.tup [.int ((m.1:Int)+1),a3,w']):=by rw[za8 (za9 N C)];exact N
     dsimp only[zq6];refine iteT ?_;refine⟨_,rfl,_,_,_,_,rfl,rfl,SqT.of Y,rfl,_,za4,zc5 (by unfold wsOf;rw[Qa,Qa,QT];omega),r _ ?_⟩;rw[zh4,p];unfold wsOf;rw[Qk,Qk];rfl
   . rintro d rfl
     rw[Qa,W,QR];have s:Same H (upd H D (.lst ((wsOf c).map V.int))):=Same.upd C;have f:(upd H D (.lst ((wsOf c).map V.int))) D=some (.lst ((wsOf c).map V.int)):=za4;have Z:∀k∈wsOf c,1<=k/\k<=5:=λk u=>by
       unfold wsOf at u;obtain⟨m,hm,rfl⟩:=QN.mp u;have:=M m hm;omega
     have a8:(wsOf c).length<=1000:=by unfold wsOf;rw[Qa];omega
     generalize wsOf c=b at *;revert s f;generalize upd H D (.lst (b.map V.int))=g;intro s f;refine⟨_,rfl,D,rfl,⟨_,SqL.of f⟩,λE F=>?_⟩;refine zn4 (K:=K) (a:=D) (xs:=b.map V.int) (λj d=>d=upd g E (.lst (((b.take j).filter λk=>decide (1<b.count k)).map V.int))) rfl (λj d e=>by rw[e];exact SqL.of (by rw[za8 (za9 f F)];exact f)) ?_ ?_
     . rintro j v d a2 n rfl r
       obtain⟨z,rfl,hz⟩:=int_at n;have p:b.take (j+1)=b.take j++[z]:=by rw[QP,hz];rfl
       have L:(upd g E (.lst (((b.take j).filter λk=>decide (1<b.count k)).map V.int))) D=some (.lst (b.map V.int)):=by rw[za8 (za9 f F)];exact f
       refine⟨_,rfl,.inl ⟨rfl,_,SqL.of L⟩,_,rfl,D,b,z,rfl,rfl,SqL.of L,_,_,rfl,rfl,_,rfl,?_⟩;have ec:decide ((1:Int)<(b.count z:Int))=decide (1<b.count z):=by
         by_cases h:1<b.count z
         . rw[Qg h,Qg (by omega)]
         . rw[Qf h,Qf (by omega)]
       rw[ec];refine ite2 (λG=>?_) (λG=>?_)
       . refine⟨_,rfl,_,za4,zc5 (by rw[Qa];exact QJ (List.length_filter_le _ _) (by rw[QT];omega)),r _ ?_⟩
         rw[zh4,p,ZL,Qk];simp[G]
       . refine r _ ?_
         rw[p,ZL,Qk];simp[G]
     . rintro d rfl
       rw[Qa,QR];have y:Same g (upd g E (.lst ((b.filter λk=>decide (1<b.count k)).map V.int))):=Same.upd F;have I:(upd g E (.lst ((b.filter λk=>decide (1<b.count k)).map V.int))) E=some (.lst ((b.filter λk=>decide (1<b.count k)).map V.int)):=za4;revert y I;generalize upd g E (.lst ((b.filter λk=>decide (1<b.count k)).map V.int))=O;intro y I;refine⟨E,_,rfl,SqL.of I,λk u=>Z k (List.mem_filter.mp u).1,λS Q fS a0 up=>?_⟩;have R:∀ {a4:HO},Same O (upd O S a4):=Same.upd fS;refine⟨S,Q,rfl,za4,λa5 U=>?_⟩;refine q a5 _ Q (((s.trans y).trans R).updT U) ?_ za4 up λk=>?_
       . exact((s.trans y).trans R).free U
       . rw[a0,List.mem_filter,decide_eq_true_eq]
end
section
variable {P:Program} {w:World} {K:W.Frag} {mg:Str->Option Value} {base:Heap} {t:Adr}
noncomputable def zI1 (v1 v2 v3 v4 v5 v6:V):List (Str×V):=putF "shut" v6 (putF "again" v5 (putF "layers" v4 (putF "row" v3 (putF "many" v2 (putF "reached" v1 [])))))
theorem zy1 (a b c d e f:V):(zI1 a b c d e f).lookup ("reached" : Str)=some a:=by
 unfold zI1;rw[zc0,Qh (by decide +kernel),zc0,Qh (by decide +kernel),zc0,Qh (by decide +kernel),zc0,Qh (by decide +kernel),zc0,Qh (by decide +kernel),zc0,Qo rfl]
theorem zN4 (b a c d e f:V):(zI1 b a c d e f).lookup ("many" : Str)=some a:=by
 unfold zI1;rw[zc0,Qh (by decide +kernel),zc0,Qh (by decide +kernel),zc0,Qh (by decide +kernel),zc0,Qh (by decide +kernel),zc0,Qo rfl]
theorem zZ7 (b c a d e f:V):(zI1 b c a d e f).lookup ("row" : Str)=some a:=by
 unfold zI1;rw[zc0,Qh (by decide +kernel),zc0,Qh (by decide +kernel),zc0,Qh (by decide +kernel),zc0,Qo rfl]
def sp_Way_init (K:W.Frag)(t:Adr):Sp:=λvs H Q _=>∃(p dx:Addr) (v1 v2 v3 v4 v5 v6:V),vs=[.ref p,v1,v2,v3,v4,v5,v6]/\H p=some (.ins t.ad dx [])/\∀H',H' p=some (.ins t.ad dx (zI1 v1 v2 v3 v4 v5 v6))->zi2 p H H'->Q .non H'
theorem ok_Way_init (T:Txt K mg t):FnOk P w K mg base CX0 1 t.aD t.bw PP (sp_Way_init K t):=by
 refine T.bA.F.ok sc_Way_init (λf H Q E h=>?_) (λr A n s H f Q E B h=>?_)
 . obtain⟨p,a,g,i,j,k,l,m,rfl,d,q⟩:=h
   rfl
 . obtain⟨p,a,g,i,j,k,l,m,rfl,d,q⟩:=h
   refine⟨_,(za3 (zl5 P0 P1 rfl)
     (za3 (zl5 P0 P2 rfl)
     (za3 (zl5 P0 P3 rfl)
     (za3 (zl5 P0 (pv 4) rfl)
     (za3 (zl5 P0 (pv 5) rfl)
     (za5 (zl5 P0 P6 rfl))))))),?_⟩
   refine cut6 ?_;intro u v x y z;refine⟨_,rfl,_,rfl,p,_,a,_,rfl,d,T.ah,T.au,by decide,?_⟩;refine⟨_,rfl,_,rfl,p,_,a,_,rfl,za4,T.ah,T.ax,zo6 fl0,?_⟩;refine⟨_,rfl,_,rfl,p,_,a,_,rfl,za4,T.ah,T.aA,zo6 (flS fl0),?_⟩;refine⟨_,rfl,_,rfl,p,_,a,_,rfl,za4,T.ah,T.ci,zo6 (flS (flS fl0)),?_⟩;refine⟨_,rfl,_,rfl,p,_,a,_,rfl,za4,T.ah,T.co,zo6 (flS (flS (flS fl0))),?_⟩;refine⟨_,rfl,_,rfl,p,_,a,_,rfl,za4,T.ah,T.cs,zo6 (flS (flS (flS (flS fl0)))),?_⟩;refine q _ za4 λb o e c=>?_
   rw[za8 c,za8 c,za8 c,za8 c,za8 c,za8 c];exact e
def yq4 (t:Adr)(H:Hp)(a:Addr)(reached:Bool)(many:V)(row layers again shut:Addr):Prop:=∃dx,H a=some (.ins t.ad dx (zI1 (.bl reached) many (.ref row) (.ref layers) (.ref again) (.ref shut)))
abbrev Lay (H:Hp)(as:List Addr)(Ls:List (List (List Int))):Prop:=Paired (λa L=>∃ys,H a=some (.lst ys)/\Tups H ys L) as Ls
theorem Lay.keep {H H':Hp}(k:∀b o,H b=some o->H' b=some o){c:List Addr}{d:List (List (List Int))}(h:Lay H c d):Lay H' c d:=Paired.mapP h λa L ⟨f,g,i⟩=>⟨f,k _ _ g,Paired.mapP i λy x ⟨b,e,j⟩=>⟨b,e,k _ _ j⟩⟩
structure zS7 (n r:Int)(hs:List Int)(lim:Int)(s:List Int)(Ls:List (List (List Int))):Prop where
 mem:∀j L,Ls[j]?=some L->∀x,x∈L↔Dst n r hs lim s j x
 srt:∀L∈Ls,L.Pairwise λx y=>Sx.lexB x y=true
def zL0 (t:Adr)(H:Hp)(a:Addr)(n r:Int)(hs:List Int)(lim:Int)(s g:List Int):Prop :=
 (∃d rw_ rs ms la as Ls ag ags sh,Dst n r hs lim s d g/\yq4 t H a true (.int (d:Int)) rw_ la ag sh/\H rw_=some (.lst (rs.map V.ref))/\zj6 H s rs ms/\Goes n r hs lim s ms g/\ms.length=d/\H la=some (.lst (as.map V.ref))/\Lay H as Ls/\Ls.length=d+1/\zS7 n r hs lim s Ls ∧
   H ag=some (.lst (List.map V.int ags))/\ags.Pairwise (· < ·)/\(∀k,k∈ags↔k∈wsOf ms/\1<(wsOf ms).count k)/\H sh=some (.lst [])) ∨
 ((∀d,¬ Dst n r hs lim s d g)/\∃rw_ la as Ls ag sh zs S,yq4 t H a false .non rw_ la ag sh/\H rw_=some (.lst [])/\H la=some (.lst (as.map V.ref))/\Lay H as Ls/\zS7 n r hs lim s Ls/\(∀d,d<Ls.length↔∃x,Dst n r hs lim s d x) ∧
   H ag=some (.lst [])/\H sh=some (.lst zs)/\Tups H zs S/\S.Pairwise (λx y=>Sx.lexB x y=true)/\∀x,x∈S↔∃d,Dst n r hs lim s d x)
structure SI (n r:Int)(hs:List Int)(lim:Int)(s:List Int)(H:Hp)(la ld:Addr)(as:List Addr)(Ls:List (List (List Int)))(kv:List (List Int×V))(i:Nat):Prop where
 hla:H la=some (.lst (as.map V.ref))
 nla:la∉as
 lay:Lay H as Ls
 len:Ls.length=i+1
 lof:zS7 n r hs lim s Ls
 hd:H ld=some (.dT (dOf kv))
 nd:(kv.map (·.1)).Nodup
 key:∀x,x∈kv.map (·.1)↔∃j,j<=i/\Dst n r hs lim s j x
 led:∀e∈kv,zW5 n r hs lim s H e
theorem atI_neg1 {a:Type}{xs:List a}{x:a}:atI (xs++[x]) (-1)=some x:=by
 unfold atI ixN;rw[Qi,Zq,Qh (by omega),Qo (by omega)];simp;rw[show(-1+((xs.length:Int)+1)).toNat=xs.length by omega];simp
theorem Goes.lt {n r:Int}{hs:List Int}{lim:Int}{w:Nat}:∀ {x:List Int} {b:List (Nat×Int)} {y:List Int},Goes n r hs lim x b y->x.length=w->∀m∈b,m.1<w
 | _,[],_,_,_,m,a=>nomatch a
 | x,m'::b,y,h,hw,m,a=>by
   rcases Qq.mp a with rfl | a
   . rw[<-hw];exact h.1.lt
   . exact Goes.lt h.2 (by rw[QW];exact hw) m a
def sp_search (K:W.Frag)(t:Adr):Sp:=λvs H Q _=>∃(b st go:Addr) (n r lim:Int) (hs s g:List Int),vs=[.ref b,.ref st,.ref go]/\zf0 t H b n r hs lim/\zd0 n r hs.length s/\H st=some (.tup (s.map V.int))/\H go=some (.tup (g.map V.int))/\g∈nbs n r hs lim s/\g≠s ∧
 ∀a H',Same H H'->zL0 t H' a n r hs lim s g->Q (.ref a) H'
theorem ok_search (T:Txt K mg t):FnOk P w K mg base CX0 8 t.bQ t.bR Ph (sp_search K t):=by
 refine T.bN.F.ok zv6 (λvs H c3 c4 h=>?_) (λc7 cj c5 s H vs c3 c4 hr h=>?_)
 . obtain⟨b,S,go,n,r,C,D,s,g,rfl,a5,U,a8,ac,aq,ao,b9⟩:=h
   rfl
 . obtain⟨b,S,go,n,r,C,D,s,g,rfl,a5,U,a8,ac,aq,ao,b9⟩:=h
   refine⟨_,(za3 (zb7 (i:=3) zv6.nd rfl (Or.inl rfl) (zg0 (za0 (zg0 (za0 P1 za1)) za1)))
     (za3 (zb7 (i:=4) zv6.nd rfl (Or.inl rfl) (pe_disp1 (zD8 hr) P1 zE7))
     (za3 (ya0 PassesOwn.never (yk2 (zV3 (zD8 hr) P2 (pv 4))) (za3 (zb7 (i:=5) zv6.nd rfl (Or.inl rfl) (za6 (ok_next_layer T) hr.m T.bh zb1 (za0 P0 (za0 (zc2 zc3 P3 (zk8 zg8 za2) (λ_ _=>rfl)) (za0 (pv 4) za1)))))
     (za3 (zc7 (zb9 zg3 (zb5 zb8 rfl T.ac Qr (za0 (pv 5) za1)) za2 (zc1 _)) zh8 zb3)
     (za5 (ze2 (zl1 QC QM QL zi0 P3 (za0 (pv 5) za1)))))))
     (za3 (zb7 (i:=6) zv6.nd rfl (Or.inl rfl) (za6 (ok_row_to T) hr.m T.bO zb1 (za0 P2 (za0 (pv 4) za1))))
     (za5 (zb2 (zF4 T.cB (ok_Way_init T) hr.m rfl T.cx T.bA.b .nil zb1 (za0 zg9 (za0 (zb5 zb8 rfl T.ac Qr (za0 P6 za1)) (za0 P6 (za0 P3 (za0 (za6 (ok_moved_again T) hr.m T.bb zb1 (za0 P6 za1)) (za0 (zg0 za1) za1))))))))))))),?_⟩
   refine cut5 ?_;intro c8 c9 ca cb;have ar:Dst n r D C s 1 g:=⟨.succ .zero aq,λj q w=>by
     obtain rfl:j=0:=by omega
     cases w;exact ao rfl⟩
   refine⟨_,rfl,(by show 1<=sizeLine;decide),λJ f0=>⟨(by show 1<=sizeLine;decide),λl a9=>?_⟩⟩;have bc:H l=none:=(Same.upd f0).free a9;have au:J≠l:=λz=>by rw[<-z,za4] at a9;cases a9
   have s2:Same H (upd (upd H J (.lst [.ref S])) l (.lst [.ref J])):=(Same.upd f0).updT a9;have W:(upd (upd H J (.lst [.ref S])) l (.lst [.ref J])) J=some (.lst [.ref S]):=by rw[za8 au];exact za4
   have ab:(upd (upd H J (.lst [.ref S])) l (.lst [.ref J])) l=some (.lst [.ref J]):=za4;dsimp only;revert s2 W ab;generalize upd (upd H J (.lst [.ref S])) l (.lst [.ref J])=H2;intro s2 W ab;refine λE ad=>⟨_,rfl,za4,S,s,rfl,by rw[za8 (za9 (s2 _ _ a8) ad)];exact s2 _ _ a8,?_⟩
   have bd:H E=none:=s2.free ad;rw[zh4];have s3:Same H2 (upd H2 E (.dT [(ik s,.non)])):=Same.upd ad;have ae:(upd H2 E (.dT [(ik s,.non)])) E=some (.dT (dOf [(s,.non)])):=za4;revert s3 ae;generalize upd H2 E (.dT [(ik s,.non)])=H3;intro s3 ae;have av:=a5.1.w;have I0:SI n r D C s H3 l E [J] [[s]] [(s,.non)] 0:=by
     refine⟨s3 _ _ ab,by simpa using au.symm,.cons ⟨_,s3 _ _ W,.cons ⟨S,rfl,s3 _ _ (s2 _ _ a8)⟩ .nil⟩ .nil,rfl,⟨λj L e x=>?_,λL hL=>?_⟩,ae,by simp,λx=>?_,λe he=>?_⟩
     . match j,e with
       | 0,e =>
         obtain rfl:[s]=L:=QA e;rw[QI];exact⟨λz=>z▸Dst.zero,λz=>by obtain⟨w0,_⟩:=z;cases w0;rfl⟩
       | j+1,e=>simp at e
     . obtain rfl:L=[s]:=by simpa using hL
       exact List.pairwise_singleton _ _
     . constructor
       . intro p
         obtain rfl:x=s:=by simpa using p
         exact⟨0,Qj _,Dst.zero⟩
       . rintro⟨j,q,p⟩
         obtain rfl:j=0:=by omega
         obtain⟨w0,_⟩:=p;cases w0;simp
     . obtain rfl:e=(s,.non):=by simpa using he
       exact .inl ⟨rfl,rfl⟩
   have be:∀ {Y:Hp} {N:List Addr} {O:List (List (List Int))} {v:List (List Int×V)} {i:Nat},SI n r D C s Y l E N O v i->v.length<=1000:=λ{Y N O v i} ba=>by
     have:=few a5.1 ba.nd λx p=>by obtain⟨j,_,q⟩:=(ba.key x).mp p;exact q.1.valid U
     rw[Qa] at this;exact this
   refine ya2 (λσ Y=>X5 λv5 N O v i=>A6 (σ=[some (.ref b),some (.ref S),some (.ref go),some (.ref l),some (.ref E),v5,none]) (Same H Y) (SI n r D C s Y l E N O v i) (i<v.length) ((∃x,Dst n r D C s i x)) (∀j,j<i->¬ Dst n r D C s j g))
     (λσ Y=>match Y E with | some (.dT k)=>1001-k.length | _=>0) ⟨none,_,_,_,0,rfl,s2.trans s3,I0,by show 0<1;decide,⟨s,Dst.zero⟩,λj q=>absurd q (Nat.not_lt_zero _)⟩ ?_ ?_
   . rintro σ Z ⟨v5,N,O,v,i,rfl,s4,f,cc,cd,bl⟩
     have ce:=be f;refine⟨_,rfl,_,rfl,E,_,rfl,dget f.hd (s4 _ _ ac),_,rfl,?_⟩;rw[yo2 f.nd];refine ite2 (λQ=>?_) (λQ=>?_)
     . have aw:g∉v.map (·.1):=λz=>by rw[Qg z] at Q;cases Q
       have ax:i=0:=by
         rcases Nat.eq_zero_or_pos i with z | z
         . exact z
         . exact absurd ((f.key g).mpr ⟨1,z,ar⟩) aw
       obtain⟨I,A,rfl⟩:∃I A,N=I++[A]:=by
         have hl:=f.lay;have:N.length=O.length:=Paired.length hl;have W:N≠[]:=λz=>by rw[z,f.len] at this;cases this
         exact⟨N.dropLast,N.getLast W,(List.dropLast_concat_getLast W).symm⟩
       obtain⟨R,M,rfl⟩:∃R M,O=R++[M]:=by
         have W:O≠[]:=λz=>by have:=f.len;rw[z] at this;cases this
         exact⟨O.dropLast,O.getLast W,(List.dropLast_concat_getLast W).symm⟩
       have bb:R.length=i:=by have:=f.len;simpa using this
       obtain⟨o,bm,bn⟩:∃o,Z A=some (.lst o)/\Tups Z o M:=by
         have af:∀ {B:List Addr} {G:List (List (List Int))} {a:Addr} {a6:List (List Int)},Lay Z (B++[a]) (G++[a6])->∃o,Z a=some (.lst o)/\Tups Z o a6:=by
           intro B G a a6 h;have h':Paired (λa L=>∃o,Z a=some (.lst o)/\Tups Z o L) (B++[a]) (G++[a6]):=h;have hl:(B++[a]).length=(G++[a6]).length:=Paired.length h';clear h
           induction B generalizing G with
           | nil =>
             cases G with
             | nil=>cases h' with | cons x _=>exact x
             | cons _ _=>simp at hl
           | cons _ B ih =>
             cases G with
             | nil=>simp at hl
             | cons _ G=>cases h' with | cons _ t=>exact ih t (by simpa using hl)
         exact af f.lay
       have a4:∀x,x∈M↔Dst n r D C s i x:=f.lof.mem i M (by rw[<-bb];simp);refine⟨_,rfl,_,rfl,_,rfl,l,_,_,_,rfl,rfl,SqL.of f.hla,by rw[Qk];exact atI_neg1,_,rfl,b,A,E,n,r,C,D,M,o,v,rfl,a5.same s4,bm,bn,λx p=>((a4 x).mp p).1.valid U,⟨s,by have:=U.len;omega,λx p=>by
         have w:=((a4 x).mp p).1;rw[ax] at w;cases w;rfl⟩,f.hd,f.nd,λx p=>(by obtain⟨j,_,q⟩:=(f.key x).mp p;exact q.1.valid U),λl5 u zs a7 F ay az b0 b1 b2 bo a0 b3 ah bp=>?_⟩
       have s5:Same H u:=zi2.same s4 bd ay;have hF:∀y,y∈F.map (·.1)↔Dst n r D C s (i+1) y:=λy=>by
         rw[ah,dst_next,f.key];constructor
         . rintro⟨Q,x,h2,h3⟩;exact⟨Q,x,(a4 x).mp h2,h3⟩
         . rintro⟨Q,x,h2,h3⟩;exact⟨Q,x,(a4 x).mpr h2,h3⟩
       have k5:∀ {c:Addr} {a2:HO},Z c=some a2->(∀k,a2≠.dT k)->u c=some a2:=λe ne=>ay _ _ e (λz=>by rw[z,f.hd] at e;injection e with e;exact ne _ e.symm)
       have a3:u l=some (.lst ((I++[A]).map V.ref)):=k5 f.hla (λk z=>nomatch z);have ap:Lay u (I++[A]) (R++[M]):=Paired.mapP f.lay λa L ⟨o,Q,h2⟩=>⟨o,k5 Q (λk z=>nomatch z),Paired.mapP h2 λy x ⟨b,e,X⟩=>⟨b,e,k5 X (λk z=>nomatch z)⟩⟩
       have bf:∀e∈v,zW5 n r D C s u e:=λe he=>(f.led e he).same λb us X=>k5 X (λk z=>nomatch z)
       have c6:(v++F).length<=1000:=by
         have:=few a5.1 b3 λx p=>by
           rw[Qk] at p;rcases QB.mp p with z | z
           . obtain⟨j,_,q⟩:=(f.key x).mp z;exact q.1.valid U
           . exact((hF x).mp z).1.valid U
         rw[Qa] at this;exact this
       have bq:a7.length=zs.length:=(zd6 b1).symm;have br:a7.length=F.length:=by rw[b2.length_eq,Qa]
       refine⟨_,rfl,l5,_,rfl,.inl (SqL.of b0),rfl,_,rfl,?_⟩;rw[ze9];have b4:g∈F.map (·.1):=(hF g).mpr (by rw[ax];exact ar);have bt:zs.length≠0:=λz=>by
         have:F.length=0:=by omega
         rw[Qy this] at b4;cases b4
       refine iteB (Qf (by omega)) ?_;have bg:∃x,Dst n r D C s (i+1) x:=by
         cases F with
         | nil=>exact absurd (bq.symm.trans br) bt
         | cons e F=>exact⟨e.1,(hF e.1).mp (by simp)⟩
       refine⟨_,rfl,.inl ⟨rfl,_,SqL.of a3⟩,_,rfl,l,_,_,rfl,rfl,a3,zc5 (by rw[Qa,show(I++[A]).length=i+1 from(Paired.length ap).trans f.len];omega),?_⟩;have b5:l5≠l:=λz=>by rw[z,f.hla] at az;cases az
       have k6:∀ {c:Addr} {a2:HO},u c=some a2->c≠l->(upd u l (.lst ((I++[A]).map V.ref++[.ref l5]))) c=some a2:=λe ne=>by rw[za8 ne];exact e
       have aa:∀ {c:Addr} {us:List V},u c=some (.tup us)->(upd u l (.lst ((I++[A]).map V.ref++[.ref l5]))) c=some (.tup us):=λe=>k6 e (λz=>by rw[z,a3] at e;cases e)
       have bh:Lay (upd u l (.lst ((I++[A]).map V.ref++[.ref l5]))) (I++[A]) (R++[M]):=by
         have af:∀ {B:List Addr} {G:List (List (List Int))},Lay u B G->l∉B->Lay (upd u l (.lst ((I++[A]).map V.ref++[.ref l5]))) B G:=by
           intro B G h;have h':Paired (λa L=>∃o,u a=some (.lst o)/\Tups u o L) B G:=h;clear h
           induction h' with
           | nil=>intro _;exact .nil
           | cons x t ih =>
             intro hn;rw[Qq,not_or] at hn;obtain⟨o,e1,e2⟩:=x;exact .cons ⟨o,k6 e1 (Ne.symm hn.1),Paired.mapP e2 λy x ⟨b,e,X⟩=>⟨b,e,aa X⟩⟩ (ih hn.2)
         exact af ap f.nla
       refine⟨⟨_,I++[A]++[l5],R++[M]++[a7],v++F,i+1,rfl,s5.put bc,⟨?_,?_,?_,?_,⟨?_,?_⟩,?_,b3,?_,?_⟩,by rw[Qi];omega,bg,λj q hy=>aw ((f.key g).mpr ⟨j,by omega,hy⟩)⟩,?_⟩
       . rw[za4,Qk (l₁:=I++[A])];rfl
       . rw[QB,not_or]
         exact⟨f.nla,by simpa using b5.symm⟩
       . exact Paired.snoc bh ⟨zs,k6 b0 b5,Paired.mapP b1 λy x ⟨b,e,X⟩=>⟨b,e,aa X⟩⟩
       . rw[Qi,f.len];rfl
       . intro j L e x
         by_cases q:j<(R++[M]).length
         . rw[Zj q] at e
           exact f.lof.mem j L e x
         . rw[QG (by omega)] at e
           have bu:j-(R++[M]).length=0:=by
             rcases Nat.eq_zero_or_pos (j-(R++[M]).length) with z | z
             . exact z
             . rw[Zf (by rw[Zq];omega)] at e;cases e
           rw[bu] at e;obtain rfl:a7=L:=QA e;have:j=i+1:=by have:=f.len;omega
           rw[this,b2.mem_iff,hF]
       . intro L hL
         rcases QB.mp hL with z | z
         . exact f.lof.srt L z
         . obtain rfl:L=a7:=by simpa using z
           exact bo
       . rw[za8 (λz=>by rw[z,a3] at a0;cases a0)];exact a0
       . intro x
         rw[Qk,QB,f.key,hF];constructor
         . rintro(⟨j,q,h⟩ | h)
           . exact⟨j,by omega,h⟩
           . exact⟨i+1,Qj _,h⟩
         . rintro⟨j,q,h⟩
           rcases QY i j with z | z
           . obtain rfl:j=i+1:=by omega
             exact .inr h
           . exact .inl ⟨j,z,h⟩
       . intro e he
         rcases QB.mp he with z | z
         . exact(bf e z).same λb us X=>aa X
         . obtain⟨x,p,m,i',p',e1,e2,e3,e4⟩:=bp e z
           exact .inr ⟨x,i,m,i',p',e1,aa e2,e3,e4,(a4 x).mp p,(hF e.1).mp (QN.mpr ⟨e,z,rfl⟩)⟩
       . rw[za8 (λz=>by rw[z,a3] at a0;cases a0),a0,f.hd]
         simp only[Qa,Qi];omega
     . -- the goal is come to
       have bv:g∈v.map (·.1):=Classical.byContradiction λz=>Q (by rw[Qf z];rfl)
       obtain⟨d,cf,ai⟩:=(f.key g).mp bv;refine⟨_,rfl,_,rfl,go,E,n,r,C,D,s,g,d,v,rfl,s4 _ _ ac,f.hd,f.nd,f.led,ai,λj y q hy=>(f.key y).mpr ⟨j,by omega,hy⟩,U,av,by omega,λlr u rs ms s5 cg aj R5 G5 b6=>?_⟩;have bi:=R5.len;have ah:∀m∈ms,m.1<5:=λm hm=>QH (G5.lt U.len m hm) av
       refine⟨_,rfl,lr,_,rfl,.inl (SqL.of aj),?_⟩;rw[Qa,bi,b6];refine⟨_,rfl,_,rfl,_,rfl,lr,s,rs,ms,rfl,aj,R5,ah,by omega,λlg H6 ag s6 ci bw bx bz=>?_⟩;refine⟨QD _,λls c0=>?_⟩;have s7:Same H6 (upd H6 ls (.lst [])):=Same.upd c0;have ak:(upd H6 ls (.lst [])) ls=some (.lst []):=za4;dsimp only;revert s7 ak;generalize upd H6 ls (.lst [])=H7;intro s7 ak;refine λa dx fa c1 c2=>?_
       have s8:Same H7 (upd (upd H7 dx (.own a)) a (.ins t.ad dx [])):=(Same.upd c1).updT (by rw[za8 (Ne.symm c2)];exact fa);refine⟨a,dx,_,_,_,_,_,_,rfl,za4,λH9 h9 s9=>⟨rfl,?_⟩⟩;have b7:Same H7 H9:=zi2.same s8 fa s9;have b8:=s7.trans b7;have am:=s6.trans b8;have an:=s5.trans am;have bj:d=i:=by
         rcases QY d i with z | z
         . exact absurd ai (bl d z)
         . omega
       refine b9 a H9 (s4.trans an) (.inl ⟨d,lr,rs,ms,l,N,O,lg,ag,ls,ai,⟨dx,h9⟩,am _ _ aj,R5.same am,G5,b6,an _ _ f.hla,f.lay.keep an,by rw[bj];exact f.len,f.lof,b8 _ _ bw,bx,bz,b7 _ _ ak⟩)
   . rintro σ Y Q1 Q2 hQ ⟨_,e1,_,e2,B,v1,e3,e4,k,e6,e7⟩
     exact⟨_,e1,_,e2,B,v1,e3,e4,k,e6,hQ _ _ e7⟩
def sp_fewest (K:W.Frag)(t:Adr):Sp:=λvs H Q _=>∃(b a1 a2:Addr) (n r lim:Int) (hs s g:List Int),vs=[.ref b,.ref a1,.ref a2]/\zf0 t H b n r hs lim/\zd0 n r hs.length s/\zd0 n r hs.length g/\(SqL K H a1 (s.map V.int)\/H a1=some (.tup (s.map V.int)))/\(SqL K H a2 (g.map V.int)\/H a2=some (.tup (g.map V.int))) ∧
 absI (zc6 hs s)<=lim/\absI (zc6 hs g)<=lim/\g∈nbs n r hs lim s/\g≠s/\∀a H',Same H H'->zL0 t H' a n r hs lim s g->Q (.ref a) H'
theorem ok_fewest (T:Txt K mg t):FnOk P w K mg base CX0 9 t.a3 t.bP Ph (sp_fewest K t):=by
 refine T.bg.F.ok zK4 (λL H Q E h=>?_) (λU a0 S s H L Q E k h=>?_)
 . obtain⟨b,x,y,n,r,d,f,s,g,rfl,B,m,o,z,A,C,D,v,u,q⟩:=h
   rfl
 . obtain⟨b,x,y,n,r,d,f,s,g,rfl,B,m,o,z,A,C,D,v,u,q⟩:=h
   refine⟨_,(za3 (zb7 (i:=3) zK4.nd rfl (Or.inl rfl) (za6 (zf1 T) k.m T.af zb1 (za0 P0 (za0 P1 za1))))
     (za3 (zb7 (i:=4) zK4.nd rfl (Or.inl rfl) (za6 (zf1 T) k.m T.af zb1 (za0 P0 (za0 P2 za1))))
     (za3 (zc7 (zd9 (zc9 (za6 (zS0 T) k.m T.a5 zb1 (za0 P0 (za0 P3 za1))))) zh8 zb3)
     (za3 (zc7 (zd9 (zc9 (za6 (zS0 T) k.m T.a5 zb1 (za0 P0 (za0 (pv 4) za1))))) zh8 zb3)
     (za5 (zb2 (za6 (ok_search T) k.m T.bN zb1 (za0 P0 (za0 P3 (za0 (pv 4) za1)))))))))),?_⟩
   refine cut5 ?_;intro V W X Y;refine⟨_,rfl,_,rfl,b,x,n,r,d,f,s,rfl,B,m,z,λF Z c G=>?_⟩;refine⟨_,rfl,_,rfl,b,y,n,r,d,f,g,rfl,B.same c,o,A.imp c.seq (λe=>c _ _ e),λI H2 j J=>?_⟩;refine⟨_,rfl,_,rfl,b,F,n,r,d,f,s,rfl,(B.same c).same j,m,.inr (j _ _ G),λH3 p=>⟨_,rfl,?_⟩⟩;refine iteB (by rw[Qg C];rfl) ?_;refine⟨_,rfl,_,rfl,b,I,n,r,d,f,g,rfl,((B.same c).same j).same p,o,.inr (p _ _ J),λH4 M=>⟨_,rfl,?_⟩⟩;refine iteB (by rw[Qg D];rfl) ?_;have l:=p.trans M;exact⟨_,rfl,_,rfl,_,rfl,b,F,I,n,r,d,f,s,g,rfl,((B.same c).same j).same l,m,l _ _ (j _ _ G),l _ _ J,v,u,λa N O R=>q a N (c.trans (j.trans (l.trans O))) R⟩
end
section
variable {P:Program} {w:World} {K:W.Frag} {mg:Str->Option Value} {base:Heap} {t:Adr}
noncomputable def zj7 (b s x m:Addr):List (Str×V):=[("beam",.ref b),("start",.ref s),("standing",.ref x),("made",.ref m)]
theorem yo4:¬ ("beam" : Str) = "start":=by decide +kernel
theorem ye5:¬ ("beam" : Str) = "standing":=by decide +kernel
theorem yo5:¬ ("start" : Str) = "standing":=by decide +kernel
theorem yo6:¬ ("beam" : Str) = "made":=by decide +kernel
theorem pf_ne5:¬ ("start" : Str) = "made":=by decide +kernel
theorem yo7:¬ ("standing" : Str) = "made":=by decide +kernel
theorem pfN {f:Str}{v:V}:putF f v []=[(f,v)]:=rfl
theorem pfC {f g:Str}{v x:V}{l:List (Str×V)}(h:¬ g=f):putF f v ((g,x)::l)=(g,x)::putF f v l:=Qh h
theorem pfE {f:Str}{v x:V}{l:List (Str×V)}:putF f v ((f,x)::l)=(f,v)::l:=Qo rfl
theorem yd4 (b s x m:Addr):putF "made" (.ref m) (putF "standing" (.ref x) (putF "start" (.ref s) (putF "beam" (.ref b) [])))=zj7 b s x m:=by
 rw[pfN,pfC yo4,pfN,pfC ye5,pfC yo5,pfN,pfC yo6,pfC pf_ne5,pfC yo7,pfN];rfl
theorem yo8 (b s x a m:Addr):putF "standing" (.ref a) (zj7 b s x m)=zj7 b s a m:=by
 unfold zj7;rw[pfC ye5,pfC yo5,pfE]
theorem zD1 (b s x m:Addr):(zj7 b s x m).lookup ("beam" : Str)=some (.ref b):=by rw[<-yd4,zc0,Qh yo6,zc0,Qh ye5,zc0,Qh yo4,zc0,Qo rfl]
theorem zh0 (b s x m:Addr):(zj7 b s x m).lookup ("standing" : Str)=some (.ref x):=by rw[<-yd4,zc0,Qh yo7,zc0,Qo rfl]
theorem zy2 (b s x m:Addr):(zj7 b s x m).lookup ("made" : Str)=some (.ref m):=by rw[<-yd4,zc0,Qo rfl]
theorem yj7 (b s x m:Addr) (f:Str) (a:¬ f = "made") (c:¬ f = "standing") (d:¬ f = "start") (e:¬ f = "beam"):(zj7 b s x m).lookup f=none:=by rw[<-yd4,zc0,Qh a,zc0,Qh c,zc0,Qh d,zc0,Qh e];rfl
theorem zI2 (b s x m:Addr):(zj7 b s x m).lookup ("move" : Str)=none:=yj7 _ _ _ _ _ (by decide +kernel) (by decide +kernel) (by decide +kernel) (by decide +kernel)
theorem yj8 (b s x m:Addr):(zj7 b s x m).lookup ("back" : Str)=none:=yj7 _ _ _ _ _ (by decide +kernel) (by decide +kernel) (by decide +kernel) (by decide +kernel)
theorem pf_trail (b s x m:Addr):(zj7 b s x m).lookup ("trail" : Str)=none:=yj7 _ _ _ _ _ (by decide +kernel) (by decide +kernel) (by decide +kernel) (by decide +kernel)
theorem yo9 (b s x m:Addr):(zj7 b s x m).length<1000:=by show 4<1000;decide
def zi4 (p m:Addr)(H H':Hp):Prop:=∀b o,H b=some o->b≠p->b≠m->H' b=some o
theorem zi4.tup {p m:Addr}{H H':Hp}(s:zi4 p m H H')(d:∃C b fs,H p=some (.ins C b fs))(f:∃c,H m=some (.lst c)){a:Addr}{vs:List V}(h:H a=some (.tup vs)):H' a=some (.tup vs) :=
 s a _ h (λz=>by obtain⟨C,b,fs,e⟩:=d;rw[z,e] at h;cases h) (λz=>by obtain⟨c,e⟩:=f;rw[z,e] at h;cases h)
theorem zi4.tups {p m:Addr}{H H':Hp}(s:zi4 p m H H')(c:∃C d fs,H p=some (.ins C d fs))(f:∃ys,H m=some (.lst ys)){ys:List V}{a:List (List Int)}(h:Tups H ys a):Tups H' ys a:=Paired.mapP h λy k ⟨b,e,g⟩=>⟨b,e,s.tup c f g⟩
structure zf8 (t:Adr)(H:Hp)(p b s x m:Addr)(n r:Int)(hs:List Int)(lim:Int)(a c:List Int)(ys:List V)(ms:List (List Int)):Prop where
 bm:zf0 t H b n r hs lim
 nb:b≠p
 hp:∃dx,H p=some (.ins t.aa dx (zj7 b s x m))
 hs:H s=some (.tup (a.map V.int))
 hx:H x=some (.tup (c.map V.int))
 hm:H m=some (.lst ys)
 tm:Tups H ys ms
theorem zf0.same2 {t:Adr}{H H':Hp}{b p m:Addr}{n r lim:Int}{hs:List Int}(B:zf0 t H b n r hs lim)(s:zi4 p m H H')(g:b≠p)(i:∃C a fs,H p=some (.ins C a fs))(d:∃f,H m=some (.lst f)):zf0 t H' b n r hs lim:=by
 obtain⟨ok,a,h,c,j⟩:=B;exact⟨ok,a,h,s b _ c g (λz=>by obtain⟨f,e⟩:=d;rw[z,e] at c;cases c),s.tup i d j⟩
theorem zf8.same {t:Adr}{H H':Hp}{p b s x m:Addr}{n r lim:Int}{hs a c:List Int}{ys:List V}{d:List (List Int)}(h:zf8 t H p b s x m n r hs lim a c ys d)(e:Same H H'):zf8 t H' p b s x m n r hs lim a c ys d :=
 ⟨h.bm.same e,h.nb,let⟨f,z⟩:=h.hp;⟨f,e _ _ z⟩,e _ _ h.hs,e _ _ h.hx,e _ _ h.hm,e.tups h.tm⟩
theorem zf8.ip {t:Adr}{H:Hp}{p b s x m:Addr}{n r lim:Int}{hs a c:List Int}{ys:List V}{e:List (List Int)}(h:zf8 t H p b s x m n r hs lim a c ys e):∃C d fs,H p=some (.ins C d fs):=let⟨d,z⟩:=h.hp;⟨_,d,_,z⟩
theorem Same.two {H H':Hp}(s:Same H H')(p m:Addr):zi4 p m H H':=λb o e _ _=>s b o e
theorem zi4.trans {p m:Addr}{H a c:Hp}(s:zi4 p m H a)(s':zi4 p m a c):zi4 p m H c:=λb o e d f=>s' b o (s b o e d f) d f
theorem zi4.updP {p m:Addr}{H a:Hp}{o:HO}(s:zi4 p m H a):zi4 p m H (upd a p o):=λb u e c d=>by rw[za8 c];exact s b u e c d
theorem zi4.updM {p m:Addr}{H a:Hp}{o:HO}(s:zi4 p m H a):zi4 p m H (upd a m o):=λb u e d c=>by rw[za8 c];exact s b u e d c
def sp_Play_init (K:W.Frag)(t:Adr):Sp:=λvs H Q _=>∃(p b a dx:Addr) (n r lim:Int) (hs xs:List Int),vs=[.ref p,.ref b,.ref a]/\H p=some (.ins t.aa dx [])/\b≠p/\zf0 t H b n r hs lim/\zd0 n r hs.length xs/\(SqL K H a (xs.map V.int)\/H a=some (.tup (xs.map V.int)))/\absI (zc6 hs xs)<=lim ∧
 ∀H' s m,zi2 p H H'->H m=none->zf8 t H' p b s s m n r hs lim xs xs [] []->Q .non H'
theorem zI3 (T:Txt K mg t):FnOk P w K mg base CX0 5 t.ay t.bi Vm (sp_Play_init K t):=by
 refine T.aT.F.ok zH2 (λS H Q E h=>?_) (λX a3 W a4 H S Q E D h=>?_)
 . obtain⟨p,b,a,c,n,r,o,s,j,rfl,k,u,B,v,F,G,q⟩:=h
   rfl
 . obtain⟨p,b,a,c,n,r,o,s,j,rfl,k,u,B,v,F,G,q⟩:=h
   refine⟨_,(za3 (zb7 (i:=3) zH2.nd rfl (Or.inl rfl) (za6 (zf1 T) D.m T.af zb1 (za0 P1 (za0 P2 za1))))
     (za3 (zc7 (zd9 (zc9 (za6 (zS0 T) D.m T.a5 zb1 (za0 P1 (za0 P3 za1))))) zh8 zb3)
     (za3 (zl5 P0 P1 rfl)
     (za3 (zl5 P0 P3 rfl)
     (za3 (zl5 P0 P3 rfl)
     (za5 (zl5 P0 (zg0 za1) rfl))))))),?_⟩
   refine cut6 ?_;intro Y Z a0 a1 a2;refine⟨_,rfl,_,rfl,b,a,n,r,o,s,j,rfl,B,v,F,λl H1 I J=>?_⟩;refine⟨_,rfl,_,rfl,b,l,n,r,o,s,j,rfl,B.same I,v,.inr J,λL M=>⟨_,rfl,?_⟩⟩;rw[Qg G];refine iteF ?_;have f:=I.trans M;have g:=M _ _ J;have N:l≠p:=λz=>by rw[z,f _ _ k] at g;cases g
   refine⟨_,rfl,_,rfl,p,_,c,_,rfl,f _ _ k,T.aa,T.an,by decide,?_⟩;refine⟨_,rfl,_,rfl,p,_,c,_,rfl,za4,T.aa,T.cj,zo6 fl0,?_⟩;refine⟨_,rfl,_,rfl,p,_,c,_,rfl,za4,T.aa,T.ab,zo6 (flS fl0),?_⟩;rw[zh4,zh4];refine⟨QD _,λm d=>?_⟩;have x:m≠p:=λz=>by rw[z,za4] at d;cases d
   refine⟨_,rfl,p,_,c,_,rfl,by rw[za8 x.symm];exact za4,T.aa,T.ak,zo6 (flS (flS fl0)),?_⟩;rw[yd4];rw[za8 x] at d;have y:zi2 p H (upd (upd (upd L p (.ins t.aa c (putF "standing" (.ref l) (putF "start" (.ref l) (putF "beam" (.ref b) []))))) m (.lst [])) p (.ins t.aa c (zj7 b l l m))):=λa5 a6 e O=>by
     rw[za8 O,za8 (za9 (f _ _ e) d),za8 O];exact f _ _ e
   have C:(upd (upd (upd L p (.ins t.aa c (putF "standing" (.ref l) (putF "start" (.ref l) (putF "beam" (.ref b) []))))) m (.lst [])) p (.ins t.aa c (zj7 b l l m))) l=some (.tup (j.map V.int)):=by
     rw[za8 N,za8 (za9 g d),za8 N];exact g
   refine q _ l m y (f.free d) ⟨?_,u,⟨c,za4⟩,C,C,by rw[za8 x];exact za4,.nil⟩;obtain⟨ok,R,h,U,A⟩:=B;exact⟨ok,R,h,y _ _ U u,y _ _ A (λz=>by rw[z,k] at A;cases A)⟩
def sp_Play_move (K:W.Frag) (t:Adr):Sp:=λvs H Q E=>∃(p mv b s x m:Addr) (n r lim qq:Int) (hs a c:List Int) (ys:List V) (ms:List (List Int)) (i:Nat),vs=[.ref p,.ref mv]/\zf8 t H p b s x m n r hs lim a c ys ms/\zd0 n r hs.length c/\((ys.length=300/\∀od H',Told H H' od "play full"->E (.ref t.ab) od H')\/(H mv=some (.tup [.int ((i:Int)+1),.int (c.getD i 0),.int qq]))/\Lets n r hs lim c i qq/\ys.length<300 ∧
 ∀x' tv H',zi4 p m H H'->zf8 t H' p b s x' m n r hs lim a (c.set i qq) (ys++[.ref tv]) (ms++[[(i:Int)+1,c.getD i 0,qq]])->Q (.ref x') H')
theorem zr1 (T:Txt K mg t):FnOk P w K mg base (CXD P w) 7 t.al t.az Po (sp_Play_move K t):=by
 refine T.ap.F.d.okD (CX:=CX0) zH3 (λvs H a4 a5 h=>?_) (λa9 ad a8 s H vs a4 a5 V h=>?_)
 . obtain⟨p,y,b,s,x,m,n,r,G,l,J,a,c,g,Q,i,rfl,u,W,X⟩:=h
   rfl
 . obtain⟨p,y,b,s,x,m,n,r,G,l,J,a,c,g,Q,i,rfl,u,W,X⟩:=h
   refine⟨_,(za3 (zc7 (zb9 ya3 (zb5 zb8 rfl T.ac Qr (za0 (zd3 P0 rfl) za1)) (zl8 (v:=.int 300) rfl T.aH ⟨_,rfl⟩) (zc1 _)) (za5 (zJ6 zF0 rfl T.a3 T.bD T.bw (zv9 T) V.m rfl T.a2 T.a0 .nil zb1 (za0 zd1 za1))) zb3)
     (za3 (zl5 P0 (za6 (ok_moved T) V.m T.a6 zb1 (za0 (zd3 P0 rfl) (za0 (zd3 P0 rfl) (za0 P1 za1)))) rfl)
     (za3 (ze2 (zl1 QC QM QL zi0 (zd3 P0 rfl) (za0 (ze0 zm4 rfl T.aq QV (za0 P1 za1)) za1)))
     (za5 (zb2 (zd3 P0 rfl)))))),?_⟩
   refine cut4 ?_;intro aa ab ac;obtain⟨d,D⟩:=u.hp;rcases X with⟨hy,qe⟩ | ⟨Y,a6,hy,a7⟩
   . refine⟨_,rfl,p,_,d,_,_,rfl,D,T.aa,T.ak,zy2 _ _ _ _,m,_,rfl,.inl (SqL.of u.hm),_,_,rfl,rfl,_,rfl,iteA (Qg (by omega)) ?_⟩
     exact⟨(by show 1<=sizeLine;decide),λx fx=>⟨x,_,rfl,za4,λH' d Z hd sx=>⟨rfl,some d,Z,qe _ _ (yj6 (Same.refl _) fx Z hd sx)⟩⟩⟩
   refine⟨_,rfl,p,_,d,_,_,rfl,D,T.aa,T.ak,zy2 _ _ _ _,m,_,rfl,.inl (SqL.of u.hm),_,_,rfl,rfl,_,rfl,iteB (Qf (by omega)) ?_⟩;refine⟨_,rfl,p,_,d,_,_,rfl,D,T.aa,T.an,zD1 _ _ _ _,_,rfl,p,_,d,_,_,rfl,D,T.aa,T.ab,zh0 _ _ _ _,_,rfl,b,x,y,n,r,G,l,i,J,c,rfl,u.bm,W,.inr u.hx,.inr (SqT.of Y),a6,λf j L a0=>?_⟩;have e:=u.same L;have M:=L _ _ D;refine⟨_,rfl,p,_,d,_,rfl,M,T.aa,T.ab,yo9 _ _ _ _,?_⟩;rw[yo8];have E:zi4 p m j (upd j p (.ins t.aa d (zj7 b s f m))):=(Same.two (Same.refl j) p m).updP;have B:(upd j p (.ins t.aa d (zj7 b s f m))) p=some (.ins t.aa d (zj7 b s f m)):=za4;have U:m≠p:=λz=>by have:=e.hm;rw[z,M] at this;cases this
   have C:(upd j p (.ins t.aa d (zj7 b s f m))) m=some (.lst g):=by rw[za8 U];exact e.hm
   have R:zf8 t (upd j p (.ins t.aa d (zj7 b s f m))) p b s f m n r J G a (c.set i l) g Q:=⟨e.bm.same2 E e.nb e.ip ⟨_,e.hm⟩,e.nb,⟨d,B⟩,E.tup e.ip ⟨_,e.hm⟩ e.hs,E.tup e.ip ⟨_,e.hm⟩ a0,C,E.tups e.ip ⟨_,e.hm⟩ e.tm⟩;have N:=L _ _ Y;have I:(upd j p (.ins t.aa d (zj7 b s f m))) y=some (.tup [.int ((i:Int)+1),.int (c.getD i 0),.int l]):=by
     rw[za8 (λz=>by rw[z,M] at N;cases N)];exact N
   have O:zi4 p m H (upd j p (.ins t.aa d (zj7 b s f m))):=(Same.two L p m).trans E;revert R B C I O;generalize upd j p (.ins t.aa d (zj7 b s f m))=H2;intro B C R I O;have a1:∀(A:Addr) (k:Hp),Same H2 k->k A=some (.tup [.int ((i:Int)+1),.int (c.getD i 0),.int l])->zf8 t (upd k m (.lst (g++[.ref A]))) p b s f m n r J G a (c.set i l) (g++[.ref A]) (Q++[[(i:Int)+1,c.getD i 0,l]])/\zi4 p m H (upd k m (.lst (g++[.ref A]))):=λA k S h3=>by
     have o:=R.same S;have q:zi4 p m k (upd k m (.lst (g++[.ref A]))):=(Same.two (Same.refl k) p m).updM;have ip:=o.ip;have F:∃g,k m=some (.lst g):=⟨_,o.hm⟩;exact⟨⟨o.bm.same2 q o.nb ip F,o.nb,⟨d,by rw[za8 U.symm];exact S _ _ B⟩,q.tup ip F o.hs,q.tup ip F o.hx,za4,zo7 (q.tups ip F o.tm) (q.tup ip F h3)⟩,(O.trans (Same.two S p m)).trans q⟩
   refine⟨_,rfl,p,_,d,_,_,rfl,B,T.aa,T.ak,zy2 _ _ _ _,.inl ⟨rfl,_,SqL.of C⟩,_,rfl,y,[.int ((i:Int)+1),.int (c.getD i 0),.int l],rfl,?_⟩;refine .inr ⟨SqT.of I,m,_,_,rfl,rfl,C,zc5 (by omega),?_⟩;obtain⟨P4,q⟩:=a1 y _ (Same.refl _) I;obtain⟨a2,a3⟩:=P4.hp;exact⟨_,rfl,p,_,a2,_,_,rfl,a3,T.aa,T.ab,zh0 _ _ _ _,a7 f y _ q P4⟩
def sp_Play_moveW (K:W.Frag) (t:Adr):Sp:=λvs H Q E=>∃(p mv b s x m:Addr) (n r lim u qq:Int) (hs a c:List Int) (ys:List V) (ms:List (List Int)),vs=[.ref p,.ref mv]/\zf8 t H p b s x m n r hs lim a c ys ms/\zd0 n r hs.length c/\H mv=some (.tup [.int 0,.int u,.int qq])/\ys.length<300/\∀od H',Told H H' od "no weight"->E (.ref t.ac) od H'
theorem ok_Play_moveW (T:Txt K mg t):FnOk P w K mg base (CXD P w) 7 t.al t.az Po (sp_Play_moveW K t):=by
 refine T.ap.F.d.okD (CX:=CX0) zH3 (λz H Q E h=>?_) (λG A F s H z Q E i h=>?_)
 . obtain⟨p,j,b,s,x,m,n,r,g,u,k,l,a,c,B,C,rfl,d,o,q,D,y⟩:=h
   rfl
 . obtain⟨p,j,b,s,x,m,n,r,g,u,k,l,a,c,B,C,rfl,d,o,q,D,y⟩:=h
   refine⟨_,(za3 (zc7 (zb9 ya3 (zb5 zb8 rfl T.ac Qr (za0 (zd3 P0 rfl) za1)) (zl8 (v:=.int 300) rfl T.aH ⟨_,rfl⟩) (zc1 _)) (za5 (zJ6 zF0 rfl T.a3 T.bD T.bw (zv9 T) i.m rfl T.a2 T.a0 .nil zb1 (za0 zd1 za1))) zb3)
     (za3 (zl5 P0 (za6 (ok_movedW T) i.m T.a6 zr6 (za0 (zd3 P0 rfl) (za0 (zd3 P0 rfl) (za0 P1 za1)))) rfl)
     zh8)),?_⟩
   refine cut3 ?_;intro I J;obtain⟨e,f⟩:=d.hp;refine⟨_,rfl,p,_,e,_,_,rfl,f,T.aa,T.ak,zy2 _ _ _ _,m,_,rfl,.inl (SqL.of d.hm),_,_,rfl,rfl,_,rfl,iteB (Qf (by omega)) ?_⟩;exact⟨_,rfl,p,_,e,_,_,rfl,f,T.aa,T.an,zD1 _ _ _ _,_,rfl,p,_,e,_,_,rfl,f,T.aa,T.ab,zh0 _ _ _ _,_,rfl,b,x,j,n,r,g,u,k,l,c,rfl,d.bm,o,d.hx,.inr (SqT.of q),y⟩
def sp_Play_trail (K:W.Frag)(t:Adr):Sp:=λvs H Q _=>∃(p b s x m:Addr) (n r lim:Int) (hs a c:List Int) (ys:List V) (ms:List (List Int)),vs=[.ref p]/\zf8 t H p b s x m n r hs lim a c ys ms/\∀l,H l=none->Q (.ref l) (upd H l (.lst ys))
theorem ok_Play_trail (T:Txt K mg t):FnOk P w K mg base CX0 1 t.au t.a6 Pg (sp_Play_trail K t):=by
 refine T.bi.F.ok sc_Play_trail (λf H Q E h=>?_) (λy A v s H f Q E z h=>?_)
 . obtain⟨p,b,s,x,m,n,r,e,g,a,c,i,j,rfl,d,q⟩:=h
   rfl
 . obtain⟨p,b,s,x,m,n,r,e,g,a,c,i,j,rfl,d,q⟩:=h
   refine⟨_,(za5 (zb2 (ze0 zw8 rfl T.aJ Zv (za0 (zd3 P0 rfl) za1)))),?_⟩;obtain⟨k,o⟩:=d.hp;exact⟨_,rfl,p,_,k,_,_,rfl,o,T.aa,T.ak,zy2 _ _ _ _,m,_,rfl,.inl (SqL.of d.hm),λl u=>q l u⟩
theorem pf_fewest (b s x m:Addr):(zj7 b s x m).lookup ("fewest" : Str)=none:=yj7 _ _ _ _ _ (by decide +kernel) (by decide +kernel) (by decide +kernel) (by decide +kernel)
def sp_Play_fewest (K:W.Frag)(t:Adr):Sp:=λvs H Q _=>∃(p b s x m g:Addr) (n r lim:Int) (hs a c gl:List Int) (ys:List V) (ms:List (List Int)),vs=[.ref p,.ref g]/\zf8 t H p b s x m n r hs lim a c ys ms/\zd0 n r hs.length c/\zd0 n r hs.length gl/\(SqL K H g (gl.map V.int)\/H g=some (.tup (gl.map V.int)))/\absI (zc6 hs c)<=lim/\absI (zc6 hs gl)<=lim/\gl∈nbs n r hs lim c/\gl≠c/\∀wy H',Same H H'->zL0 t H' wy n r hs lim c gl->Q (.ref wy) H'
theorem ok_Play_fewest (T:Txt K mg t):FnOk P w K mg base CX0 10 t.ap t.aS PQ (sp_Play_fewest K t):=by
 refine T.bc.F.ok sc_Play_fewest (λC H Q E h=>?_) (λJ A I s H C Q E D h=>?_)
 . obtain⟨p,b,s,x,m,g,n,r,e,f,a,c,i,F,G,rfl,d,j,k,l,o,u,v,y,q⟩:=h
   rfl
 . obtain⟨p,b,s,x,m,g,n,r,e,f,a,c,i,F,G,rfl,d,j,k,l,o,u,v,y,q⟩:=h
   refine⟨_,(za5 (zb2 (yf7 (ok_fewest T) D.m rfl T.b7 T.bg.F.kp T.bg.b .nil zb1 (za0 (zd3 P0 rfl) (za0 (zd3 P0 rfl) (za0 P1 za1)))))),?_⟩;obtain⟨z,B⟩:=d.hp;exact⟨_,rfl,p,_,z,_,_,rfl,B,T.aa,T.an,zD1 _ _ _ _,_,rfl,p,_,z,_,_,rfl,B,T.aa,T.ab,zh0 _ _ _ _,_,rfl,b,x,g,n,r,e,f,c,i,rfl,d.bm,j,k,.inr d.hx,l,o,u,v,y,q⟩
def sp_Play_back (K:W.Frag)(t:Adr):Sp:=λvs H Q _=>∃(p b s x m:Addr) (n r lim:Int) (hs a c:List Int) (ys:List V) (ms:List (List Int)),vs=[.ref p]/\zf8 t H p b s x m n r hs lim a c ys ms/\c.length<=5/\ys.length<=300 ∧
 (∃(ys0:List V) (ms0:List (List Int)) (tv:Addr) (i:Nat) (u v:Int),ys=ys0++[.ref tv]/\ms=ms0++[[(i:Int)+1,u,v]]/\H tv=some (.tup [.int ((i:Int)+1),.int u,.int v])/\i<c.length/\∀x' H',zi4 p m H H'->zf8 t H' p b s x' m n r hs lim a (c.set i u) ys0 ms0->Q (.ref tv) H')
theorem zI4 (T:Txt K mg t):FnOk P w K mg base CX0 2 t.aA t.bj Pg (sp_Play_back K t):=by
 refine T.aU.F.ok zH4 (λvs H a8 a9 h=>?_) (λac ag ab s H vs a8 a9 X h=>?_)
 . obtain⟨p,b,s,x,m,n,a0,S,Y,a,c,d,ms,rfl,e,a1,a2,q⟩:=h
   rfl
 . obtain⟨p,b,s,x,m,n,a0,S,Y,a,c,d,ms,rfl,e,a1,a2,q⟩:=h
   refine⟨_,(za3 (zc7 (zb9 zg3 (zb5 zb8 rfl T.ac Qr (za0 (zd3 P0 rfl) za1)) za2 (zc1 _)) zh8 zb3)
     (za3 (zb7 (i:=1) zH4.nd rfl (Or.inl rfl) (ym1 QC PySem.F.slot_list_pop PySem.F.type_list_pop mt_pop (zd3 P0 rfl)))
     (za3 (zl5 P0 (za6 (zC9 T) X.m T.aK zb1 (za0 (zd3 P0 rfl) (za0 (za6 (zW1 T) X.m T.bf zb1 (za0 P1 za1)) za1))) rfl)
     (za5 (zb2 P1))))),?_⟩
   refine cut4 ?_;intro ad ae af;obtain⟨g,F⟩:=e.hp;obtain⟨f,U,G,i,u,v,rfl,rfl,a3,hi,q⟩:=q;refine⟨_,rfl,p,_,g,_,_,rfl,F,T.aa,T.ak,zy2 _ _ _ _,m,_,rfl,.inl (SqL.of e.hm),rfl,_,rfl,iteB (by rw[ze9];simp;omega) ?_⟩;have z:=e.hm;have W:m≠p:=λaa=>by rw[aa,F] at z;cases z
   have hl:(f++[V.ref G])[(f++[V.ref G]).length-1]?=some (.ref G):=by rw[Qi];simp
   refine⟨_,rfl,p,_,g,_,_,rfl,F,T.aa,T.ak,zy2 _ _ _ _,.inl ⟨rfl,_,SqL.of z⟩,m,_,_,rfl,rfl,z,hl,?_⟩;rw[List.dropLast_concat];have j:zi4 p m H (upd H m (.lst f)):=(Same.two (Same.refl H) p m).updM;have ip:=e.ip;have A:∃d,H m=some (.lst d):=⟨_,z⟩;have r:(upd H m (.lst f)) p=some (.ins t.aa g (zj7 b s x m)):=by rw[za8 W.symm];exact F
   have O:(upd H m (.lst f)) m=some (.lst f):=za4;have a4:Tups H f U:=by
     have a5:∀ {d:List V} {l:List (List Int)} {y:V} {k:List Int},Tups H (d++[y]) (l++[k])->Tups H d l:=by
       intro d
       induction d with
       | nil =>
         intro l y k h;cases l with
         | nil=>exact .nil
         | cons k' l=>have:=zd6 h;simp at this
       | cons y' d ih =>
         intro l y k h;cases l with
         | nil=>have:=zd6 h;simp at this
         | cons k' l=>cases h with | cons a t=>exact .cons a (ih t)
     exact a5 e.tm
   have I:zf8 t (upd H m (.lst f)) p b s x m n a0 Y S a c f U:=⟨e.bm.same2 j e.nb ip A,e.nb,⟨g,r⟩,j.tup ip A e.hs,j.tup ip A e.hx,O,j.tups ip A a4⟩;have N:=j.tup ip A a3;revert j r O I N;generalize upd H m (.lst f)=J;intro j r O I N;refine⟨_,rfl,p,_,g,_,_,rfl,r,T.aa,T.ab,zh0 _ _ _ _,_,rfl,G,(i:Int)+1,u,v,rfl,.inr (SqT.of N),λB f2=>?_⟩;have L:Same J (upd J B (.tup [.int ((i:Int)+1),.int v,.int u])):=Same.upd f2;have R:(upd J B (.tup [.int ((i:Int)+1),.int v,.int u])) B=some (.tup [.int ((i:Int)+1),.int v,.int u]):=za4;revert L R;generalize upd J B (.tup [.int ((i:Int)+1),.int v,.int u])=H2;intro L R;refine⟨x,B,(i:Int)+1,v,u,i,c,rfl,L _ _ I.hx,.inr (SqT.of R),⟨rfl,hi,by omega⟩,λZ M s3 a6=>?_⟩;have Q:=L.trans s3;have o:=I.same Q;have a7:=Q _ _ r;refine⟨_,rfl,p,_,g,_,rfl,a7,T.aa,T.ab,yo9 _ _ _ _,?_⟩;rw[yo8];have C:zi4 p m M (upd M p (.ins t.aa g (zj7 b s Z m))):=(Same.two (Same.refl M) p m).updP;have D:=o.ip;have E:∃d,M m=some (.lst d):=⟨_,o.hm⟩;exact⟨_,rfl,q Z _ ((j.trans (Same.two Q p m)).trans C) ⟨o.bm.same2 C o.nb D E,o.nb,⟨g,za4⟩,C.tup D E o.hs,C.tup D E a6,by rw[za8 W];exact o.hm,C.tups D E o.tm⟩⟩
end
section
variable {P:Program} {w:World} {K:W.Frag} {mg:Str->Option Value} {base:Heap} {t:Adr}
open NumText in
noncomputable def mv3:List Str->Option (Int×Int×Int)
 | [a,b,c]=>match zr7 a,zm8 b,zm8 c with
   | some k,some s,some p=>some (k,s,p)
   | _,_,_=>none
 | _=>none
noncomputable def zZ8 (z:Str):Option (Int×Int×Int):=mv3 (Txt.split z (Str.ofString " "))
noncomputable def zo2 (k s p:Int):Str:=Txt.join (Str.ofString " ") [sI k,zd7 s,zd7 p]
noncomputable def zB5 (xs:List Int):Str:=if xs=[] then Str.ofString "none" else Txt.join (Str.ofString " ") (xs.map zd7)
def sp_write_place (K:W.Frag)(t:Adr):Sp:=λvs H Q _=>∃i:Int,vs=[.int i]/\i.natAbs<=100000/\Q (.str (zd7 i)) H
def sp_w_say (K:W.Frag)(t:Adr):Sp:=λvs H Q _=>∃i:Int,vs=[.int i]/\i.natAbs<=100000/\Q (.str (zd7 i)) H
def sp_is_number (K:W.Frag)(t:Adr):Sp:=λvs H Q _=>∃z:Str,vs=[.str z]/\z.length<=1000000/\∀H',Same H H'->Q (.bl (zV1 z)) H'
def sp_read_number (K:W.Frag)(t:Adr):Sp:=λvs H Q _=>∃(z:Str) (n:Int),vs=[.str z]/\z.length<=1000000/\zr7 z=some n/\∀H',Same H H'->Q (.int n) H'
def sp_read_place (K:W.Frag)(t:Adr):Sp:=λvs H Q _=>∃(z:Str) (n:Int),vs=[.str z]/\z.length<=1000000/\zm8 z=some n/\∀H',Same H H'->Q (.int n) H'
def sp_write_standing (K:W.Frag)(t:Adr):Sp:=λvs H Q _=>∃(b a:Addr) (n r lim:Int) (hs xs:List Int),vs=[.ref b,.ref a]/\zf0 t H b n r hs lim/\zd0 n r hs.length xs ∧
 (SqL K H a (xs.map V.int)\/H a=some (.tup (xs.map V.int)))/\∀H',Same H H'->Q (.str (zB5 xs)) H'
theorem zi7 {i:Int}(h:i.natAbs<=100000):i.natAbs.log2<1920:=by
 by_cases a:i.natAbs=0
 . rw[a];decide
 . have:i.natAbs.log2<17:=(Nat.log2_lt a).mpr (by omega)
   omega
theorem zw0 {n:Nat}(h:n<=1000000):n<=sizeLine:=QJ h (by decide)
theorem zs6 (T:Txt K mg t):FnOk P w K mg base CX0 1 t.aV t.aW Pp (sp_write_place K t):=by
 refine T.az.F.ok sc_write_place (λc H Q E h=>?_) (λf A d s H c Q E g h=>?_)
 . obtain⟨i,rfl,b,q⟩:=h
   rfl
 . obtain⟨i,rfl,b,q⟩:=h
   refine⟨_,(za3 (zc7 (zb9 zg3 P0 za2 (zc1 _)) (za5 (zb2 zd1)) zb3)
     (za5 (zb2 (ze0 zg2 rfl T.ay Zb (za0 P0 za1))))),?_⟩
   refine⟨_,rfl,rfl,_,rfl,?_⟩;unfold zd7 at q;refine ite2 (λa=>?_) (λa=>?_)
   . have e:i=0:=by simpa using a
     rw[Qo e] at q;exact q
   . have e:i≠0:=by simpa using a
     rw[Qh e] at q;exact⟨_,rfl,i,rfl,zi7 b,q⟩
theorem zI5 (T:Txt K mg t):FnOk P w K mg base CX0 1 t.cE t.cF Pq (sp_w_say K t):=by
 refine T.aQ.F.ok sc_w_say (λc H Q E h=>?_) (λf A d s H c Q E g h=>?_)
 . obtain⟨i,rfl,b,q⟩:=h
   rfl
 . obtain⟨i,rfl,b,q⟩:=h
   refine⟨_,(za3 (zc7 (zb9 zg3 P0 za2 (zc1 _)) (za5 (zb2 zd1)) zb3)
     (za5 (zb2 (ze0 zg2 rfl T.ay Zb (za0 P0 za1))))),?_⟩
   refine⟨_,rfl,rfl,_,rfl,?_⟩;unfold zd7 at q;refine ite2 (λa=>?_) (λa=>?_)
   . have e:i=0:=by simpa using a
     rw[Qo e] at q;exact q
   . have e:i≠0:=by simpa using a
     rw[Qh e] at q;exact⟨_,rfl,i,rfl,zi7 b,q⟩
theorem ok_is_number (T:Txt K mg t):FnOk P w K mg base CX0 1 t.bo t.bp Pb (sp_is_number K t):=by
 refine T.bt.F.ok sc_is_number (λk H Q E h=>?_) (λp A n s H k Q E y h=>?_)
 . obtain⟨z,rfl,a,q⟩:=h
   rfl
 . obtain⟨z,rfl,a,q⟩:=h
   refine⟨_,(za3 (zc7 (zc9 (zl1 Zl PySem.F.slot_str_startswith PySem.F.type_str_startswith zV0 P0 (za0 zd1 za1))) (za5 (zb2 (zj8 zg3 P0 zd1 (zc1 _)))) zb3)
     (za3 (zc7 (PW.pt (zj5 (zb9 zg3 (zb5 zF5 rfl T.ac Qr (za0 P0 za1)) za2 (zc1 _)) (zi5 (zb9 zy4 (zb5 zF5 rfl T.ac Qr (za0 P0 za1)) (zl8 (v:=.int 4) rfl T.ch ⟨_,rfl⟩) (zc1 _))))) (za5 (zb2 zg9)) zb3)
     (za5 (zb2 (zb5 (call_all rfl) rfl T.cG PyProof.Rows.boot_all (za0 (zo0 rfl zB3 (pi_str P0) (λ_ _ _ _ _=>(zc4 (i:=0) zB3.nd rfl (Or.inl rfl))) (λ_ _ _ _ _=>zk5) (λ_ _ _ _ _=>(zj8 op_in_str P0 (zl8 (v:=.str (Str.ofString "0123456789")) rfl T.cA ⟨_,rfl⟩) rfl))) za1)))))),?_⟩
   refine cut3 ?_;intro r u;refine⟨_,rfl,rfl,_,_,rfl,rfl,_,rfl,?_⟩;unfold zV1 at q;refine ite2 (λb=>?_) (λb=>?_)
   . simp only[b,if_true] at q
     refine⟨_,rfl,rfl,?_⟩;have:=q H (Same.refl _);have e:decide (V.str z=V.str (Str.ofString "0"))=decide (z=Str.ofString "0"):=by
       by_cases h:z=Str.ofString "0"
       . rw[Qg h,Qg (by rw[h])]
       . rw[Qf h,Qf (λz=>h (by injection z))]
     rw[e];exact this
   . have l:Txt.startswith z (Str.ofString "0")=false:=Bool.eq_false_iff.mpr b
     simp only[l,Zk,if_false] at q;refine⟨_,rfl,_,rfl,zw0 a,rfl,_,rfl,?_⟩;refine ite2 (λd=>?_) (λd=>?_)
     . have g:z.length=0\/4<z.length:=.inl (by simpa using d)
       rw[Qo g] at q;exact iteT (q H (Same.refl _))
     . have B:¬ z.length=0:=by simpa using d
       refine⟨_,rfl,_,rfl,zw0 a,_,_,rfl,rfl,_,rfl,?_⟩;refine ite2 (λj=>?_) (λj=>?_)
       . have g:z.length=0\/4<z.length:=.inr (by have:=QO j;omega)
         rw[Qo g] at q;exact q H (Same.refl _)
       . have C:¬ 4<z.length:=λh=>j (Qg (by omega))
         rw[Qh (by omega)] at q;refine⟨_,rfl,_,rfl,λD m=>?_⟩;refine comp_str (f:=λc=>V.bl (decide (48<=c/\c<=57))) (zw0 a) (λc x R F h=>?_) ?_
         . refine⟨_,rfl,_,_,rfl,rfl,?_⟩
           rw[fig_in];exact h
         . refine⟨D,z.cps.toList.map λc=>decide (48<=c/\c<=57),rfl,SqL.of (by rw[za4,Zn];rfl),?_⟩
           have:=q _ (Same.upd (o:=.lst (z.cps.toList.map λc=>V.bl (decide (48<=c/\c<=57)))) m);rw[List.all_map];exact this
theorem zj4 (T:Txt K mg t):FnOk P w K mg base CX0 2 t.aX t.aY Pb (sp_read_number K t):=by
 refine T.al.F.ok sc_read_number (λc H Q E h=>?_) (λg A f s H c Q E d h=>?_)
 . obtain⟨z,n,rfl,b,a,q⟩:=h
   rfl
 . obtain⟨z,n,rfl,b,a,q⟩:=h
   refine⟨_,(za3 (zc7 (zd9 (zc9 (za6 (ok_is_number T) d.m T.bt zb1 (za0 P0 za1)))) (za5 ze6) zb3)
     (za5 (zb2 (ze0 call_int_text rfl T.b8 PyProof.Rows.boot_int (za0 P0 za1))))),?_⟩
   unfold zr7 at a
   split at a
   . rename_i h1
     injection a with a
     subst a;refine⟨_,rfl,_,rfl,b,λi e=>⟨_,rfl,?_⟩⟩;refine iteB (by rw[h1];rfl) ?_;exact⟨_,rfl,_,_,rfl,isNum_int h1,by have:=(zG2 h1).2.2;omega,q _ e⟩
   . cases a
theorem zv0 (T:Txt K mg t):FnOk P w K mg base CX0 3 t.a9 t.ba Pb (sp_read_place K t):=by
 refine T.aC.F.ok zu8 (λl H Q E h=>?_) (λv A u s H l Q E o h=>?_)
 . obtain⟨z,n,rfl,f,a,q⟩:=h
   rfl
 . obtain⟨z,n,rfl,f,a,q⟩:=h
   refine⟨_,(za3 (zc7 (zb9 zg3 P0 zd1 (zc1 _)) (za5 (zb2 za2)) zb3)
     (za3 (zb7 (i:=1) zu8.nd rfl (Or.inl rfl) (zl1 Zl PySem.F.slot_str_startswith PySem.F.type_str_startswith zV0 P0 (za0 zd1 za1)))
     (za3 (zb7 (i:=2) zu8.nd rfl (Or.inl rfl) (za6 (zj4 T) o.m T.al zb1 (za0 (zZ9 (zc9 P1) (zh2 sl_str P0 (zi9 za2) zl0) P0) za1)))
     (za3 (zc7 (zb9 zg3 P2 za2 (zc1 _)) (za5 ze6) zb3)
     (za5 (zb2 (zZ9 (zc9 P1) (zk8 zg8 P2) P2))))))),?_⟩
   refine cut5 ?_;intro x y B C;refine⟨_,rfl,rfl,_,rfl,?_⟩;unfold zm8 at a;refine ite2 (λg=>?_) (λg=>?_)
   . have e:z=Str.ofString "tray":=by simpa using g
     rw[Qo e] at a;injection a with a
     subst a;exact q _ (Same.refl _)
   . have e:¬ z=Str.ofString "tray":=by simpa using g
     rw[Qh e] at a;refine⟨_,rfl,rfl,_,_,rfl,rfl,_,rfl,_,rfl,?_⟩;cases c:zr7 (if Txt.startswith z (Str.ofString "-")=true then Txt.slice z (some 1) none else z) with
     | none=>rw[c] at a;cases a
     | some m =>
       rw[c] at a;have b:(if m=0 then none else some (if Txt.startswith z (Str.ofString "-")=true then -m else m))=some n:=a;have j:m≠0:=λp=>by rw[Qo p] at b;cases b
       rw[Qh j] at b;injection b with b
       refine ite2 (λd=>?_) (λd=>?_)
       . rw[Qo d] at c b
         refine⟨_,rfl,_,rfl,z,rfl,zw0 f,_,m,rfl,QJ (Txt.slice_le z _ _) f,c,λr k=>?_⟩;refine⟨_,rfl,rfl,_,rfl,iteB (Qf (λe=>j (by injection e))) ?_⟩;refine⟨_,rfl,_,rfl,iteA d ?_⟩;subst b;exact⟨_,rfl,_,rfl,q _ k⟩
       . rw[Qh d] at c b
         refine⟨_,rfl,z,m,rfl,f,c,λr k=>?_⟩;refine⟨_,rfl,rfl,_,rfl,iteB (Qf (λe=>j (by injection e))) ?_⟩;refine⟨_,rfl,_,rfl,iteB (Bool.eq_false_iff.mpr d) ?_⟩;subst b;exact⟨_,rfl,q _ k⟩
theorem zF3 {x n:Int}(a:-n<=x)(b:x<=n)(c:n<=4):(zd7 x).length<=4:=by
 have:x = -4\/x = -3\/x = -2\/x = -1\/x=0\/x=1\/x=2\/x=3\/x=4:=by omega
 rcases this with rfl | rfl | rfl | rfl | rfl | rfl | rfl | rfl | rfl<;>decide +kernel
theorem zB6:∀ {xs:List Int} {n:Int},(∀x∈xs,-n<=x/\x<=n)->n<=4->(((xs.map zd7).map (·.length)).sum<=4*xs.length)
 | [],_,_,_=>by simp
 | x::xs,n,h,hn=>by
   have d:=zB6 (xs:=xs) (λy a=>h y (Qu _ a)) hn;obtain⟨b,c⟩:=h x QF;have:=zF3 b c hn;rw[Qv,Qv,List.sum_cons,Ql];omega
theorem ok_write_standing (T:Txt K mg t):FnOk P w K mg base CX0 3 t.aB t.aC Pa (sp_write_standing K t):=by
 refine T.aX.F.ok zt2 (λC H Q E h=>?_) (λM A L s H C Q E m h=>?_)
 . obtain⟨b,a,n,r,k,o,c,rfl,B,d,p,q⟩:=h
   rfl
 . obtain⟨b,a,n,r,k,o,c,rfl,B,d,p,q⟩:=h
   refine⟨_,(za3 (zb7 (i:=2) zt2.nd rfl (Or.inl rfl) (za6 (zf1 T) m.m T.af zb1 (za0 P0 (za0 P1 za1))))
     (za3 (zc7 (zb9 zg3 (zb5 zb8 rfl T.ac Qr (za0 P2 za1)) za2 (zc1 _)) (za5 (zb2 zd1)) zb3)
     (za5 (zb2 (zl1 Zl PySem.F.slot_str_join PySem.F.type_str_join zY5 zd1 (za0 (zo0 rfl zq7 (zX3 P2) (λ_ _ _ _ _=>(zc4 (i:=0) zq7.nd rfl (Or.inl rfl))) (λ_ _ _ _ _=>zk5) (λ_ _ _ _ _=>(za6 (zs6 T) m.m T.az zb1 (za0 P0 za1)))) za1)))))),?_⟩
   refine cut3 ?_;intro N O;refine⟨_,rfl,_,rfl,b,a,n,r,k,o,c,rfl,B,d,p,λl W u j=>?_⟩;refine⟨_,rfl,l,_,rfl,.inr (SqT.of j),rfl,_,rfl,?_⟩;unfold zB5 at q;have X:=B.1.w;have R:=d.len;refine ite2 (λg=>?_) (λg=>?_)
   . have e:c=[]:=by
       rw[Qa] at g;have S:((c.length:Nat):Int)=0:=by simpa using g
       exact Qy (by omega)
     rw[Qo e] at q;exact q _ u
   . have e:c≠[]:=λe=>g (by rw[e];rfl)
     rw[Qh e] at q;refine⟨rfl,_,rfl,l,rfl,⟨_,SqT.of j⟩,λD y=>?_⟩;refine ya7 (f:=λv=>match v with | .int z=>V.str (zd7 z) | v=>v) (SqT.of j) y (by rw[Qa];exact zw0 (by omega)) (λx U a0 F h=>?_) ?_
     . obtain⟨z,G,rfl⟩:=QN.mp F
       obtain⟨Y,Z⟩:=d.on z G;exact⟨_,rfl,z,rfl,by have:=B.1.n2;omega,h⟩
     . have I:(c.map V.int).map (λv=>match v with | .int z=>V.str (zd7 z) | v=>v)=(c.map zd7).map V.str:=by
         rw[Zn,Zn];rfl
       refine⟨_,D,c.map zd7,rfl,rfl,SqL.of (by rw[za4,I]),?_,q _ (u.updT y)⟩;have:=zB6 d.on B.1.n2;have J:(Str.ofString " ").length=1:=by decide
       rw[J,Qa];omega
noncomputable def wRow (h x:Int):Str:=(((Str.ofString "weight "++sI h)++Str.ofString " ")++zd7 x)
noncomputable def zo3 (n r lim:Int):List Str:=[Str.ofString "notches "++sI n,Str.ofString "room "++sI r,Str.ofString "limit "++sI lim]
noncomputable def zW6 (n r lim:Int)(hs xs:List Int):List Str:=zo3 n r lim++List.zipWith wRow hs xs
noncomputable def zW7 (n r lim:Int) (hs xs:List Int):Str:=Txt.join (Str.ofString "\n") (zW6 n r lim hs xs)
structure ye6 (z:Str)(n r lim:Int)(hs xs:List Int):Prop where
 rows:∃z0 z1 z2 zs a0 a1 a2,Txt.split z (Str.ofString "\n")=z0::z1::z2::zs/\Txt.split z0 (Str.ofString " ")=[Str.ofString "notches",a0]/\Txt.split z1 (Str.ofString " ")=[Str.ofString "room",a1]/\Txt.split z2 (Str.ofString " ")=[Str.ofString "limit",a2] ∧
   zr7 a0=some n/\zr7 a1=some r/\zr7 a2=some lim/\zs.length=hs.length/\xs.length=hs.length ∧
   ∀(i:Nat) w h x,zs[i]?=some w->hs[i]?=some h->xs[i]?=some x->∃a b,Txt.split w (Str.ofString " ")=[Str.ofString "weight",a,b]/\zr7 a=some h/\zm8 b=some x
def sp_words_behind (K:W.Frag) (t:Adr):Sp:=λvs H Q _=>∃(front row:Str) (ws:List Str) (many:Int),vs=[.str front,.str row,.int many]/\row.length<=1000000/\Txt.split row (Str.ofString " ")=front::ws/\(ws.length:Int)=many ∧
 ∀l H',Same H H'->H' l=some (.lst (ws.map V.str))->Q (.ref l) H'
def sp_read_weight (K:W.Frag) (t:Adr):Sp:=λvs H Q _=>∃(row a b:Str) (h x:Int),vs=[.str row]/\row.length<=1000000/\Txt.split row (Str.ofString " ")=[Str.ofString "weight",a,b]/\zr7 a=some h/\zm8 b=some x ∧
 ∀l H',Same H H'->H l=none->H' l=some (.tup [.int h,.int x])->Q (.ref l) H'
def sp_read_beam (K:W.Frag)(t:Adr):Sp:=λvs H Q _=>∃(z:Str) (n r lim:Int) (hs xs:List Int),vs=[.str z]/\z.length<=1000000/\ye6 z n r lim hs xs/\zg6 n r hs lim/\zd0 n r hs.length xs ∧
 ∀l b p H',Same H H'->zf0 t H' b n r hs lim->H' p=some (.tup (xs.map V.int))->H' l=some (.tup [.ref b,.ref p])->Q (.ref l) H'
theorem sum_le {a:List Str}{B:Nat}(h:∀w∈a,w.length<=B):(a.map (·.length)).sum<=B*a.length:=by
 induction a with
 | nil=>simp
 | cons w a b =>
   have:=b λx c=>h x (Qu _ c)
   have:=h w QF;rw[Qv,List.sum_cons,Ql,Nat.mul_succ];omega
theorem wRow_len {h x n:Int}(d:1<=h)(e:h<=20)(a:-n<=x)(b:x<=n)(c:n<=4):(wRow h x).length<=40:=by
 have f:(Str.ofString "weight ").length=7:=by decide
 have g:(Str.ofString " ").length=1:=by decide
 have i:=zt7 (n:=h) (by omega) (by omega);have j:=zF3 a b c;unfold wRow;rw[zd4,zd4,zd4];omega
theorem zW8 {n r lim:Int}{hs xs:List Int}(ok:zg6 n r hs lim)(e:zd0 n r hs.length xs):∀w∈zW6 n r lim hs xs,w.length<=40:=by
 intro w b;have l:(Str.ofString "notches ").length=8:=by decide
 have m:(Str.ofString "room ").length=5:=by decide
 have o:(Str.ofString "limit ").length=6:=by decide
 have p:=zt7 (n:=n) (by have:=ok.n1;omega) (by have:=ok.n2;omega);have q:=zt7 (n:=r) (by have:=ok.r1;omega) (by have:=ok.r2;omega);have s:=zt7 (n:=lim) ok.l1 (by have:=ok.l2;omega);rcases QB.mp b with b | b
 . unfold zo3 at b
   simp only[Qq,QS,or_false] at b
   rcases b with rfl | rfl | rfl<;>rw[zd4]<;>omega
 . obtain⟨i,a⟩:=List.getElem?_of_mem b
   rw[List.getElem?_zipWith] at a;cases c:hs[i]? with
   | none=>rw[c] at a;simp at a
   | some h =>
     cases d:xs[i]? with
     | none=>rw[c,d] at a;simp at a
     | some x =>
       rw[c,d] at a;injection a with a
       subst a;obtain⟨f,g⟩:=ok.h h (Qt c);obtain⟨j,k⟩:=e.on x (Qt d);exact wRow_len f g j k ok.n2
theorem wRows_count {n r lim:Int}{hs xs:List Int}(a:zd0 n r hs.length xs):(zW6 n r lim hs xs).length=3+hs.length:=by
 unfold zW6 zo3;rw[Qi,ZC,a.len,Nat.min_self];rfl
end
section
variable {P:Program} {w:World} {K:W.Frag} {mg:Str->Option Value} {base:Heap} {t:Adr}
theorem zn0 (T:Txt K mg t):FnOk P w K mg base CX0 1 t.aG t.aH Vo (sp_words_behind K t):=by
 refine T.ar.F.ok zy6 (λm H Q E h=>?_) (λx A v s H m Q E B h=>?_)
 . obtain⟨a,row,b,k,rfl,g,f,j,q⟩:=h
   rfl
 . obtain⟨a,row,b,k,rfl,g,f,j,q⟩:=h
   refine⟨_,(za3 (zb7 (i:=3) zy6.nd rfl (Or.inl rfl) (zl1 Zl PySem.F.slot_str_split PySem.F.type_str_split zO8 P1 (za0 zd1 za1)))
     (za3 (zc7 (PW.pt (zj5 (zb9 zl4 (zc2 zc3 P3 za2 (λ_ _=>rfl)) P0 (zc1 _)) (zi5 (zb9 zl4 (zb5 zb8 rfl T.ac Qr (za0 P3 za1)) (zb4 zf5 P2 za2) (zc1 _))))) (za5 ze6) zb3)
     (za5 (zb2 (zh2 zM6 P3 (zi9 za2) zl0))))),?_⟩
   refine cut3 ?_;intro y z;refine⟨_,rfl,rfl,_,_,rfl,rfl,by decide,g,λl n=>?_⟩;rw[f];have d:Same H (upd H l (.lst ((a::b).map V.str))):=Same.upd n;have c:(upd H l (.lst ((a::b).map V.str))) l=some (.lst ((a::b).map V.str)):=za4;revert d c;generalize upd H l (.lst ((a::b).map V.str))=C;intro d c;refine⟨_,rfl,l,_,_,V.str a,rfl,rfl,SqL.of c,at_0,_,rfl,rfl,_,rfl,iteB (by simp) ?_⟩;refine⟨_,rfl,l,_,rfl,.inl (SqL.of c),_,rfl,_,_,rfl,rfl,rfl,_,rfl,?_⟩;refine iteB ?_ ?_
   . rw[Qa,Ql,<-j]
     simp
   . refine⟨_,rfl,_,rfl,l,_,rfl,SqL.of c,λp o=>q p _ (d.updT o) ?_⟩
     rw[za4];have e:cutV ((a::b).map V.str) (some 1) none=b.map V.str:=by
       unfold cutV;have r:HT.sIx ((a::b).map V.str).length 0 (some 1)=1:=by
         unfold HT.sIx;rw[Qa,Ql];simp
       have u:HT.sIx ((a::b).map V.str).length ((a::b).map V.str).length none=((a::b).map V.str).length:=rfl;rw[r,u];simp
       try exact Zd (by simp)
     rw[e]
theorem ok_read_weight (T:Txt K mg t):FnOk P w K mg base CX0 4 t.aT t.aU Pf (sp_read_weight K t):=by
 refine T.bd.F.ok zB2 (λv H Q E h=>?_) (λB A z s H v Q E e h=>?_)
 . obtain⟨row,a,b,h,x,rfl,d,c,g,j,q⟩:=h
   rfl
 . obtain⟨row,a,b,h,x,rfl,d,c,g,j,q⟩:=h
   refine⟨_,(za3 (zb7 (i:=1) zB2.nd rfl (Or.inl rfl) (za6 (zn0 T) e.m T.ar zb1 (za0 zd1 (za0 P0 (za0 za2 za1)))))
     (za5 (zb2 (zt5 (za0 (za6 (zj4 T) e.m T.al zb1 (za0 (zc2 zc3 P1 za2 (λ_ _=>rfl)) za1)) (za0 (za6 (zv0 T) e.m T.aC zb1 (za0 (zc2 zc3 P1 za2 (λ_ _=>rfl)) za1)) za1)))))),?_⟩
   have r:a.length<=1000000:=QJ (PyProof.Rows.part_short (x:=row) (y:=Str.ofString " ") (by rw[c];simp)) d;have u:b.length<=1000000:=QJ (PyProof.Rows.part_short (x:=row) (y:=Str.ofString " ") (by rw[c];simp)) d;refine⟨_,rfl,_,row,[a,b],2,rfl,d,c,rfl,λl C k m=>?_⟩;refine⟨_,rfl,l,_,_,_,rfl,rfl,SqL.of m,rfl,a,h,rfl,r,g,λD f=>?_⟩;refine⟨_,rfl,l,_,_,_,rfl,rfl,SqL.of (f _ _ m),rfl,b,x,rfl,u,j,λF n=>?_⟩;exact⟨(by show 2<=sizeLine;decide),λp o=>q p _ (((k.trans f).trans n).updT o) (((k.trans f).trans n).free o) za4⟩
theorem ok_read_beam (T:Txt K mg t):FnOk P w K mg base CX0 5 t.bm t.bn Pb (sp_read_beam K t):=by
 refine T.bs.F.ok zk2 (λvs a3 b6 b7 h=>?_) (λb9 bl b8 bm a3 vs b6 b7 F h=>?_)
 . obtain⟨z,a8,a9,a5,n,xs,rfl,hz,hR,ok,V0,ao⟩:=h
   rfl
 . obtain⟨z,a8,a9,a5,n,xs,rfl,hz,hR,ok,V0,ao⟩:=h
   refine⟨_,(za3 (zb7 (i:=1) zk2.nd rfl (Or.inl rfl) (zl1 Zl PySem.F.slot_str_split PySem.F.type_str_split zO8 P0 (za0 zd1 za1)))
     (za3 (zc7 (zb9 zT5 (zb5 zb8 rfl T.ac Qr (za0 P1 za1)) za2 (zc1 _)) (za5 ze6) zb3)
     (za3 (zb7 (i:=2) zk2.nd rfl (Or.inl rfl) (za6 (zj4 T) F.m T.al zb1 (za0 (zc2 zc3 (za6 (zn0 T) F.m T.ar zb1 (za0 zd1 (za0 (zc2 zc3 P1 za2 (λ_ _=>rfl)) (za0 za2 za1)))) za2 (λ_ _=>rfl)) za1)))
     (za3 (zb7 (i:=3) zk2.nd rfl (Or.inl rfl) (za6 (zj4 T) F.m T.al zb1 (za0 (zc2 zc3 (za6 (zn0 T) F.m T.ar zb1 (za0 zd1 (za0 (zc2 zc3 P1 za2 (λ_ _=>rfl)) (za0 za2 za1)))) za2 (λ_ _=>rfl)) za1)))
     (za3 (zb7 (i:=4) zk2.nd rfl (Or.inl rfl) (za6 (zj4 T) F.m T.al zb1 (za0 (zc2 zc3 (za6 (zn0 T) F.m T.ar zb1 (za0 zd1 (za0 (zc2 zc3 P1 za2 (λ_ _=>rfl)) (za0 za2 za1)))) za2 (λ_ _=>rfl)) za1)))
     (za3 (zF9 (i:=5) rfl zA9 (zi8 (zh2 zM6 P1 (zi9 za2) zl0)) (λ_ _ _ _ _=>(zc4 (i:=0) zA9.nd rfl (Or.inl rfl))) (λ_ _ _ _ _=>zk5) (λ_ _ _ _ _=>(za6 (ok_read_weight T) F.m T.bd zb1 (za0 P0 za1))) zk2.nd rfl rfl)
     (za3 (zb7 (i:=6) zk2.nd rfl (Or.inl rfl) (zF4 T.cc (zH9 T) F.m rfl T.cn T.aS.b .nil zb1 (za0 P2 (za0 P3 (za0 (zo0 rfl zB0 (zi8 (pv 5)) (λ_ _ _ _ _=>(zc4 (i:=0) zB0.nd rfl (Or.inl rfl))) (λ_ _ _ _ _=>zk5) (λ_ _ _ _ _=>(zc2 (zC0 K rfl) P0 za2 (λ_ _=>rfl)))) (za0 (pv 4) za1))))))
     (za5 (zb2 (zt5 (za0 P6 (za0 (za6 (zf1 T) F.m T.af zb1 (za0 P6 (za0 (zo0 rfl zB1 (zi8 (pv 5)) (λ_ _ _ _ _=>(zc4 (i:=0) zB1.nd rfl (Or.inl rfl))) (λ_ _ _ _ _=>zk5) (λ_ _ _ _ _=>(zc2 (zC0 K rfl) P0 za2 (λ_ _=>rfl)))) za1))) za1)))))))))))),?_⟩
   refine cut8 ?_;intro ba bb bc bd be bf bg;obtain⟨⟨q,r,s,d,a0,a1,a2,R,p0,p1,p2,r0,r1,r2,ar,au,aq⟩⟩:=hR;have Q:∀w∈Txt.split z (Str.ofString "\n"),w.length<=1000000:=λw u=>QJ (PyProof.Rows.part_short u) hz
   have aa:∀ {w a:Str} {ws:List Str},w∈Txt.split z (Str.ofString "\n")->Txt.split w (Str.ofString " ")=ws->a∈ws->a.length<=1000000:=λ{w a ws} u e ha=>QJ (PyProof.Rows.part_short (x:=w) (y:=Str.ofString " ") (by rw[e];exact ha)) (Q w u)
   have m0:q∈Txt.split z (Str.ofString "\n"):=by rw[R];simp
   have m1:r∈Txt.split z (Str.ofString "\n"):=by rw[R];simp
   have m2:s∈Txt.split z (Str.ofString "\n"):=by rw[R];simp
   have mz:∀w∈d,w∈Txt.split z (Str.ofString "\n"):=λw u=>by rw[R];simp[u]
   have bh:=ok.w;refine⟨_,rfl,rfl,_,_,rfl,rfl,by decide,hz,λl hl=>?_⟩;rw[R];have s1:Same a3 (upd a3 l (.lst ((q::r::s::d).map V.str))):=Same.upd hl;have I:(upd a3 l (.lst ((q::r::s::d).map V.str))) l=some (.lst ((q::r::s::d).map V.str)):=za4;revert s1 I;generalize upd a3 l (.lst ((q::r::s::d).map V.str))=H1;intro s1 I;refine⟨_,rfl,l,_,rfl,.inl (SqL.of I),_,_,rfl,rfl,_,rfl,iteB (zO4 (by rw[Qa];simp only[Ql];omega)) ?_⟩;refine⟨_,rfl,l,_,_,V.str q,rfl,rfl,SqL.of I,at_0,_,q,[a0],1,rfl,Q _ m0,p0,rfl,λl2 M C J=>?_⟩;refine⟨l2,_,_,V.str a0,rfl,rfl,SqL.of J,rfl,a0,a8,rfl,aa m0 p0 (by simp),r0,λH3 s3=>?_⟩;have ab:=C.trans s3;refine⟨_,rfl,l,_,_,V.str r,rfl,rfl,SqL.of (ab _ _ I),at_1,_,r,[a1],1,rfl,Q _ m1,p1,rfl,λl4 H4 s4 h4=>?_⟩;refine⟨l4,_,_,V.str a1,rfl,rfl,SqL.of h4,rfl,a1,a9,rfl,aa m1 p1 (by simp),r1,λH5 s5=>?_⟩;have ac:=(ab.trans s4).trans s5;refine⟨_,rfl,l,_,_,V.str s,rfl,rfl,SqL.of (ac _ _ I),at_2,_,s,[a2],1,rfl,Q _ m2,p2,rfl,λl6 H6 S h6=>?_⟩;refine⟨l6,_,_,V.str a2,rfl,rfl,SqL.of h6,rfl,a2,a5,rfl,aa m2 p2 (by simp),r2,λU s7=>?_⟩;have ad:=(ac.trans S).trans s7;have aj:=s1.trans ad;have ak:=ad _ _ I;have ec:cutV ((q::r::s::d).map V.str) (some 3) none=d.map V.str:=by
     unfold cutV;have G:HT.sIx ((q::r::s::d).map V.str).length 0 (some 3)=3:=by
       unfold HT.sIx;rw[Qa];simp only[Ql];simp
     have W:HT.sIx ((q::r::s::d).map V.str).length ((q::r::s::d).map V.str).length none=((q::r::s::d).map V.str).length:=rfl;rw[G,W];simp;exact Zd (by simp)
   clear C s3 s4 s5 S s7 J h4 h6 ab ac;refine⟨_,rfl,_,rfl,l,_,rfl,SqL.of ak,λp fp=>?_⟩;rw[ec];have N:Same U (upd U p (.lst (d.map V.str))):=Same.upd fp;have X:(upd U p (.lst (d.map V.str))) p=some (.lst (d.map V.str)):=za4;revert N X;generalize upd U p (.lst (d.map V.str))=H8;intro N X;refine⟨p,rfl,⟨_,SqL.of X⟩,λD hD=>?_⟩;have bi:sizeLine=16777216:=by decide
   refine zn4 (K:=K) (a:=p) (xs:=d.map V.str) (λi f=>Same H8 f/\∃g:List Addr,g.length=i/\f D=some (.lst (g.map V.ref))/\∀(j:Nat) c h x,g[j]?=some c->n[j]?=some h->xs[j]?=some x->f c=some (.tup [.int h,.int x]))
     ⟨Same.upd hD,[],rfl,za4,λj c h x e=>by simp at e⟩ (λi f v=>SqL.of (v.1 _ _ X)) (λi x f a4 A v hN=>?_) (λf v=>?_)
   . dsimp only[zq6]
     rw[QQ] at A;cases u:d[i]? with
     | none=>rw[u] at A;cases A
     | some wd =>
       rw[u] at A;cases A;have bj:i<d.length:=by
         rcases QY i d.length with h | h
         . exact h
         . rw[Zf h] at u;cases u
       have eh:n[i]?=some n[i]:=by simp
       have ex:xs[i]?=some xs[i]:=by simp
       obtain⟨wa,wb,k1,k2,k3⟩:=aq i wd _ _ u eh ex;obtain⟨L,g,rl,H,a6⟩:=v;refine iteT ⟨_,rfl,wd,wa,wb,_,_,rfl,Q _ (mz _ (Qt u)),k1,k2,k3,λc M C fc Y=>⟨_,C _ _ H,?_,hN _ ⟨(L.trans C).put hD,g++[c],?_,?_,?_⟩⟩⟩
       . rw[Qa];omega
       . rw[Qi,rl];rfl
       . rw[za4,Qk];rfl
       . intro j c' h x G W e3
         have cD:c≠D:=λe=>by rw[e,H] at fc;cases fc
         rcases QY j g.length with B | B
         . rw[Zj B] at G
           have h0:=a6 j c' h x G W e3;have av:c'≠D:=λe=>by rw[e,H] at h0;cases h0
           rw[za8 av];exact C _ _ h0
         . rw[QG B] at G
           have ej:j-g.length=0:=by
             rcases Nat.eq_zero_or_pos (j-g.length) with h | h
             . exact h
             . rw[Zf (by simp;omega)] at G;cases G
           have aw:j=i:=by omega
           rw[ej] at G;cases G;subst aw;rw[eh] at W;rw[ex] at e3;cases W;cases e3;rw[za8 cD];exact Y
   . obtain⟨L,g,rl,H,a6⟩:=v
     have ax:g.length=n.length:=by rw[rl,Qa];exact ar
     have ay:=(aj.trans N).trans L;clear ad ak I X s1 aj N L
     have ai:∀(O:Hp) (k:Addr),Same f O->O k=none->∀(ag:Int) (Z:List Int),Z.length=n.length->(∀(j:Nat) c,g[j]?=some c->∃y,Z[j]?=some y/\∃xs,f c=some (.tup xs)/\atI xs ag=some (.int y)) →
         ∀Q2:Hp->Prop,Q2 (upd O k (.lst (Z.map V.int)))->∃ah:Nat->Nat->St->Hp->Prop,(∃m,ah 0 m [none] (upd O k (.lst [])))/\∀i m σ' f,ah i m σ' f->((Itl K D).stop i f/\Q2 f)\/((Itl K D).go i f/\∃a4:St->Hp->Prop,(∀σ2 M,a4 σ2 M->∃m',m'<m/\ah (i+1) m' σ2 M) ∧
           ∀ap M,(Itl K D).yld i f ap M->zp7 0 ap σ' M λσ3 H3=>zq6 σ3 H3 λb H4=>if b=true then zq1 k (tOp (rIxT K) (tVar 0) (tC (V.int ag))) a4 σ3 H4 else a4 σ3 H4):=λO k sm E ag Z az hy Q2 q2=>by
       have nD:D≠k:=λe=>by rw[<-e] at E;rw[sm _ _ H] at E;cases E
       refine zn4 (K:=K) (a:=D) (xs:=g.map V.ref) (λi a7=>a7=upd O k (.lst ((Z.take i).map V.int))) rfl (λi a7 v=>by rw[v];exact SqL.of (by rw[za8 nD];exact sm _ _ H)) (λi x a7 a4 A v hN=>?_) (λa7 v=>?_)
       . subst v
         dsimp only[zq6];rw[QQ] at A;cases Y:g[i]? with
         | none=>rw[Y] at A;cases A
         | some c =>
           rw[Y] at A;cases A;obtain⟨y,ey,tx,al,b0⟩:=hy i c Y;have nc:c≠k:=λe=>by rw[<-e] at E;rw[sm _ _ al] at E;cases E
           refine iteT ⟨_,rfl,c,tx,_,_,rfl,rfl,SqT.of (by rw[za8 nc];exact sm _ _ al),b0,_,za4,?_,hN _ ?_⟩
           . rw[Qa,QT];omega
           . rw[zh4,QP,Qk,ey]
             rfl
       . rw[Qa,ax,<-az,QR] at v
         rw[v];exact q2
     refine⟨_,rfl,_,rfl,_,rfl,D,rfl,⟨_,SqL.of H⟩,λk E=>?_⟩;refine ai f k (Same.refl _) E 0 n rfl (λj c B=>?_) _ ?_
     . have b1:j<g.length:=by
         rcases QY j g.length with h | h
         . exact h
         . rw[Zf h] at B;cases B
       exact⟨n[j],by simp,_,a6 j c _ (xs[j]'(by omega)) B (by simp) (by simp),at_0⟩
     have C:=Same.upd (o:=.lst (n.map V.int)) E;have J:(upd f k (.lst (n.map V.int))) k=some (.lst (n.map V.int)):=za4;revert C J;generalize upd f k (.lst (n.map V.int))=ae;intro C J;refine⟨_,rfl,λb dx fb af b2=>?_⟩;have s4:Same ae (upd (upd ae dx (.own b)) b (.ins t.ag dx [])):=(Same.upd af).updT (by rw[za8 (Ne.symm b2)];exact fb);have b3:k≠b:=λe=>by rw[<-e,J] at fb;cases fb
     have b4:k≠dx:=λe=>by rw[<-e,J] at af;cases af
     refine⟨b,dx,k,a8,a9,a5,n,rfl,za4,.inl (SqL.of (by rw[za8 b3,za8 b4];exact J)),ok,λH5 B5 s5=>⟨rfl,?_⟩⟩;have b5:Same ae H5:=λc o e=>s5 c o (s4 c o e) (za9 e fb)
     have L:=C.trans b5;refine⟨_,rfl,_,rfl,_,rfl,D,rfl,⟨_,SqL.of (L _ _ H)⟩,λD3 am=>?_⟩;refine ai H5 D3 L am 1 xs au (λj c B=>?_) _ ?_
     . have b1:j<g.length:=by
         rcases QY j g.length with h | h
         . exact h
         . rw[Zf h] at B;cases B
       exact⟨xs[j]'(by omega),by simp,_,a6 j c (n[j]'(by omega)) _ B (by simp) (by simp),at_1⟩
     have S:=Same.upd (o:=.lst (xs.map V.int)) am;refine⟨b,D3,a8,a9,a5,n,xs,rfl,B5.same S,V0,.inl (SqL.of za4),λl7 U s7 h7=>?_⟩;refine⟨(by show 2<=sizeLine;decide),λl8 f8=>?_⟩;have N:=Same.upd (o:=.tup [.ref b,.ref l7]) f8;have an:=(S.trans s7).trans N;exact ao l8 b l7 _ ((ay.trans L).trans an) (B5.same an) (N _ _ h7) za4
def sp_write_move (K:W.Frag)(t:Adr):Sp:=λvs H Q _=>∃(a:Addr) (k s p:Int),vs=[.ref a]/\SqT K H a [.int k,.int s,.int p]/\(0<=k/\k<=9999)/\(-9999<=s/\s<=9999)/\(-9999<=p/\p<=9999)/\∀H',Same H H'->Q (.str (zo2 k s p)) H'
def sp_read_move (K:W.Frag)(t:Adr):Sp:=λvs H Q E=>∃(z:Str) (k s p:Int),vs=[.str z]/\z.length<=1000000/\zZ8 z=some (k,s,p)/\∀l H',Same H H'->H' l=some (.tup [.int k,.int s,.int p])->Q (.ref l) H'
theorem zD2 {n:Int}(d:-9999<=n)(h:n<=9999):(sI n).length<=20:=by
 by_cases a:0<=n
 . have:=zt7 (n:=n) a (by omega)
   omega
 . obtain⟨k,rfl⟩:∃k:Nat,n = -(((k+1:Nat)):Int):=⟨(-n).toNat-1,by omega⟩
   have e:toString (-(((k+1:Nat)):Int)) = "-"++toString (k+1):=rfl;have f:=zt7 (n:=((k+1:Nat):Int)) (by omega) (by omega);have b:sI (-(((k+1:Nat)):Int))=Str.ofString "-"++sI (((k+1:Nat)):Int):=by
     have c:toString (((k+1:Nat)):Int)=toString (k+1):=rfl;unfold sI;rw[e,c];refine zp0 ?_;rw[zj9,PySem.Str.ofString_eq_toList,PySem.Str.ofString_eq_toList,PySem.Str.ofString_eq_toList];simp
   rw[b,zd4];have g:(Str.ofString "-").length=1:=by decide
   omega
theorem zn8 {x:Int}(a:-9999<=x)(h:x<=9999):(zd7 x).length<=20:=by
 unfold zd7
 split
 . decide
 . exact zD2 a h
theorem ok_write_move (T:Txt K mg t):FnOk P w K mg base CX0 2 t.a7 t.a8 Pd (sp_write_move K t):=by
 refine T.bj.F.ok sc_write_move (λj H Q E h=>?_) (λv A u s H j Q E c h=>?_)
 . obtain⟨a,k,s,p,rfl,b,⟨m,d⟩,⟨e,f⟩,⟨g,i⟩,q⟩:=h
   rfl
 . obtain⟨a,k,s,p,rfl,b,⟨m,d⟩,⟨e,f⟩,⟨g,i⟩,q⟩:=h
   refine⟨_,(za5 (zb2 (zl1 Zl PySem.F.slot_str_join PySem.F.type_str_join zY5 zd1 (za0 (zg0 (za0 (ze0 zg2 rfl T.ay Zb (za0 (zc2 ze7 P0 za2 (λ_ _=>rfl)) za1)) (za0 (za6 (zs6 T) c.m T.az zb1 (za0 (zc2 ze7 P0 za2 (λ_ _=>rfl)) za1)) (za0 (za6 (zs6 T) c.m T.az zb1 (za0 (zc2 ze7 P0 za2 (λ_ _=>rfl)) za1)) za1)))) za1)))),?_⟩;refine⟨rfl,_,rfl,a,_,_,_,rfl,rfl,b,at_0,k,rfl,zi7 (by omega),?_⟩;refine⟨_,rfl,a,_,_,_,rfl,rfl,b,at_1,s,rfl,by omega,?_⟩;refine⟨_,rfl,a,_,_,_,rfl,rfl,b,at_2,p,rfl,by omega,(by show 3<=sizeLine;decide),λl o=>?_⟩;refine⟨_,l,[sI k,zd7 s,zd7 p],rfl,rfl,SqL.of za4,?_,q _ (Same.upd o)⟩;have:=zD2 (n:=k) (by omega) d;have:=zn8 e f;have:=zn8 g i;have r:(Str.ofString " ").length=1:=by decide
   simp only[Qv,List.map_nil,List.sum_cons,List.sum_nil,Ql,Zs,r];omega
theorem mv3_some {e:List Str}{m:Int×Int×Int}(h:mv3 e=some m):∃a b c,e=[a,b,c]/\zr7 a=some m.1/\zm8 b=some m.2.1/\zm8 c=some m.2.2:=by
 match e,h with
 | [a,b,c],h =>
   refine⟨a,b,c,rfl,?_⟩;cases d:zr7 a with
   | none=>simp[mv3,d] at h
   | some x =>
     cases f:zm8 b with
     | none=>simp[mv3,d,f] at h
     | some y =>
       cases g:zm8 c with
       | none=>simp[mv3,d,f,g] at h
       | some z =>
         simp[mv3,d,f,g] at h;subst h;exact⟨rfl,rfl,rfl⟩
theorem ok_read_move (T:Txt K mg t):FnOk P w K mg base CX0 4 t.bk t.bl Pb (sp_read_move K t):=by
 refine T.br.F.ok zH5 (λv H Q E h=>?_) (λJ A I s H v Q E f h=>?_)
 . obtain⟨z,k,s,p,rfl,g,d,q⟩:=h
   rfl
 . obtain⟨z,k,s,p,rfl,g,d,q⟩:=h
   refine⟨_,(za3 (zb7 (i:=1) zH5.nd rfl (Or.inl rfl) (zl1 Zl PySem.F.slot_str_split PySem.F.type_str_split zO8 P0 (za0 zd1 za1)))
     (za3 (zc7 (zb9 zl4 (zb5 zb8 rfl T.ac Qr (za0 P1 za1)) za2 (zc1 _)) (za5 ze6) zb3)
     (za5 (zb2 (zt5 (za0 (za6 (zj4 T) f.m T.al zb1 (za0 (zc2 zc3 P1 za2 (λ_ _=>rfl)) za1)) (za0 (za6 (zv0 T) f.m T.aC zb1 (za0 (zc2 zc3 P1 za2 (λ_ _=>rfl)) za1)) (za0 (za6 (zv0 T) f.m T.aC zb1 (za0 (zc2 zc3 P1 za2 (λ_ _=>rfl)) za1)) za1)))))))),?_⟩
   refine cut3 ?_;intro L M;refine⟨_,rfl,rfl,_,_,rfl,rfl,by decide,g,λl x=>?_⟩;have b:∀w∈Txt.split z (Str.ofString " "),w.length<=1000000:=λw y=>QJ (PyProof.Rows.part_short y) g
   unfold zZ8 at d;generalize Txt.split z (Str.ofString " ")=e at d b ⊢;have j:Same H (upd H l (.lst (e.map V.str))):=Same.upd x;have a:(upd H l (.lst (e.map V.str))) l=some (.lst (e.map V.str)):=za4;revert j a;generalize upd H l (.lst (e.map V.str))=N;intro j a;obtain⟨n,o,r,rfl,B,C,D⟩:=mv3_some d;refine⟨_,rfl,l,_,rfl,.inl (SqL.of a),rfl,_,rfl,iteF ?_⟩;refine⟨_,rfl,l,_,_,V.str n,rfl,rfl,SqL.of a,at_0,n,k,rfl,b _ (by simp),B,λO m=>?_⟩;refine⟨_,rfl,l,_,_,V.str o,rfl,rfl,SqL.of (m _ _ a),at_1,o,s,rfl,b _ (by simp),C,λR u=>?_⟩;refine⟨_,rfl,l,_,_,V.str r,rfl,rfl,SqL.of (u _ _ (m _ _ a)),at_2,r,p,rfl,b _ (by simp),D,λS F=>?_⟩;exact⟨(by show 3<=sizeLine;decide),λc G=>q c _ ((j.trans (m.trans (u.trans F))).updT G) za4⟩
end
section
variable {P:Program} {w:World} {K:W.Frag} {mg:Str->Option Value} {base:Heap} {t:Adr}
noncomputable def Ch (n r:Int)(hs:List Int)(lim:Int)(s:List Int):List (List Int×Nat×Int)->List Int->Prop
 | [],c=>c=s
 | e::es,c=>c=e.1.set e.2.1 e.2.2/\Lets n r hs lim e.1 e.2.1 e.2.2/\Ch n r hs lim s es e.1
noncomputable def rowE (e:List Int×Nat×Int):List Int:=[(e.2.1:Int)+1,e.1.getD e.2.1 0,e.2.2]
noncomputable def zf4 (es:List (List Int×Nat×Int)):List (List Int):=(es.map rowE).reverse
noncomputable def ptsE (es:List (List Int×Nat×Int))(c:List Int):List (List Int):=(es.map (·.1)).reverse++[c]
theorem zg7 (e:List Int×Nat×Int)(es:List (List Int×Nat×Int)):zf4 (e::es)=zf4 es++[rowE e]:=by unfold zf4;rw[Qv,ZA]
theorem zD3 (e:List Int×Nat×Int)(es:List (List Int×Nat×Int))(c:List Int):ptsE (e::es) c=ptsE es e.1++[c]:=by unfold ptsE;rw[Qv,ZA]
theorem zg5 (es:List (List Int×Nat×Int)):(zf4 es).length=es.length:=by unfold zf4;rw[Zw,Qa]
theorem rowsE_mem {es:List (List Int×Nat×Int)}:∀y∈zf4 es,y.length<=1000:=λy a=>by
 unfold zf4 at a;obtain⟨e,_,rfl⟩:=QN.mp (List.mem_reverse.mp a);show 3<=1000;decide
theorem Ch.valid {n r:Int}{hs:List Int}{lim:Int}{s:List Int}{w:Nat}(a:zd0 n r w s):∀ {b:List (List Int×Nat×Int)} {c:List Int},Ch n r hs lim s b c->zd0 n r w c
 | [],c,h=>by obtain rfl:c=s:=h;exact a
 | e::b,c,h=>by rw[h.1];exact h.2.1.valid (Ch.valid a h.2.2)
theorem yp0 {x:List Int}{i:Nat}{q:Int}(a:i<x.length):(x.set i q).set i (x.getD i 0)=x:=by
 rw[List.set_set,Qs,Qe a,Option.getD_some,List.set_getElem_self]
theorem zf8.updL {t:Adr}{H:Hp}{p b s x m l:Addr}{n r lim:Int}{hs a c:List Int}{ys:List V}{g:List (List Int)}{vs:List V}{o:HO}(P:zf8 t H p b s x m n r hs lim a c ys g)(h:H l=some (.lst vs))(i:l≠m):zf8 t (upd H l o) p b s x m n r hs lim a c ys g:=by
 obtain⟨ok,d,j,q,u⟩:=P.bm;have k:∀ {c:Addr} {f:HO},H c=some f->(∀vs,f≠.lst vs)->upd H l o c=some f:=λe v=>by
   rw[za8 (λz=>by rw[z,h] at e;injection e with e;exact v _ e.symm)];exact e
 exact⟨⟨ok,d,j,k q (λ_ z=>nomatch z),k u (λ_ z=>nomatch z)⟩,P.nb,let⟨d,z⟩:=P.hp;⟨d,k z (λ_ z=>nomatch z)⟩,k P.hs (λ_ z=>nomatch z),k P.hx (λ_ z=>nomatch z),by rw[za8 i.symm];exact P.hm,zr3 h (λ_ z=>nomatch z) P.tm⟩
theorem cut_map (xs:List Int)(lo a:Option Int):∃b:List Int,cutV (xs.map V.int) lo a=b.map V.int/\b.length<=xs.length:=by
 unfold cutV;refine⟨(xs.drop (HT.sIx (xs.map V.int).length 0 lo)).take (HT.sIx (xs.map V.int).length (xs.map V.int).length a-HT.sIx (xs.map V.int).length 0 lo),by rw[List.map_take,List.map_drop],?_⟩;rw[QT,List.length_drop];omega
theorem zw1 {H:Hp}{ys:List V}{c:List (List Int)}{k:List Int}(h:Tups H ys (c++[k])):∃d b,ys=d++[.ref b]/\Tups H d c/\H b=some (.tup (k.map V.int)):=by
 induction c generalizing ys with
 | nil =>
   cases h with
   | cons a t =>
     obtain⟨b,e,f⟩:=a;cases t;exact⟨[],b,by rw[e];rfl,.nil,f⟩
 | cons l c g =>
   cases h with
   | cons a t =>
     obtain⟨d,b,e,i,j⟩:=g t;exact⟨_::d,b,by rw[e];rfl,.cons a i,j⟩
theorem zL1 {a:Type}{xs:List a}{x:a}:atI (xs++[x]) (-1)=some x:=by
 unfold atI ixN;rw[Qi,Zq,Qh (by omega),Qo (by omega)];simp;rw[show(-1+((xs.length:Int)+1)).toNat=xs.length by omega];simp
inductive Dd
 | mv (k u q:Int)
 | back
 | show_
noncomputable def zy7:Dd->Str
 | .mv k u q=>Str.ofString "move "++zo2 k u q
 | .back=>Str.ofString "back"
 | .show_=>Str.ofString "show"
noncomputable def ddOk:Dd->Prop
 | .mv k u q=>(0<=k/\k<=9)/\(-9<=u/\u<=9)/\(-9<=q/\q<=9)
 | _=>True
noncomputable def zw2 (hs c:List Int):Str:=((Str.ofString "tilt "++sI (zc6 hs c))++Str.ofString " ")++zs5 (zc6 hs c)
noncomputable def RefF:List (List Int×Nat×Int)->Dd->Prop
 | es,.mv _ _ _=>es.length=300
 | _,_=>False
inductive OkD (n r lim:Int)(hs:List Int):List Int->List (List Int×Nat×Int)->Dd->List Int->List (List Int×Nat×Int)->Str->Prop
 | mv {c es i q}:es.length<300->Lets n r hs lim c i q->OkD n r lim hs c es (.mv ((i:Int)+1) (c.getD i 0) q) (c.set i q) ((c,i,q)::es) (zw2 hs (c.set i q))
 | back {c es c0 i q}:OkD n r lim hs c ((c0,i,q)::es) .back c0 es (zo2 ((i:Int)+1) (c0.getD i 0) q)
 | show_ {c es}:OkD n r lim hs c es .show_ c es (zB5 c)
def zE6 (n r lim:Int)(hs c:List Int)(es:List (List Int×Nat×Int))(d:Dd)(c':List Int)(es':List (List Int×Nat×Int))(z:Str):Prop :=
 OkD n r lim hs c es d c' es' z\/(RefF es d/\c'=c/\es'=es/\z=Str.ofString "refused: "++Str.ofString "play full")
theorem OkD.mvI {n r lim:Int}{hs c c':List Int}{es es':List (List Int×Nat×Int)}{k u w:Int}{z:Str}(h:OkD n r lim hs c es (.mv k u w) c' es' z):∃i:Nat,k=(i:Int)+1/\u=c.getD i 0/\es.length<300/\Lets n r hs lim c i w/\c'=c.set i w/\es'=(c,i,w)::es/\z=zw2 hs (c.set i w):=by
 cases h with
 | mv a L=>exact⟨_,rfl,rfl,a,L,rfl,rfl,rfl⟩
theorem OkD.backI {n r lim:Int}{hs c c':List Int}{es es':List (List Int×Nat×Int)}{z:Str}(h:OkD n r lim hs c es .back c' es' z):∃(i:Nat) (w:Int),es=(c',i,w)::es'/\z=zo2 ((i:Int)+1) (c'.getD i 0) w:=by
 cases h with
 | back=>exact⟨_,_,rfl,rfl⟩
theorem OkD.ch {n r lim:Int}{hs s c c':List Int}{es es':List (List Int×Nat×Int)}{d:Dd}{z:Str}(h:OkD n r lim hs c es d c' es' z)(C:Ch n r hs lim s es c):Ch n r hs lim s es' c':=by
 cases h with
 | mv h L=>exact⟨rfl,L,C⟩
 | back=>exact C.2.2
 | show_=>exact C
theorem zE6.ch {n r lim:Int}{hs s c c':List Int}{es es':List (List Int×Nat×Int)}{d:Dd}{z:Str}(h:zE6 n r lim hs c es d c' es' z)(C:Ch n r hs lim s es c):Ch n r hs lim s es' c':=by
 rcases h with h | ⟨_,rfl,rfl,_⟩
 . exact h.ch C
 . exact C
structure At29 (t:Adr)(H:Hp)(p b s0 x m:Addr)(n r lim:Int)(hs s c:List Int)(ys:List V)(es:List (List Int×Nat×Int)):Prop where
 pl:zf8 t H p b s0 x m n r hs lim s c ys (zf4 es)
 ch:Ch n r hs lim s es c
 vs:zd0 n r hs.length s
theorem At29.vc {t:Adr}{H:Hp}{p b a x m:Addr}{n r lim:Int}{hs s c:List Int}{ys:List V}{es:List (List Int×Nat×Int)}(A:At29 t H p b a x m n r lim hs s c ys es):zd0 n r hs.length c:=A.ch.valid A.vs
theorem At29.same {t:Adr}{H H':Hp}{p b a x m:Addr}{n r lim:Int}{hs s c:List Int}{ys:List V}{es:List (List Int×Nat×Int)}(A:At29 t H p b a x m n r lim hs s c ys es)(e:Same H H'):At29 t H' p b a x m n r lim hs s c ys es:=⟨A.pl.same e,A.ch,A.vs⟩
def sp_tell_tilt (K:W.Frag)(t:Adr):Sp:=λvs H Q _=>∃(p b s0 x m:Addr) (n r lim:Int) (hs s c:List Int) (ys:List V) (es:List (List Int×Nat×Int)),vs=[.ref p]/\At29 t H p b s0 x m n r lim hs s c ys es/\∀H',Same H H'->Q (.str (zw2 hs c)) H'
def yj9 (K:W.Frag)(t:Adr)(H:Hp)(p:Addr)(d:Dd)(Q:VK)(E:XK):Prop:=∃(b s0 x m:Addr) (n r lim:Int) (hs s c:List Int) (ys:List V) (es:List (List Int×Nat×Int)),At29 t H p b s0 x m n r lim hs s c ys es/\ddOk d/\es.length<=300 ∧
 ((∃c' es' z,OkD n r lim hs c es d c' es' z/\∀x' ys' H',zi4 p m H H'->zf8 t H' p b s0 x' m n r hs lim s c' ys' (zf4 es')->Q (.str z) H')\/(RefF es d/\∀od H',Told H H' od "play full"->E (.ref t.ab) od H'))
def sp_answer_words (K:W.Frag) (t:Adr):Sp:=λvs H Q E=>∃(p:Addr) (k u q:Int),vs=[.ref p,.str (Str.ofString "move"),.str (zo2 k u q)]/\yj9 K t H p (.mv k u q) Q E
def sp_answer_row (K:W.Frag)(t:Adr):Sp:=λvs H Q E=>∃(p:Addr) (d:Dd),vs=[.ref p,.str (zy7 d)]/\yj9 K t H p d Q E
def sp_answer (K:W.Frag)(t:Adr):Sp:=λvs H Q _=>∃(p b s0 x m:Addr) (n r lim:Int) (hs s c:List Int) (ys:List V) (es:List (List Int×Nat×Int)) (d:Dd) (c':List Int) (es':List (List Int×Nat×Int)) (z:Str),vs=[.ref p,.str (zy7 d)]/\At29 t H p b s0 x m n r lim hs s c ys es/\ddOk d/\es.length<=300/\zE6 n r lim hs c es d c' es' z ∧
 ∀x' ys' H',zi4 p m H H'->zf8 t H' p b s0 x' m n r hs lim s c' ys' (zf4 es')->Q (.str z) H'
theorem yq5 {x:Int}(a:-9<=x)(b:x<=9):zm8 (zd7 x)=some x/\32∉(zd7 x).cps.toList:=by
 have:x = -9\/x = -8\/x = -7\/x = -6\/x = -5\/x = -4\/x = -3\/x = -2\/x = -1\/x=0\/x=1\/x=2\/x=3\/x=4\/x=5\/x=6\/x=7\/x=8\/x=9:=by omega
 rcases this with rfl | rfl | rfl | rfl | rfl | rfl | rfl | rfl | rfl | rfl | rfl | rfl | rfl | rfl | rfl | rfl | rfl | rfl | rfl<;>decide +kernel
theorem nines {x:Int}(a:0<=x)(b:x<=9):zr7 (sI x)=some x/\32∉(sI x).cps.toList:=by
 have:x=0\/x=1\/x=2\/x=3\/x=4\/x=5\/x=6\/x=7\/x=8\/x=9:=by omega
 rcases this with rfl | rfl | rfl | rfl | rfl | rfl | rfl | rfl | rfl | rfl<;>decide +kernel
theorem wMove_back {k u q:Int}(h:ddOk (.mv k u q)):zZ8 (zo2 k u q)=some (k,u,q):=by
 obtain⟨⟨e,f⟩,⟨g,i⟩,j,l⟩:=h;have a:=nines e f;have b:=yq5 g i;have c:=yq5 j l;unfold zZ8 zo2;rw[zJ7,zx0 (by simp) λw d=>?_]
 . simp[mv3,a.1,b.1,c.1]
 . simp only[Qq,QS,or_false] at d
   rcases d with rfl | rfl | rfl
   . exact a.2
   . exact b.2
   . exact c.2
theorem zL2 {k u q:Int}(k1:-9999<=k/\k<=9999)(a:-9999<=u/\u<=9999)(b:-9999<=q/\q<=9999):(zo2 k u q).length<=62:=by
 have d:=zD2 k1.1 k1.2;have e:=zn8 a.1 a.2;have f:=zn8 b.1 b.2;have c:(Str.ofString " ").length=1:=by decide
 have h:=size_glued (Str.ofString " ") [sI k,zd7 u,zd7 q];rw[c] at h;simp only[Qv,List.map_nil,List.sum_cons,List.sum_nil,Ql,Zs] at h;show(Builtin.Str.glued _ _).length<=62;omega
theorem zI6 {w y:Str} (h:y.cps.toList.take 5≠(Str.ofString "move ").cps.toList):Str.ofString "move "++w≠y:=λe=>h (by
 rw[<-e,zj9,List.take_append_of_le_length (by decide)];decide)
theorem yd5 (z:Int):(zs5 z).length<=5:=by
 unfold zs5
 split
 . decide
 . split<;>decide
theorem ok_tell_tilt (T:Txt K mg t):FnOk P w K mg base CX0 5 t.bq t.br ["play"] (sp_tell_tilt K t):=by
 refine T.bu.F.ok sc_tell_tilt (λu H Q E h=>?_) (λF A D s H u Q E k h=>?_)
 . obtain⟨p,b,v,x,m,n,r,e,a,s,c,y,z,rfl,A,q⟩:=h
   rfl
 . obtain⟨p,b,v,x,m,n,r,e,a,s,c,y,z,rfl,A,q⟩:=h
   refine⟨_,(za5 (zb2 (zb4 zd5 (zb4 zd5 (zb4 zd5 zd1 (ze0 zg2 rfl T.ay Zb (za0 (za6 (zN1 T) k.m T.a1 zb1 (za0 (zd3 P0 rfl) (za0 (zd3 P0 rfl) za1))) za1))) zd1) (za6 (ok_side T) k.m T.cl zb1 (za0 (zd3 P0 rfl) (za0 (zd3 P0 rfl) za1)))))),?_⟩;obtain⟨d,f⟩:=A.pl.hp;have ok:=A.pl.bm.1;have l:=(zN2 ok A.vc).1
   have o:-9999<=zc6 a c/\zc6 a c<=9999:=by unfold absI at l;split at l<;>omega
   have I:=zD2 o.1 o.2;have J:=yd5 (zc6 a c);have L:(Str.ofString "tilt ").length=5:=by decide
   have M:(Str.ofString " ").length=1:=by decide
   have G:sizeLine=16777216:=by decide
   refine⟨_,rfl,p,_,d,_,_,rfl,f,T.aa,T.an,zD1 _ _ _ _,_,rfl,p,_,d,_,_,rfl,f,T.aa,T.ab,zh0 _ _ _ _,b,x,n,r,e,a,c,rfl,A.pl.bm,A.vc,.inr A.pl.hx,λN g=>?_⟩;have j:=g _ _ f;have i:=A.same g;refine⟨zc6 a c,rfl,zi7 (by omega),_,_,rfl,rfl,(by show(Str.ofString "tilt ").length+(sI (zc6 a c)).length<=sizeLine;omega),_,_,rfl,rfl,(by show(Str.ofString "tilt "++sI (zc6 a c)).length+(Str.ofString " ").length<=sizeLine;rw[zd4];omega),?_⟩;refine⟨_,rfl,p,_,d,_,_,rfl,j,T.aa,T.an,zD1 _ _ _ _,_,rfl,p,_,d,_,_,rfl,j,T.aa,T.ab,zh0 _ _ _ _,b,x,n,r,e,a,c,rfl,i.pl.bm,i.vc,.inr i.pl.hx,λB C=>?_⟩;exact⟨_,_,rfl,rfl,(by show((Str.ofString "tilt "++sI (zc6 a c))++Str.ofString " ").length+(zs5 (zc6 a c)).length<=sizeLine;rw[zd4,zd4];omega),q B (g.trans C)⟩
theorem ok_answer_words (T:Txt K mg t):FnOk P w K mg base (CXD P w) 8 t.aI t.aJ PR (sp_answer_words K t):=by
 refine T.a7.F.d.okD (CX:=CX0) sc_answer_words (λF H Q E h=>?_) (λZ A Y s H F Q E f h=>?_)
 . obtain⟨p,k,u,w,rfl,b,g,x,m,n,r,d,j,s,c,o,a,A,v,G,h⟩:=h
   rfl
 . obtain⟨p,k,u,w,rfl,b,g,x,m,n,r,d,j,s,c,o,a,A,v,G,h⟩:=h
   refine⟨_,(za3 (zc7 (zb9 zg3 P1 zd1 (zc1 _)) (za3 (ze2 (zM5 P0 T.aa T.av (zr1 T) f.m T.ap.b .nil zr6 (za0 (za6 (ok_read_move T) f.m T.br zb1 (za0 P2 za1)) za1)))
     (za5 (zb2 (za6 (ok_tell_tilt T) f.m T.bu zb1 (za0 P0 za1))))) zb3)
     zh8),?_⟩
   obtain⟨I,J⟩:=A.pl.hp;have hz:=zL2 (k:=k) (u:=u) (q:=w) (by have:=v.1;omega) (by have:=v.2.1;omega) (by have:=v.2.2;omega);have a0:o.length=a.length:=by rw[zd6 A.pl.tm,zg5]
   refine⟨_,rfl,rfl,_,rfl,iteT ?_⟩;refine⟨_,rfl,p,I,_,rfl,J,zI2 _ _ _ _,_,rfl,zo2 k u w,k,u,w,rfl,by omega,wMove_back v,λl H1 y M=>?_⟩;rcases h with⟨c',a1,a4,D,q⟩ | ⟨f,e⟩
   . obtain⟨i,rfl,rfl,a2,L,rfl,rfl,rfl⟩:=D.mvI
     refine⟨p,l,b,g,x,m,n,r,d,w,j,s,c,o,zf4 a,i,rfl,A.pl.same y,A.vc,.inr ⟨M,L,by omega,λz N O R S=>?_⟩⟩;have B:zf8 t O p b g z m n r j d s (c.set i w) (o++[.ref N]) (zf4 ((c,i,w)::a)):=by rw[zg7];exact S
     exact⟨_,rfl,p,b,g,z,m,n,r,d,j,s,c.set i w,_,(c,i,w)::a,rfl,⟨B,⟨rfl,L,A.ch⟩,A.vs⟩,λU C=>q z _ U ((Same.two y p m).trans (R.trans (Same.two C p m))) (B.same C)⟩
   . have a3:a.length=300:=f
     exact⟨p,l,b,g,x,m,n,r,d,w,j,s,c,o,zf4 a,0,rfl,A.pl.same y,A.vc,.inl ⟨by omega,λV W X=>e V W (X.from y)⟩⟩
theorem ok_answer_row (T:Txt K mg t):FnOk P w K mg base (CXD P w) 9 t.bb t.bc Pi (sp_answer_row K t):=by
 refine T.bk.F.d.okD (CX:=CX0) zE3 (λvs a4 a5 a6 h=>?_) (λa9 A a8 s a4 vs a5 a6 a h=>?_)
 . obtain⟨p,d,rfl,b,I,x,m,n,r,f,g,s,c,v,D,A,y,U,h⟩:=h
   rfl
 . obtain⟨p,d,rfl,b,I,x,m,n,r,f,g,s,c,v,D,A,y,U,h⟩:=h
   refine⟨_,(za3 (zc7 (zb9 zg3 P1 zd1 (zc1 _)) zh8 zb3)
     (za3 (zc7 (zb9 zg3 P1 zd1 (zc1 _)) (za5 (zb2 (za6 (ok_write_standing T) a.m T.aX zb1 (za0 (zd3 P0 rfl) (za0 (zd3 P0 rfl) za1))))) zb3)
     (za3 (zc7 (zb9 zg3 P1 zd1 (zc1 _)) zh8 zb3)
     (za3 (zc7 (zb9 zg3 P1 zd1 (zc1 _)) (za5 (zb2 (za6 (ok_write_move T) a.m T.bj zb1 (za0 (zN9 P0 T.aa T.bo (zI4 T) a.m T.aU.b .nil zb1) za1)))) zb3)
     (za3 (zb7 (i:=2) zE3.nd rfl (Or.inl rfl) (zl1 Zl PySem.F.slot_str_partition PySem.F.type_str_partition mt_part P1 (za0 zd1 za1)))
     (za5 (zb2 (za6 (ok_answer_words T) a.m T.a7 zr6 (za0 P0 (za0 (zc2 ze7 P2 za2 (λ_ _=>rfl)) (za0 (zc2 ze7 P2 za2 (λ_ _=>rfl)) za1))))))))))),?_⟩
   refine cut6 ?_;intro aa ab ac ad ae;obtain⟨J,M⟩:=A.pl.hp;have af:=A.pl.bm.1.w;have ag:=A.pl.bm.1.n2;have ah:=A.vc.len;have ai:v.length=D.length:=by rw[zd6 A.pl.tm,zg5]
   have B:∀ {a0 b:Str},a0≠b->decide (V.str a0=V.str b)=false:=λh=>Qf λz=>h (by injection z)
   cases d with
   | show_ =>
     rcases h with⟨e,l,z,o,q⟩ | ⟨a,_⟩
     . cases o
       exact⟨_,rfl,rfl,_,rfl,iteF ⟨_,rfl,rfl,_,rfl,iteT ⟨_,rfl,p,_,J,_,_,rfl,M,T.aa,T.an,zD1 _ _ _ _,_,rfl,p,_,J,_,_,rfl,M,T.aa,T.ab,zh0 _ _ _ _,b,x,n,r,f,g,c,rfl,A.pl.bm,A.vc,.inr A.pl.hx,λW j=>q x v W (Same.two j p m) (A.pl.same j)⟩⟩⟩
     . exact a.elim
   | back =>
     refine⟨_,rfl,rfl,_,rfl,iteF ⟨_,rfl,rfl,_,rfl,iteF ⟨_,rfl,rfl,_,rfl,iteF ⟨_,rfl,rfl,_,rfl,iteT ⟨_,rfl,p,J,_,rfl,M,yj8 _ _ _ _,p,b,I,x,m,n,r,f,g,s,c,v,zf4 D,rfl,A.pl,by omega,by omega,?_⟩⟩⟩⟩⟩
     . rcases h with⟨e,l,z,o,q⟩ | ⟨a,_⟩
       . obtain⟨i,w,rfl,rfl⟩:=o.backI
         . obtain⟨e1,L,C⟩:=A.ch
           have Q:c=e.set i w:=e1;replace L:Lets n r g f e i w:=L;replace C:Ch n r g f s l e:=C;have X:=A.pl.tm;rw[zg7] at X;obtain⟨R,Y,ey,aj,S⟩:=zw1 X;have H:=L.lt;have ak:=(C.valid A.vs).len;have V0:=C.valid A.vs;have al:=L.on;have am:=V0.on (e.getD i 0) (zm6 H);refine⟨R,zf4 l,Y,i,e.getD i 0,w,ey,by rw[zg7];rfl,S,by rw[Q,QW];exact H,λN E F G=>?_⟩;rw[Q,yp0 H] at G;have a2:=F.tup A.pl.ip ⟨_,A.pl.hm⟩ S;exact⟨Y,(i:Int)+1,e.getD i 0,w,rfl,SqT.of a2,by omega,by omega,by omega,λH3 Z=>q N R H3 (F.trans (Same.two Z p m)) (G.same Z)⟩
       . exact a.elim
   | mv k u w =>
     have hz:=zL2 (k:=k) (u:=u) (q:=w) (by have:=y.1;omega) (by have:=y.2.1;omega) (by have:=y.2.2;omega);have e5:(Str.ofString "move ").length=5:=by decide
     refine⟨_,rfl,rfl,_,rfl,iteB (B (zI6 (by decide))) ⟨_,rfl,rfl,_,rfl,iteB (B (zI6 (by decide))) ⟨_,rfl,rfl,_,rfl,iteB (B (zI6 (by decide))) ⟨_,rfl,rfl,_,rfl,iteB (B (zI6 (by decide))) ?_⟩⟩⟩⟩;have ep:Txt.partition (zy7 (.mv k u w)) (Str.ofString " ")=(Str.ofString "move",Str.ofString " ",zo2 k u w):=by
       show Txt.partition (Str.ofString "move "++zo2 k u w) _=_;rw[show Str.ofString "move " = Str.ofString "move"++⟨#[32]⟩ by decide,zJ7];exact part_at (by decide)
     refine⟨_,rfl,rfl,_,_,rfl,rfl,by decide,(by show(Str.ofString "move "++zo2 k u w).length<=1000000;rw[zd4];omega),λa1 W j fl O=>?_⟩;rw[ep] at O;refine⟨_,rfl,_,rfl,a1,_,_,_,rfl,rfl,SqT.of O,at_0,_,rfl,a1,_,_,_,rfl,rfl,SqT.of O,at_2,p,k,u,w,rfl,b,I,x,m,n,r,f,g,s,c,v,D,A.same j,y,U,?_⟩;rcases h with⟨e,l,z,o,q⟩ | ⟨a,a7⟩
     . exact .inl ⟨e,l,z,o,λN a3 E F G=>q N a3 E ((Same.two j p m).trans F) G⟩
     . exact .inr ⟨a,λod E tl=>a7 od E (tl.from j)⟩
theorem ok_answer (T:Txt K mg t):FnOk P w K mg base CX0 10 t.bU t.bV Pi (sp_answer K t):=by
 refine T.bP.F.ok zV7 (λN H a0 a1 h=>?_) (λa3 A a2 s H N a0 a1 f h=>?_)
 . obtain⟨p,b,E,x,m,n,r,C,F,s,c,l,g,d,u,j,z,rfl,A,G,I,S,q⟩:=h
   rfl
 . obtain⟨p,b,E,x,m,n,r,C,F,s,c,l,g,d,u,j,z,rfl,A,G,I,S,q⟩:=h
   refine⟨_,(za5 (ps_tryD (Ex:=λO D v Q=>RefF g d/\u=c/\j=g/\z=Str.ofString "refused: "++Str.ofString "play full"/\O=[some (.ref p),some (.str (zy7 d)),none]/\D = .ref t.ab/\Told H Q v "play full") (i:=2) ⟨rfl,rfl⟩ rfl T.aV zV7.nd rfl rfl (λ_=>(za5 (zb2 (pe_callSD (ok_answer_row T) f.m T.bk zz3 (za0 P0 (za0 P1 za1)))))) (λ_=>(za5 (zb2 (zb4 zd5 zd1 (pe_xgetK K rfl P2 rfl))))))),?_⟩;refine⟨⟨_,rfl,_,rfl,p,d,rfl,b,E,x,m,n,r,C,F,s,c,l,g,A,G,I,?_⟩,λσ' D v y a R J=>?_⟩
   . rcases S with h | ⟨f,L,U,V⟩
     . exact .inl ⟨u,j,z,h,q⟩
     . exact .inr ⟨f,λv y B=>⟨f,L,U,V,rfl,rfl,B⟩⟩
   . obtain⟨f,rfl,rfl,rfl,rfl,rfl,B⟩:=R
     obtain⟨W,e,fs,rfl,k,X⟩:=B;have a4:(Str.ofString "play full").length=9:=by decide
     have L:(Str.ofString "refused: ").length=9:=by decide
     have a5:sizeLine=16777216:=by decide
     have Y:e≠a:=λz=>by rw[z,J] at k;cases k
     refine⟨T.bz,?_⟩;have M:=W.updT (o:=zL5 (.ref t.ab) a (some e)) J;have Z:(upd y a (zL5 (.ref t.ab) a (some e))) a=_:=za4;have HD:(upd y a (zL5 (.ref t.ab) a (some e))) e=_:=(za8 Y).trans k;exact⟨_,rfl,a,_,e,fs,_,rfl,Z,HD,T.cu,T.aZ,X,_,_,rfl,rfl,(by show(Str.ofString "refused: ").length+(Str.ofString "play full").length<=sizeLine;omega),q x l _ (Same.two M p m) (A.pl.same M)⟩
end
section
variable {P:Program} {w:World} {K:W.Frag} {mg:Str->Option Value} {base:Heap} {t:Adr}
theorem zn1 (T:Txt K mg t):FnOk P w K mg base CX0 1 t.cT t.cU PU (sp_w_at K t):=by
 refine T.ao.F.ok sc_w_at (λg H Q E h=>?_) (λj A i s H g Q E l h=>?_)
 . obtain⟨a,b,k,rfl,d,q⟩:=h
   rfl
 . obtain⟨a,b,k,rfl,d,q⟩:=h
   refine⟨_,(za3 (zc7 (zb9 zT5 P1 (zb5 zb8 rfl T.ac Qr (za0 P0 za1)) (zc1 _)) (za5 (zb2 (zc2 zc3 P0 P1 (λ_ _=>rfl)))) zb3)
     (za5 (zb2 za2))),?_⟩
   refine⟨_,rfl,_,rfl,a,_,rfl,.inl d,_,_,rfl,rfl,_,rfl,?_⟩;rw[Qa];refine ite2 (λf=>?_) (λf=>?_)
   . have c:k<b.length:=by have:=QO f;omega
     have e:b.getD k 0=b[k]:=by simp[c]
     rw[e] at q;exact⟨_,rfl,_,rfl,a,_,_,_,rfl,rfl,d,zw9 (by simp[c]),q⟩
   . have c:¬ k<b.length:=λz=>f (Qg (by omega))
     have e:b.getD k 0=0:=by simp[c]
     rw[e] at q;exact q
theorem zy3 (T:Txt K mg t):FnOk P w K mg base CX0 1 t.bF t.bG PV (sp_w_whole K t):=by
 refine T.aI.F.ok sc_w_whole (λa H Q E h=>?_) (λc A b s H a Q E d h=>?_)
 . obtain⟨i,rfl,q⟩:=h
   rfl
 . obtain⟨i,rfl,q⟩:=h
   refine⟨_,(za5 (zb2 (zN7 (zb5 zh3 rfl T.ad Qx (za0 P0 (za0 (zk7 (v:=.ty "int") rfl T.b8 PyProof.Rows.boot_int rfl) za1))) (zI8 (yk3 (zb5 zh3 rfl T.ad Qx (za0 P0 (za0 (zk7 (v:=.ty "bool") rfl T.cq PyProof.Rows.boot_bool rfl) za1)))))))),?_⟩;refine⟨_,rfl,_,_,_,_,_,rfl,.ty _,.int _,rfl,_,rfl,iteT ?_⟩;exact⟨_,rfl,_,_,_,_,_,rfl,.ty _,.int _,rfl,_,rfl,q⟩
theorem zW9 (T:Txt K mg t):FnOk P w K mg base CX0 1 t.bW t.bX Vq (sp_w_figs K t):=by
 refine T.bl.F.ok zo8 (λm H Q E h=>?_) (λu A r s H m Q E C h=>?_)
 . obtain⟨b,a,n,g,rfl,⟨o,f,k⟩,q⟩:=h
   rfl
 . obtain⟨b,a,n,g,rfl,⟨o,f,k⟩,q⟩:=h
   refine⟨_,(za3 (zb7 (i:=4) zo8.nd rfl (Or.inl rfl) (zg0 za1))
     (za3 (zb7 (i:=5) zo8.nd rfl (Or.inl rfl) P0)
     (za3 (zc7 (zc9 P3) (za5 (zb7 (i:=5) zo8.nd rfl (Or.inl rfl) (zb4 ze3 (zb4 zn3 P0 za2) za2))) zb3)
     (za3 (zh7 PassesOwn.never rfl (zh9 rfl T.ai (za0 P1 za1)) (zc4 (i:=6) zo8.nd rfl (Or.inl rfl)) (za5 (zc7 (zc9 P3) (za3 (zb7 (i:=5) zo8.nd rfl (Or.inl rfl) (zb4 ze3 (zb4 zn3 (zb4 zf5 (zb4 zf5 (pv 5) P6) za2) za2) za2))
     (za5 (ze2 (zl1 QC QM QL zi0 (pv 4) (za0 (zb4 ze3 (zb4 zm7 (pv 5) za2) P2) za1))))) (za3 (ze2 (zl1 QC QM QL zi0 (pv 4) (za0 (zb4 ze3 (pv 5) P2) za1)))
     (za5 (zb7 (i:=5) zo8.nd rfl (Or.inl rfl) (zb4 zm7 (pv 5) P2)))))))
     (za5 (zb2 (pv 4))))))),?_⟩
   refine cut5 ?_;intro x y z B;refine⟨QD _,λl j=>?_⟩;refine⟨_,rfl,_,rfl,_,rfl,?_⟩;have D:(zq8 b a g 0).2=[]:=rfl;cases g
   . refine iteF ?_
     refine⟨_,rfl,_,rfl,by omega,by omega,zh1 (n:=(n:Int).toNat) (λi d c=>X1 λv=>A3 (d=[some (.int b),some (.int n),some (.int a),some (.bl false),some (.ref l),some (.int (zq8 b a false i).1),v]) (c=upd H l (.lst ((zq8 b a false i).2.map V.int))) ((zq8 b a false i).2.length=i)) ⟨none,rfl,rfl,rfl⟩ ?_ ?_⟩
     . rintro i d c p ⟨v,rfl,rfl,e⟩
       refine⟨_,rfl,_,rfl,iteF ?_⟩;refine⟨_,rfl,.inl ⟨rfl,_,SqL.of za4⟩,_,rfl,_,rfl,_,_,rfl,rfl,f,l,_,_,rfl,rfl,za4,zc5 (by rw[Qa];omega),?_⟩;refine⟨_,rfl,_,rfl,_,_,rfl,rfl,⟨f,by omega⟩,_,rfl,?_,?_⟩
       . rw[zh4]
         show upd H l (.lst (_++[V.int _]))=upd H l (.lst ((_++[_]).map V.int));rw[Qk];rfl
       . show(_++[_]).length=i+1
         rw[Qi,e];rfl
     . rintro d c ⟨v,rfl,rfl,e⟩
       exact⟨_,rfl,q l j⟩
   . refine iteT ?_
     refine⟨_,rfl,_,_,rfl,rfl,.inr ⟨by decide,by decide⟩,_,_,rfl,rfl,(by show(0:Int)<2147483647;decide),?_⟩;refine⟨_,rfl,_,rfl,by omega,by omega,zh1 (n:=(n:Int).toNat) (λi d c=>X1 λv=>A3 (d=[some (.int b),some (.int n),some (.int a),some (.bl true),some (.ref l),some (.int (zq8 b a true i).1),v]) (c=upd H l (.lst ((zq8 b a true i).2.map V.int))) ((zq8 b a true i).2.length=i)) ⟨none,rfl,rfl,rfl⟩ ?_ ?_⟩
     . rintro i d c p ⟨v,rfl,rfl,e⟩
       refine⟨_,rfl,_,rfl,iteT ?_⟩;refine⟨_,rfl,_,rfl,_,_,rfl,rfl,_,_,rfl,rfl,_,_,rfl,rfl,.inr ⟨by decide,by decide⟩,_,_,rfl,rfl,(by show(0:Int)<2147483647;decide),?_⟩;refine⟨_,rfl,.inl ⟨rfl,_,SqL.of za4⟩,_,rfl,_,_,rfl,rfl,⟨by decide,by decide⟩,_,rfl,_,_,rfl,rfl,f,l,_,_,rfl,rfl,za4,zc5 (by rw[Qa];omega),?_⟩;refine⟨_,rfl,?_,?_⟩
       . rw[zh4]
         show upd H l (.lst (_++[V.int _]))=upd H l (.lst ((_++[_]).map V.int));rw[Qk];rfl
       . show(_++[_]).length=i+1
         rw[Qi,e];rfl
     . rintro d c ⟨v,rfl,rfl,e⟩
       exact⟨_,rfl,q l j⟩
theorem zw3 (T:Txt K mg t):FnOk P w K mg base CX0 2 t.b8 t.b9 Pl (sp_w_same K t):=by
 refine T.aE.F.ok zV8 (λL H Q E h=>?_) (λW A U s H L Q E M h=>?_)
 . obtain⟨a,b,d,c,rfl,g,f,N,q⟩:=h
   rfl
 . obtain⟨a,b,d,c,rfl,g,f,N,q⟩:=h
   refine⟨_,(za3 (zc7 (zb9 zl4 (zb5 zb8 rfl T.ac Qr (za0 P0 za1)) (zb5 zb8 rfl T.ac Qr (za0 P1 za1)) (zc1 _)) (za5 (zb2 zg9)) zb3)
     (za3 (zh7 PassesOwn.never rfl (zh9 rfl T.ai (za0 (zb5 zb8 rfl T.ac Qr (za0 P1 za1)) za1)) (zc4 (i:=2) zV8.nd rfl (Or.inl rfl)) (za5 (zc7 (PW.pt (zj5 (zd9 (zc9 (za6 (zy3 T) M.m T.aI zb1 (za0 (zc2 zm1 P0 P2 (λ_ _=>rfl)) za1)))) (zi5 (zb9 zl4 (zc2 zm1 P0 P2 (λ_ _=>rfl)) (zc2 zm1 P1 P2 (λ_ _=>rfl)) (zc1 _))))) (za5 (zb2 zg9)) zb3)))
     (za5 (zb2 zg9)))),?_⟩
   refine cut3 ?_;intro X Y;refine⟨_,rfl,a,_,rfl,g,_,rfl,b,_,rfl,f,rfl,_,rfl,?_⟩;rw[Qa,Qa];refine ite2 (λp=>?_) (λp=>?_)
   . have r:d≠c:=by
       intro e;subst e;simp at p
     rw[Qf r] at q;exact q
   . have F:d.length=c.length:=by
       simp at p;omega
     refine⟨_,rfl,b,_,rfl,f,_,rfl,by omega,by rw[Qa];omega,zh1 (n:=((c.map V.int).length:Int).toNat) (λi u j=>X1 λv=>A3 (u=[some (.ref a),some (.ref b),v]) (j=H) (d.take i=c.take i)) ⟨none,rfl,rfl,rfl⟩ ?_ ?_⟩
     . rintro i u j O ⟨v,rfl,rfl,m⟩
       have G:i<c.length:=by simpa using O
       have I:i<d.length:=by omega
       have y:d[i]?=some d[i]:=by simp[I]
       have z:c[i]?=some c[i]:=by simp[G]
       have B:(0:Int)+(i:Int)=(i:Int):=by omega
       have C:atI (d.map V.int) (0+(i:Int))=some (.int d[i]):=by rw[B];exact zw9 y
       have D:atI (c.map V.int) (0+(i:Int))=some (.int c[i]):=by rw[B];exact zw9 z
       have x:∀(k:VK),k (.int d[i]) j->rIx K (.ref a) (.int (0+(i:Int))) j k:=λk h=>by
         rcases g with g | g
         . exact .inl ⟨a,_,_,_,rfl,rfl,g,C,h⟩
         . exact .inr (.inl ⟨a,_,_,_,rfl,rfl,g,C,h⟩)
       have J:∀(k:VK),k (.int c[i]) j->rIx K (.ref b) (.int (0+(i:Int))) j k:=λk h=>by
         rcases f with f | f
         . exact .inl ⟨b,_,_,_,rfl,rfl,f,D,h⟩
         . exact .inr (.inl ⟨b,_,_,_,rfl,rfl,f,D,h⟩)
       refine⟨_,rfl,_,rfl,x _ ⟨_,rfl,_,rfl,iteF ?_⟩⟩;refine⟨_,rfl,_,rfl,x _ ⟨_,rfl,_,rfl,J _ ⟨rfl,_,rfl,?_⟩⟩⟩;refine ite2 (λo=>?_) (λo=>?_)
       . have r:d≠c:=by
           intro e;subst e;simp at o
         rw[Qf r] at q;exact q
       . refine⟨_,rfl,rfl,?_⟩
         have R:d[i]=c[i]:=by
           simp at o;exact o
         rw[QP,QP,m,y,z,R]
     . rintro u j ⟨v,rfl,rfl,m⟩
       have e:d=c:=by
         have S:((c.map V.int).length:Int).toNat=c.length:=by simp
         rw[S] at m;rw[<-QR (l:=c),<-m,<-F,QR]
       rw[Qg e] at q;exact q
theorem ok_w_shape (T:Txt K mg t):FnOk P w K mg base CX0 2 t.bH t.bI Pc (sp_w_shape K t):=by
 refine T.bI.F.ok zk3 (λvs H a1 a2 h=>?_) (λa4 ag a3 ah H vs a1 a2 s h=>?_)
 . obtain⟨a,b,rfl,u,q⟩:=h
   rfl
 . obtain⟨a,b,rfl,u,q⟩:=h
   refine⟨_,(za3 (zb7 (i:=1) zk3.nd rfl (Or.inl rfl) (za6 (zn1 T) s.m T.ao zb1 (za0 P0 (za0 za2 za1))))
     (za3 (zb7 (i:=2) zk3.nd rfl (Or.inl rfl) (zc2 zc3 (zg0 (za0 za2 (za0 za2 (za0 za2 (za0 za2 za1))))) (zb4 ze3 P1 za2) (λ_ _=>rfl)))
     (za3 (zb7 (i:=3) zk3.nd rfl (Or.inl rfl) (zb5 (zJ2 rfl) rfl T.b9 PyProof.Rows.boot_min (za0 (zc2 zc3 (zg0 (za0 za2 (za0 za2 (za0 za2 (za0 za2 za1))))) (zb4 zj1 P2 za2) (λ_ _=>rfl)) (za0 (zc2 zc3 (zg0 (za0 za2 (za0 za2 (za0 za2 (za0 za2 (za0 za2 (za0 za2 za1))))))) (zb4 ze3 (zb4 zm7 P1 za2) za2) (λ_ _=>rfl)) za1))))
     (za3 (zb7 (i:=4) zk3.nd rfl (Or.inl rfl) (zb4 zf5 za2 (zb4 ze3 (zb4 zm7 P1 za2) za2)))
     (za3 (zb7 (i:=5) zk3.nd rfl (Or.inl rfl) (za6 (zn1 T) s.m T.ao zb1 (za0 P0 (za0 za2 za1))))
     (za3 (zF9 (i:=6) rfl zH6 (zi8 (za6 (zW9 T) s.m T.bl zb1 (za0 (za6 (zn1 T) s.m T.ao zb1 (za0 P0 (za0 za2 za1))) (za0 P3 (za0 za2 (za0 (zj8 zg3 (zb4 ze3 (pv 5) za2) za2 (zc1 _)) za1)))))) (λ_ _ _ _ _=>(zc4 (i:=0) zH6.nd rfl (Or.inl rfl))) (λ_ _ _ _ _=>zk5) (λ_ _ _ _ _=>(zb4 zf5 za2 P0)) zk3.nd rfl rfl)
     (za3 (zc7 (zb9 zg3 (zb4 ze3 (zb4 zm7 (pv 5) za2) za2) za2 (zc1 _)) (za5 (zb7 (i:=6) zk3.nd rfl (Or.inl rfl) (zb4 zX9 (zh2 zM6 P6 zl0 (zi9 za2)) P3))) zb3)
     (za3 (zc7 (zb9 zg3 (zb4 ze3 (zb4 zm7 (pv 5) za2) za2) za2 (zc1 _)) (za5 (zb7 (i:=6) zk3.nd rfl (Or.inl rfl) (zb4 zX9 (zg0 (za0 za2 za1)) P3))) zb3)
     (za5 (zb2 (zg0 (za0 P2 (za0 (pv 4) (za0 P6 za1)))))))))))))),?_⟩
   refine cut9 ?_;intro a5 a6 a7 a8 a9 aa ab ac;have W:0<=at0 b 1 % 4:=Zc _ (by decide);have X:at0 b 1 % 4<4:=Za _ (by decide);have Y:0<=at0 b 1 / 4 % 6:=Zc _ (by decide);have Z:at0 b 1 / 4 % 6<6:=Za _ (by decide);have hN:=zK6 b;obtain⟨ad,ae⟩:=yn9 b;have h5:(if shN b=1 then(5:Int) else if shN b=2 then 4 else 3)<=5:=by repeat (first | decide | split)
   refine⟨_,rfl,a,b,1,rfl,u,?_⟩;refine⟨by decide,λE f1=>⟨_,rfl,_,_,rfl,rfl,(by show(0:Int)<4;decide),E,_,_,_,rfl,rfl,SqL.of za4,ze8 (xs:=[2,3,1,4]) W X,?_⟩⟩;have M:Same H (upd H E (.lst [.int 2,.int 3,.int 1,.int 4])):=Same.upd f1;generalize upd H E (.lst [.int 2,.int 3,.int 1,.int 4])=N at M ⊢;refine⟨by decide,λF f2=>⟨_,rfl,_,_,rfl,rfl,F,_,_,_,rfl,rfl,SqL.of za4,ze8 (xs:=[5,4,3,3]) (by show 0<=shN b-1;omega) (by show shN b-1<4;omega),?_⟩⟩;have O:Same H (upd N F (.lst [.int 5,.int 4,.int 3,.int 3])):=M.updT f2;generalize upd N F (.lst [.int 5,.int 4,.int 3,.int 3])=Q at O ⊢;refine⟨by decide,λG f3=>⟨_,rfl,_,_,rfl,rfl,⟨by decide,by decide⟩,_,_,rfl,rfl,(by show(0:Int)<6;decide),G,_,_,_,rfl,rfl,SqL.of za4,ze8 (xs:=[3,2,4,1,5,0]) Y Z,_,_,rfl,?_⟩⟩;have y:Same H (upd Q G (.lst [.int 3,.int 2,.int 4,.int 1,.int 5,.int 0])):=O.updT f3;generalize upd Q G (.lst [.int 3,.int 2,.int 4,.int 1,.int 5,.int 0])=I at y ⊢;refine⟨_,rfl,_,_,rfl,rfl,⟨by decide,by decide⟩,_,_,rfl,rfl,(by show(0:Int)<3;decide),_,_,rfl,rfl,?_⟩;refine⟨_,rfl,a,b,0,rfl,y.seq u,?_⟩;have eW:(((shW b).toNat:Nat):Int)=shW b:=by omega
   refine⟨_,rfl,a,b,2,rfl,y.seq u,_,rfl,_,rfl,_,_,rfl,rfl,(by show(0:Int)<2;decide),rfl,at0 b 2,20,(shW b).toNat,zt3 b,?_,⟨by omega,by decide,by decide⟩,λA f4=>⟨A,rfl,⟨_,SqL.of za4⟩,λD J=>?_⟩⟩
   . rw[eW];rfl
   have R:Same H (upd I A (.lst ((figs (at0 b 2) (shW b).toNat 20 (zt3 b)).map V.int))):=y.updT f4;refine comp_list (f:=λv=>match v with | .int z=>V.int (1+z) | v=>v) (SqL.of za4) J (QZ (zc5 (by rw[Qa,zH7];omega))) (λx af ai hx h=>?_) ?_
   . obtain⟨z,hz,rfl⟩:=QN.mp hx
     exact⟨_,rfl,_,_,rfl,rfl,h⟩
   have S:((figs (at0 b 2) (shW b).toNat 20 (zt3 b)).map V.int).map (λv=>match v with | .int z=>V.int (1+z) | v=>v)=(shH0 b).map V.int:=by
     unfold shH0;rw[Zn,Zn];rfl
   rw[S];have d:=R.updT (o:=.lst ((shH0 b).map V.int)) J;have fD:H D=none:=R.free J;have g:(upd (upd I A (.lst ((figs (at0 b 2) (shW b).toNat 20 (zt3 b)).map V.int))) D (.lst ((shH0 b).map V.int))) D=some (.lst ((shH0 b).map V.int)):=za4;clear S;revert d g;generalize upd (upd I A (.lst ((figs (at0 b 2) (shW b).toNat 20 (zt3 b)).map V.int))) D (.lst ((shH0 b).map V.int))=H5;intro d g;have a0:=yc3 b;refine⟨_,rfl,_,_,rfl,rfl,⟨by decide,by decide⟩,_,_,rfl,rfl,(by show(0:Int)<5;decide),rfl,_,rfl,?_⟩;show(if decide (V.int (at0 b 0 / 2 % 5)=V.int 1)=true then _ else _);rw[ze9];by_cases j:at0 b 0 / 2 % 5=1
   . rw[Qg j]
     refine iteT ?_;refine⟨_,rfl,1,rfl,D,_,rfl,SqL.of g,λL k=>⟨_,rfl,L,_,_,rfl,rfl,za4,(by show -(2 ^ 63)<=shW b;omega),(by show shW b<2 ^ 63;omega),?_,λl m=>?_⟩⟩
     . refine QZ (zc5 ?_)
       have h1:(cutV ((shH0 b).map V.int) none (some 1)).length<=(shW b).toNat:=by rw[<-a0,<-Qa (f:=V.int)];exact zl6 _ _ _
       have U:(shW b).toNat<=5:=by omega
       exact QJ (Nat.mul_le_mul (QJ h1 U) U) (by decide)
     have n:=(d.updT (o:=.lst (cutV ((shH0 b).map V.int) none (some 1))) k).updT (o:=.lst (List.replicate (shW b).toNat (cutV ((shH0 b).map V.int) none (some 1))).flatten) m;have C:H l=none:=(d.updT (o:=.lst (cutV ((shH0 b).map V.int) none (some 1))) k).free m;refine⟨_,rfl,_,_,rfl,rfl,⟨by decide,by decide⟩,_,_,rfl,rfl,(by show(0:Int)<5;decide),rfl,_,rfl,?_⟩;show(if decide (V.int (at0 b 0 / 2 % 5)=V.int 2)=true then _ else _);rw[ze9,Qf (by omega)];refine iteF ?_;refine⟨_,rfl,_,rfl,_,rfl,(by show 3<=sizeLine;decide),λp c=>?_⟩;refine q p l _ (n.updT c) (n.free c) C ?_ za4;rw[za8 (λe=>by rw[<-e] at c;rw[za4] at c;cases c),za4];have ec:cutV ((shH0 b).map V.int) none (some 1)=((shH0 b).take 1).map V.int:=by
       unfold cutV;rw[HT.sIx_none,show(some (1:Int))=some ((1:Nat):Int) from rfl,HT.sIx_nat,List.drop_zero,Nat.sub_zero,List.map_take,Qa];by_cases h:1<=(shH0 b).length
       . rw[Zx h]
       . have:shH0 b=[]:=Qy (by omega)
         rw[this];rfl
     have r:(List.replicate (shW b).toNat (((shH0 b).take 1).map V.int)).flatten=(shH b).map V.int:=by
       unfold shH;rw[Qo j,List.map_flatten,List.map_replicate]
     show some (HO.lst (List.replicate (shW b).toNat (cutV ((shH0 b).map V.int) none (some 1))).flatten)=_;rw[ec,r]
   . rw[Qf j]
     refine iteF ?_;refine⟨_,rfl,_,_,rfl,rfl,⟨by decide,by decide⟩,_,_,rfl,rfl,(by show(0:Int)<5;decide),rfl,_,rfl,?_⟩;show(if decide (V.int (at0 b 0 / 2 % 5)=V.int 2)=true then _ else _);rw[ze9];by_cases B:at0 b 0 / 2 % 5=2
     . rw[Qg B]
       refine iteT ?_;refine⟨by decide,λL k=>⟨_,rfl,L,_,_,rfl,rfl,za4,(by show -(2 ^ 63)<=shW b;omega),(by show shW b<2 ^ 63;omega),?_,λl m=>?_⟩⟩
       . refine QZ (zc5 ?_)
         show 1*(shW b).toNat<=1000;omega
       have n:=(d.updT (o:=.lst [.int 20]) k).updT (o:=.lst (List.replicate (shW b).toNat [V.int 20]).flatten) m;have C:H l=none:=(d.updT (o:=.lst [.int 20]) k).free m;refine⟨_,rfl,_,rfl,_,rfl,(by show 3<=sizeLine;decide),λp c=>?_⟩;refine q p l _ (n.updT c) (n.free c) C ?_ za4;rw[za8 (λe=>by rw[<-e] at c;rw[za4] at c;cases c),za4];have r:(List.replicate (shW b).toNat [V.int 20]).flatten=(shH b).map V.int:=by
         unfold shH;rw[Qh j,Qo B,List.map_flatten,List.map_replicate];rfl
       show some (HO.lst (List.replicate (shW b).toNat [V.int 20]).flatten)=_;rw[r]
     . rw[Qf B]
       refine iteF ?_;refine⟨_,rfl,_,rfl,_,rfl,(by show 3<=sizeLine;decide),λp c=>?_⟩;refine q p D _ (d.updT c) (d.free c) fD ?_ za4;rw[za8 (λe=>by rw[<-e] at c;rw[g] at c;cases c),g];have r:shH b=shH0 b:=by
         unfold shH;rw[Qh j,Qh B]
       rw[r]
theorem yd6 (T:Txt K mg t):FnOk P w K mg base CX0 2 t.cA t.cB Vr (sp_w_put K t):=by
 refine T.bx.F.ok zl7 (λvs H Q a1 h=>?_) (λa5 ac a3 ad H vs Q a1 C h=>?_)
 . obtain⟨a,D,h,b,k,c,n,r,j,rfl,E,M,U,⟨n1,n2,W,hw⟩,q⟩:=h
   rfl
 . obtain⟨a,D,h,b,k,c,n,r,j,rfl,E,M,U,⟨n1,n2,W,hw⟩,q⟩:=h
   refine⟨_,(za3 (zz0 P3 (zJ4 rfl (ze1 (zc4 (i:=4) zl7.nd rfl (Or.inl rfl)) (ze1 (zc4 (i:=5) zl7.nd rfl (Or.inl rfl)) (ze1 (zc4 (i:=6) zl7.nd rfl (Or.inl rfl)) zs8)))))
     (za3 (zb7 (i:=7) zl7.nd rfl (Or.inl rfl) (zj8 zg3 (zb4 ze3 (za6 (zn1 T) C.m T.ao zb1 (za0 P0 (za0 za2 za1))) za2) za2 (zc1 _)))
     (za3 (zb7 (i:=8) zl7.nd rfl (Or.inl rfl) (zb4 zf5 (za6 (zn1 T) C.m T.ao zb1 (za0 P0 (za0 P1 za1))) P2))
     (za3 (zb7 (i:=9) zl7.nd rfl (Or.inl rfl) (zg0 za1))
     (za3 (zh7 PassesOwn.never rfl (zi8 (za6 (zW9 T) C.m T.bl zb1 (za0 (pv 8) (za0 (zb5 zb8 rfl T.ac Qr (za0 P6 za1)) (za0 (zb4 zf5 (zb4 zn3 za2 (pv 4)) za2) (za0 (pv 7) za1)))))) (zc4 (i:=10) zl7.nd rfl (Or.inl rfl)) (za3 (zb7 (i:=11) zl7.nd rfl (Or.inl rfl) (zb4 zj1 P10 (pv 4)))
     (za3 (zc7 (zb9 zg3 (zb4 ze3 (pv 8) za2) za2 (zc1 _)) (za5 (zb7 (i:=11) zl7.nd rfl (Or.inl rfl) (pv 4))) zb3)
     (za3 (zc7 (PW.pt (zy9 (zb9 zl4 P11 za2 (zc1 _)) (zw6 (zb9 ya3 (zl1 QC PySem.F.slot_list_count PySem.F.type_list_count zU6 P9 (za0 P11 za1)) (pv 5) (zc1 _))))) (za5 (zb7 (i:=11) zl7.nd rfl (Or.inl rfl) za2)) zb3)
     (za5 (ze2 (zl1 QC QM QL zi0 P9 (za0 P11 za1))))))))
     (za5 (zb2 P9))))))),?_⟩
   refine cut6 ?_;intro a6 a7 a8 a9 aa;refine⟨_,rfl,D,_,rfl,SqL.of M,rfl,_,_,rfl,_,_,rfl,_,_,rfl,rfl,?_⟩;refine⟨_,rfl,a,b,0,rfl,E,_,_,rfl,rfl,(by show(0:Int)<2;decide),rfl,?_⟩;refine⟨_,rfl,_,rfl,a,b,k,rfl,E,_,rfl,_,_,rfl,rfl,?_⟩;refine⟨QD _,λm F=>?_⟩;have G:Same H (upd H m (.lst [])):=Same.upd F;refine⟨_,rfl,_,rfl,h,_,rfl,.inl (G.seq U),_,rfl,_,_,rfl,rfl,.inl ⟨by decide,by decide⟩,_,_,rfl,rfl,_,rfl,at0 b k+c,2*n+1,j.length,zt3 b,?_,⟨by omega,by omega,by omega⟩,λf u=>⟨f,rfl,⟨_,SqL.of za4⟩,?_⟩⟩
   . rw[Qa];rfl
   have N:f≠m:=λe=>by rw[e,za4] at u;cases u
   have ab:H f=none:=G.free u;have Z:(figs (at0 b k+c) j.length (2*n+1) (zt3 b)).length=j.length:=zH7 _ _ _ _;have O:=zZ6 (cell:=at0 b k+c) (mix:=zt3 b) (show(0:Int)<2*n+1 by omega) j.length;have I:∀d,Same H d->d m=some (.lst ((putL n r (decide (V.int ((at0 b k+c) % 13)=V.int 12)) (figs (at0 b k+c) j.length (2*n+1) (zt3 b))).map V.int))->Q (.ref m) d:=λd s' e=>q m d s' F e
   generalize figs (at0 b k+c) j.length (2*n+1) (zt3 b)=fs at Z O I ⊢;have L:∀i,(putL n r (decide (V.int ((at0 b k+c) % 13)=V.int 12)) (fs.take i)).length<=5:=λi=>by
     rw[(yj2 _ (by omega) W (fs.take i) λx hx=>O x (List.mem_of_mem_take hx)).1,QT];omega
   refine zp8 (K:=K) (a:=f) (xs:=fs.map V.int) (λi v d=>X2 λy A=>A2 (v=[some (.ref a),some (.int k),some (.int c),some (.ref D),some (.int n),some (.int r),some (.ref h),some (.bl (zt3 b)),some (.int (at0 b k+c)),some (.ref m),y,A]) (d=upd (upd (upd H m (.lst [])) f (.lst (fs.map V.int))) m (.lst ((putL n r (decide (V.int ((at0 b k+c) % 13)=V.int 12)) (fs.take i)).map V.int)))) ⟨none,none,rfl,?_⟩ ?_ ?_ ?_
   . exact(upd_id (by rw[za8 (Ne.symm N),za4];rfl)).symm
   . rintro i v d _ ⟨_,_,_,rfl⟩
     exact SqL.of (by rw[za8 N,za4])
   . rintro i x v d hi ⟨y,A,rfl,rfl⟩
     obtain⟨z,rfl,hz⟩:=int_at hi;have a0:fs.take (i+1)=fs.take i++[z]:=by rw[QP,hz];rfl
     have R:=L i;generalize X:decide (V.int ((at0 b k+c) % 13)=V.int 12)=p at L R I ⊢;generalize Y:putL n r p (fs.take i)=made at R;have o:putL n r p (fs.take (i+1))=zr0 n r p made z:=by rw[a0,zV9,Y]
     have a4:∀(a2:Int),a2=(if p=true then n else z-n)->True:=λ_ _=>trivial
     refine⟨_,rfl,_,rfl,_,_,rfl,rfl,?_⟩;refine⟨_,rfl,_,_,rfl,rfl,(by show(0:Int)<13;decide),rfl,_,rfl,?_⟩;show(if decide (V.int ((at0 b k+c) % 13)=V.int 12)=true then _ else _);rw[X];cases p
     . refine iteF ?_
       refine⟨_,rfl,rfl,_,rfl,?_⟩;refine ite2 (λJ=>?_) (λJ=>?_)
       . have B:z-n≠0:=λe=>by
           have s:(!decide (V.int (z-n)=V.int 0))=true:=J;rw[e] at s;simp at s
         refine⟨_,rfl,.inl ⟨rfl,_,SqL.of za4⟩,_,rfl,m,made,z-n,rfl,rfl,SqL.of za4,_,rfl,_,_,rfl,rfl,_,rfl,?_⟩;refine ite2 (λl=>?_) (λl=>?_)
         . have g:r<=(made.count (z-n):Int):=QO l
           refine⟨_,rfl,.inl ⟨rfl,_,SqL.of za4⟩,_,rfl,m,_,_,rfl,rfl,za4,zc5 (by rw[Qa];omega),_,_,rfl,?_⟩;rw[zh4,o];unfold zr0;rw[Qh (show ¬ (false=true) by decide),Qo ⟨B,g⟩,Qk];rfl
         . have g:¬ r<=(made.count (z-n):Int):=λe=>l (Qg e)
           refine⟨_,rfl,.inl ⟨rfl,_,SqL.of za4⟩,_,rfl,m,_,_,rfl,rfl,za4,zc5 (by rw[Qa];omega),_,_,rfl,?_⟩;rw[zh4,o];unfold zr0;rw[Qh (show ¬ (false=true) by decide),Qh (λe=>g e.2),Qk];rfl
       . have B:z-n=0:=by
           have s:¬ (!decide (V.int (z-n)=V.int 0))=true:=J;rw[ze9] at s;simpa using s
         refine iteF ?_;refine⟨_,rfl,.inl ⟨rfl,_,SqL.of za4⟩,_,rfl,m,_,_,rfl,rfl,za4,zc5 (by rw[Qa];omega),_,_,rfl,?_⟩;rw[zh4,o];unfold zr0;rw[Qh (show ¬ (false=true) by decide),Qh (λe=>e.1 B),Qk];rfl
     . refine iteT ?_
       refine⟨_,rfl,?_⟩;refine⟨_,rfl,rfl,_,rfl,?_⟩;have S:n≠0:=by omega
       refine iteA (by show(!decide (V.int n=V.int 0))=true;rw[ze9];simpa using S) ?_;refine⟨_,rfl,.inl ⟨rfl,_,SqL.of za4⟩,_,rfl,m,made,n,rfl,rfl,SqL.of za4,_,rfl,_,_,rfl,rfl,_,rfl,?_⟩;refine ite2 (λl=>?_) (λl=>?_)
       . have g:r<=(made.count n:Int):=QO l
         refine⟨_,rfl,.inl ⟨rfl,_,SqL.of za4⟩,_,rfl,m,_,_,rfl,rfl,za4,zc5 (by rw[Qa];omega),_,_,rfl,?_⟩;rw[zh4,o];unfold zr0;rw[Qo rfl,Qo ⟨S,g⟩,Qk];rfl
       . have g:¬ r<=(made.count n:Int):=λe=>l (Qg e)
         refine⟨_,rfl,.inl ⟨rfl,_,SqL.of za4⟩,_,rfl,m,_,_,rfl,rfl,za4,zc5 (by rw[Qa];omega),_,_,rfl,?_⟩;rw[zh4,o];unfold zr0;rw[Qo rfl,Qh (λe=>g e.2),Qk];rfl
   . rintro v d ⟨y,A,rfl,rfl⟩
     rw[Qa,QR];refine⟨_,rfl,I _ ?_ za4⟩;exact((G.updT u).put F)
def sp_w_tilt (K:W.Frag)(t:Adr):Sp:=λvs H Q _=>∃(h a:Addr) (hs xs:List Int),vs=[.ref h,.ref a]/\SqL K H h (hs.map V.int)/\(SqL K H a (xs.map V.int)\/SqT K H a (xs.map V.int))/\(hs.length=xs.length/\xs.length<=5/\∀x∈hs,1<=x/\x<=20)/\Q (.int (zc6 hs xs)) H
theorem zw4 (T:Txt K mg t):FnOk P w K mg base CX0 1 t.bY t.bZ Pj (sp_w_tilt K t):=by
 refine T.aD.F.ok zC3 (λx H Q E h=>?_) (λD A C s H x Q E I h=>?_)
 . obtain⟨h,a,b,d,rfl,f,c,⟨m,y,l⟩,q⟩:=h
   rfl
 . obtain⟨h,a,b,d,rfl,f,c,⟨m,y,l⟩,q⟩:=h
   refine⟨_,(za3 (zb7 (i:=2) zC3.nd rfl (Or.inl rfl) za2)
     (za3 (zh7 PassesOwn.never rfl (zh9 rfl T.ai (za0 (zb5 zb8 rfl T.ac Qr (za0 P0 za1)) za1)) (zc4 (i:=3) zC3.nd rfl (Or.inl rfl)) (za5 (zb7 (i:=2) zC3.nd rfl (Or.inl rfl) (zb4 zf5 P2 (zb4 zn3 (zc2 zc3 P0 P3 (λ_ _=>rfl)) (zc2 zm1 P1 P3 (λ_ _=>rfl)))))))
     (za5 (zb2 P2)))),?_⟩
   refine cut3 ?_;intro F G;refine⟨_,rfl,h,_,rfl,.inl f,?_⟩;rw[Qa];refine⟨_,rfl,by omega,by omega,zh1 (n:=((b.length:Nat):Int).toNat) (λi k e=>X1 λv=>A2 (k=[some (.ref h),some (.ref a),some (.int (yc7 b d i)),v]) (e=H)) ⟨none,rfl,rfl⟩ ?_ ?_⟩
   . rintro j k e z ⟨v,rfl,rfl⟩
     have r:j<b.length:=by simpa using z
     have o:(0:Int)+(j:Int)=(j:Int):=by omega
     have p:atI (d.map V.int) (0+(j:Int))=some (.int (d.getD j 0)):=by rw[o];exact ze8 (by omega) (by omega)
     have B:atI (b.map V.int) (0+(j:Int))=some (.int (b.getD j 0)):=by rw[o];exact ze8 (by omega) (by omega)
     have J:=l (b.getD j 0) (zm6 r);have u:∀(g:VK),g (.int (d.getD j 0)) e->rIx K (.ref a) (.int (0+(j:Int))) e g:=λg h=>by
       rcases c with c | c
       . exact .inl ⟨a,_,_,_,rfl,rfl,c,p,h⟩
       . exact .inr (.inl ⟨a,_,_,_,rfl,rfl,c,p,h⟩)
     exact⟨_,rfl,_,rfl,_,rfl,h,_,_,_,rfl,rfl,f,B,_,rfl,_,rfl,u _ ⟨_,_,rfl,rfl,.inl ⟨by omega,by omega⟩,_,_,rfl,rfl,_,rfl,rfl⟩⟩
   . rintro k e ⟨v,rfl,rfl⟩
     rw[Zi,sumTo_tilt m];exact⟨_,rfl,q⟩
def sp_w_limit (K:W.Frag)(t:Adr):Sp:=λvs H Q _=>∃(a:Addr) (ns:List Int) (low:Int),vs=[.ref a,.int low]/\SqL K H a (ns.map V.int)/\(0<=low/\low<=400)/\∀lim,low<=lim->lim<=400->Q (.int lim) H
theorem ok_w_limit (T:Txt K mg t):FnOk P w K mg base CX0 2 t.bJ t.bK Vs (sp_w_limit K t):=by
 refine T.bJ.F.ok zF2 (λj H Q E h=>?_) (λu A o s H j Q E e h=>?_)
 . obtain⟨a,b,g,rfl,d,⟨k,f⟩,q⟩:=h
   rfl
 . obtain⟨a,b,g,rfl,d,⟨k,f⟩,q⟩:=h
   refine⟨_,(za3 (zb7 (i:=2) zF2.nd rfl (Or.inl rfl) (za6 (zn1 T) e.m T.ao zb1 (za0 P0 (za0 za2 za1))))
     (za3 (zb7 (i:=3) zF2.nd rfl (Or.inl rfl) (zb4 ze3 (zb4 zm7 (za6 (zn1 T) e.m T.ao zb1 (za0 P0 (za0 za2 za1))) za2) za2))
     (za3 (zc7 (zb9 zg3 P3 za2 (zc1 _)) (za5 (zb2 (zb5 (zJ2 rfl) rfl T.b9 PyProof.Rows.boot_min (za0 za2 (za0 (zb4 zf5 P1 (zb4 ze3 P2 za2)) za1))))) zb3)
     (za3 (zc7 (zb9 zg3 P3 za2 (zc1 _)) (za5 (zb2 (zb5 (zJ2 rfl) rfl T.b9 PyProof.Rows.boot_min (za0 za2 (za0 (zb4 zf5 P1 (zb4 ze3 P2 za2)) za1))))) zb3)
     (za3 (zc7 (zb9 zg3 P3 za2 (zc1 _)) (za5 (zb2 (zb5 (zT6 rfl) rfl T.cz PyProof.Rows.boot_max (za0 P1 (za0 (zb4 ze3 P2 za2) za1))))) zb3)
     (za5 (zb2 za2))))))),?_⟩
   refine cut6 ?_;intro v x y z B;refine⟨_,rfl,a,b,5,rfl,d,?_⟩;refine⟨_,rfl,a,b,0,rfl,d,_,_,rfl,rfl,⟨by decide,by decide⟩,_,_,rfl,rfl,(by show(0:Int)<4;decide),?_⟩;generalize b.getD 5 0=c;have D:0<=c % 8:=Zc _ (by decide);have C:0<=c % 41:=Zc _ (by decide);have r:0<=c % 401:=Zc _ (by decide);have p:c % 401<401:=Za _ (by decide);refine⟨_,rfl,rfl,_,rfl,?_⟩;refine ite2 (λl=>?_) (λl=>?_)
   . refine⟨_,rfl,_,rfl,_,_,rfl,rfl,(by show(0:Int)<8;decide),_,_,rfl,rfl,_,_,rfl,?_⟩
     exact q _ (by split<;>omega) (by split<;>omega)
   refine⟨_,rfl,rfl,_,rfl,?_⟩;refine ite2 (λm=>?_) (λm=>?_)
   . refine⟨_,rfl,_,rfl,_,_,rfl,rfl,(by show(0:Int)<41;decide),_,_,rfl,rfl,_,_,rfl,?_⟩
     exact q _ (by split<;>omega) (by split<;>omega)
   refine⟨_,rfl,rfl,_,rfl,?_⟩;refine ite2 (λn=>?_) (λn=>?_)
   . refine⟨_,rfl,_,rfl,_,_,rfl,rfl,(by show(0:Int)<401;decide),_,_,rfl,?_⟩
     exact q _ (by split<;>omega) (by split<;>omega)
   exact q 400 f (by decide)
end
section
variable {P:Program} {w:World} {K:W.Frag} {mg:Str->Option Value} {base:Heap} {t:Adr}
theorem scal_ints {xs ys:List Int}(j:Nat)(x y:V)(c:(xs.map V.int)[j]?=some x)(d:(ys.map V.int)[j]?=some y):yb9 x y=true:=by
 obtain⟨a,rfl,_⟩:=int_at c;obtain⟨b,rfl,_⟩:=int_at d;rfl
theorem kit_self (K:W.Frag)(c:Value):W.kitOne K c c=some true:=Qo (by simp)
noncomputable def zl3 (n r:Int)(xs:List Int)(j:Nat):List Int:=(grid n j).filter λp=>decide (p=0\/(xs.count p:Int)<r)
theorem zS8 (n r:Int)(xs:List Int)(j:Nat):zl3 n r xs (j+1)=zl3 n r xs j++(if -n+(j:Int)=0\/(xs.count (-n+(j:Int)):Int)<r then [-n+(j:Int)] else []):=by
 unfold zl3 grid;rw[List.range_succ,Qk,ZL];congr 1;by_cases h:-n+(j:Int)=0\/(xs.count (-n+(j:Int)):Int)<r
 . rw[Qo h];simp[h]
 . rw[Qh h];simp[h]
theorem zX0 (n r:Int)(xs:List Int)(j:Nat):(zl3 n r xs j).length<=j:=by
 unfold zl3 grid;refine QJ (List.length_filter_le _ _) ?_;simp
theorem freeL_puts (n r:Int)(hs:List Int)(lim:Int)(xs:List Int)(i j:Nat):(zl3 n r xs j).filter (λp=>decide (Lets n r hs lim xs i p))=zl2 n r hs lim xs i j:=by
 unfold zl3 zl2;rw[List.filter_filter];refine List.filter_congr λp _=>?_
 by_cases h:Lets n r hs lim xs i p
 . have:p=0\/(xs.count p:Int)<r:=by
     by_cases z:p=0
     . exact .inl z
     . exact .inr (h.room z)
   simp[h,this]
 . simp[h]
theorem filt_no {q:Int->Bool}{l:List Int}{p:Int}(h:q p=false):(l++[p]).filter q=l.filter q:=by simp[ZL,h]
theorem filt_yes {q:Int->Bool}{l:List Int}{p:Int}(h:q p=true):(l++[p]).filter q=l.filter q++[p]:=by simp[ZL,h]
theorem freeL_mem {n r:Int}{xs:List Int}{j:Nat}{p:Int}(h:p∈zl3 n r xs j):(∃k,k<j/\p = -n+(k:Int))/\(p=0\/(xs.count p:Int)<r):=by
 unfold zl3 grid at h;obtain⟨a,b⟩:=List.mem_filter.mp h;obtain⟨k,c,rfl⟩:=QN.mp a;exact⟨⟨k,List.mem_range.mp c,rfl⟩,QO b⟩
noncomputable def zM2 (n r:Int)(hs:List Int)(lim:Int)(x:List Int)(i:Nat):List (List Int):=(zo4 n r hs lim x i).map λm=>x.set m.1 m.2
theorem zS9 (n r:Int)(hs:List Int)(lim:Int)(x:List Int)(i:Nat):zM2 n r hs lim x (i+1)=zM2 n r hs lim x i++(zl2 n r hs lim x i (wide n)).map λp=>x.set i p:=by
 unfold zM2;rw[zx9,Qk,Zn];rfl
def zn2 (K:W.Frag)(H:Hp)(c:Addr)(n r:Int)(hs:List Int)(lim:Int):Prop:=∃h,zg6 n r hs lim/\SqL K H c [.int n,.int r,.ref h,.int lim]/\SqL K H h (hs.map V.int)
theorem zn2.same {K:W.Frag}{H H':Hp}{c:Addr}{n r:Int}{hs:List Int}{lim:Int}(h:zn2 K H c n r hs lim)(s:Same H H'):zn2 K H' c n r hs lim:=let⟨a,b,d,e⟩:=h;⟨a,b,s.seq d,s.seq e⟩
def sp_w_near (K:W.Frag)(t:Adr):Sp:=λvs H Q _=>∃(c a:Addr) (n r lim:Int) (hs xs:List Int),vs=[.ref c,.ref a]/\zn2 K H c n r hs lim/\zd0 n r hs.length xs/\H a=some (.tup (xs.map V.int)) ∧
 ∀l H' ys,Same H H'->H l=none->H' l=some (.lst ys)->Tups H' ys (nbs n r hs lim xs)->Q (.ref l) H'
theorem ok_w_near (T:Txt K mg t):FnOk P w K mg base CX0 2 t.b6 t.b7 Pk (sp_w_near K t):=by
 refine T.bT.F.ok zj3 (λvs H aw ay h=>?_) (λb3 bc b0 bd H vs aw ay hr h=>?_)
 . obtain⟨a0,a,n,r,c,b,xs,rfl,⟨h,ok,hc,E⟩,V0,o,ag⟩:=h
   rfl
 . obtain⟨a0,a,n,r,c,b,xs,rfl,⟨h,ok,hc,E⟩,V0,o,ag⟩:=h
   refine⟨_,(za3 (zz0 P0 (zJ4 rfl (ze1 (zc4 (i:=2) zj3.nd rfl (Or.inl rfl)) (ze1 (zc4 (i:=3) zj3.nd rfl (Or.inr rfl)) (ze1 (zc4 (i:=4) zj3.nd rfl (Or.inl rfl)) (ze1 (zc4 (i:=5) zj3.nd rfl (Or.inl rfl)) zs8))))))
     (za3 (zb7 (i:=6) zj3.nd rfl (Or.inl rfl) (za6 (zw4 T) hr.m T.aD zb1 (za0 (pv 4) (za0 P1 za1))))
     (za3 (zF9 (i:=7) rfl zL7 (zI9 rfl T.ai (za0 (zk8 zg8 P2) (za0 (zb4 zf5 P2 za2) za1))) (λ_ _ _ _ _=>(zc4 (i:=0) zL7.nd rfl (Or.inl rfl))) (λ_ _ _ _ _=>(zF8 (PW.pt (zj5 (zb9 zg3 P0 za2 (zc1 _)) (zi5 (zb9 zT5 (yg5 ZH PySem.F.type_tuple_count (mt_countTK K rfl) P2 (za0 P0 za1)) P1 (zc1 _))))))) (λ_ _ _ _ _=>P0) zj3.nd rfl rfl)
     (za3 (zb7 (i:=8) zj3.nd rfl (Or.inl rfl) (zg0 za1))
     (za3 (zh7 PassesOwn.never rfl (zh9 rfl T.ai (za0 (zb5 zb8 rfl T.ac Qr (za0 (pv 4) za1)) za1)) (zc4 (i:=9) zj3.nd rfl (Or.inl rfl)) (za3 (zb7 (i:=10) zj3.nd rfl (Or.inl rfl) (zb4 zj1 P6 (zb4 zn3 (zc2 zc3 (pv 4) P9 (λ_ _=>rfl)) (zc2 ze7 P1 P9 (λ_ _=>rfl)))))
     (za5 (zc7 (zb9 yf2 (zb5 zp9 rfl T.aM Zp (za0 P10 za1)) (pv 5) (zc1 _)) (za5 (zh7 PassesOwn.never rfl (zi8 (pv 7)) (zc4 (i:=11) zj3.nd rfl (Or.inl rfl)) (za5 (zc7 (PW.pt (zy9 (zb9 zl4 P11 (zc2 ze7 P1 P9 (λ_ _=>rfl)) (zc1 _)) (zw6 (zb9 yf2 (zb5 zp9 rfl T.aM Zp (za0 (zb4 zf5 P10 (zb4 zn3 (zc2 zc3 (pv 4) P9 (λ_ _=>rfl)) P11)) za1)) (pv 5) (zc1 _))))) (za5 (ze2 (zl1 QC QM QL zi0 (pv 8) (za0 (zb4 zt0 (zb4 zt0 (zh2 zE9 P1 zl0 (zi9 P9)) (zt5 (za0 P11 za1))) (zh2 zE9 P1 (zi9 (zb4 zf5 P9 za2)) zl0)) za1)))) zb3)))) zb3))))
     (za5 (zb2 (pv 8)))))))),?_⟩
   refine cut6 ?_;intro b4 b5 b6 b7 b8;have a8:=V0.len;have hw:=ok.w;have n1:=ok.n1;have n2:=ok.n2;have ai:wide n<=9:=by unfold wide;omega
   refine⟨_,rfl,a0,_,rfl,hc,rfl,_,_,rfl,_,_,rfl,_,_,rfl,_,_,rfl,rfl,?_⟩;refine⟨_,rfl,_,rfl,h,a,b,xs,rfl,E,.inr (SqT.of o),⟨a8.symm,by omega,ok.h⟩,?_⟩;refine⟨_,rfl,_,rfl,_,rfl,_,_,rfl,rfl,-n,n+1,rfl,⟨by omega,by omega,by omega,by omega⟩,λD hD=>?_⟩;refine zz2 (λj e=>e=upd H D (.lst ((zl3 n r xs j).map V.int))) rfl ?_ ?_
   . rintro j e be hj rfl hN
     have aa:(upd H D (.lst ((zl3 n r xs j).map V.int))) a=some (.tup (xs.map V.int)):=Same.upd hD _ _ o;have ab:(upd H D (.lst ((zl3 n r xs j).map V.int))) D=some (.lst ((zl3 n r xs j).map V.int)):=za4;have S:¬ (-n+(j:Int)=0\/(xs.count (-n+(j:Int)):Int)<r)->(upd H D (.lst ((zl3 n r xs j).map V.int)))=upd H D (.lst ((zl3 n r xs (j+1)).map V.int)):=λz=>by rw[zS8,Qh z,Zt]
     have fl:=zX0 n r xs j;have ac:(-n+(j:Int)=0\/(xs.count (-n+(j:Int)):Int)<r)->upd (upd H D (.lst ((zl3 n r xs j).map V.int))) D (.lst ((zl3 n r xs j).map V.int++[.int (-n+(j:Int))]))=upd H D (.lst ((zl3 n r xs (j+1)).map V.int)):=λz=>by
       rw[zh4,zS8,Qo z,Qk];rfl
     refine⟨_,rfl,rfl,_,rfl,?_⟩;rw[ze9];refine ite2 (λf=>?_) (λf=>?_)
     . refine iteT ⟨_,rfl,_,ab,zc5 (by rw[Qa];unfold wide at *;omega),hN _ (ac (.inl (by simpa using f)))⟩
     . refine⟨_,rfl,⟨_,_,rfl,aa⟩,_,rfl,_,xs,_,rfl,rfl,SqT.of aa,_,rfl,_,_,rfl,rfl,_,rfl,?_⟩
       refine ite2 (λq=>?_) (λq=>?_)
       . exact⟨_,rfl,_,ab,zc5 (by rw[Qa];unfold wide at *;omega),hN _ (ac (.inr (QO q)))⟩
       . exact hN _ (S λz=>z.elim (λz=>f (by simp[z])) (λz=>q (Qg z)))
   . rintro e rfl
     have s:Same H (upd H D (.lst ((zl3 n r xs (n+1 - -n).toNat).map V.int))):=Same.upd hD;have M:(upd H D (.lst ((zl3 n r xs (n+1 - -n).toNat).map V.int))) D=some (.lst ((zl3 n r xs (wide n)).map V.int)):=za4;revert s M;generalize upd H D (.lst ((zl3 n r xs (n+1 - -n).toNat).map V.int))=v;intro s M;refine⟨QD _,λm U=>?_⟩;have al:=s.free U;have W:Same v (upd v m (.lst [])):=Same.upd U;have a1:(upd v m (.lst [])) m=some (.lst []):=za4;revert W a1;generalize upd v m (.lst [])=H2;intro W a1;refine⟨_,rfl,h,_,rfl,.inl ((s.trans W).seq E),?_⟩;rw[Qa];refine⟨_,rfl,by omega,by omega,zh1 (n:=((b.length:Nat):Int).toNat) (λi l e=>X4 λv9 a2 g d=>A4 (l=[some (.ref a0),some (.ref a),some (.int n),some (.int r),some (.ref h),some (.int c),some (.int (zc6 b xs)),some (.ref D),some (.ref m),v9,a2,g]) (Same v e) (e m=some (.lst d)) (Tups e d (zM2 n r b c xs i))) ⟨none,none,none,[],rfl,W,a1,.nil⟩ ?_ ?_⟩
     . rintro i l H3 hi ⟨v9,a2,g,d,rfl,y,N,F⟩
       have am:i<b.length:=by simpa using hi
       have e0:(0:Int)+(i:Int)=(i:Int):=by omega
       rw[e0];have ax:atI (xs.map V.int) (i:Int)=some (.int (xs.getD i 0)):=ze8 (by omega) (by omega);have ah:atI (b.map V.int) (i:Int)=some (.int (b.getD i 0)):=ze8 (by omega) (by omega);have b1:=ok.h (b.getD i 0) (zm6 am);have ad:=s.trans y;have b9:=zK8 n r b c xs i;have b2:i*wide n<=5*9:=Nat.mul_le_mul (by omega) ai;have ba:(zM2 n r b c xs i).length<=45:=by unfold zM2;rw[Qa];omega
       refine⟨_,rfl,_,rfl,_,rfl,h,_,_,_,rfl,rfl,ad.seq E,ah,_,rfl,_,rfl,a,_,_,_,rfl,rfl,SqT.of (ad _ _ o),ax,_,_,rfl,rfl,.inl ⟨by omega,by omega⟩,_,_,rfl,rfl,?_⟩;refine⟨_,rfl,_,rfl,_,rfl,_,_,rfl,rfl,_,rfl,?_⟩;have aj:zc6 b xs-b.getD i 0*xs.getD i 0=zf7 b xs i:=rfl;rw[aj];refine ite2 (λh1=>?_) (λh1=>?_)
       . have a3:absI (zf7 b xs i)<=c:=QO h1
         have an:=zX0 n r xs (wide n);have a9:=freeL_puts n r b c xs i (wide n);have a7:∀p∈zl3 n r xs (wide n),(-n<=p/\p<=n)/\(p≠0->(xs.count p:Int)<r):=λp hp=>by
           obtain⟨⟨bf,hk,rfl⟩,f⟩:=freeL_mem hp;exact⟨by unfold wide at hk;omega,λz=>f.resolve_left z⟩
         have a4:=y _ _ M;generalize zl3 n r xs (wide n)=k at a4 an a9 a7;refine⟨_,rfl,D,rfl,⟨_,SqL.of a4⟩,zp8 (K:=K) (a:=D) (xs:=k.map V.int) (λj l e=>X2 λg d=>A5 (l=[some (.ref a0),some (.ref a),some (.int n),some (.int r),some (.ref h),some (.int c),some (.int (zc6 b xs)),some (.ref D),some (.ref m),some (.int (i:Int)),some (.int (zf7 b xs i)),g]) (Same v e) (e D=some (.lst (k.map V.int))) (e m=some (.lst d)) (Tups e d (zM2 n r b c xs i++((k.take j).filter λp=>decide (Lets n r b c xs i p)).map λp=>xs.set i p))) ⟨g,d,rfl,y,a4,N,by simpa using F⟩ (λj l e _ ⟨_,_,_,_,az,_,_⟩=>SqL.of az) ?_ ?_⟩
         . rintro j x l A hj ⟨g,d,rfl,B,O,u,C⟩
           obtain⟨p,rfl,hz⟩:=int_at hj;obtain⟨ao,ap⟩:=a7 p (Qt hz);have ae:k.take (j+1)=k.take j++[p]:=by rw[QP,hz];rfl
           have Q:=s.trans B;have S:¬ Lets n r b c xs i p->Tups A d (zM2 n r b c xs i++((k.take (j+1)).filter λp=>decide (Lets n r b c xs i p)).map λp=>xs.set i p):=λz=>by
             rw[ae,filt_no (Qf z)];exact C
           refine⟨_,rfl,_,rfl,_,rfl,a,_,_,_,rfl,rfl,SqT.of (Q _ _ o),ax,rfl,_,rfl,?_⟩;rw[ze9];refine ite2 (λf=>?_) (λf=>?_)
           . have a5:p≠xs.getD i 0:=by simpa using f
             refine⟨_,rfl,_,rfl,_,rfl,h,_,_,_,rfl,rfl,Q.seq E,ah,_,rfl,_,_,rfl,rfl,.inl ⟨by omega,by omega⟩,_,_,rfl,rfl,_,rfl,_,rfl,_,_,rfl,rfl,_,rfl,?_⟩;refine ite2 (λq=>?_) (λq=>?_)
             . have aq:absI (zf7 b xs i+b.getD i 0*p)<=c:=QO q
               have L:Lets n r b c xs i p:=⟨by omega,ao,a5,ap,a3,aq⟩;refine⟨_,rfl,.inl ⟨rfl,_,SqL.of u⟩,?_⟩;refine⟨_,rfl,_,rfl,_,rfl,a,_,rfl,SqT.of (Q _ _ o),?_,λG f1=>?_⟩
               . rw[HT.sIx_none,HT.sIx_nat,Qa,Zx (by omega)]
                 omega
               have sa:Same A (upd A G (.tup (cutV (xs.map V.int) none (some (i:Int))))):=Same.upd f1;have ha:(upd A G (.tup (cutV (xs.map V.int) none (some (i:Int))))) G=some (.tup (cutV (xs.map V.int) none (some (i:Int)))):=za4;revert sa ha;generalize upd A G (.tup (cutV (xs.map V.int) none (some (i:Int))))=X;intro sa ha;refine⟨_,rfl,(by show 1<=sizeLine;decide),λI f2=>?_⟩;have Y:Same X (upd X I (.tup [.int p])):=Same.upd f2;have hb:(upd X I (.tup [.int p])) I=some (.tup [.int p]):=za4;revert Y hb;generalize upd X I (.tup [.int p])=Hb;intro Y hb;have ak:=zl6 (xs.map V.int) none (some (i:Int));rw[Qa] at ak;refine⟨G,I,_,_,rfl,rfl,Y _ _ ha,hb,QZ (zc5 (by show _+1<=_;omega)),λl3 Z sc ar=>?_⟩;have af:=sa.trans (Y.trans sc);have au:=Q.trans af;refine⟨_,rfl,_,rfl,_,_,rfl,rfl,_,rfl,a,_,rfl,SqT.of (au _ _ o),?_,λJ f4=>?_⟩
               . rw[show((i:Int)+1)=((i+1:Nat):Int) by omega,HT.sIx_nat,Qa]
                 omega
               have sd:Same Z (upd Z J (.tup (cutV (xs.map V.int) (some ((i:Int)+1)) none))):=Same.upd f4;have hd:(upd Z J (.tup (cutV (xs.map V.int) (some ((i:Int)+1)) none))) J=some (.tup (cutV (xs.map V.int) (some ((i:Int)+1)) none)):=za4;revert sd hd;generalize upd Z J (.tup (cutV (xs.map V.int) (some ((i:Int)+1)) none))=Hd;intro sd hd;have e5:=zN3 xs i p (by omega);refine⟨l3,J,_,_,rfl,rfl,sd _ _ ar,hd,?_,λl5 He se he=>?_⟩
               . rw[<-Qi,e5,Qa,QW]
                 exact QZ (zc5 (by omega))
               rw[e5] at he;have R:=af.trans (sd.trans se);have a6:=R _ _ u;have av:=zd6 C;rw[Qi,Qa] at av;have bb:((k.take j).filter λp=>decide (Lets n r b c xs i p)).length<=k.length:=QJ (List.length_filter_le _ _) (by rw[QT];omega);refine⟨m,_,_,rfl,rfl,a6,zc5 (by omega),?_⟩;refine⟨_,_,rfl,(B.trans R).put U,by rw[za8 (za9 M U)];exact R _ _ O,za4,?_⟩;rw[ae,filt_yes (Qg L),Qk,<-QU];refine zo7 (zr3 a6 (λ_ z=>nomatch z) (R.tups C)) ?_;rw[za8 (λz=>by rw[z,a6] at he;cases he)];exact he
             . exact⟨_,_,rfl,B,O,u,S λL=>q (Qg L.behind)⟩
           . have a5:p=xs.getD i 0:=by simpa using f
             exact iteF ⟨_,_,rfl,B,O,u,S λL=>L.ne a5⟩
         . rintro l A ⟨g,d,rfl,B,O,u,C⟩
           rw[Qa,QR,a9,<-zS9] at C;exact⟨_,_,_,d,rfl,B,u,C⟩
       . have a3:¬ absI (zf7 b xs i)<=c:=λz=>h1 (Qg z)
         refine⟨_,_,_,d,rfl,y,N,?_⟩;rw[zS9,zW2 _ a3];simpa using F
     . rintro l H3 ⟨v9,a2,g,d,rfl,y,N,F⟩
       rw[Zi,<-a8] at F;exact⟨_,rfl,ag m H3 d (s.trans y) al N F⟩
def sp_w_beam (K:W.Frag)(t:Adr):Sp:=λvs H Q _=>∃(c:Addr) (n r lim:Int) (hs:List Int),vs=[.ref c]/\zn2 K H c n r hs lim/\∀b H',Same H H'->zf0 t H' b n r hs lim->Q (.ref b) H'
theorem ok_w_beam (T:Txt K mg t):FnOk P w K mg base CX0 5 t.cc t.cd PX (sp_w_beam K t):=by
 refine T.bV.F.ok sc_w_beam (λy H Q E h=>?_) (λJ A I s H y Q E z h=>?_)
 . obtain⟨c,n,r,l,f,rfl,⟨h,ok,a,m⟩,q⟩:=h
   rfl
 . obtain⟨c,n,r,l,f,rfl,⟨h,ok,a,m⟩,q⟩:=h
   refine⟨_,(za5 (zb2 (zF4 T.cc (zH9 T) z.m rfl T.cn T.aS.b .nil zb1 (za0 (zc2 zc3 P0 za2 (λ_ _=>rfl)) (za0 (zc2 zc3 P0 za2 (λ_ _=>rfl)) (za0 (ze0 zw8 rfl T.aJ Zv (za0 (zc2 zc3 P0 za2 (λ_ _=>rfl)) za1)) (za0 (zc2 zc3 P0 za2 (λ_ _=>rfl)) za1))))))),?_⟩;refine⟨_,rfl,c,_,_,_,rfl,rfl,a,rfl,?_⟩;refine⟨_,rfl,c,_,_,_,rfl,rfl,a,rfl,?_⟩;refine⟨_,rfl,c,_,_,_,rfl,rfl,a,rfl,h,_,rfl,.inl m,λd B=>?_⟩;have k:Same H (upd H d (.lst (f.map V.int))):=Same.upd B;refine⟨_,rfl,c,_,_,_,rfl,rfl,k.seq a,rfl,λb g i j p=>?_⟩;have C:Same H (upd (upd (upd H d (.lst (f.map V.int))) g (.own b)) b (.ins t.ag g [])):=(k.updT j).updT (by rw[za8 (Ne.symm p)];exact i);have u:d≠b:=λe=>by rw[<-e,za4] at i;cases i
   have v:d≠g:=λe=>by rw[<-e,za4] at j;cases j
   refine⟨b,g,d,n,r,l,f,rfl,za4,.inl (SqL.of (by rw[za8 u,za8 v,za4])),ok,λD F G=>⟨rfl,?_⟩⟩;have x:H b=none:=k.free i;exact q b D (λc o e=>G c o (C c o e) (za9 e x)) F
end
section
variable {P:Program} {w:World} {K:W.Frag} {mg:Str->Option Value} {base:Heap} {t:Adr}
structure zm3 (H H':Hp)(l sc h st go:Addr)(n r lim:Int)(hs s g:List Int):Prop where
 sm:Same H H'
 fsc:H sc=none
 fh:H h=none
 hl:H' l=some (.lst [.ref sc,.ref st,.ref go])
 hsc:H' sc=some (.lst [.int n,.int r,.ref h,.int lim])
 hh:H' h=some (.lst (hs.map V.int))
 hst:H' st=some (.tup (s.map V.int))
 hgo:H' go=some (.tup (g.map V.int))
 ok:zg6 n r hs lim
 vs:zd0 n r hs.length s
 vg:zd0 n r hs.length g
 ks:absI (zc6 hs s)<=lim
 kg:absI (zc6 hs g)<=lim
theorem zm3.mk5 {H:Hp}{h a st go l:Addr}{n r lim:Int}{hs s g:List Int}(b:H h=none)(c:(upd H h (.lst (hs.map V.int))) a=none)(j:(upd (upd H h (.lst (hs.map V.int))) a (.lst [.int n,.int r,.ref h,.int lim])) st=none)
   (k:(upd (upd (upd H h (.lst (hs.map V.int))) a (.lst [.int n,.int r,.ref h,.int lim])) st (.tup (s.map V.int))) go=none) (m:(upd (upd (upd (upd H h (.lst (hs.map V.int))) a (.lst [.int n,.int r,.ref h,.int lim])) st (.tup (s.map V.int))) go (.tup (g.map V.int))) l=none)
   (ok:zg6 n r hs lim) (p:zd0 n r hs.length s) (q:zd0 n r hs.length g) (k1:absI (zc6 hs s)<=lim) (k2:absI (zc6 hs g)<=lim) :
   zm3 H (upd (upd (upd (upd (upd H h (.lst (hs.map V.int))) a (.lst [.int n,.int r,.ref h,.int lim])) st (.tup (s.map V.int))) go (.tup (g.map V.int))) l (.lst [.ref a,.ref st,.ref go])) l a h st go n r lim hs s g:=by
 have d:=Same.upd (o:=.lst [.ref a,.ref st,.ref go]) m;have e:=(Same.upd (o:=.tup (g.map V.int)) k).trans d;have f:=(Same.upd (o:=.tup (s.map V.int)) j).trans e;have i:=(Same.upd (o:=.lst [.int n,.int r,.ref h,.int lim]) c).trans f;exact⟨(Same.upd b).trans i,(Same.upd b).free c,b,za4,f _ _ za4,i _ _ za4,e _ _ za4,d _ _ za4,ok,p,q,k1,k2⟩
theorem zm3.mk4 {H:Hp}{h a st go l:Addr}{n r lim:Int}{hs s g:List Int}(j:H st=some (.tup (s.map V.int)))(b:H h=none)(c:(upd H h (.lst (hs.map V.int))) a=none)
   (k:(upd (upd H h (.lst (hs.map V.int))) a (.lst [.int n,.int r,.ref h,.int lim])) go=none) (m:(upd (upd (upd H h (.lst (hs.map V.int))) a (.lst [.int n,.int r,.ref h,.int lim])) go (.tup (g.map V.int))) l=none)
   (ok:zg6 n r hs lim) (p:zd0 n r hs.length s) (q:zd0 n r hs.length g) (k1:absI (zc6 hs s)<=lim) (k2:absI (zc6 hs g)<=lim) :
   zm3 H (upd (upd (upd (upd H h (.lst (hs.map V.int))) a (.lst [.int n,.int r,.ref h,.int lim])) go (.tup (g.map V.int))) l (.lst [.ref a,.ref st,.ref go])) l a h st go n r lim hs s g:=by
 have d:=Same.upd (o:=.lst [.ref a,.ref st,.ref go]) m;have e:=(Same.upd (o:=.tup (g.map V.int)) k).trans d;have f:=(Same.upd (o:=.lst [.int n,.int r,.ref h,.int lim]) c).trans e;have i:=(Same.upd (o:=.lst (hs.map V.int)) b).trans f;exact⟨i,(Same.upd b).free c,b,za4,e _ _ za4,f _ _ za4,i _ _ j,d _ _ za4,ok,p,q,k1,k2⟩
theorem zm3.from {H b H':Hp}{l c h st go:Addr}{n r lim:Int}{hs s g:List Int}(a:Same H b)(C:zm3 b H' l c h st go n r lim hs s g):zm3 H H' l c h st go n r lim hs s g :=
 ⟨a.trans C.sm,a.free C.fsc,a.free C.fh,C.hl,C.hsc,C.hh,C.hst,C.hgo,C.ok,C.vs,C.vg,C.ks,C.kg⟩
def sp_w_hard (K:W.Frag)(t:Adr):Sp:=λvs H Q _=>∃c:Int,vs=[.int c]/\∀l sc h st go H' n r lim hs s g,zm3 H H' l sc h st go n r lim hs s g->Q (.ref l) H'
theorem ok_w_hard (T:Txt K mg t):FnOk P w K mg base CX0 1 t.b0 t.b1 ["_law_cell"] (sp_w_hard K t):=by
 refine T.bQ.F.ok zK5 (λS H Q E h=>?_) (λa1 a8 a0 s H S Q E hr h=>?_)
 . obtain⟨c,rfl,q⟩:=h
   rfl
 . obtain⟨c,rfl,q⟩:=h
   refine⟨_,(WSs.h (zv4 (yn7 (i:=1) zK5.nd rfl (Or.inl rfl) (WE.mk (zb4 ze3 (zb4 zm7 P0 za2) za2)))
     (zv4 (yi3 (zb9 zg3 (zb4 ze3 P0 za2) za2 (zc1 _)) (zG8 (zP5 (zm2 (zb0 (zm2 (zb0 (WE.mk za2) (zb0 (WE.mk za2) (zb0 (zm2 (zb0 (WE.mk za2) (zb0 (WE.mk za2) (zb0 (WE.mk za2) (zb0 (WE.mk za2) (zb0 (WE.mk za2) zf9)))))) (zb0 (WE.mk (zb4 zf5 za2 P1)) zf9))))) (zb0 (zq5 (zb0 (WE.mk (zk8 zg8 za2)) (zb0 (WE.mk (zk8 zg8 za2)) (zb0 (WE.mk za2) (zb0 (WE.mk za2) (zb0 (WE.mk za2) zf9)))))) (zb0 (zq5 (zb0 (WE.mk za2) (zb0 (WE.mk za2) (zb0 (WE.mk (zk8 zg8 za2)) (zb0 (WE.mk za2) (zb0 (WE.mk (zk8 zg8 za2)) zf9)))))) zf9)))))) zM8)
     (zv4 (yi3 (zb9 zg3 (zb4 ze3 P0 za2) za2 (zc1 _)) (zG8 (zP5 (zm2 (zb0 (zm2 (zb0 (WE.mk za2) (zb0 (WE.mk za2) (zb0 (zm2 (zb0 (WE.mk za2) (zb0 (WE.mk za2) (zb0 (WE.mk za2) (zb0 (WE.mk za2) zf9))))) (zb0 (WE.mk (zb4 zf5 za2 P1)) zf9))))) (zb0 (zq5 (zb0 (WE.mk za2) (zb0 (WE.mk za2) (zb0 (WE.mk za2) (zb0 (WE.mk (zk8 zg8 za2)) zf9))))) (zb0 (zq5 (zb0 (WE.mk (zk8 zg8 za2)) (zb0 (WE.mk za2) (zb0 (WE.mk (zk8 zg8 za2)) (zb0 (WE.mk za2) zf9))))) zf9)))))) zM8)
     (zv4 (yi3 (zb9 zg3 (zb4 ze3 P0 za2) za2 (zc1 _)) (zG8 (zP5 (zm2 (zb0 (zm2 (zb0 (WE.mk za2) (zb0 (WE.mk za2) (zb0 (zm2 (zb0 (WE.mk za2) (zb0 (WE.mk za2) (zb0 (WE.mk za2) zf9)))) (zb0 (WE.mk (zb4 zf5 za2 P1)) zf9))))) (zb0 (zq5 (zb0 (WE.mk za2) (zb0 (WE.mk (zk8 zg8 za2)) (zb0 (WE.mk za2) zf9)))) (zb0 (zq5 (zb0 (WE.mk za2) (zb0 (WE.mk za2) (zb0 (WE.mk (zk8 zg8 za2)) zf9)))) zf9)))))) zM8)
     (zv4 (yi3 (zb9 zg3 (zb4 ze3 P0 za2) za2 (zc1 _)) (zG8 (zP5 (zm2 (zb0 (zm2 (zb0 (WE.mk za2) (zb0 (WE.mk za2) (zb0 (zm2 (zb0 (WE.mk za2) (zb0 (WE.mk za2) (zb0 (WE.mk za2) zf9)))) (zb0 (WE.mk (zb4 zf5 za2 P1)) zf9))))) (zb0 (zq5 (zb0 (WE.mk za2) (zb0 (WE.mk za2) (zb0 (WE.mk (zk8 zg8 za2)) zf9)))) (zb0 (zq5 (zb0 (WE.mk za2) (zb0 (WE.mk (zk8 zg8 za2)) (zb0 (WE.mk za2) zf9)))) zf9)))))) zM8)
     (zv4 (yn7 (i:=2) zK5.nd rfl (Or.inl rfl) (we_ix zc3 (zm2 (zb0 (zq5 (zb0 (WE.mk za2) (zb0 (WE.mk za2) (zb0 (WE.mk za2) zf9)))) (zb0 (zq5 (zb0 (WE.mk (zk8 zg8 za2)) (zb0 (WE.mk (zk8 zg8 za2)) (zb0 (WE.mk (zk8 zg8 za2)) zf9)))) (zb0 (zq5 (zb0 (WE.mk za2) (zb0 (WE.mk za2) (zb0 (WE.mk za2) zf9)))) zf9)))) (WE.mk (zb4 zj1 (zb4 ze3 P0 za2) za2)) (λ_ _=>rfl)))
     (zG8 (zP5 (zm2 (zb0 (zm2 (zb0 (WE.mk za2) (zb0 (WE.mk za2) (zb0 (zm2 (zb0 (WE.mk za2) (zb0 (WE.mk za2) (zb0 (WE.mk za2) zf9)))) (zb0 (WE.mk (zb4 zf5 za2 P1)) zf9))))) (zb0 (WE.mk P2) (zb0 (zq5 (zb0 (WE.mk za2) (zb0 (WE.mk za2) (zb0 (WE.mk za2) zf9)))) zf9))))))))))))),?_⟩
   refine cut7 ?_;intro a2 a3 a4 a5 a6 a7;refine⟨_,rfl,_,_,rfl,rfl,⟨by decide,by decide⟩,_,_,rfl,rfl,(by show(0:Int)<3;decide),?_⟩;refine⟨_,rfl,_,_,rfl,rfl,(by show(0:Int)<7;decide),rfl,_,rfl,?_⟩;have m0:0<=c / 7 % 3:=Zc _ (by decide);have m1:c / 7 % 3<3:=Za _ (by decide);have c0:0<=c % 7:=Zc _ (by decide);have c1:c % 7<7:=Za _ (by decide);rw[ze9];refine ite2 (λJ=>?_) (λJ=>?_)
   . refine⟨(by show 5<=sizeLine;decide),λh f=>⟨_,rfl,_,_,rfl,rfl,(by show 4<=sizeLine;decide),λj k=>⟨_,rfl,_,rfl,(by show 5<=sizeLine;decide),λu v=>⟨_,rfl,_,rfl,(by show 5<=sizeLine;decide),λgo m=>⟨(by show 3<=sizeLine;decide),λl p=>?_⟩⟩⟩⟩⟩
     have b:absI (zc6 [13,20,16,15,8] [-1,-1,1,0,1])=9:=by decide
     have a:absI (zc6 [13,20,16,15,8] [1,1,-1,0,-1])=9:=by decide
     exact q l j h u go _ 1 2 (9+c / 7 % 3) [13,20,16,15,8] [-1,-1,1,0,1] [1,1,-1,0,-1] (zm3.mk5 (n:=1) (r:=2) (lim:=(9+c / 7 % 3)) (hs:=[13,20,16,15,8]) (s:=[-1,-1,1,0,1]) (g:=[1,1,-1,0,-1]) f k v m p ⟨by decide,by decide,by decide,by decide,by omega,by omega,by decide,by decide,by decide⟩ ⟨rfl,by decide,by decide⟩ ⟨rfl,by decide,by decide⟩ (by omega) (by omega))
   have g0:c % 7≠0:=by simpa using J
   refine⟨_,rfl,_,_,rfl,rfl,(by show(0:Int)<7;decide),rfl,_,rfl,?_⟩;rw[ze9];refine ite2 (λL=>?_) (λL=>?_)
   . refine⟨(by show 4<=sizeLine;decide),λh f=>⟨_,rfl,_,_,rfl,rfl,(by show 4<=sizeLine;decide),λj k=>⟨_,rfl,(by show 4<=sizeLine;decide),λu v=>⟨_,rfl,_,rfl,(by show 4<=sizeLine;decide),λgo m=>⟨(by show 3<=sizeLine;decide),λl p=>?_⟩⟩⟩⟩⟩
     have b:absI (zc6 [9,16,11,15] [2,0,1,-2])=1:=by decide
     have a:absI (zc6 [9,16,11,15] [-2,0,-1,2])=1:=by decide
     exact q l j h u go _ 2 1 (14+c / 7 % 3) [9,16,11,15] [2,0,1,-2] [-2,0,-1,2] (zm3.mk5 (n:=2) (r:=1) (lim:=(14+c / 7 % 3)) (hs:=[9,16,11,15]) (s:=[2,0,1,-2]) (g:=[-2,0,-1,2]) f k v m p ⟨by decide,by decide,by decide,by decide,by omega,by omega,by decide,by decide,by decide⟩ ⟨rfl,by decide,by decide⟩ ⟨rfl,by decide,by decide⟩ (by omega) (by omega))
   have g1:c % 7≠1:=by simpa using L
   refine⟨_,rfl,_,_,rfl,rfl,(by show(0:Int)<7;decide),rfl,_,rfl,?_⟩;rw[ze9];refine ite2 (λM=>?_) (λM=>?_)
   . refine⟨(by show 3<=sizeLine;decide),λh f=>⟨_,rfl,_,_,rfl,rfl,(by show 4<=sizeLine;decide),λj k=>⟨_,rfl,(by show 3<=sizeLine;decide),λu v=>⟨_,rfl,(by show 3<=sizeLine;decide),λgo m=>⟨(by show 3<=sizeLine;decide),λl p=>?_⟩⟩⟩⟩⟩
     have b:absI (zc6 [15,19,16] [1,-3,3])=6:=by decide
     have a:absI (zc6 [15,19,16] [1,3,-3])=24:=by decide
     exact q l j h u go _ 3 2 (28+c / 7 % 3) [15,19,16] [1,-3,3] [1,3,-3] (zm3.mk5 (n:=3) (r:=2) (lim:=(28+c / 7 % 3)) (hs:=[15,19,16]) (s:=[1,-3,3]) (g:=[1,3,-3]) f k v m p ⟨by decide,by decide,by decide,by decide,by omega,by omega,by decide,by decide,by decide⟩ ⟨rfl,by decide,by decide⟩ ⟨rfl,by decide,by decide⟩ (by omega) (by omega))
   have g2:c % 7≠2:=by simpa using M
   refine⟨_,rfl,_,_,rfl,rfl,(by show(0:Int)<7;decide),rfl,_,rfl,?_⟩;rw[ze9];refine ite2 (λN=>?_) (λN=>?_)
   . refine⟨(by show 3<=sizeLine;decide),λh f=>⟨_,rfl,_,_,rfl,rfl,(by show 4<=sizeLine;decide),λj k=>⟨_,rfl,(by show 3<=sizeLine;decide),λu v=>⟨_,rfl,(by show 3<=sizeLine;decide),λgo m=>⟨(by show 3<=sizeLine;decide),λl p=>?_⟩⟩⟩⟩⟩
     have b:absI (zc6 [14,20,18] [2,3,-4])=16:=by decide
     have a:absI (zc6 [14,20,18] [1,-3,4])=26:=by decide
     exact q l j h u go _ 4 3 (38+c / 7 % 3) [14,20,18] [2,3,-4] [1,-3,4] (zm3.mk5 (n:=4) (r:=3) (lim:=(38+c / 7 % 3)) (hs:=[14,20,18]) (s:=[2,3,-4]) (g:=[1,-3,4]) f k v m p ⟨by decide,by decide,by decide,by decide,by omega,by omega,by decide,by decide,by decide⟩ ⟨rfl,by decide,by decide⟩ ⟨rfl,by decide,by decide⟩ (by omega) (by omega))
   have g3:c % 7≠3:=by simpa using N
   refine⟨(by show 3<=sizeLine;decide),λb U=>⟨_,rfl,_,rfl,_,rfl,(by show 3<=sizeLine;decide),λa O=>⟨(by show 3<=sizeLine;decide),λd B=>⟨(by show 3<=sizeLine;decide),λz A=>?_⟩⟩⟩⟩;have C:=(((Same.upd (o:=.tup [.int 0,.int 0,.int 0]) U).updT (o:=.tup [.int (-4),.int (-4),.int (-4)]) O).updT (o:=.tup [.int 4,.int 4,.int 4]) B).updT (o:=.lst [.ref b,.ref a,.ref d]) A;have D:(upd (upd (upd (upd H b (.tup [.int 0,.int 0,.int 0])) a (.tup [.int (-4),.int (-4),.int (-4)])) d (.tup [.int 4,.int 4,.int 4])) z (.lst [.ref b,.ref a,.ref d])) b=some (.tup (([0,0,0]:List Int).map V.int)):=Same.upd A _ _ (Same.upd B _ _ (Same.upd O _ _ za4));have F:(upd (upd (upd (upd H b (.tup [.int 0,.int 0,.int 0])) a (.tup [.int (-4),.int (-4),.int (-4)])) d (.tup [.int 4,.int 4,.int 4])) z (.lst [.ref b,.ref a,.ref d])) a=some (.tup (([-4,-4,-4]:List Int).map V.int)):=Same.upd A _ _ (Same.upd B _ _ za4);have G:(upd (upd (upd (upd H b (.tup [.int 0,.int 0,.int 0])) a (.tup [.int (-4),.int (-4),.int (-4)])) d (.tup [.int 4,.int 4,.int 4])) z (.lst [.ref b,.ref a,.ref d])) d=some (.tup (([4,4,4]:List Int).map V.int)):=Same.upd A _ _ za4;have I:(upd (upd (upd (upd H b (.tup [.int 0,.int 0,.int 0])) a (.tup [.int (-4),.int (-4),.int (-4)])) d (.tup [.int 4,.int 4,.int 4])) z (.lst [.ref b,.ref a,.ref d])) z=some (.lst [.ref b,.ref a,.ref d]):=za4;dsimp only;revert C D F G I;generalize upd (upd (upd (upd H b (.tup [.int 0,.int 0,.int 0])) a (.tup [.int (-4),.int (-4),.int (-4)])) d (.tup [.int 4,.int 4,.int 4])) z (.lst [.ref b,.ref a,.ref d])=W;intro C D F G I;have X:∃y x,atI [V.ref b,V.ref a,V.ref d] (c % 7-4)=some (.ref y)/\W y=some (.tup (x.map V.int))/\zd0 4 3 3 x/\absI (zc6 [20,20,20] x)<=240:=by
     have:c % 7=4\/c % 7=5\/c % 7=6:=by omega
     rcases this with e | e | e<;>rw[e]
     . exact⟨b,[0,0,0],rfl,D,⟨rfl,by decide,by decide⟩,by decide⟩
     . exact⟨a,[-4,-4,-4],rfl,F,⟨rfl,by decide,by decide⟩,by decide⟩
     . exact⟨d,[4,4,4],rfl,G,⟨rfl,by decide,by decide⟩,by decide⟩
   obtain⟨y,x,Y,R,Z,kx⟩:=X;refine⟨_,rfl,_,_,rfl,rfl,(by show(0:Int)<7;decide),_,_,rfl,rfl,z,_,_,_,rfl,rfl,SqL.of I,Y,?_⟩;refine⟨(by show 3<=sizeLine;decide),λh f=>⟨_,rfl,_,_,rfl,rfl,(by show 4<=sizeLine;decide),λj k=>⟨_,rfl,(by show 3<=sizeLine;decide),λgo m=>⟨(by show 3<=sizeLine;decide),λl p=>?_⟩⟩⟩⟩;have a:absI (zc6 [20,20,20] [4,4,4])=240:=by decide
   exact q l j h y go _ 4 3 (240+c / 7 % 3) [20,20,20] x [4,4,4] (zm3.from C (zm3.mk4 (n:=4) (r:=3) (lim:=240+c / 7 % 3) (hs:=[20,20,20]) (s:=x) (g:=[4,4,4]) R f k m p ⟨by decide,by decide,by decide,by decide,by omega,by omega,by decide,by decide,by decide⟩ Z ⟨rfl,by decide,by decide⟩ (by omega) (by omega)))
end
section
variable {P:Program} {w:World} {K:W.Frag} {mg:Str->Option Value} {base:Heap} {t:Adr}
theorem st_eq {T:TS}{D:Ends}{a σ':St}{H:Hp}(e:a=σ')(h:T D σ' H):T D a H:=e▸h
theorem use_finA {R:Addr->Hp->Prop}{S:Addr->Hp->Prop}{G:Prop}(b:(∀o a,S o a->R o a)->G)(c:∀o a,S o a->R o a):G:=b c
theorem use_finB {R:Addr->Addr->Option V->Hp->Prop}{S:Addr->Addr->Hp->Prop}{G:Prop}(b:(∀x y v a,S x y a->R x y v a)->G)(c:∀x y v a,S x y a->R x y v a):G:=b c
theorem rep0 (k:Nat):(List.replicate k [V.int 0]).flatten=(List.replicate k (0:Int)).map V.int:=by
 induction k with
 | zero=>rfl
 | succ k a=>rw[ZB,List.flatten_cons,a,ZB,Qv];rfl
theorem valid0 {n r:Int}(c:1<=n)(k:Nat):zd0 n r k (List.replicate k 0) :=
 ⟨List.length_replicate,λx a=>by rw[(ZK.mp a).2];omega,λx a b=>absurd (ZK.mp a).2 b⟩
theorem validP {n r a:Int}(g:1<=r)(h:1<=a)(i:a<=n)(k:Nat):zd0 n r (k+2) (a::-a::List.replicate k 0):=by
 refine⟨by simp,λx b=>?_,λx b e=>?_⟩
 . rcases Qq.mp b with rfl | b
   . omega
   . rcases Qq.mp b with rfl | b
     . omega
     . rw[(ZK.mp b).2];omega
 . have f:(List.replicate k (0:Int)).count x=0:=List.count_eq_zero.mpr λz=>e (ZK.mp z).2
   rw[List.count_cons,List.count_cons,f];by_cases d:a=x
   . have c:¬ (-a=x):=by omega
     simp[d,c]
     split<;>omega
   . by_cases c:-a=x
     . simp[d,c];omega
     . simp[d,c];omega
def sp_w_case (K:W.Frag)(t:Adr):Sp:=λvs H Q _=>∃(a:Addr) (ns:List Int),vs=[.ref a]/\SqL K H a (ns.map V.int)/\∀l sc h st go H' n r lim hs s g,zm3 H H' l sc h st go n r lim hs s g->Q (.ref l) H'
theorem ok_w_case (T:Txt K mg t):FnOk P w K mg base CX0 3 t.b2 t.b3 Pc (sp_w_case K t):=by
 refine T.bR.F.ok zg4 (λvs a1 b3 b4 h=>?_) (λb9 bv b7 s a1 vs b3 b4 B h=>?_)
 . obtain⟨a,b,rfl,Q,ae⟩:=h
   rfl
 . obtain⟨a,b,rfl,Q,ae⟩:=h
   refine⟨_,(za3 (zb7 (i:=1) zg4.nd rfl (Or.inl rfl) (za6 (ok_w_shape T) B.m T.bI zb1 (zc8 P0 za1)))
     (za3 (zz0 P1 (zJ4 rfl (ze1 (zc4 (i:=2) zg4.nd rfl (Or.inl rfl)) (ze1 (zc4 (i:=3) zg4.nd rfl (Or.inl rfl)) (ze1 (zc4 (i:=4) zg4.nd rfl (Or.inl rfl)) zs8)))))
     (za3 (zb7 (i:=5) zg4.nd rfl (Or.inl rfl) (za6 (yd6 T) B.m T.bx zb1 (zc8 P0 (zc8 za2 (zc8 za2 (zc8 P1 za1))))))
     (za3 (zb7 (i:=6) zg4.nd rfl (Or.inl rfl) (za6 (yd6 T) B.m T.bx zb1 (zc8 P0 (zc8 za2 (zc8 za2 (zc8 P1 za1))))))
     (za3 (zb7 (i:=7) zg4.nd rfl (Or.inl rfl) (za6 (zn1 T) B.m T.ao zb1 (zc8 P0 (zc8 za2 za1))))
     (za3 (zc7 (zb9 zg3 (zb4 ze3 (pv 7) za2) za2 (zc1 _)) (za5 (zb2 (za6 (ok_w_hard T) B.m T.bQ zb1 (zc8 (zb4 zm7 (pv 7) za2) za1)))) zb3)
     (za3 (zc7 (zb9 zg3 (zb4 ze3 (pv 7) za2) za2 (zc1 _)) (za5 (zb7 (i:=6) zg4.nd rfl (Or.inl rfl) (ze0 zw8 rfl T.aJ Zv (zc8 (pv 5) za1)))) zb3)
     (za3 (zc7 (PW.pt (zy9 (zb9 zg3 (zb4 ze3 (pv 7) za2) za2 (zc1 _)) (zw6 (zb9 zy4 (zb5 zb8 rfl T.ac Qr (zc8 (pv 4) za1)) za2 (zc1 _))))) (za3 (zz0 (zc2 zc3 (pv 4) za2 (λ_ _=>rfl)) (pg_sub (pv 4) za2 set_list))
     (za3 (zb7 (i:=8) zg4.nd rfl (Or.inl rfl) (zb4 zf5 za2 (zb4 ze3 (zb4 zm7 (pv 7) za2) P2)))
     (za3 (zb7 (i:=5) zg4.nd rfl (Or.inl rfl) (zb4 zX9 (zg0 (zc8 za2 za1)) (zb5 zb8 rfl T.ac Qr (zc8 (pv 4) za1))))
     (za3 (zb7 (i:=6) zg4.nd rfl (Or.inl rfl) (zb4 ym3 (zg0 (zc8 (pv 8) (zc8 (zk8 zg8 (pv 8)) za1))) (zb4 zX9 (zg0 (zc8 za2 za1)) (zb4 zj1 (zb5 zb8 rfl T.ac Qr (zc8 (pv 4) za1)) za2))))
     (za5 (zc7 (zb9 zg3 (zb4 ze3 (zb4 zm7 (pv 7) za2) za2) za2 (zc1 _)) (za5 (ps_par (i:=5) (j:=6) rfl zg4.nd rfl rfl (by decide) rfl rfl (zc8 P6 (zc8 (pv 5) za1)) rfl)) zb3)))))) zb3)
     (za3 (zb7 (i:=9) zg4.nd rfl (Or.inl rfl) (zb5 (zT6 rfl) rfl T.cz PyProof.Rows.boot_max (zc8 (zb5 zp9 rfl T.aM Zp (zc8 (za6 (zw4 T) B.m T.aD zb1 (zc8 (pv 4) (zc8 (pv 5) za1))) za1)) (zc8 (zb5 zp9 rfl T.aM Zp (zc8 (za6 (zw4 T) B.m T.aD zb1 (zc8 (pv 4) (zc8 P6 za1))) za1)) za1))))
     (za5 (zb2 (zg0 (zc8 (zg0 (zc8 P2 (zc8 P3 (zc8 (pv 4) (zc8 (za6 (ok_w_limit T) B.m T.bJ zb1 (zc8 P0 (zc8 P9 za1))) za1))))) (zc8 (ze0 zm4 rfl T.aq QV (zc8 (pv 5) za1)) (zc8 (ze0 zm4 rfl T.aq QV (zc8 P6 za1)) za1))))))))))))))),?_⟩
   refine cut10 ?_;intro b8 ba bb bc bd be bf bg bh;refine⟨_,rfl,a,b,rfl,Q,λsh h H1 s1 bi fh hh aa=>?_⟩;refine⟨_,rfl,sh,_,rfl,SqL.of aa,rfl,_,_,rfl,_,_,rfl,_,_,rfl,rfl,?_⟩;have a3:∀k:Int,0<=k->k<=400->zg6 (shN b) (shR b) (shH b) k:=λk z1 Z=>sh_ok b z1 Z
   have m:=a3 0 (by decide) (by decide);refine⟨_,rfl,_,rfl,a,sh,h,b,3,0,shN b,shR b,shH b,rfl,s1.seq Q,aa,SqL.of hh,⟨m.n1,m.n2,m.r1,m.w⟩,λfi H2 s2 bj ah=>?_⟩;have C:=yo0 b 3 0 (shH b).length m.n1 m.r1;generalize yc4 b 3 0 (shN b) (shR b) (shH b).length=D at C ah;have ai:=s1.trans s2;refine⟨_,rfl,_,rfl,a,sh,h,b,4,1000003,shN b,shR b,shH b,rfl,ai.seq Q,s2 _ _ aa,SqL.of (s2 _ _ hh),⟨m.n1,m.n2,m.r1,m.w⟩,λax U s3 bl aj=>?_⟩;have u:=yo0 b 4 1000003 (shH b).length m.n1 m.r1;generalize yc4 b 4 1000003 (shN b) (shR b) (shH b).length=g0 at u aj;have a4:=ai.trans s3;have ak:=s3 _ _ (s2 _ _ hh);have a8:=s3 _ _ ah;have S3:SqL K U a (b.map V.int):=a4.seq Q;generalize shN b=n at *;generalize shR b=r at *;generalize shH b=H at *;have n1:=m.n1;have n2:=m.n2;have ay:=m.w;refine⟨_,rfl,a,b,6,rfl,S3,?_⟩;generalize b.getD 6 0=c;refine⟨_,rfl,_,_,rfl,rfl,(by show(0:Int)<12;decide),rfl,_,rfl,?_⟩;refine ite2 (λh1=>?_) (λh1=>?_)
   . exact⟨_,rfl,_,_,rfl,rfl,⟨by decide,by decide⟩,_,rfl,λa7 E h' F go p n r k f s g b5=>ae a7 E h' F go p n r k f s g (zm3.from a4 b5)⟩
   refine use_finA (R:=?R1) (S:=λo p=>Same a1 p/\p h=some (.lst (H.map V.int))/\p fi=some (.lst (D.map V.int))/\∃g,p o=some (.lst (g.map V.int))/\zd0 n r H.length g) (λfin1=>?main1) ?fin1
   case main1 =>
     refine⟨_,rfl,_,_,rfl,rfl,(by show(0:Int)<12;decide),rfl,_,rfl,?_⟩;refine ite2 (λh2=>?_) (λh2=>?_)
     . refine⟨_,rfl,fi,_,rfl,.inl (SqL.of a8),λl4 f4=>?_⟩
       have v:Same U (upd U l4 (.lst (D.map V.int))):=Same.upd f4;have W:(upd U l4 (.lst (D.map V.int))) l4=some (.lst (D.map V.int)):=za4;revert v W;generalize upd U l4 (.lst (D.map V.int))=I;intro v W;exact fin1 l4 I ⟨a4.trans v,v _ _ ak,v _ _ a8,D,W,C⟩
     . exact fin1 ax U ⟨a4,ak,a8,g0,aj,u⟩
   case fin1 =>
     rintro la I ⟨v,Y,af,g,ag,u⟩;dsimp only[L2.start,List.map,List.length,List.replicate,List.append,List.set];refine use_finB (R:=?R2) (S:=λx a2 p=>Same a1 p/\∃f s g,p h=some (.lst (List.map V.int f))/\p x=some (.lst (List.map V.int s))/\p a2=some (.lst (List.map V.int g))/\(∀k:Int,0<=k->k<=400->zg6 n r f k)/\zd0 n r f.length s/\zd0 n r f.length g) (λfin2=>?main2) ?fin2
     case main2 =>
       refine⟨_,rfl,_,_,rfl,rfl,(by show(0:Int)<3;decide),rfl,_,rfl,?_⟩;refine ite2 (λh3=>?_) (λh3=>?_)
       . refine⟨_,rfl,h,_,rfl,.inl (SqL.of Y),_,_,rfl,rfl,_,rfl,?_⟩
         rw[Qa];refine ite2 (λW=>?_) (λW=>?_)
         . have az:1<H.length:=by have:=QO W;omega
           obtain⟨e,y,d,rfl⟩:∃e y d,H=e::y::d:=by
             match H,az with
             | e::y::d,_=>exact⟨e,y,d,rfl⟩
           have a0:atI (List.map V.int (e::y::d)) 0=some (.int e):=by
             unfold atI ixN;rw[Qo (by decide),Qo (by simp only[Qa,Ql];omega)];rfl
           have i1:ixN (List.map V.int (e::y::d)).length 1=some 1:=by
             unfold ixN;rw[Qo (by decide),Qo (by simp only[Qa,Ql];omega)];rfl
           refine⟨_,rfl,h,_,_,_,rfl,rfl,SqL.of Y,a0,_,rfl,h,_,1,1,rfl,rfl,Y,i1,?_⟩;have J:Same a1 (upd I h (.lst ((List.map V.int (e::y::d)).set 1 (.int e)))):=v.put fh;have z:(upd I h (.lst ((List.map V.int (e::y::d)).set 1 (.int e)))) h=some (.lst ((e::e::d).map V.int)):=za4;revert J z;generalize upd I h (.lst ((List.map V.int (e::y::d)).set 1 (.int e)))=L;intro J z;have A:∀k:Int,0<=k->k<=400->zg6 n r (e::e::d) k:=λk z1 Z=>by
             have o:=a3 k z1 Z;refine⟨o.n1,o.n2,o.r1,o.r2,o.l1,o.l2,o.w,λx hx=>?_,o.most⟩;rcases Qq.mp hx with rfl | hx
             . exact o.h _ (.head _)
             . rcases Qq.mp hx with rfl | hx
               . exact o.h _ (.head _)
               . exact o.h _ (.tail _ (.tail _ hx))
           refine⟨_,rfl,_,_,rfl,rfl,⟨by decide,by decide⟩,_,rfl,_,_,rfl,rfl,(by show 0<n;omega),_,_,rfl,rfl,?_⟩;have bm:0<=c / 3 % n:=Zc _ (by omega);have bn:c / 3 % n<n:=Za _ (by omega);have ab:1<=1+c / 3 % n/\1+c / 3 % n<=n:=by omega
           have wl:d.length+2<=5:=ay;have bo:sizeLine=16777216:=by decide
           refine⟨(by show 1<=sizeLine;decide),λl6 f6=>⟨_,rfl,h,_,rfl,.inl (SqL.of (Same.upd f6 _ _ z)),l6,_,_,rfl,rfl,za4,?_,?_,?_,λp6 e6=>?_⟩⟩
           . simp only[Qa,Ql];omega
           . simp only[Qa,Ql];omega
           . simp only[Qa,Ql,Zs,Zi];omega
           have q:=(Same.upd (o:=.lst [.int 0]) f6).updT (o:=.lst (List.replicate (((List.map V.int (e::e::d)).length:Nat):Int).toNat [V.int 0]).flatten) e6;have M:(upd (upd L l6 (.lst [.int 0])) p6 (.lst (List.replicate (((List.map V.int (e::e::d)).length:Nat):Int).toNat [V.int 0]).flatten)) p6=some (.lst ((List.replicate (d.length+2) (0:Int)).map V.int)):=by
             rw[za4,rep0,Zi,Qa];rfl
           dsimp only;revert q M;generalize upd (upd L l6 (.lst [.int 0])) p6 (.lst (List.replicate (((List.map V.int (e::e::d)).length:Nat):Int).toNat [V.int 0]).flatten)=G;intro q M;have al:=q _ _ z;generalize bp:1+c / 3 % n=l at ab ⊢;refine⟨_,rfl,_,rfl,_,rfl,(by show 2<=sizeLine;decide),λl7 f7=>⟨(by show 1<=sizeLine;decide),λl8 f8=>?_⟩⟩;have a5:=(Same.upd (o:=.lst [.int l,.int (-l)]) f7).updT (o:=.lst [.int 0]) f8;have N:(upd (upd G l7 (.lst [.int l,.int (-l)])) l8 (.lst [.int 0])) l7=some (.lst [.int l,.int (-l)]):=Same.upd f8 _ _ za4;have k8:(upd (upd G l7 (.lst [.int l,.int (-l)])) l8 (.lst [.int 0])) l8=some (.lst [.int 0]):=za4;dsimp only;revert a5 N k8;generalize upd (upd G l7 (.lst [.int l,.int (-l)])) l8 (.lst [.int 0])=H8;intro a5 N k8;refine⟨_,rfl,h,_,rfl,.inl (SqL.of (a5 _ _ al)),_,_,rfl,rfl,l8,_,_,rfl,rfl,k8,?_,?_,?_,λp8 e8=>?_⟩
           . simp only[Qa,Ql];omega
           . simp only[Qa,Ql];omega
           . simp only[Qa,Ql,Zs];omega
           have el:((((List.map V.int (e::e::d)).length:Nat):Int)-2).toNat=d.length:=by
             simp only[Qa,Ql];omega
           rw[el,rep0];have s9:Same H8 (upd H8 p8 (.lst ((List.replicate d.length (0:Int)).map V.int))):=Same.upd e8;have k9:(upd H8 p8 (.lst ((List.replicate d.length (0:Int)).map V.int))) p8=some (.lst ((List.replicate d.length (0:Int)).map V.int)):=za4;revert s9 k9;generalize upd H8 p8 (.lst ((List.replicate d.length (0:Int)).map V.int))=H9;intro s9 k9;refine⟨l7,p8,_,_,rfl,rfl,s9 _ _ N,k9,?_,λX e9=>?_⟩
           . simp only[Qa,List.length_replicate,Ql,Zs];omega
           have ac:Same H9 (upd H9 X (.lst ([V.int l,V.int (-l)]++(List.replicate d.length (0:Int)).map V.int))):=Same.upd e9;have a6:(upd H9 X (.lst ([V.int l,V.int (-l)]++(List.replicate d.length (0:Int)).map V.int))) X=some (.lst ((l::-l::List.replicate d.length 0).map V.int)):=za4;revert ac a6;generalize upd H9 X (.lst ([V.int l,V.int (-l)]++(List.replicate d.length (0:Int)).map V.int))=ad;intro ac a6;have a9:=a5.trans (s9.trans ac);have sE:Same a1 ad:=J.trans (q.trans a9);have am:=a9 _ _ al;have an:=a9 _ _ M;have Va:zd0 n r (e::e::d).length (List.replicate (d.length+2) 0):=valid0 n1 _;have Vb:zd0 n r (e::e::d).length (l::-l::List.replicate d.length 0):=validP m.r1 ab.1 ab.2 _;refine⟨_,rfl,_,_,rfl,rfl,⟨by decide,by decide⟩,_,_,rfl,rfl,(by show(0:Int)<2;decide),rfl,_,rfl,?_⟩;generalize some (V.int l)=v8;refine ite2 (λh5=>?_) (λh5=>?_)
           . refine⟨_,rfl,_,rfl,_,_,rfl,?_⟩
             exact fin2 X p6 v8 ad ⟨sE,_,_,_,am,a6,an,A,Vb,Va⟩
           . exact fin2 p6 X v8 ad ⟨sE,_,_,_,am,an,a6,A,Va,Vb⟩
         . exact fin2 fi la _ I ⟨v,H,D,g,Y,af,ag,a3,C,u⟩
       . exact iteF (fin2 fi la _ I ⟨v,H,D,g,Y,af,ag,a3,C,u⟩)
     case fin2 =>
       rintro x a2 b6 L ⟨J,f,s,g,z,ao,ap,A,C,u⟩;dsimp only[List.set];refine st_eq (σ':=[some (.ref a),some (.ref sh),some (.int n),some (.int r),some (.ref h),some (.ref x),some (.ref a2),some (.int c),b6,none]) rfl ?_;have hw:f.length<=5:=(A 0 (by decide) (by decide)).w;have aq:=(A 0 (by decide) (by decide)).h;have l1:=C.len;have l2:=u.len;obtain⟨bq,br⟩:=zN2 (A 0 (by decide) (by decide)) C;obtain⟨bt,bu⟩:=zN2 (A 0 (by decide) (by decide)) u;refine⟨_,rfl,_,rfl,h,x,f,s,rfl,SqL.of z,.inl (SqL.of ao),⟨l1.symm,by omega,aq⟩,_,rfl,_,rfl,_,rfl,h,a2,f,g,rfl,SqL.of z,.inl (SqL.of ap),⟨l2.symm,by omega,aq⟩,_,rfl,_,_,rfl,?_⟩;have b0:(if zc6 f s<0 then -zc6 f s else zc6 f s)=absI (zc6 f s):=rfl;have b1:(if zc6 f g<0 then -zc6 f g else zc6 f g)=absI (zc6 f g):=rfl;rw[b0,b1]
       have av:∃O:Int,(if absI (zc6 f g)>absI (zc6 f s) then absI (zc6 f g) else absI (zc6 f s))=O/\absI (zc6 f s)<=O/\absI (zc6 f g)<=O/\O<=240:=⟨_,rfl,by split<;>omega,by split<;>omega,by split<;>omega⟩;obtain⟨O,aw,w1,w2,w3⟩:=av;rw[aw];refine⟨_,rfl,_,rfl,_,rfl,_,rfl,_,rfl,a,b,O,rfl,J.seq Q,⟨by omega,by omega⟩,λk z1 Z=>⟨(by show 4<=sizeLine;decide),λE ar=>?_⟩⟩;have q:Same L (upd L E (.lst [.int n,.int r,.ref h,.int k])):=Same.upd ar;have M:(upd L E (.lst [.int n,.int r,.ref h,.int k])) E=some (.lst [.int n,.int r,.ref h,.int k]):=za4;dsimp only;revert q M;generalize upd L E (.lst [.int n,.int r,.ref h,.int k])=G;intro q M;refine⟨_,rfl,x,_,rfl,.inl ⟨SqL.of (q _ _ ao),λF fst=>?_⟩⟩;have s7:Same G (upd G F (.tup (s.map V.int))):=Same.upd fst;have N:(upd G F (.tup (s.map V.int))) F=some (.tup (s.map V.int)):=za4;revert s7 N;generalize upd G F (.tup (s.map V.int))=H7;intro s7 N;refine⟨_,rfl,a2,_,rfl,.inl ⟨SqL.of (s7 _ _ (q _ _ ap)),λgo b2=>⟨(by show 3<=sizeLine;decide),λa7 fl=>?_⟩⟩⟩;have s8:Same H7 (upd (upd H7 go (.tup (g.map V.int))) a7 (.lst [.ref E,.ref F,.ref go])):=(Same.upd b2).updT fl;have au:=q.trans (s7.trans s8);exact ae a7 E h F go _ n r k f s g ⟨J.trans au,J.free ar,fh,za4,s8 _ _ (s7 _ _ M),au _ _ z,s8 _ _ N,Same.upd fl _ _ za4,A k (by omega) Z,C,u,by omega,by omega⟩
end
section
variable {P:Program} {w:World} {K:W.Frag} {mg:Str->Option Value} {base:Heap} {t:Adr}
def sp_w_lets (K:W.Frag)(t:Adr):Sp:=λvs H Q _=>∃(sc h a m:Addr) (n r lim p:Int) (i:Nat) (hs xs:List Int),vs=[.ref sc,.ref a,.ref m]/\SqL K H sc [.int n,.int r,.ref h,.int lim]/\SqL K H h (hs.map V.int)/\H a=some (.tup (xs.map V.int)) ∧
 H m=some (.tup [.int ((i:Int)+1),.int (xs.getD i 0),.int p])/\(hs.length=xs.length/\xs.length<=5/\(∀x∈hs,1<=x/\x<=20)/\i<xs.length)/\Q (.bl (decide (Lets n r hs lim xs i p))) H
theorem ok_w_lets (T:Txt K mg t):FnOk P w K mg base CX0 2 t.b4 t.b5 Vt (sp_w_lets K t):=by
 refine T.bS.F.ok zm0 (λY H Q a0 h=>?_) (λa2 aa a1 ab H Y Q a0 Z h=>?_)
 . obtain⟨S,h,a,m,n,r,e,p,i,b,xs,rfl,N,j,s,U,⟨C,D,v,E⟩,q⟩:=h
   rfl
 . obtain⟨S,h,a,m,n,r,e,p,i,b,xs,rfl,N,j,s,U,⟨C,D,v,E⟩,q⟩:=h
   refine⟨_,(za3 (zz0 P0 (zJ4 rfl (ze1 (zc4 (i:=3) zm0.nd rfl (Or.inl rfl)) (ze1 (zc4 (i:=4) zm0.nd rfl (Or.inl rfl)) (ze1 (zc4 (i:=5) zm0.nd rfl (Or.inl rfl)) (ze1 (zc4 (i:=6) zm0.nd rfl (Or.inl rfl)) zs8))))))
     (za3 (zz0 P2 (yk7 rfl (ze1 (zc4 (i:=7) zm0.nd rfl (Or.inl rfl)) (ze1 (zc4 (i:=8) zm0.nd rfl (Or.inl rfl)) (ze1 (zc4 (i:=9) zm0.nd rfl (Or.inl rfl)) zs8)))))
     (za3 (zc7 (PW.pt (zj5 (zb9 zT5 (pv 7) za2 (zc1 _)) (zj5 (zb9 zy4 (pv 7) (zb5 zb8 rfl T.ac Qr (za0 (pv 5) za1)) (zc1 _)) (zi5 (zb9 zl4 (zc2 ze7 P1 (zb4 zj1 (pv 7) za2) (λ_ _=>rfl)) (pv 8) (zc1 _)))))) (za5 (zb2 zg9)) zb3)
     (za3 (zc7 (PW.pt (zj5 (zb9 zy4 (zb5 zp9 rfl T.aM Zp (za0 P9 za1)) P3 (zc1 _)) (zi5 (zb9 zg3 P9 (pv 8) (zc1 _))))) (za5 (zb2 zg9)) zb3)
     (za3 (zc7 (PW.pt (zy9 (zb9 zl4 P9 za2 (zc1 _)) (zw6 (zb9 ya3 (yg5 ZH PySem.F.type_tuple_count zB9 P1 (za0 P9 za1)) (pv 4) (zc1 _))))) (za5 (zb2 zg9)) zb3)
     (za3 (zb7 (i:=10) zm0.nd rfl (Or.inl rfl) (zb4 zj1 (za6 (zw4 T) Z.m T.aD zb1 (za0 (pv 5) (za0 P1 za1))) (zb4 zn3 (zc2 zc3 (pv 5) (zb4 zj1 (pv 7) za2) (λ_ _=>rfl)) (pv 8))))
     (za5 (zb2 (zN7 (zj8 yf2 (zb5 zp9 rfl T.aM Zp (za0 P10 za1)) P6 (zc1 _)) (zI8 (zj8 yf2 (zb5 zp9 rfl T.aM Zp (za0 (zb4 zf5 P10 (zb4 zn3 (zc2 zc3 (pv 5) (zb4 zj1 (pv 7) za2) (λ_ _=>rfl)) P9)) za1)) P6 (zc1 _)))))))))))),?_⟩
   refine cut7 ?_;intro a3 a4 a5 a6 a7 a8;have W:SqL K H a (xs.map V.int)\/SqT K H a (xs.map V.int):=.inr (SqT.of s);have l:((i:Int)+1-1).toNat=i:=by omega
   have ax:atI (xs.map V.int) ((i:Int)+1-1)=some (.int (xs.getD i 0)):=by have:=ze8 (xs:=xs) (i:=(i:Int)+1-1) (by omega) (by omega);rw[l] at this;exact this
   have x:atI (b.map V.int) ((i:Int)+1-1)=some (.int (b.getD i 0)):=by have:=ze8 (xs:=b) (i:=(i:Int)+1-1) (by omega) (by omega);rw[l] at this;exact this
   have a9:=v (b.getD i 0) (zm6 (by omega));have u:¬ Lets n r b e xs i p->Q (.bl false) H:=λz=>by rw[Qf z] at q;exact q
   refine⟨_,rfl,S,_,rfl,N,rfl,_,_,rfl,_,_,rfl,_,_,rfl,_,_,rfl,rfl,?_⟩;refine⟨_,rfl,m,_,rfl,SqT.of U,rfl,_,_,rfl,_,_,rfl,_,_,rfl,rfl,?_⟩;refine⟨_,rfl,_,_,rfl,rfl,_,rfl,iteB (Qf (by omega)) ?_⟩;refine⟨_,rfl,_,rfl,h,_,rfl,.inl j,_,_,rfl,rfl,_,rfl,iteB (Qf (by rw[Qa];omega)) ?_⟩;refine⟨_,rfl,_,rfl,_,_,rfl,rfl,a,_,_,_,rfl,rfl,SqT.of s,ax,_,rfl,rfl,_,rfl,iteB (by simp) ?_⟩;refine⟨_,rfl,_,rfl,_,rfl,_,_,rfl,rfl,_,rfl,?_⟩;refine ite2 (λF=>?_) (λF=>?_)
   . have o:n<absI p:=QO F
     exact u λL=>by have:=L.on;unfold absI at o;split at o<;>omega
   have o:¬ n<absI p:=λz=>F (Qg z)
   have O:-n<=p/\p<=n:=by unfold absI at o;split at o<;>omega
   refine⟨_,rfl,_,rfl,rfl,_,rfl,?_⟩;rw[ze9];refine ite2 (λG=>?_) (λG=>?_)
   . exact u λL=>L.ne (QO G)
   have R:p≠xs.getD i 0:=λz=>G (Qg z)
   refine⟨_,rfl,rfl,_,rfl,?_⟩;rw[ze9];refine ite2 (λI=>?_) (λI=>?_)
   . have A:p≠0:=by simpa using I
     refine⟨_,rfl,⟨_,_,rfl,s⟩,_,rfl,a,xs,p,rfl,rfl,SqT.of s,_,rfl,_,_,rfl,rfl,_,rfl,?_⟩;refine ite2 (λJ=>?_) (λJ=>?_)
     . have X:r<=(xs.count p:Int):=QO J
       exact u λL=>by have:=L.room A;omega
     . have X:¬ r<=(xs.count p:Int):=λz=>J (Qg z)
       have y:p≠0->(xs.count p:Int)<r:=λ_=>by omega
       have B:∀c d:Bool,(c=decide (absI (zf7 b xs i)<=e))->(d=decide (absI (zf7 b xs i+b.getD i 0*p)<=e))->(c && d)=decide (Lets n r b e xs i p):=λc d l M=>by
         subst l M;by_cases f:absI (zf7 b xs i)<=e
         . by_cases g:absI (zf7 b xs i+b.getD i 0*p)<=e
           . rw[Qg f,Qg g,Qg (⟨E,O,R,y,f,g⟩:Lets n r b e xs i p)];rfl
           . rw[Qg f,Qf g,Qf (λL:Lets n r b e xs i p=>g L.behind)];rfl
         . rw[Qf f,Qf (λL:Lets n r b e xs i p=>f L.held)];rfl
       refine⟨_,rfl,_,rfl,h,a,b,xs,rfl,j,W,⟨C,D,v⟩,_,rfl,_,rfl,_,_,rfl,rfl,h,_,_,_,rfl,rfl,j,x,_,rfl,_,_,rfl,rfl,.inl ⟨by omega,by omega⟩,_,_,rfl,rfl,?_⟩;refine⟨_,rfl,_,rfl,_,rfl,_,_,rfl,rfl,_,rfl,?_⟩;refine ite2 (λk=>?_) (λk=>?_)
       . refine⟨_,rfl,_,rfl,_,rfl,_,_,rfl,rfl,h,_,_,_,rfl,rfl,j,x,_,rfl,_,_,rfl,rfl,.inl ⟨by omega,by omega⟩,_,_,rfl,rfl,_,rfl,_,rfl,_,_,rfl,rfl,?_⟩
         have:=B true _ k.symm rfl;rw[<-this] at q;exact q
       . skip
         exact u λL=>k (Qg L.held)
   . have A:p=0:=by simpa using I
     refine iteF ?_;have y:p≠0->(xs.count p:Int)<r:=λz=>absurd A z
     have B:∀c d:Bool,(c=decide (absI (zf7 b xs i)<=e))->(d=decide (absI (zf7 b xs i+b.getD i 0*p)<=e))->(c && d)=decide (Lets n r b e xs i p):=λc d l M=>by
       subst l M;by_cases f:absI (zf7 b xs i)<=e
       . by_cases g:absI (zf7 b xs i+b.getD i 0*p)<=e
         . rw[Qg f,Qg g,Qg (⟨E,O,R,y,f,g⟩:Lets n r b e xs i p)];rfl
         . rw[Qg f,Qf g,Qf (λL:Lets n r b e xs i p=>g L.behind)];rfl
       . rw[Qf f,Qf (λL:Lets n r b e xs i p=>f L.held)];rfl
     refine⟨_,rfl,_,rfl,h,a,b,xs,rfl,j,W,⟨C,D,v⟩,_,rfl,_,rfl,_,_,rfl,rfl,h,_,_,_,rfl,rfl,j,x,_,rfl,_,_,rfl,rfl,.inl ⟨by omega,by omega⟩,_,_,rfl,rfl,?_⟩;refine⟨_,rfl,_,rfl,_,rfl,_,_,rfl,rfl,_,rfl,?_⟩;refine ite2 (λk=>?_) (λk=>?_)
     . refine⟨_,rfl,_,rfl,_,rfl,_,_,rfl,rfl,h,_,_,_,rfl,rfl,j,x,_,rfl,_,_,rfl,rfl,.inl ⟨by omega,by omega⟩,_,_,rfl,rfl,_,rfl,_,rfl,_,_,rfl,rfl,?_⟩
       have:=B true _ k.symm rfl;rw[<-this] at q;exact q
     . skip
       exact u λL=>k (Qg L.held)
def sp_w_is_spots (K:W.Frag)(t:Adr):Sp:=λvs H Q _=>∃(a:Addr) (k:Int) (xs:List Int),vs=[.ref a,.int k]/\H a=some (.tup (xs.map V.int))/\(xs.length:Int)=k/\Q (.bl true) H
theorem ok_w_is_spots (T:Txt K mg t):FnOk P w K mg base CX0 2 t.bd t.be Vu (sp_w_is_spots K t):=by
 refine T.bm.F.ok zE4 (λg H Q E h=>?_) (λn A m s H g Q E j h=>?_)
 . obtain⟨a,k,xs,rfl,b,f,q⟩:=h
   rfl
 . obtain⟨a,k,xs,rfl,b,f,q⟩:=h
   refine⟨_,(za3 (zc7 (PW.pt (zj5 (zd9 (zc9 (zb5 zh3 rfl T.ad Qx (za0 P0 (za0 (zk7 (v:=.ty "tuple") rfl T.aq QV rfl) za1))))) (zi5 (zb9 zl4 (zb5 zb8 rfl T.ac Qr (za0 P0 za1)) P1 (zc1 _))))) (za5 (zb2 zg9)) zb3)
     (za3 (zh7 PassesOwn.never rfl (zX3 P0) (zc4 (i:=2) zE4.nd rfl (Or.inl rfl)) (za5 (zc7 (zd9 (zc9 (za6 (zy3 T) j.m T.aI zb1 (za0 P2 za1)))) (za5 (zb2 zg9)) zb3)))
     (za5 (zb2 zg9)))),?_⟩
   refine cut3 ?_;intro o p;refine⟨_,rfl,_,_,_,_,_,rfl,.ty _,.tup b,rfl,_,rfl,iteF ?_⟩;refine⟨_,rfl,a,_,rfl,.inr (SqT.of b),_,rfl,rfl,_,rfl,iteB (by rw[Qa,f];simp) ?_⟩;refine⟨_,rfl,a,rfl,⟨_,SqT.of b⟩,zM3 (K:=K) (a:=a) (xs:=xs.map V.int) (λi d c=>X1 λv=>A2 (d=[some (.ref a),some (.int k),v]) (c=H)) ⟨none,rfl,rfl⟩ (λi d c _ ⟨_,_,e⟩=>e▸SqT.of b) ?_ ?_⟩
   . rintro i x d c l ⟨v,rfl,rfl⟩
     obtain⟨z,rfl,r⟩:=int_at l;exact⟨_,rfl,z,rfl,_,rfl,iteF ⟨_,rfl,rfl⟩⟩
   . rintro d c ⟨v,rfl,rfl⟩
     exact q
theorem Goes.det {n r:Int}{hs:List Int}{lim:Int}:∀ {x:List Int} {a:List (Nat×Int)} {y z:List Int},Goes n r hs lim x a y->Goes n r hs lim x a z->y=z
 | x,[],y,z,h,b=>h.symm.trans b
 | x,m::a,y,z,h,b=>Goes.det h.2 b.2
theorem Goes.valid {n r:Int}{hs:List Int}{lim:Int}{w:Nat}:∀ {x:List Int} {b:List (Nat×Int)} {y:List Int},Goes n r hs lim x b y->zd0 n r w x->zd0 n r w y
 | x,[],y,h,a=>h▸a
 | x,m::b,y,h,a=>Goes.valid h.2 (h.1.valid a)
theorem zj6.at {H:Hp}{n r:Int}{hs:List Int}{lim:Int}:∀ {x:List Int} {c:List Addr} {b:List (Nat×Int)} {y:List Int},zj6 H x c b->Goes n r hs lim x b y->∀ {i:Nat} {v:V},(c.map V.ref)[i]?=some v->∃a m z,v = .ref a/\b[i]?=some m/\Goes n r hs lim x (b.take i) z/\zE5 H z a m/\Lets n r hs lim z m.1 m.2
 | _,[],[],_,_,_,i,v,h=>by simp at h
 | _,[],_::_,_,h,_,_,_,_=>h.elim
 | _,_::_,[],_,h,_,_,_,_=>h.elim
 | x,a::c,m::b,y,h,hG,0,v,e=>⟨a,m,x,(QA e).symm,rfl,rfl,h.1,hG.1⟩
 | x,a::c,m::b,y,h,hG,i+1,v,e=>by
   obtain⟨d,f,z,g,j,k,l⟩:=zj6.at h.2 hG.2 (i:=i) e;exact⟨d,f,z,g,j,⟨hG.1,k⟩,l⟩
theorem Goes.snoc {n r:Int}{hs:List Int}{lim:Int}:∀ {x:List Int} {a:List (Nat×Int)} {y:List Int} {m:Nat×Int},Goes n r hs lim x a y->Lets n r hs lim y m.1 m.2->Goes n r hs lim x (a++[m]) (y.set m.1 m.2)
 | x,[],y,m,h,L=>by
   obtain rfl:x=y:=h;exact⟨L,rfl⟩
 | x,m'::a,y,m,h,L=>⟨h.1,Goes.snoc h.2 L⟩
def sp_w_walk (K:W.Frag)(t:Adr):Sp:=λvs H Q _=>∃(c a l:Addr) (n r lim:Int) (hs x y:List Int) (rs:List Addr) (ms:List (Nat×Int)),vs=[.ref c,.ref a,.ref l]/\zn2 K H c n r hs lim/\zd0 n r hs.length x/\H a=some (.tup (x.map V.int))/\H l=some (.lst (rs.map V.ref))/\zj6 H x rs ms/\Goes n r hs lim x ms y ∧
 ∀b H',Same H H'->H' b=some (.tup (y.map V.int))->Q (.ref b) H'
theorem ok_w_walk (T:Txt K mg t):FnOk P w K mg base CX0 3 t.ca t.cb Vv (sp_w_walk K t):=by
 refine T.bU.F.ok zC4 (λvs a0 a8 a9 h=>?_) (λac ah ab a1 a0 vs a8 a9 R h=>?_)
 . obtain⟨c,a,l,n,r,E,I,x,aa,S,U,rfl,a2,W,X,s,J,M,a3⟩:=h
   rfl
 . obtain⟨c,a,l,n,r,E,I,x,aa,S,U,rfl,a2,W,X,s,J,M,a3⟩:=h
   refine⟨_,(za3 (zc7 (zd9 (zc9 (zb5 zh3 rfl T.ad Qx (za0 P2 (za0 (zk7 (v:=.ty "list") rfl T.aJ Zv rfl) za1))))) (za5 (zb2 zE7)) zb3)
     (za3 (zb7 (i:=3) zC4.nd rfl (Or.inl rfl) P1)
     (za3 (zh7 PassesOwn.never rfl (zi8 P2) (zc4 (i:=4) zC4.nd rfl (Or.inl rfl)) (za3 (zc7 (PW.pt (zj5 (zd9 (zc9 (za6 (ok_w_is_spots T) R.m T.bm zb1 (za0 (pv 4) (za0 za2 za1))))) (zi5 (zd9 (zc9 (za6 (ok_w_lets T) R.m T.bS zb1 (za0 P0 (za0 P3 (za0 (pv 4) za1))))))))) (za5 (zb2 zE7)) zb3)
     (za5 (zb7 (i:=3) zC4.nd rfl (Or.inl rfl) (zb4 zt0 (zb4 zt0 (zh2 zE9 P3 zl0 (zi9 (zb4 zj1 (zc2 ze7 (pv 4) za2 (λ_ _=>rfl)) za2))) (zt5 (za0 (zc2 ze7 (pv 4) za2 (λ_ _=>rfl)) za1))) (zh2 zE9 P3 (zi9 (zc2 ze7 (pv 4) za2 (λ_ _=>rfl))) zl0))))))
     (za5 (zb2 P3))))),?_⟩
   refine cut4 ?_;intro ad ae af;obtain⟨h,ok,hc,hh⟩:=a2;have hw:=ok.w;refine⟨_,rfl,_,_,_,_,_,rfl,.ty _,.lst s,rfl,_,rfl,iteF ?_⟩;refine⟨_,rfl,_,rfl,l,rfl,⟨_,SqL.of s⟩,zp8 (K:=K) (a:=l) (xs:=S.map V.ref) (λi D d=>X3 λb N z=>A4 (D=[some (.ref c),some (.ref a),some (.ref l),some (.ref b),N]) (Same a0 d) (d b=some (.tup (z.map V.int))) (Goes n r I E x (U.take i) z)) ⟨a,none,x,rfl,Same.refl _,X,rfl⟩ (λi D d _ ⟨_,_,_,_,a1,_,_⟩=>SqL.of (a1 _ _ s)) ?_ ?_⟩
   . rintro i v D d hi ⟨b,N,z,rfl,e,k,f⟩
     obtain⟨g,m,z',rfl,hm,a5,a6,L⟩:=J.at M hi;obtain rfl:=f.det a5;have Vz:=f.valid W;have ag:=Vz.len;have Q:=L.lt;have j:d g=some (.tup [.int ((m.1:Int)+1),.int (z.getD m.1 0),.int m.2]):=e _ _ a6;refine⟨_,rfl,g,3,[(m.1:Int)+1,z.getD m.1 0,m.2],rfl,j,rfl,_,rfl,iteF ?_⟩;refine⟨_,rfl,_,rfl,_,rfl,c,h,b,g,n,r,E,m.2,m.1,I,z,rfl,e.seq hc,e.seq hh,k,j,⟨by omega,by omega,ok.h,Q⟩,_,rfl,?_⟩;rw[Qg L];refine iteF ?_;have Y:(m.1:Int)+1-1=(m.1:Int):=by omega
     refine⟨_,rfl,_,rfl,g,_,_,_,rfl,rfl,SqT.of j,rfl,_,_,rfl,rfl,_,rfl,b,_,rfl,SqT.of k,?_,λo f1=>?_⟩
     . rw[Y,HT.sIx_none,HT.sIx_nat,Qa,Zx (by omega)]
       omega
     rw[Y] at *;have u:Same d (upd d o (.tup (cutV (z.map V.int) none (some (m.1:Int))))):=Same.upd f1;have F:(upd d o (.tup (cutV (z.map V.int) none (some (m.1:Int))))) o=some (.tup (cutV (z.map V.int) none (some (m.1:Int)))):=za4;revert u F;generalize upd d o (.tup (cutV (z.map V.int) none (some (m.1:Int))))=y;intro u F;refine⟨_,rfl,g,_,_,_,rfl,rfl,SqT.of (u _ _ j),rfl,(by show 1<=sizeLine;decide),λp f2=>?_⟩;have A:Same y (upd y p (.tup [.int m.2])):=Same.upd f2;have G:(upd y p (.tup [.int m.2])) p=some (.tup [.int m.2]):=za4;revert A G;generalize upd y p (.tup [.int m.2])=Hb;intro A G;have a4:=zl6 (z.map V.int) none (some (m.1:Int));rw[Qa] at a4;refine⟨o,p,_,_,rfl,rfl,A _ _ F,G,QZ (zc5 (by show _+1<=_;omega)),λl3 B sc a7=>?_⟩;have H:=u.trans (A.trans sc);refine⟨_,rfl,_,rfl,g,_,_,_,rfl,rfl,SqT.of (H _ _ j),rfl,_,rfl,b,_,rfl,SqT.of (H _ _ k),?_,λq f4=>?_⟩
     . rw[show((m.1:Int)+1)=((m.1+1:Nat):Int) by omega,HT.sIx_nat,Qa]
       omega
     have C:Same B (upd B q (.tup (cutV (z.map V.int) (some ((m.1:Int)+1)) none))):=Same.upd f4;have O:(upd B q (.tup (cutV (z.map V.int) (some ((m.1:Int)+1)) none))) q=some (.tup (cutV (z.map V.int) (some ((m.1:Int)+1)) none)):=za4;revert C O;generalize upd B q (.tup (cutV (z.map V.int) (some ((m.1:Int)+1)) none))=Hd;intro C O;have Z:=zN3 z m.1 m.2 Q;refine⟨l3,q,_,_,rfl,rfl,C _ _ a7,O,?_,λl5 He se he=>?_⟩
     . rw[<-Qi,Z,Qa,QW]
       exact QZ (zc5 (by omega))
     rw[Z] at he;refine⟨l5,_,_,rfl,e.trans (H.trans (C.trans se)),he,?_⟩;rw[QP,hm];exact f.snoc L
   . rintro D d ⟨b,N,z,rfl,e,k,f⟩
     rw[Qa,J.len,QR] at f;obtain rfl:=M.det f;exact⟨_,rfl,a3 b d e k⟩
def sp_w_way (K:W.Frag)(t:Adr):Sp:=λvs H Q _=>∃(c a1 a2 wy:Addr) (n r lim:Int) (hs s g:List Int),vs=[.ref c,.ref a1,.ref a2,.ref wy]/\zn2 K H c n r hs lim/\zd0 n r hs.length s/\H a1=some (.tup (s.map V.int))/\H a2=some (.tup (g.map V.int))/\zL0 t H wy n r hs lim s g/\∀H',Same H H'->Q (.bl true) H'
theorem ok_w_way (T:Txt K mg t):FnOk P w K mg base CX0 4 t.cC t.cD PY (sp_w_way K t):=by
 refine T.cb.F.ok sc_w_way (λD H Q E h=>?_) (λY a6 X s H D Q E k h=>?_)
 . obtain⟨c,o,p,e,n,r,l,u,s,g,rfl,S,x,y,z,W,q⟩:=h
   rfl
 . obtain⟨c,o,p,e,n,r,l,u,s,g,rfl,S,x,y,z,W,q⟩:=h
   refine⟨_,(za3 (zc7 (PW.pt (zj5 (zd9 (zc9 (zb5 zh3 rfl T.ad Qx (za0 P3 (za0 (zl8 (v:=.ref t.ad) rfl T.cx rfl) za1))))) (zi5 (zd9 (zc9 (zb5 zh3 rfl T.ad Qx (za0 (zd3 P3 rfl) (za0 (zk7 (v:=.ty "bool") rfl T.cq PyProof.Rows.boot_bool rfl) za1)))))))) (za5 (zb2 zg9)) zb3)
     (za3 (zc7 (zd9 (zc9 (zd3 P3 rfl))) (za5 (zb2 (zN7 (zj8 yl0 (zd3 P3 rfl) zE7 (zc1 _)) (zI8 (zj8 (yn0 (Nat.lt_of_succ_lt (zD8 k))) (zd3 P3 rfl) (zg0 za1) (zc1 _)))))) zb3)
     (za3 (zc7 (PW.pt (zj5 (zd9 (zc9 (za6 (zy3 T) k.m T.aI zb1 (za0 (zd3 P3 rfl) za1)))) (zj5 (zd9 (zc9 (zb5 zh3 rfl T.ad Qx (za0 (zd3 P3 rfl) (za0 (zk7 (v:=.ty "list") rfl T.aJ Zv rfl) za1))))) (zi5 (zb9 zl4 (zb5 zb8 rfl T.ac Qr (za0 (zd3 P3 rfl) za1)) (zd3 P3 rfl) (zc1 _)))))) (za5 (zb2 zg9)) zb3)
     (za5 (zb2 (zj8 (op_eqT (Nat.lt_of_succ_lt (zD8 k))) (za6 (ok_w_walk T) k.m T.bU zb1 (za0 P0 (za0 P1 (za0 (zd3 P3 rfl) za1)))) P2 (zc1 _))))))),?_⟩
   refine cut4 ?_;intro Z a0 a3;rcases W with⟨d,j,F,G,I,J,L,M,a4,N,hd,⟨f,a⟩,i,m,O,C,_⟩ | ⟨a5,j,I,J,L,M,N,zs,Sh,⟨f,a⟩,i,_⟩
   . refine⟨_,rfl,_,_,_,_,_,rfl,.own _,.ins a T.ah T.aG.1 T.aG.2.1 T.aG.2.2.1 T.aG.2.2.2,kit_self _ _,_,rfl,iteF ?_⟩
     refine⟨_,rfl,e,_,f,_,_,rfl,a,T.ah,T.au,zy1 _ _ _ _ _ _,_,_,_,_,_,rfl,.ty _,.bl _,rfl,_,rfl,iteF ?_⟩;refine⟨_,rfl,e,_,f,_,_,rfl,a,T.ah,T.au,zy1 _ _ _ _ _ _,_,rfl,iteF ?_⟩;refine⟨_,rfl,e,_,f,_,_,rfl,a,T.ah,T.ax,zN4 _ _ _ _ _ _,(d:Int),rfl,_,rfl,iteF ?_⟩;refine⟨_,rfl,e,_,f,_,_,rfl,a,T.ah,T.aA,zZ7 _ _ _ _ _ _,_,_,_,_,_,rfl,.ty _,.lst i,rfl,_,rfl,iteF ?_⟩;refine⟨_,rfl,e,_,f,_,_,rfl,a,T.ah,T.aA,zZ7 _ _ _ _ _ _,j,_,rfl,.inl (SqL.of i),_,rfl,e,_,f,_,_,rfl,a,T.ah,T.ax,zN4 _ _ _ _ _ _,rfl,_,rfl,?_⟩;rw[Qa,m.len,C,Qg rfl];refine iteF ?_;refine⟨_,rfl,_,rfl,_,rfl,e,_,f,_,_,rfl,a,T.ah,T.aA,zZ7 _ _ _ _ _ _,c,o,j,n,r,l,u,s,g,F,G,rfl,S,x,y,i,m,O,λb R A U=>?_⟩;refine⟨_,rfl,b,p,_,_,rfl,rfl,SqT.of U,SqT.of (A _ _ z),scal_ints,?_⟩;rw[Qg rfl];exact q R A
   . refine⟨_,rfl,_,_,_,_,_,rfl,.own _,.ins a T.ah T.aG.1 T.aG.2.1 T.aG.2.2.1 T.aG.2.2.2,kit_self _ _,_,rfl,iteF ?_⟩
     refine⟨_,rfl,e,_,f,_,_,rfl,a,T.ah,T.au,zy1 _ _ _ _ _ _,_,_,_,_,_,rfl,.ty _,.bl _,rfl,_,rfl,iteF ?_⟩;refine⟨_,rfl,e,_,f,_,_,rfl,a,T.ah,T.au,zy1 _ _ _ _ _ _,_,rfl,iteT ?_⟩;refine⟨_,rfl,e,_,f,_,_,rfl,a,T.ah,T.ax,zN4 _ _ _ _ _ _,rfl,_,rfl,iteT ?_⟩;refine⟨_,rfl,e,_,f,_,_,rfl,a,T.ah,T.aA,zZ7 _ _ _ _ _ _,QD _,λV B=>?_⟩;refine⟨j,V,[],rfl,rfl,SqL.of (Same.upd B _ _ i),SqL.of za4,?_⟩;exact q _ (Same.upd B)
end
section
variable {P:Program} {w:World} {K:W.Frag} {mg:Str->Option Value} {base:Heap} {t:Adr}
theorem take_eq_succ {X Y:List (List Int)}{i:Nat}{x y:List Int}(a:X[i]?=some x)(b:Y[i]?=some y)(h:X.take i=Y.take i):X.take (i+1)=Y.take (i+1)↔x=y:=by
 rw[QP,QP,a,b,h];simp
def sp_w_same_rows (K:W.Frag)(t:Adr):Sp:=λvs H Q _=>∃(a b:Addr) (ys zs:List V) (X Y:List (List Int)),vs=[.ref a,.ref b]/\H a=some (.lst ys)/\Tups H ys X/\H b=some (.lst zs)/\Tups H zs Y/\Y.length<=1000/\(∀y∈Y,y.length<=1000)/\Q (.bl (decide (X=Y))) H
theorem ok_w_same_rows (T:Txt K mg t):FnOk P w K mg base CX0 3 t.aZ t.a0 Pl (sp_w_same_rows K t):=by
 refine T.be.F.ok zB4 (λJ H Q E h=>?_) (λa1 a5 a0 a6 H J Q E L h=>?_)
 . obtain⟨a,b,e,f,X,Y,rfl,c,k,g,l,M,r,q⟩:=h
   rfl
 . obtain⟨a,b,e,f,X,Y,rfl,c,k,g,l,M,r,q⟩:=h
   refine⟨_,(za3 (zc7 (PW.pt (zj5 (zd9 (zc9 (zb5 zh3 rfl T.ad Qx (za0 P0 (za0 (zk7 (v:=.ty "list") rfl T.aJ Zv rfl) za1))))) (zi5 (zb9 zl4 (zb5 zb8 rfl T.ac Qr (za0 P0 za1)) (zb5 zb8 rfl T.ac Qr (za0 P1 za1)) (zc1 _))))) (za5 (zb2 zg9)) zb3)
     (za3 (zh7 PassesOwn.never rfl (zh9 rfl T.ai (za0 (zb5 zb8 rfl T.ac Qr (za0 P1 za1)) za1)) (zc4 (i:=2) zB4.nd rfl (Or.inl rfl)) (za5 (zc7 (PW.pt (zj5 (zd9 (zc9 (zb5 zh3 rfl T.ad Qx (za0 (zc2 zc3 P0 P2 (λ_ _=>rfl)) (za0 (zk7 (v:=.ty "tuple") rfl T.aq QV rfl) za1))))) (zi5 (zd9 (zc9 (za6 (zw3 T) L.m T.aE zb1 (za0 (zc2 zc3 P0 P2 (λ_ _=>rfl)) (za0 (zc2 zc3 P1 P2 (λ_ _=>rfl)) za1)))))))) (za5 (zb2 zg9)) zb3)))
     (za5 (zb2 zg9)))),?_⟩
   refine cut3 ?_;intro a2 a3;have N:=zd6 k;have O:=zd6 l;refine⟨_,rfl,_,_,_,_,_,rfl,.ty _,.lst c,rfl,_,rfl,iteF ?_⟩;refine⟨_,rfl,a,_,rfl,.inl (SqL.of c),_,rfl,b,_,rfl,.inl (SqL.of g),rfl,_,rfl,?_⟩;rw[ze9];refine ite2 (λm=>?_) (λm=>?_)
   . have:X≠Y:=λz=>by
       subst z;simp[N,O] at m
     rw[Qf this] at q;exact q
   have a4:X.length=Y.length:=by
     simp at m;omega
   refine⟨_,rfl,b,_,rfl,.inl (SqL.of g),_,rfl,by omega,by omega,zh1 (n:=((f.length:Nat):Int).toNat) (λi p o=>X1 λv=>A3 (p=[some (.ref a),some (.ref b),v]) (o=H) (X.take i=Y.take i)) ⟨none,rfl,rfl,rfl⟩ ?_ ?_⟩
   . rintro i p o R ⟨v,rfl,rfl,d⟩
     have s:i<f.length:=by simpa using R
     have S:(0:Int)+(i:Int)=(i:Int):=by omega
     rw[S];obtain⟨B,x,U,V,u⟩:=zm9 k (Qe (show i<e.length by omega));obtain⟨C,y,W,D,G⟩:=zm9 l (Qe s);have F:atI e (i:Int)=some (.ref B):=zh5 (by rw[Qe (show i<e.length by omega),U]);have Z:atI f (i:Int)=some (.ref C):=zh5 (by rw[Qe s,W]);refine⟨_,rfl,_,rfl,a,_,_,_,rfl,rfl,SqL.of c,F,_,_,_,_,_,rfl,.ty _,.tup u,rfl,_,rfl,iteF ?_⟩;refine⟨_,rfl,_,rfl,a,_,_,_,rfl,rfl,SqL.of c,F,_,rfl,_,rfl,b,_,_,_,rfl,rfl,SqL.of g,Z,B,C,x,y,rfl,.inr (SqT.of u),.inr (SqT.of G),r y (Qt D),_,rfl,?_⟩;have A:=take_eq_succ V D d;refine ite2 (λj=>?_) (λj=>?_)
     . have I:X≠Y:=λz=>by
         have:x=y:=A.mp (by rw[z]);rw[Qg this] at j;cases j
       rw[Qf I] at q;exact q
     . have:x=y:=Classical.byContradiction λz=>j (by rw[Qf z];rfl)
       exact⟨_,rfl,rfl,A.mpr this⟩
   . rintro p o ⟨v,rfl,rfl,d⟩
     rw[Zi] at d;have:X=Y:=by
       rw[Zd (by omega),Zd (by omega)] at d;exact d
     rw[Qg this] at q;exact q
def sp_w_pick (K:W.Frag)(t:Adr):Sp:=λvs H Q _=>∃(c a:Addr) (cell n r lim:Int) (hs xs:List Int),vs=[.ref c,.ref a,.int cell]/\zn2 K H c n r hs lim/\zd0 n r hs.length xs/\H a=some (.tup (xs.map V.int))/\∀v H',Same H H'->((v = .non/\nbs n r hs lim xs=[])\/∃(i:Nat) (q:Int) (mv:Addr),v = .ref mv/\Lets n r hs lim xs i q/\H' mv=some (.tup [.int ((i:Int)+1),.int (xs.getD i 0),.int q]))->Q v H'
theorem zL3 (T:Txt K mg t):FnOk P w K mg base CX0 3 t.ck t.cl Vw (sp_w_pick K t):=by
 refine T.aY.F.ok zC7 (λvs a6 a7 a8 h=>?_) (λac ah a9 ai a6 vs a7 a8 Q h=>?_)
 . obtain⟨a0,a,f,n,r,m,u,xs,rfl,S,v,x,q⟩:=h
   rfl
 . obtain⟨a0,a,f,n,r,m,u,xs,rfl,S,v,x,q⟩:=h
   refine⟨_,(za3 (zb7 (i:=3) zC7.nd rfl (Or.inl rfl) (za6 (ok_w_near T) Q.m T.bT zb1 (za0 P0 (za0 P1 za1))))
     (za3 (zc7 (zb9 (yn0 (Nat.lt_of_succ_lt (zD8 Q))) P3 (zg0 za1) (zc1 _)) (za5 (zb2 zE7)) zb3)
     (za3 (zb7 (i:=4) zC7.nd rfl (Or.inr rfl) (zc2 zc3 P3 (zb4 ze3 P2 (zb5 zb8 rfl T.ac Qr (za0 P3 za1))) (λ_ _=>rfl)))
     (za3 (zb7 (i:=5) zC7.nd rfl (Or.inl rfl) (zc2 zc3 (zo0 rfl zL9 (zh9 rfl T.ai (za0 (zb5 zb8 rfl T.ac Qr (za0 P1 za1)) za1)) (λ_ _ _ _ _=>(zc4 (i:=0) zL9.nd rfl (Or.inl rfl))) (λ_ _ _ _ _=>(zF8 (zb9 zl4 (zc2 (zC0 K rfl) P1 P0 (λ_ _=>rfl)) (zc2 (zC0 K rfl) P2 P0 (λ_ _=>rfl)) (zc1 _)))) (λ_ _ _ _ _=>P0)) za2 (λ_ _=>rfl)))
     (za5 (zb2 (zt5 (za0 (zb4 zf5 (pv 5) za2) (za0 (zc2 ze7 P1 (pv 5) (λ_ _=>rfl)) (za0 (zc2 ze7 (pv 4) (pv 5) (λ_ _=>rfl)) za1)))))))))),?_⟩
   refine cut5 ?_;intro ad ae af ag;have aa:=v.len;have hw:=(let⟨_,h,_⟩:=S;h:zg6 n r u m).w;refine⟨_,rfl,_,rfl,a0,a,n,r,m,u,xs,rfl,S,v,x,λl y b s1 fl R U=>?_⟩;have a2:=zd6 U;refine⟨_,rfl,QD _,λA f2=>?_⟩;have d:Same y (upd y A (.lst [])):=Same.upd f2;refine⟨l,A,b,rfl,rfl,SqL.of (d _ _ R),SqL.of za4,_,rfl,?_⟩;revert d;generalize upd y A (.lst [])=c;intro d;have o:=s1.trans d;have J:=d _ _ R;have a3:=d.tups U;refine ite2 (λB=>?_) (λB=>?_)
   . refine q .non c o (.inl ⟨rfl,?_⟩)
     have:b=[]:=by cases b with | nil=>rfl | cons _ _=>exact absurd B (by simp)
     exact Qy (by rw[<-a2,this];rfl)
   have ab:0<b.length:=by
     cases b with
     | nil=>exact absurd rfl B
     | cons _ _=>simp
   have i1:0<=f % (b.length:Int):=Zc _ (by omega);have i2:f % (b.length:Int)<b.length:=Za _ (by omega);obtain⟨j,ej⟩:∃j:Nat,f % (b.length:Int)=(j:Int):=⟨_,(Int.toNat_of_nonneg i1).symm⟩;have W:j<b.length:=by omega
   obtain⟨a1,aj,e1,e2,X⟩:=zm9 a3 (Qe W);obtain⟨i,p,L,rfl⟩:=zy0.mp (Qt e2);have Y:=L.lt;refine⟨_,rfl,_,rfl,_,rfl,l,_,rfl,.inl (SqL.of J),_,_,rfl,rfl,(by show(0:Int)<(b.length:Int);omega),l,_,_,_,rfl,rfl,SqL.of J,(by show atI b (f % (b.length:Int))=_;rw[ej];exact zh5 (by rw[Qe W,e1])),?_⟩;have s:=o _ _ x;refine⟨_,rfl,a,_,rfl,.inr (SqT.of s),?_⟩;rw[Qa];refine⟨_,rfl,by omega,by omega,λD Z=>?_⟩;have gd:∀k,k<xs.length->((xs.set i p).getD k 0=xs.getD k 0↔k≠i):=λk C=>by
     rw[Qs,Qs,List.getElem?_set];by_cases e:i=k
     . subst e
       rw[Qo rfl,Qo C];refine⟨λz=>absurd ?_ L.ne,λz=>absurd rfl z⟩;rw[Qs];exact z
     . rw[Qh e]
       exact⟨λ_ z=>e z.symm,λ_=>rfl⟩
   refine zz2 (λj E=>E=upd c D (.lst (if i<j then [V.int (i:Int)] else []))) (by rw[Qh (Nat.not_lt_zero _)]) ?_ ?_
   . rintro k E ak C rfl hN
     have M:k<xs.length:=by simpa using C
     have a4:(upd c D (.lst (if i<k then [V.int (i:Int)] else []))) D=some (.lst (if i<k then [V.int (i:Int)] else [])):=za4;have sD:Same c (upd c D (.lst (if i<k then [V.int (i:Int)] else []))):=Same.upd Z;have F:(0:Int)+(k:Int)=(k:Int):=by omega
     have G:atI (xs.map V.int) (0+(k:Int))=some (.int (xs.getD k 0)):=by rw[F];exact ze8 (by omega) (by omega)
     have H:atI ((xs.set i p).map V.int) (0+(k:Int))=some (.int ((xs.set i p).getD k 0)):=by rw[F];exact ze8 (by omega) (by rw[QW];omega)
     refine⟨_,rfl,_,rfl,a1,_,_,_,rfl,rfl,SqT.of (sD _ _ X),H,_,rfl,_,rfl,a,_,_,_,rfl,rfl,SqT.of (sD _ _ s),G,rfl,_,rfl,?_⟩;rw[ze9];refine ite2 (λg=>?_) (λg=>?_)
     . have N:k=i:=Classical.byContradiction λz=>by
         have:=(gd k M).mpr z;rw[Qg this] at g;cases g
       subst N;refine⟨_,rfl,_,a4,zc5 (by rw[Qh (ZG _)];decide),hN _ ?_⟩;rw[zh4,Qh (ZG _),Qo (Nat.lt_succ_self _),F];rfl
     . have N:k≠i:=(gd k M).mp (Classical.byContradiction λz=>g (by rw[Qf z];rfl))
       refine hN _ ?_;by_cases O:i<k
       . rw[Qo O,Qo (by omega)]
       . rw[Qh O,Qh (by omega)]
   . rintro E rfl
     rw[Zi,Qo Y];have I:Same c (upd c D (.lst [V.int (i:Int)])):=Same.upd Z;have G:atI (xs.map V.int) (i:Int)=some (.int (xs.getD i 0)):=ze8 (by omega) (by omega);have H:atI ((xs.set i p).map V.int) (i:Int)=some (.int p):=by
       have:=ze8 (xs:=xs.set i p) (i:=(i:Int)) (by omega) (by rw[QW];omega);rw[Zi,zu9 Y] at this;exact this
     refine⟨D,_,_,_,rfl,rfl,SqL.of za4,rfl,?_⟩;refine⟨_,rfl,_,_,rfl,rfl,_,rfl,_,rfl,a,_,_,_,rfl,rfl,SqT.of (I _ _ s),G,_,rfl,_,rfl,a1,_,_,_,rfl,rfl,SqT.of (I _ _ X),H,(by show 3<=sizeLine;decide),λmv a5=>?_⟩;exact q (.ref mv) _ (o.trans (I.updT a5)) (.inr ⟨i,p,mv,rfl,L,za4⟩)
end
section
variable {P:Program} {w:World} {K:W.Frag} {mg:Str->Option Value} {base:Heap} {t:Adr}
theorem num_back0:∀k:Nat,k<401->zr7 (sI k)=some (k:Int)/\32∉(sI k).cps.toList/\10∉(sI k).cps.toList:=by decide +kernel
theorem zB7 {n:Int}(a:0<=n)(b:n<=400):zr7 (sI n)=some n/\32∉(sI n).cps.toList/\10∉(sI n).cps.toList:=by
 obtain⟨k,rfl⟩:=Int.eq_ofNat_of_zero_le a;exact num_back0 k (by omega)
theorem zT0 {x:Int}(a:-4<=x)(b:x<=4):zm8 (zd7 x)=some x/\32∉(zd7 x).cps.toList/\10∉(zd7 x).cps.toList:=by
 have:x = -4\/x = -3\/x = -2\/x = -1\/x=0\/x=1\/x=2\/x=3\/x=4:=by omega
 rcases this with rfl | rfl | rfl | rfl | rfl | rfl | rfl | rfl | rfl<;>decide +kernel
theorem zD4 {c:Nat}{a b:Str}(d:c∉a.cps.toList)(e:c∉b.cps.toList):c∉(a++b).cps.toList:=by
 rw[zj9];intro h;rcases QB.mp h with h | h
 . exact d h
 . exact e h
theorem rd_wBeam {n r lim:Int}{hs xs:List Int}(ok:zg6 n r hs lim)(f:zd0 n r hs.length xs):ye6 (zW7 n r lim hs xs) n r lim hs xs:=by
 have g:=zB7 (n:=n) (by have:=ok.n1;omega) (by have:=ok.n2;omega);have j:=zB7 (n:=r) (by have:=ok.r1;omega) (by have:=ok.r2;omega);have k:=zB7 (n:=lim) ok.l1 ok.l2;have row:∀i w,(List.zipWith wRow hs xs)[i]?=some w->∃h x,hs[i]?=some h/\xs[i]?=some x/\w=wRow h x/\(1<=h/\h<=20)/\(-4<=x/\x<=4):=λi w a=>by
   rw[List.getElem?_zipWith] at a;cases d:hs[i]? with
   | none=>rw[d] at a;simp at a
   | some h =>
     cases e:xs[i]? with
     | none=>rw[d,e] at a;simp at a
     | some x =>
       rw[d,e] at a;injection a with a
       have b:=f.on x (Qt e);exact⟨h,x,by first | rfl | exact d,by first | rfl | exact e,a.symm,ok.h h (Qt d),by have:=ok.n2;omega⟩
 have t:Txt.split (zW7 n r lim hs xs) (Str.ofString "\n")=zW6 n r lim hs xs:=by
   unfold zW7;rw[yq0];refine zx0 (by unfold zW6 zo3;simp) λw c=>?_
   rcases QB.mp c with c | c
   . unfold zo3 at c
     simp only[Qq,QS,or_false] at c;rcases c with rfl | rfl | rfl
     . exact zD4 (by decide) g.2.2
     . exact zD4 (by decide) j.2.2
     . exact zD4 (by decide) k.2.2
   . obtain⟨i,a⟩:=List.getElem?_of_mem c
     obtain⟨h,x,_,_,rfl,⟨u,v⟩,l,m⟩:=row i w a;exact zD4 (zD4 (zD4 (by decide) (zB7 (by omega) (by omega)).2.2) (by decide)) (zT0 l m).2.2
 refine⟨⟨_,_,_,List.zipWith wRow hs xs,sI n,sI r,sI lim,t,?_,?_,?_,g.1,j.1,k.1,?_,f.len,?_⟩⟩
 . rw[show Str.ofString "notches " = Str.ofString "notches"++⟨#[32]⟩ by decide,zJ7]
   exact yd9 (by decide) g.2.1
 . rw[show Str.ofString "room " = Str.ofString "room"++⟨#[32]⟩ by decide,zJ7]
   exact yd9 (by decide) j.2.1
 . rw[show Str.ofString "limit " = Str.ofString "limit"++⟨#[32]⟩ by decide,zJ7]
   exact yd9 (by decide) k.2.1
 . rw[ZC,f.len,Nat.min_self]
 . intro i w h x c y z
   obtain⟨A,B,o,p,rfl,⟨u,v⟩,l,m⟩:=row i w c;rw[y] at o;rw[z] at p;cases o;cases p;have q:=zB7 (n:=h) (by omega) (by omega);have s:=zT0 l m;refine⟨sI h,zd7 x,?_,q.1,s.1⟩;unfold wRow;rw[show Str.ofString "weight " = Str.ofString "weight"++⟨#[32]⟩ by decide,zJ7];exact split3 (by decide) q.2.1 s.2.1
theorem zX1 {a:List Str} (h:∀w∈a,w.length<=40) (c:a.length<=8):(Txt.join (Str.ofString "\n") a).length<=400:=by
 have:=size_glued (Str.ofString "\n") a;have b:(Str.ofString "\n").length=1:=by decide
 have d:=sum_le h;rw[b] at this;show(Builtin.Str.glued (Str.ofString "\n") a).length<=400;omega
theorem due0 (n r lim:Int):(((((Str.ofString "notches "++sI n)++Str.ofString "\nroom ")++sI r)++Str.ofString "\nlimit ")++sI lim)=Txt.join (Str.ofString "\n") (zo3 n r lim):=by
 show _=Builtin.Str.glued _ _;rw[StrLaws.glued_eq_join,yq0];refine zp0 ?_;unfold zo3;rw[zq2,zq2];show _=_++10::(_++10::(Str.ofString "limit "++sI lim).cps.toList);have a:(Str.ofString "\nroom ").cps.toList=10::(Str.ofString "room ").cps.toList:=by decide
 have b:(Str.ofString "\nlimit ").cps.toList=10::(Str.ofString "limit ").cps.toList:=by decide
 simp only[zj9,a,b];simp
theorem due1 (z:Str) (h x:Int):((((z++Str.ofString "\nweight ")++sI h)++Str.ofString " ")++zd7 x)=(z++Str.ofString "\n")++wRow h x:=by
 refine zp0 ?_;unfold wRow;have a:(Str.ofString "\nweight ").cps.toList=(Str.ofString "\n").cps.toList++(Str.ofString "weight ").cps.toList:=by decide
 simp only[zj9,a,QU]
theorem use_finW {R:Str->Hp->Prop}{S:Str->Hp->Prop}{G:Prop}(a:(∀z o,S z o->R z o)->G)(b:∀z o,S z o->R z o):G:=a b
theorem wMove_eq (k u q:Int):(((sI k++Str.ofString " ")++zd7 u)++Str.ofString " ")++zd7 q=zo2 k u q:=by
 refine zp0 ?_;show _=(Builtin.Str.glued _ _).cps.toList;rw[StrLaws.glued_eq_join];show _=(Str.join (Str.ofString " ") [sI k,zd7 u,zd7 q]).cps.toList;simp only[Str.join,zj9,QU]
def sp_w_move_text (K:W.Frag)(t:Adr):Sp:=λvs H Q _=>∃(mv:Addr) (k u q:Int),vs=[.ref mv]/\H mv=some (.tup [.int k,.int u,.int q])/\((-99<=k/\k<=99)/\(-99<=u/\u<=99)/\(-99<=q/\q<=99))/\Q (.str (zo2 k u q)) H
def sp_w_lean (K:W.Frag)(t:Adr):Sp:=λvs H Q _=>∃(h a:Addr) (n r lim:Int) (hs xs:List Int),vs=[.ref h,.ref a]/\SqL K H h (hs.map V.int)/\H a=some (.tup (xs.map V.int))/\zg6 n r hs lim/\zd0 n r hs.length xs/\∀H',Same H H'->Q (.str (zw2 hs xs)) H'
def sp_w_goal (K:W.Frag)(t:Adr):Sp:=λvs H Q _=>∃(a:Addr) (n r:Int) (w:Nat) (xs:List Int),vs=[.ref a]/\H a=some (.tup (xs.map V.int))/\zd0 n r w xs/\n<=4/\w<=5/\∀H',Same H H'->Q (.str (zB5 xs)) H'
def sp_w_text (K:W.Frag)(t:Adr):Sp:=λvs H Q _=>∃(sc a:Addr) (n r lim:Int) (hs xs:List Int),vs=[.ref sc,.ref a]/\zn2 K H sc n r hs lim/\H a=some (.tup (xs.map V.int))/\zd0 n r hs.length xs/\Q (.str (zW7 n r lim hs xs)) H
theorem zB8 (T:Txt K mg t):FnOk P w K mg base CX0 2 t.a1 t.a2 Ps (sp_w_move_text K t):=by
 refine T.aN.F.ok sc_w_move_text (λe H Q E h=>?_) (λp A o s H e Q E d h=>?_)
 . obtain⟨a,k,u,b,rfl,c,⟨⟨f,g⟩,⟨i,j⟩,l,m⟩,q⟩:=h
   rfl
 . obtain⟨a,k,u,b,rfl,c,⟨⟨f,g⟩,⟨i,j⟩,l,m⟩,q⟩:=h
   refine⟨_,(za5 (zb2 (zb4 zd5 (zb4 zd5 (zb4 zd5 (zb4 zd5 (ze0 zg2 rfl T.ay Zb (za0 (zc2 ze7 P0 za2 (λ_ _=>rfl)) za1)) zd1) (za6 (zI5 T) d.m T.aQ zb1 (za0 (zc2 ze7 P0 za2 (λ_ _=>rfl)) za1))) zd1) (za6 (zI5 T) d.m T.aQ zb1 (za0 (zc2 ze7 P0 za2 (λ_ _=>rfl)) za1))))),?_⟩;have v:=zD2 (n:=k) (by omega) (by omega);have y:=zn8 (x:=u) (by omega) (by omega);have z:=zn8 (x:=b) (by omega) (by omega);have B:(Str.ofString " ").length=1:=by decide
   have r:sizeLine=16777216:=by decide
   rw[<-wMove_eq] at q;refine⟨_,rfl,a,_,_,_,rfl,rfl,SqT.of c,at_0,k,rfl,zi7 (by omega),_,_,rfl,rfl,(by show(sI k).length+(Str.ofString " ").length<=sizeLine;omega),?_⟩;refine⟨_,rfl,a,_,_,_,rfl,rfl,SqT.of c,at_1,u,rfl,by omega,_,_,rfl,rfl,(by show(sI k++Str.ofString " ").length+(zd7 u).length<=sizeLine;rw[zd4];omega),_,_,rfl,rfl,(by show((sI k++Str.ofString " ")++zd7 u).length+(Str.ofString " ").length<=sizeLine;rw[zd4,zd4];omega),?_⟩;exact⟨_,rfl,a,_,_,_,rfl,rfl,SqT.of c,at_2,b,rfl,by omega,_,_,rfl,rfl,(by show(((sI k++Str.ofString " ")++zd7 u)++Str.ofString " ").length+(zd7 b).length<=sizeLine;rw[zd4,zd4,zd4];omega),q⟩
theorem ok_w_lean (T:Txt K mg t):FnOk P w K mg base CX0 2 t.ci t.cj Pj (sp_w_lean K t):=by
 refine T.bY.F.ok zC6 (λD H Q E h=>?_) (λL a0 J a1 H D Q E F h=>?_)
 . obtain⟨h,a,n,r,B,c,d,rfl,u,v,ok,j,q⟩:=h
   rfl
 . obtain⟨h,a,n,r,B,c,d,rfl,u,v,ok,j,q⟩:=h
   refine⟨_,(za3 (zb7 (i:=2) zC6.nd rfl (Or.inl rfl) (za6 (zw4 T) F.m T.aD zb1 (za0 P0 (za0 P1 za1))))
     (za3 (zb7 (i:=3) zC6.nd rfl (Or.inl rfl) zd1)
     (za3 (zc7 (zb9 zl4 P2 za2 (zc1 _)) (za5 (zb7 (i:=3) zC6.nd rfl (Or.inl rfl) (zc2 zc3 (zg0 (za0 zd1 (za0 zd1 za1))) (ze0 call_int1 rfl T.b8 PyProof.Rows.boot_int (za0 (zj8 zy4 P2 za2 (zc1 _)) za1)) (λ_ _=>rfl)))) zb3)
     (za5 (zb2 (zb4 zd5 (zb4 zd5 (zb4 zd5 zd1 (ze0 zg2 rfl T.ay Zb (za0 P2 za1))) zd1) P3)))))),?_⟩
   refine cut4 ?_;intro M N O;have W:=ok.w;have A:=j.len;have x:=(zN2 ok j).1
   have y:-9999<=zc6 c d/\zc6 c d<=9999:=by unfold absI at x;split at x<;>omega
   have X:=zD2 y.1 y.2;have Y:=yd5 (zc6 c d);have Z:(Str.ofString "tilt ").length=5:=by decide
   have e2:(Str.ofString " ").length=1:=by decide
   have U:sizeLine=16777216:=by decide
   unfold zw2 at q;refine⟨_,rfl,_,rfl,h,a,c,d,rfl,u,.inr (SqT.of v),⟨A.symm,by omega,ok.h⟩,_,rfl,rfl,_,rfl,?_⟩;rw[ze9];generalize zc6 c d=b at *;refine use_finW (R:=?R) (S:=λz G=>Same H G/\z=zs5 b) (λfin=>?main) ?fin
   case main =>
     refine ite2 (λk=>?_) (λk=>?_)
     . have s:b≠0:=by simpa using k
       refine⟨(by show 2<=sizeLine;decide),λl f=>?_⟩;have e:Same H (upd H l (.lst [.str (Str.ofString "left"),.str (Str.ofString "right")])):=Same.upd f;have m:(upd H l (.lst [.str (Str.ofString "left"),.str (Str.ofString "right")])) l=some (.lst [.str (Str.ofString "left"),.str (Str.ofString "right")]):=za4;dsimp only;revert e m;generalize upd H l (.lst [.str (Str.ofString "left"),.str (Str.ofString "right")])=o;intro e m;obtain⟨g,I,C⟩:∃g:Str,atI [V.str (Str.ofString "left"),V.str (Str.ofString "right")] (if decide (0<b)=true then 1 else 0)=some (.str g)/\g=zs5 b:=by
         by_cases p:0<b
         . rw[Qg p]
           exact⟨_,rfl,by unfold zs5;rw[Qh (by omega),Qo p]⟩
         . rw[Qf p]
           exact⟨_,rfl,by unfold zs5;rw[Qo (by omega)]⟩
       refine⟨_,rfl,_,_,rfl,rfl,.inr ⟨_,rfl,l,_,_,_,rfl,rfl,SqL.of m,I,?_⟩⟩
       try dsimp only[List.set]
       exact fin g o ⟨e,C⟩
     . have s:b=0:=by simpa using k
       exact fin (Str.ofString "level") H ⟨Same.refl _,by rw[s];rfl⟩
   rintro z o ⟨e,rfl⟩;exact⟨_,rfl,b,rfl,zi7 (by omega),_,_,rfl,rfl,(by show(Str.ofString "tilt ").length+(sI b).length<=sizeLine;omega),_,_,rfl,rfl,(by show(Str.ofString "tilt "++sI b).length+(Str.ofString " ").length<=sizeLine;rw[zd4];omega),_,rfl,_,_,rfl,rfl,(by show((Str.ofString "tilt "++sI b)++Str.ofString " ").length+(zs5 b).length<=sizeLine;rw[zd4,zd4];omega),q o e⟩
theorem ok_w_goal (T:Txt K mg t):FnOk P w K mg base CX0 2 t.cg t.ch Pr (sp_w_goal K t):=by
 refine T.bX.F.ok sc_w_goal (λl H Q E h=>?_) (λF A C s H l Q E m h=>?_)
 . obtain⟨a,n,r,w,b,rfl,c,d,j,o,q⟩:=h
   rfl
 . obtain⟨a,n,r,w,b,rfl,c,d,j,o,q⟩:=h
   refine⟨_,(za3 (zc7 (zb9 zg3 (zb5 zb8 rfl T.ac Qr (za0 P0 za1)) za2 (zc1 _)) (za5 (zb2 zd1)) zb3)
     (za5 (zb2 (zl1 Zl PySem.F.slot_str_join PySem.F.type_str_join zY5 zd1 (za0 (zo0 rfl zL8 (zX3 P0) (λ_ _ _ _ _=>(zc4 (i:=0) zL8.nd rfl (Or.inl rfl))) (λ_ _ _ _ _=>zk5) (λ_ _ _ _ _=>(za6 (zI5 T) m.m T.aQ zb1 (za0 P0 za1)))) za1))))),?_⟩
   have G:=d.len;refine⟨_,rfl,a,_,rfl,.inr (SqT.of c),rfl,_,rfl,?_⟩;unfold zB5 at q;refine ite2 (λg=>?_) (λg=>?_)
   . have e:b=[]:=by
       rw[Qa] at g;have I:((b.length:Nat):Int)=0:=by simpa using g
       exact Qy (by omega)
     rw[Qo e] at q;exact q _ (Same.refl _)
   . have e:b≠[]:=λe=>g (by rw[e];rfl)
     rw[Qh e] at q;refine⟨rfl,_,rfl,a,rfl,⟨_,SqT.of c⟩,λD k=>?_⟩;refine ya7 (f:=λv=>match v with | .int z=>V.str (zd7 z) | v=>v) (SqT.of c) k (by rw[Qa];exact zw0 (by omega)) (λx J R p h=>?_) ?_
     . obtain⟨z,u,rfl⟩:=QN.mp p
       obtain⟨L,M⟩:=d.on z u;exact⟨_,rfl,z,rfl,by omega,h⟩
     . have y:(b.map V.int).map (λv=>match v with | .int z=>V.str (zd7 z) | v=>v)=(b.map zd7).map V.str:=by
         rw[Zn,Zn];rfl
       refine⟨_,D,b.map zd7,rfl,rfl,SqL.of (by rw[za4,y]),?_,q _ (Same.upd k)⟩;have:=zB6 d.on j;have B:(Str.ofString " ").length=1:=by decide
       rw[B,Qa];omega
theorem ok_w_text (T:Txt K mg t):FnOk P w K mg base CX0 2 t.ce t.cf Pk (sp_w_text K t):=by
 refine T.bW.F.ok zC5 (λC H Q E h=>?_) (λS a0 R a1 H C Q E D h=>?_)
 . obtain⟨e,a,n,r,d,b,c,rfl,⟨h,ok,f,v⟩,k,j,q⟩:=h
   rfl
 . obtain⟨e,a,n,r,d,b,c,rfl,⟨h,ok,f,v⟩,k,j,q⟩:=h
   refine⟨_,(za3 (zb7 (i:=2) zC5.nd rfl (Or.inl rfl) (zb4 zd5 (zb4 zd5 (zb4 zd5 (zb4 zd5 (zb4 zd5 zd1 (ze0 zg2 rfl T.ay Zb (za0 (zc2 zc3 P0 za2 (λ_ _=>rfl)) za1))) zd1) (ze0 zg2 rfl T.ay Zb (za0 (zc2 zc3 P0 za2 (λ_ _=>rfl)) za1))) zd1) (ze0 zg2 rfl T.ay Zb (za0 (zc2 zc3 P0 za2 (λ_ _=>rfl)) za1))))
     (za3 (zh7 PassesOwn.never rfl (zh9 rfl T.ai (za0 (zb5 zb8 rfl T.ac Qr (za0 P1 za1)) za1)) (zc4 (i:=3) zC5.nd rfl (Or.inl rfl)) (za5 (zb7 (i:=2) zC5.nd rfl (Or.inl rfl) (zb4 zd5 (zb4 zd5 (zb4 zd5 (zb4 zd5 P2 zd1) (ze0 zg2 rfl T.ay Zb (za0 (zc2 zc3 (zc2 zc3 P0 za2 (λ_ _=>rfl)) P3 (λ_ _=>rfl)) za1))) zd1) (za6 (zI5 T) D.m T.aQ zb1 (za0 (zc2 ze7 P1 P3 (λ_ _=>rfl)) za1))))))
     (za5 (zb2 P2)))),?_⟩
   refine cut3 ?_;intro U W;have X:=ok.w;have Y:=j.len;have Z:sizeLine=16777216:=by decide
   have e1:(Str.ofString "notches ").length=8:=by decide
   have e2:(Str.ofString "\nroom ").length=6:=by decide
   have e3:(Str.ofString "\nlimit ").length=7:=by decide
   have e4:(Str.ofString "\nweight ").length=8:=by decide
   have e5:(Str.ofString " ").length=1:=by decide
   have i1:=zt7 (n:=n) (by have:=ok.n1;omega) (by have:=ok.n2;omega);have i2:=zt7 (n:=r) (by have:=ok.r1;omega) (by have:=ok.r2;omega);have i3:=zt7 (n:=d) ok.l1 (by have:=ok.l2;omega);have o1:=ok.n1;have F:=ok.n2;have o3:=ok.r1;have o4:=ok.r2;have o5:=ok.l1;have o6:=ok.l2;refine⟨_,rfl,e,_,_,_,rfl,rfl,f,rfl,n,rfl,zi7 (by omega),_,_,rfl,rfl,(by show(Str.ofString "notches ").length+(sI n).length<=sizeLine;omega),_,_,rfl,rfl,(by show(Str.ofString "notches "++sI n).length+(Str.ofString "\nroom ").length<=sizeLine;rw[zd4];omega),?_⟩;refine⟨_,rfl,e,_,_,_,rfl,rfl,f,rfl,r,rfl,zi7 (by omega),_,_,rfl,rfl,(by show((Str.ofString "notches "++sI n)++Str.ofString "\nroom ").length+(sI r).length<=sizeLine;rw[zd4,zd4];omega),_,_,rfl,rfl,(by show(((Str.ofString "notches "++sI n)++Str.ofString "\nroom ")++sI r).length+(Str.ofString "\nlimit ").length<=sizeLine;rw[zd4,zd4,zd4];omega),?_⟩;refine⟨_,rfl,e,_,_,_,rfl,rfl,f,rfl,d,rfl,zi7 (by omega),_,_,rfl,rfl,(by show((((Str.ofString "notches "++sI n)++Str.ofString "\nroom ")++sI r)++Str.ofString "\nlimit ").length+(sI d).length<=sizeLine;rw[zd4,zd4,zd4,zd4];omega),?_⟩;have G:=due0 n r d;refine⟨_,rfl,a,_,rfl,.inr (SqT.of k),?_⟩;rw[Qa];refine⟨_,rfl,by omega,by omega,zh1 (n:=((c.length:Nat):Int).toNat) (λi u l=>X1 λm=>A2 (u=[some (.ref e),some (.ref a),some (.str (Txt.join (Str.ofString "\n") (zo3 n r d++(List.zipWith wRow b c).take i))),m]) (l=H)) ⟨none,?_,rfl⟩ ?_ ?_⟩
   . rw[List.take_zero,Zt,<-G]
     rfl
   . rintro i u l I ⟨m,rfl,rfl⟩
     have A:i<c.length:=by simpa using I
     have B:i<b.length:=by omega
     have o:b[i]?=some b[i]:=Qe B;have p:c[i]?=some c[i]:=Qe A;have x:(0:Int)+(i:Int)=(i:Int):=by omega
     have J:atI (b.map V.int) (0+(i:Int))=some (.int b[i]):=by rw[x];exact zw9 o
     have L:atI (c.map V.int) (0+(i:Int))=some (.int c[i]):=by rw[x];exact zw9 p
     obtain⟨u1,u2⟩:=ok.h b[i] (Qt o);obtain⟨M,N⟩:=j.on c[i] (Qt p);have j1:=zt7 (n:=b[i]) (by omega) (by omega);have j2:=zF3 M N F;have y:(Txt.join (Str.ofString "\n") (zo3 n r d++(List.zipWith wRow b c).take i)).length<=400:=by
       refine zX1 (λw g=>zW8 ok j w ?_) ?_
       . rcases QB.mp g with g | g
         . exact ZF _ g
         . exact QK _ (List.mem_of_mem_take g)
       . rw[Qi,QT,ZC]
         show 3+_<=8;omega
     have s:((((Txt.join (Str.ofString "\n") (zo3 n r d++(List.zipWith wRow b c).take i)++Str.ofString "\nweight ")++sI b[i])++Str.ofString " ")++zd7 c[i])=Txt.join (Str.ofString "\n") (zo3 n r d++(List.zipWith wRow b c).take (i+1)):=by
       rw[due1,<-join_snoc _ (by unfold zo3;simp),QP,List.getElem?_zipWith,o,p,QU];rfl
     revert y s;generalize Txt.join (Str.ofString "\n") (zo3 n r d++(List.zipWith wRow b c).take i)=z;generalize Txt.join (Str.ofString "\n") (zo3 n r d++(List.zipWith wRow b c).take (i+1))=z';intro y s;refine⟨_,rfl,_,_,rfl,rfl,(by omega),?_⟩;refine⟨_,rfl,e,_,_,_,rfl,rfl,f,rfl,_,rfl,h,_,_,_,rfl,rfl,v,J,b[i],rfl,zi7 (by omega),_,_,rfl,rfl,(by show(z++Str.ofString "\nweight ").length+(sI b[i]).length<=sizeLine;rw[zd4];omega),?_⟩;refine⟨_,_,rfl,rfl,(by show((z++Str.ofString "\nweight ")++sI b[i]).length+(Str.ofString " ").length<=sizeLine;rw[zd4,zd4];omega),?_⟩;refine⟨_,rfl,_,rfl,a,_,_,_,rfl,rfl,SqT.of k,L,c[i],rfl,(by omega),_,_,rfl,rfl,(by show(((z++Str.ofString "\nweight ")++sI b[i])++Str.ofString " ").length+(zd7 c[i]).length<=sizeLine;rw[zd4,zd4,zd4];omega),?_⟩;subst s;exact⟨_,rfl,rfl⟩
   . rintro u l ⟨m,rfl,rfl⟩
     have O:(List.zipWith wRow b c).take ((c.length:Nat):Int).toNat=List.zipWith wRow b c:=by
       refine Zd ?_;rw[ZC,Zi];omega
     rw[O];exact⟨_,rfl,q⟩
end
section
variable {P:Program} {w:World} {K:W.Frag} {mg:Str->Option Value} {base:Heap} {t:Adr}
theorem zE6.len {n r lim:Int}{hs c c':List Int}{es es':List (List Int×Nat×Int)}{d:Dd}{z:Str}(h:zE6 n r lim hs c es d c' es' z)(a:es.length<=300):es'.length<=300:=by
 rcases h with h | ⟨_,rfl,rfl,_⟩
 . cases h<;>simp_all<;>omega
 . exact a
structure Runs (n r lim:Int)(hs s:List Int)(xs:List (Dd×Str))(st:Nat->List Int×List (List Int×Nat×Int)):Prop where
 zero:st 0=(s,[])
 step:∀(k:Nat) (x:Dd×Str),xs[k]?=some x->zE6 n r lim hs (st k).1 (st k).2 x.1 (st (k+1)).1 (st (k+1)).2 x.2
 ok:∀x∈xs,ddOk x.1
theorem Runs.lens {n r lim:Int}{hs s:List Int}{xs:List (Dd×Str)}{st:Nat->List Int×List (List Int×Nat×Int)}(R:Runs n r lim hs s xs st):∀k,k<=xs.length->(st k).2.length<=300
 | 0,_=>by rw[R.zero];exact QD _
 | k+1,h=>by
   exact(R.step k _ (Qe (by omega))).len (R.lens k (by omega))
theorem Runs.snoc {n r lim:Int}{hs s:List Int}{xs:List (Dd×Str)}{st:Nat->List Int×List (List Int×Nat×Int)}(R:Runs n r lim hs s xs st){d:Dd}{z:Str}{c':List Int}{es':List (List Int×Nat×Int)}(h:zE6 n r lim hs (st xs.length).1 (st xs.length).2 d c' es' z)(f:ddOk d) :
   Runs n r lim hs s (xs++[(d,z)]) (λk=>if k<=xs.length then st k else(c',es')):=by
 refine⟨by show(if 0<=xs.length then st 0 else _)=_;rw[Qo (QD _)];exact R.zero,λk x a=>?_,λx a=>?_⟩
 . by_cases b:k<xs.length
   . rw[Zj b] at a
     have:=R.step k x a;show zE6 n r lim hs (if k<=xs.length then st k else _).1 (if k<=xs.length then st k else _).2 x.1 (if k+1<=xs.length then st (k+1) else _).1 (if k+1<=xs.length then st (k+1) else _).2 x.2;rw[Qo (by omega),Qo (by omega)];exact this
   . rw[QG (by omega)] at a
     have c:k=xs.length:=by
       rcases Nat.eq_or_lt_of_le (Nat.not_lt.mp b) with e | e
       . exact e.symm
       . rw[Zf (by rw[Zq];omega)] at a;cases a
     subst c;rw[Nat.sub_self] at a;cases a;show zE6 n r lim hs (if xs.length<=xs.length then st xs.length else _).1 (if xs.length<=xs.length then st xs.length else _).2 d (if xs.length+1<=xs.length then st (xs.length+1) else _).1 (if xs.length+1<=xs.length then st (xs.length+1) else _).2 z;rw[Qo (Qj _),Qh (by omega)];exact h
 . rcases QB.mp a with h | h
   . exact R.ok x h
   . rw[QI.mp h];exact f
def sp_answers (K:W.Frag)(t:Adr):Sp:=λvs H Q _=>∃(z:Str) (l:Addr) (n r lim:Int) (hs s:List Int) (xs:List (Dd×Str)) (st:Nat->List Int×List (List Int×Nat×Int)),vs=[.str z,.ref l]/\z.length<=1000000/\ye6 z n r lim hs s/\zg6 n r hs lim/\zd0 n r hs.length s/\absI (zc6 hs s)<=lim/\H l=some (.lst (xs.map λx=>.str (zy7 x.1)))/\xs.length<=900/\Runs n r lim hs s xs st ∧
 ∀o H',Same H H'->H' o=some (.lst (xs.map λx=>.str x.2))->Q (.ref o) H'
theorem ok_answers (T:Txt K mg t):FnOk P w K mg base CX0 11 t.bD t.bE Vp (sp_answers K t):=by
 refine T.bH.F.ok zs4 (λvs H aj ak h=>?_) (λao A am s H vs aj ak O h=>?_)
 . obtain⟨z,l,n,r,j,q,s,xs,f,rfl,hz,RB,ok,u,ks,Q,ab,R,a7⟩:=h
   rfl
 . obtain⟨z,l,n,r,j,q,s,xs,f,rfl,hz,RB,ok,u,ks,Q,ab,R,a7⟩:=h
   refine⟨_,(za3 (zb7 (i:=2) zs4.nd rfl (Or.inl rfl) (za6 (ok_read_beam T) O.m T.bs zb1 (za0 P0 za1)))
     (za3 (zb7 (i:=3) zs4.nd rfl (Or.inl rfl) (zF4 T.cd (zI3 T) O.m rfl T.cp T.aT.b .nil zb1 (za0 (zc2 ze7 P2 za2 (λ_ _=>rfl)) (za0 (zc2 ze7 P2 za2 (λ_ _=>rfl)) za1))))
     (za3 (zb7 (i:=4) zs4.nd rfl (Or.inl rfl) (zg0 za1))
     (za3 (zh7 PassesOwn.never rfl (zi8 P1) (zc4 (i:=5) zs4.nd rfl (Or.inl rfl)) (za5 (ze2 (zl1 QC QM QL zi0 (pv 4) (za0 (za6 (ok_answer T) O.m T.bP zb1 (za0 P3 (za0 (pv 5) za1))) za1)))))
     (za5 (zb2 (pv 4))))))),?_⟩
   refine cut5 ?_;intro ap aq ar au;refine⟨_,rfl,z,n,r,j,q,s,rfl,hz,RB,ok,u,λS b pl E U a8 hp a1=>?_⟩;refine⟨_,rfl,S,_,_,_,rfl,rfl,SqT.of a1,at_0,_,rfl,S,_,_,_,rfl,rfl,SqT.of a1,at_1,λp d W ac ad=>?_⟩;have g:Same E (upd (upd E d (.own p)) p (.ins t.aa d [])):=(Same.upd ac).updT (by rw[za8 (Ne.symm ad)];exact W);have N:(upd (upd E d (.own p)) p (.ins t.aa d [])) p=some (.ins t.aa d []):=za4;revert g N;generalize upd (upd E d (.own p)) p (.ins t.aa d [])=H3;intro g N;have ae:b≠p:=λz=>by obtain⟨_,_,_,hb,_⟩:=a8;rw[z,W] at hb;cases hb
   refine⟨p,b,pl,d,n,r,j,q,s,rfl,N,ae,a8.same g,u,.inr (g _ _ hp),ks,λv X m x4 af Y=>⟨rfl,?_⟩⟩;have a2:H p=none:=U.free W;have ag:H m=none:=U.free (g.free af);have a3:Same H v:=λal a9 e=>x4 al a9 (g _ _ (U _ _ e)) (za9 e a2)
   refine⟨QD _,λc D=>?_⟩;have a4:c≠m:=(za9 Y.hm D).symm;have ah:c≠p:=(let⟨d,z⟩:=Y.hp;za9 z D).symm;have aa:H c=none:=a3.free D;have F:Same v (upd v c (.lst [])):=Same.upd D;have M:(upd v c (.lst [])) c=some (.lst []):=za4;dsimp only;revert F M;generalize upd v c (.lst [])=H5;intro F M;have a5:=a3.trans F;refine⟨_,rfl,l,rfl,⟨_,SqL.of (a5 _ _ Q)⟩,zp8 (K:=K) (a:=l) (xs:=xs.map λx=>V.str (zy7 x.1)) (λi L G=>X3 λZ x I=>A4 (L=[some (.str z),some (.ref l),some (.ref S),some (.ref p),some (.ref c),Z]) (Same H G) (At29 t G p b X x m n r j q s (f i).1 I (f i).2) (G c=some (.lst ((xs.take i).map λx=>V.str x.2)))) ⟨none,X,[],rfl,a5,⟨by rw[R.zero];exact Y.same F,by rw[R.zero];rfl,u⟩,M⟩ (λi L G _ ⟨_,_,_,_,B,_,_⟩=>SqL.of (B _ _ Q)) ?_ ?_⟩
   . rintro k aw L H6 C ⟨Z,x,I,rfl,B,A,o⟩
     rw[QQ] at C;cases e:xs[k]? with
     | none=>rw[e] at C;cases C
     | some y =>
       rw[e] at C;cases C;have av:k<xs.length:=(QX.mp e).1;have an:=R.lens k (by omega);have a6:=R.step k y e;refine⟨_,rfl,.inl ⟨rfl,_,SqL.of o⟩,_,rfl,_,rfl,p,b,X,x,m,n,r,j,q,s,(f k).1,I,(f k).2,y.1,(f (k+1)).1,(f (k+1)).2,y.2,rfl,A,R.ok y (Qt e),by omega,a6,λx' ai H7 s7 P7=>?_⟩;have a0:H7 c=some (.lst ((xs.take k).map λx=>V.str x.2)):=s7 _ _ o ah a4;refine⟨c,_,_,rfl,rfl,a0,zc5 (by rw[Qa,QT];omega),?_⟩;refine⟨_,x',ai,rfl,λa a9 J=>?_,⟨P7.updL a0 a4,a6.ch A.ch,u⟩,?_⟩
       . rw[za8 (za9 J aa)]
         exact s7 _ _ (B _ _ J) (za9 J a2) (za9 J ag)
       . rw[za4,QP,e,Qk]
         rfl
   . rintro L H6 ⟨Z,x,I,rfl,B,A,o⟩
     rw[Qa,QR] at o;exact⟨_,rfl,a7 c H6 B o⟩
end
section
variable {P:Program} {w:World} {K:W.Frag} {mg:Str->Option Value} {base:Heap} {t:Adr}
structure DI (t:Adr)(H:Hp)(p b s0 x m md:Addr)(n r lim:Int)(hs s c:List Int)(ys yd:List V)(es:List (List Int×Nat×Int)):Prop where
 pl:zf8 t H p b s0 x m n r hs lim s c ys (zf4 es)
 hmd:H md=some (.lst yd)
 td:Tups H yd (zf4 es)
 ch:Ch n r hs lim s es c
def sp_w_fits (K:W.Frag)(t:Adr):Sp:=λvs H Q _=>∃(p nw md b s0 x m:Addr) (n r lim:Int) (hs s c:List Int) (ys yd:List V) (es:List (List Int×Nat×Int)),vs=[.ref p,.ref nw,.ref md]/\DI t H p b s0 x m md n r lim hs s c ys yd es/\H nw=some (.tup (c.map V.int))/\c.length<=1000/\es.length<=300/\∀H',Same H H'->Q (.bl true) H'
theorem zD5 (T:Txt K mg t):FnOk P w K mg base CX0 4 t.co t.cp Ve (sp_w_fits K t):=by
 refine T.aL.F.ok sc_w_fits (λG H Q E h=>?_) (λM A L s H G Q E f h=>?_)
 . obtain⟨p,o,u,b,y,x,m,n,r,k,z,s,c,a,B,d,rfl,I,C,l,F,q⟩:=h
   rfl
 . obtain⟨p,o,u,b,y,x,m,n,r,k,z,s,c,a,B,d,rfl,I,C,l,F,q⟩:=h
   refine⟨_,(za3 (zc7 (PW.pt (zj5 (zd9 (zc9 (zb5 zh3 rfl T.ad Qx (za0 (zd3 P0 rfl) (za0 (zk7 (v:=.ty "tuple") rfl T.aq QV rfl) za1))))) (zi5 (zd9 (zc9 (za6 (zw3 T) f.m T.aE zb1 (za0 (zd3 P0 rfl) (za0 P1 za1)))))))) (za5 (zb2 zg9)) zb3)
     (za5 (zb2 (za6 (ok_w_same_rows T) f.m T.be zb1 (za0 (zN9 P0 T.aa T.ck (ok_Play_trail T) f.m T.bi.b .nil zb1) (za0 P2 za1)))))),?_⟩
   have g:=I.pl;obtain⟨i,j⟩:=g.hp;refine⟨_,rfl,p,_,i,_,_,rfl,j,T.aa,T.ab,zh0 _ _ _ _,_,_,_,_,_,rfl,.ty _,.tup g.hx,rfl,_,rfl,iteF ?_⟩;refine⟨_,rfl,p,_,i,_,_,rfl,j,T.aa,T.ab,zh0 _ _ _ _,_,rfl,x,o,c,c,rfl,.inr (SqT.of g.hx),.inr (SqT.of C),l,?_⟩;rw[Qg rfl];refine⟨_,rfl,iteF ?_⟩;refine⟨_,rfl,p,i,_,rfl,j,pf_trail _ _ _ _,p,b,y,x,m,n,r,k,z,s,c,a,zf4 d,rfl,I.pl,λD J=>?_⟩;have e:Same H (upd H D (.lst a)):=Same.upd J;refine⟨_,rfl,D,u,a,B,zf4 d,zf4 d,rfl,za4,e.tups I.pl.tm,e _ _ I.hmd,e.tups I.td,by rw[zg5];omega,rowsE_mem,?_⟩;rw[Qg rfl];exact q _ e
def sp_w_full (K:W.Frag)(t:Adr):Sp:=λvs H Q _=>∃(p mv b s x m:Addr) (n r lim:Int) (hs a c:List Int) (ys:List V) (ms:List (List Int)),vs=[.ref p,.ref mv]/\zf8 t H p b s x m n r hs lim a c ys ms/\zd0 n r hs.length c/\ys.length=300/\∀H',Same H H'->Q (.bl true) H'
theorem zX2 (T:Txt K mg t):FnOk P w K mg base CX0 8 t.cm t.cn PZ (sp_w_full K t):=by
 refine T.bn.F.ok sc_w_full (λy H Q E h=>?_) (λL A J s H y Q E z h=>?_)
 . obtain⟨p,i,b,s,x,m,n,r,f,j,a,c,k,l,rfl,d,o,u,q⟩:=h
   rfl
 . obtain⟨p,i,b,s,x,m,n,r,f,j,a,c,k,l,rfl,d,o,u,q⟩:=h
   refine⟨_,(za3 (yc1 (Ex:=λ_ g e B=>g = .ref t.ab/\Told H B e "play full") ⟨rfl,rfl⟩ (λ_=>(za5 (ze2 (yc0 P0 T.aa T.av (zr1 T) z.m T.ap.b .nil zz3 (za0 P1 za1))))) (.cons rfl T.a2 (by decide) (λ_=>(za5 (zb2 zg9))) .nil))
     (za5 (zb2 zg9))),?_⟩
   obtain⟨C,D⟩:=d.hp;refine⟨⟨_,rfl,p,C,_,rfl,D,zI2 _ _ _ _,_,rfl,p,i,b,s,x,m,n,r,f,0,j,a,c,k,l,0,rfl,d,o,.inl ⟨u,λe v F=>⟨rfl,F⟩⟩⟩,λM g e v G=>?_⟩;obtain⟨rfl,I,_⟩:=G;exact .inl ⟨T.bE,q v I⟩
def sp_w_refused (K:W.Frag)(t:Adr):Sp:=λvs H Q _=>∃(p b s x m:Addr) (n r lim:Int) (hs a c:List Int) (ys:List V) (ms:List (List Int)),vs=[.ref p]/\zf8 t H p b s x m n r hs lim a c ys ms/\zd0 n r hs.length c/\ys.length<300/\∀H',Same H H'->Q (.bl true) H'
theorem ok_w_refused (T:Txt K mg t):FnOk P w K mg base CX0 8 t.bs t.bt Vd (sp_w_refused K t):=by
 refine T.bv.F.ok sc_w_refused (λz H Q E h=>?_) (λN A M s H z Q E B h=>?_)
 . obtain⟨p,b,s,x,m,n,r,f,i,a,c,j,k,rfl,d,o,u,q⟩:=h
   rfl
 . obtain⟨p,b,s,x,m,n,r,f,i,a,c,j,k,rfl,d,o,u,q⟩:=h
   refine⟨_,(za3 (yc1 (Ex:=λ_ g e C=>g = .ref t.ac/\Told H C e "no weight") ⟨rfl,rfl⟩ (λ_=>(za5 (ze2 (yc0 P0 T.aa T.av (ok_Play_moveW T) B.m T.ap.b .nil zz3 (za0 (zM9 (za0 za2 (za0 za2 (za0 za2 za1)))) za1))))) (.cons rfl T.bB (by decide) (λ_=>(za5 (zb2 zg9))) .nil))
     (za5 (zb2 zg9))),?_⟩
   obtain⟨D,F⟩:=d.hp;refine⟨⟨_,rfl,p,D,_,rfl,F,zI2 _ _ _ _,(by show 3<=sizeLine;decide),λl O v R G=>⟨p,l,b,s,x,m,n,r,f,0,1,i,a,c,j,k,rfl,d.same v,o,G,u,λe y I=>⟨rfl,I.from v⟩⟩⟩,λS g e y J=>?_⟩;obtain⟨rfl,L,_⟩:=J;exact .inl ⟨T.bF,q y L⟩
end
section
variable {P:Program} {w:World} {K:W.Frag} {mg:Str->Option Value} {base:Heap} {t:Adr}
def sp_w_long (K:W.Frag)(t:Adr):Sp:=λvs H Q _=>∃(a sc st:Addr) (n r lim:Int) (hs s ns:List Int),vs=[.ref a,.ref sc,.ref st]/\SqL K H a (ns.map V.int)/\ns.length<=63/\zn2 K H sc n r hs lim/\zd0 n r hs.length s/\absI (zc6 hs s)<=lim/\H st=some (.tup (s.map V.int))/\nbs n r hs lim s≠[] ∧
 ∀l mt md zs yd es c H',Same H H'->H' l=some (.lst [.ref mt,.ref md])->H' mt=some (.lst zs)->Tups H' zs (ptsE es c)->H' md=some (.lst yd)->Tups H' yd (zf4 es)->Ch n r hs lim s es c->es.length=300->Q (.ref l) H'
structure Lo (H0 H:Hp)(mt md cl:Addr)(n r lim:Int)(hs s c:List Int)(zs yd cs:List V)(es:List (List Int×Nat×Int)):Prop where
 sm:Same H0 H
 hmt:H mt=some (.lst zs)
 tm:Tups H zs (ptsE es c)
 hmd:H md=some (.lst yd)
 td:Tups H yd (zf4 es)
 hcl:H cl=some (.lst cs)
 ch:Ch n r hs lim s es c
 nb:nbs n r hs lim c≠[]
theorem Lo.same {a H H':Hp}{b d f:Addr}{n r lim:Int}{hs s c:List Int}{zs g h:List V}{es:List (List Int×Nat×Int)}(I:Lo a H b d f n r lim hs s c zs g h es)(e:Same H H'):Lo a H' b d f n r lim hs s c zs g h es:=⟨I.sm.trans e,e _ _ I.hmt,e.tups I.tm,e _ _ I.hmd,e.tups I.td,e _ _ I.hcl,I.ch,I.nb⟩
theorem Ch.keep24 {n r:Int}{hs:List Int}{lim:Int}{s:List Int}(b:zd0 n r hs.length s)(k0:absI (zc6 hs s)<=lim):∀ {a:List (List Int×Nat×Int)} {c:List Int},Ch n r hs lim s a c->absI (zc6 hs c)<=lim
 | [],c,h=>by
   obtain rfl:c=s:=h;exact k0
 | e::a,c,⟨ec,L,ch⟩=>by
   have d:=ch.valid b;rw[ec,zS1 hs e.1 _ _ d.len.symm L.lt];exact L.behind
theorem ok_w_long (T:Txt K mg t):FnOk P w K mg base CX0 4 t.cq t.cr VA (sp_w_long K t):=by
 refine T.bZ.F.ok zn6 (λQ H b8 b9 h=>?_) (λbe bp bb s H Q b8 b9 hr h=>?_)
 . obtain⟨a0,sc,R,n,r,A,B,s,S,rfl,ha,ao,aa,V0,k0,ac,ad,ak⟩:=h
   rfl
 . obtain⟨a0,sc,R,n,r,A,B,s,S,rfl,ha,ao,aa,V0,k0,ac,ad,ak⟩:=h
   refine⟨_,(za3 (zb7 (i:=3) zn6.nd rfl (Or.inl rfl) (zt1 (za0 P2 za1)))
     (za3 (zb7 (i:=4) zn6.nd rfl (Or.inl rfl) (zt1 za1))
     (za3 (zb7 (i:=5) zn6.nd rfl (Or.inl rfl) (zb4 ze3 (za6 (zn1 T) hr.m T.ao zb1 (za0 P0 (za0 za2 za1))) za2))
     (za3 (zb7 (i:=6) zn6.nd rfl (Or.inl rfl) (zb4 zZ0 (zt1 (za0 za2 za1)) (zh2 zP6 P0 (zi9 za2) (zi9 za2))))
     (za3 (zh7 PassesOwn.never rfl (zh9 rfl T.ai (za0 za2 za1)) (zc4 (i:=7) zn6.nd rfl (Or.inl rfl)) (za3 (zb7 (i:=5) zn6.nd rfl (Or.inl rfl) (zb4 ze3 (zb4 zn3 (zb4 zf5 (zb4 zf5 (pv 5) (zc2 zc3 P6 (zb4 ze3 (pv 7) (zb5 zb8 rfl T.ac Qr (za0 P6 za1))) (λ_ _=>rfl))) (pv 7)) za2) za2))
     (za3 (zb7 (i:=8) zn6.nd rfl (Or.inl rfl) (za6 (zL3 T) hr.m T.aY zb1 (za0 P1 (za0 (zc2 zc3 P3 (zk8 zg8 za2) (λ_ _=>rfl)) (za0 (zb4 zm7 (pv 5) za2) za1)))))
     (za3 (ze2 (zl1 QC QM QL zi0 (pv 4) (za0 (pv 8) za1)))
     (za5 (ze2 (zl1 QC QM QL zi0 P3 (za0 (zb4 zt0 (zb4 zt0 (zh2 yi7 (zc2 zc3 P3 (zk8 zg8 za2) (λ_ _=>rfl)) zl0 (zi9 (zb4 zj1 (zc2 ze7 (pv 8) za2 (λ_ _=>rfl)) za2))) (zM9 (za0 (zc2 ze7 (pv 8) za2 (λ_ _=>rfl)) za1))) (zh2 yi7 (zc2 zc3 P3 (zk8 zg8 za2) (λ_ _=>rfl)) (zi9 (zc2 ze7 (pv 8) za2 (λ_ _=>rfl))) zl0)) za1))))))))
     (za5 (zb2 (zt1 (za0 P3 (za0 (pv 4) za1)))))))))),?_⟩
   refine cut6 ?_;intro bf bg bh bi bj;have hw:=(let⟨_,h,_⟩:=aa;h:zg6 n r B A).w;refine⟨_,rfl,(by show 1<=sizeLine;decide),λf H1 s1 ap a6=>⟨QD _,λa H2 s2 ae af=>?_⟩⟩;have L:=s1.trans s2;refine⟨_,rfl,a0,S,2,rfl,L.seq ha,_,_,rfl,rfl,(by show(0:Int)<2147483647;decide),?_⟩;obtain⟨C,ag,aq⟩:=cut_map S (some 7) (some 63);refine⟨(by show 1<=sizeLine;decide),λl7 H7 U f7 h7=>⟨_,rfl,_,rfl,_,rfl,a0,_,rfl,(L.trans U).seq ha,λl8 H8 W f8 X=>?_⟩⟩;replace X:H8 l8=some (.lst (C.map V.int)):=by rw[X];exact congrArg (λz=>some (HO.lst z)) ag
   refine⟨l7,l8,_,_,rfl,rfl,W _ _ h7,X,QZ (zc5 (by rw[Qa];show 1+_<=_;omega)),λu H9 s9 f9 h9=>?_⟩;have M:=U.trans (W.trans s9);have ah:H9 u=some (.lst ((1::C).map V.int)):=h9;have ai:f≠a:=za9 a6 ae;have ar:f≠u:=za9 ((s2.trans (U.trans W)) _ _ a6) f9;have au:a≠u:=za9 ((U.trans W) _ _ af) f9;have al:H a=none:=s1.free ae;have I0:Lo H H9 f a u n r A B s s [.ref R] [] ((1::C).map V.int) []:=⟨L.trans M,(s2.trans M) _ _ a6,.cons ⟨R,rfl,(L.trans M) _ _ ac⟩ .nil,M _ _ af,.nil,ah,rfl,ad⟩;have av:0<(1::C).length/\(1::C).length<=64:=by rw[Ql];omega
   generalize(1::C:List Int)=m at av I0;clear h9 ah X h7 ag aq;generalize S.getD 2 0 % 2147483647=aw;refine⟨_,rfl,by decide,by decide,zh1 (n:=(300:Int).toNat) (λi σ H'=>∃v7 v8 F J d p c,σ=[some (.ref a0),some (.ref sc),some (.ref R),some (.ref f),some (.ref a),some (.int F),some (.ref u),v7,v8]/\Lo H H' f a u n r A B s c J d (m.map V.int) p/\p.length=i) ⟨none,none,aw,_,_,_,_,rfl,I0,rfl⟩ ?_ ?_⟩
   . rintro i σ aj hi ⟨v7,v8,F,J,d,p,c,rfl,I,a7⟩
     have bl:i<300:=by simpa using hi
     have Vc:=I.ch.valid V0;have bc:=Vc.len;obtain⟨y0,Y,rfl,Z,N⟩:=zw1 (show Tups aj J ((p.map (·.1)).reverse++[c]) from I.tm);have i1:0<=(0+(i:Int)) % (m.length:Int):=Zc _ (by omega);have i2:(0+(i:Int)) % (m.length:Int)<m.length:=Za _ (by omega);obtain⟨j,ej⟩:∃j:Nat,(0+(i:Int)) % (m.length:Int)=(j:Int):=⟨_,(Int.toNat_of_nonneg i1).symm⟩;have hj:j<m.length:=by omega
     have az:atI (m.map V.int) ((0+(i:Int)) % (m.length:Int))=some (.int m[j]):=by rw[ej];exact zw9 (Qe hj)
     refine⟨_,rfl,_,rfl,_,rfl,_,rfl,u,_,rfl,.inl (SqL.of I.hcl),?_⟩;rw[Qa];refine⟨_,_,rfl,rfl,(by show(0:Int)<(m.length:Int);omega),u,_,_,_,rfl,rfl,SqL.of I.hcl,az,_,_,rfl,rfl,_,rfl,_,_,rfl,rfl,_,_,rfl,rfl,.inr ⟨by decide,by decide⟩,_,_,rfl,rfl,(by show(0:Int)<2147483647;decide),?_⟩;generalize(F+m[j]+(0+(i:Int)))*48271 % 2147483647=F;refine⟨_,rfl,_,rfl,_,rfl,f,_,_,_,rfl,rfl,SqL.of I.hmt,zL1,_,rfl,_,_,rfl,rfl,⟨by decide,by decide⟩,sc,Y,_,n,r,A,B,c,rfl,aa.same I.sm,Vc,N,λbq l q hv=>?_⟩;rcases hv with⟨_,ax⟩ | ⟨k,D,g,rfl,ab,ay⟩
     . exact absurd ax I.nb
     replace I:=I.same q;replace N:=q _ _ N;replace Z:=q.tups Z;have bd:d.length=p.length:=by rw[zd6 I.td,zg5]
     have bm:y0.length=p.length:=by rw[zd6 Z,Zw,Qa]
     have b0:=ab.lt;refine⟨_,rfl,.inl ⟨rfl,_,SqL.of I.hmd⟩,_,rfl,a,_,_,rfl,rfl,I.hmd,zc5 (by omega),?_⟩;have G:∀ {b:Addr} {o:HO},l b=some o->b≠a->(upd l a (.lst (d++[.ref g]))) b=some o:=λe hb=>by rw[za8 hb];exact e
     have a1:∀ {b:Addr} {Q:List V},l b=some (.tup Q)->(upd l a (.lst (d++[.ref g]))) b=some (.tup Q):=λe=>G e λz=>by rw[z,I.hmd] at e;cases e
     have E:=a1 N;have x:=a1 ay;have y:=G I.hmt ai;have a2:=G I.hcl au.symm;have a8:Tups (upd l a (.lst (d++[.ref g]))) y0 (p.map (·.1)).reverse:=zr3 I.hmd (λ_ z=>nomatch z) Z;have a9:Tups (upd l a (.lst (d++[.ref g]))) (d++[.ref g]) (zf4 ((c,k,D)::p)):=by
       rw[zg7];exact zo7 (zr3 I.hmd (λ_ z=>nomatch z) I.td) x
     have a3:(upd l a (.lst (d++[.ref g]))) a=some (.lst (d++[.ref g])):=za4;have a4:Same H (upd l a (.lst (d++[.ref g]))):=λb o e=>G (I.sm _ _ e) (za9 e al)
     clear G a1;revert E x y a2 a8 a9 a3 a4;generalize upd l a (.lst (d++[.ref g]))=bn;intro E x y a2 a8 a9 a3 a4;have e1:(k:Int)+1-1=(k:Int):=by omega
     refine⟨_,rfl,.inl ⟨rfl,_,SqL.of y⟩,?_⟩;refine⟨_,rfl,_,rfl,f,_,_,_,rfl,rfl,SqL.of y,zL1,_,rfl,g,_,_,_,rfl,rfl,SqT.of x,rfl,_,_,rfl,rfl,_,rfl,Y,_,rfl,SqT.of E,?_,λl1 Ha sa f1 b1=>?_⟩
     . rw[e1,HT.sIx_none,HT.sIx_nat,Qa,Zx (by omega)]
       omega
     rw[e1] at *;refine⟨_,rfl,g,_,_,_,rfl,rfl,SqT.of (sa _ _ x),rfl,(by show 1<=sizeLine;decide),λl2 Hb sb f2 b2=>?_⟩;have am:=zl6 (c.map V.int) none (some (k:Int));rw[Qa] at am;refine⟨l1,l2,_,_,rfl,rfl,sb _ _ b1,b2,QZ (zc5 (by show _+1<=_;omega)),λl3 Hc b3 b4=>?_⟩;have O:=sa.trans (sb.trans b3);refine⟨_,rfl,_,rfl,f,_,_,_,rfl,rfl,SqL.of (O _ _ y),zL1,_,rfl,g,_,_,_,rfl,rfl,SqT.of (O _ _ x),rfl,_,rfl,Y,_,rfl,SqT.of (O _ _ E),?_,λl4 Hd sd f4 b5=>?_⟩
     . rw[show((k:Int)+1)=((k+1:Nat):Int) by omega,HT.sIx_nat,Qa]
       omega
     have e5:=zN3 c k D b0;refine⟨l3,l4,_,_,rfl,rfl,sd _ _ b4,b5,?_,λl5 He se he=>?_⟩
     . rw[<-Qi,e5,Qa,QW]
       exact QZ (zc5 (by omega))
     rw[e5] at he;have v:=O.trans (sd.trans se);have a5:=v _ _ y;refine⟨f,_,_,rfl,rfl,a5,zc5 (by rw[Qi,Zq];omega),?_⟩;have kd:=Ch.keep24 V0 k0 I.ch;have b6:nbs n r B A (c.set k D)≠[]:=λz=>by
       have:=yd2 Vc kd (zy0.mpr ⟨k,D,ab,rfl⟩);rw[z] at this;cases this
     have an:H f=none:=ap;have kE:∀ {b:Addr} {o:HO},He b=some o->b≠f->(upd He f (.lst (y0++[.ref Y]++[.ref l5]))) b=some o:=λe hb=>by rw[za8 hb];exact e
     refine⟨_,_,_,_,_,(c,k,D)::p,c.set k D,rfl,⟨λb o e=>kE (v _ _ (a4 _ _ e)) (za9 e an),za4,?_,kE (v _ _ a3) ai.symm,zr3 a5 (λ_ z=>nomatch z) (v.tups a9),kE (v _ _ a2) ar.symm,⟨rfl,ab,I.ch⟩,b6⟩,by rw[Ql,a7]⟩;rw[zD3];exact zr3 a5 (λ_ z=>nomatch z) (zo7 (zo7 (v.tups a8) (v _ _ E)) he)
   . rintro σ aj ⟨v7,v8,F,J,d,p,c,rfl,I,a7⟩
     refine⟨_,rfl,_,rfl,(by show 2<=sizeLine;decide),λba l q bo b7=>?_⟩;exact ak ba f a J d p c l (I.sm.trans q) b7 (q _ _ I.hmt) (q.tups I.tm) (q _ _ I.hmd) (q.tups I.td) I.ch (by simpa using a7)
end
section
variable {P:Program} {w:World} {K:W.Frag} {mg:Str->Option Value} {base:Heap} {t:Adr}
noncomputable def mvsE (hs:List Int)(es:List (List Int×Nat×Int)):List (Dd×Str):=(es.map λe=>(Dd.mv ((e.2.1:Int)+1) (e.1.getD e.2.1 0) e.2.2,zw2 hs (e.1.set e.2.1 e.2.2))).reverse
theorem zq4 (hs:List Int)(es:List (List Int×Nat×Int)):(mvsE hs es).length=es.length:=by unfold mvsE;rw[Zw,Qa]
theorem zL4 (hs:List Int)(e:List Int×Nat×Int)(es:List (List Int×Nat×Int)):mvsE hs (e::es)=mvsE hs es++[(Dd.mv ((e.2.1:Int)+1) (e.1.getD e.2.1 0) e.2.2,zw2 hs (e.1.set e.2.1 e.2.2))]:=by unfold mvsE;rw[Qv,ZA]
theorem zw5 {n r:Int}{hs:List Int}{lim:Int}{s:List Int}:∀ {a:List (List Int×Nat×Int)} {c:List Int},Ch n r hs lim s a c->ptsE a c=s::(a.map λe=>e.1.set e.2.1 e.2.2).reverse
 | [],c,h=>by
   obtain rfl:c=s:=h;rfl
 | e::a,c,⟨ec,L,ch⟩=>by
   rw[zD3,zw5 ch,ec,Qv,ZA];rfl
theorem zN5 {n r lim:Int}{hs c:List Int}{i:Nat}{q:Int}(ok:zg6 n r hs lim)(a:zd0 n r hs.length c)(L:Lets n r hs lim c i q):ddOk (.mv ((i:Int)+1) (c.getD i 0) q):=by
 have d:=ok.w;have e:=ok.n2;have f:=a.len;have b:=L.lt;have g:=L.on;have h:=a.on (c.getD i 0) (zm6 b);exact⟨⟨by omega,by omega⟩,⟨by omega,by omega⟩,by omega,by omega⟩
theorem yq6 {n r lim:Int}{hs s:List Int}(ok:zg6 n r hs lim)(f:zd0 n r hs.length s):∀ {a:List (List Int×Nat×Int)} {c:List Int},Ch n r hs lim s a c->a.length<=300->∃b,Runs n r lim hs s (mvsE hs a) b/\b (mvsE hs a).length=(c,a)
 | [],c,h,_=>by
   obtain rfl:c=s:=h;exact⟨λ_=>(c,[]),⟨rfl,λk x d=>(by simp[mvsE] at d),λx d=>(by simp[mvsE] at d)⟩,rfl⟩
 | e::a,c,⟨ec,L,ch⟩,h3=>by
   rw[Ql] at h3;obtain⟨b,R,g⟩:=yq6 ok f ch (by omega);have i:=ch.valid f;rw[zL4];refine⟨_,R.snoc (c':=c) (es':=e::a) ?_ (zN5 ok i L),?_⟩
   . rw[g,ec]
     exact .inl (OkD.mv (by show a.length<300;omega) L)
   . rw[Qi]
     exact Qh (by simp)
theorem runsF {n r lim:Int}{hs s:List Int}(ok:zg6 n r hs lim)(p:zd0 n r hs.length s){a c:List Int}{i:Nat}{q:Int}{es:List (List Int×Nat×Int)}(ch:Ch n r hs lim s ((a,i,q)::es) c)(t:((a,i,q)::es).length=300){k u w:Int}{z:Str}(x:(mvsE hs ((a,i,q)::es))[0]?=some (.mv k u w,z)) :
   ∃b,Runs n r lim hs s (mvsE hs ((a,i,q)::es)++[(.mv k u w,Str.ofString "refused: "++Str.ofString "play full")]++[(.show_,zB5 c)]++[(.back,zo2 ((i:Int)+1) (a.getD i 0) q)]++[(.mv ((i:Int)+1) (a.getD i 0) q,zw2 hs c)]++[(.mv k u w,Str.ofString "refused: "++Str.ofString "play full")]) b:=by
 obtain⟨b,R,y⟩:=yq6 ok p ch (by omega);have j:ddOk (.mv k u w):=R.ok _ (Qt x);obtain⟨A,L,v⟩:=id ch;obtain rfl:c=a.set i q:=A;replace L:Lets n r hs lim a i q:=L;have B:=v.valid p;have g:∀ {f:List (Dd×Str)} {b:Nat->List Int×List (List Int×Nat×Int)} {d:Dd} {z:Str} {m c':List Int} {l es':List (List Int×Nat×Int)},Runs n r lim hs s f b->b f.length=(m,l)->zE6 n r lim hs m l d c' es' z->ddOk d->∃o,Runs n r lim hs s (f++[(d,z)]) o/\o (f++[(d,z)]).length=(c',es'):=λ{f b d z m c' l es'} R e h j=>by
   refine⟨_,R.snoc (c':=c') (es':=es') (by rw[e];exact h) j,?_⟩;rw[Qi];exact Qh (by simp)
 obtain⟨M,C,D⟩:=g R y (.inr ⟨(show RefF _ (.mv k u w) from t),rfl,rfl,rfl⟩) j;obtain⟨N,R2,E⟩:=g C D (.inl .show_) trivial;obtain⟨O,F,G⟩:=g R2 E (.inl .back) trivial;rw[Ql] at t;obtain⟨P,H,I⟩:=g F G (.inl (.mv (by omega) L)) (zN5 ok B L);obtain⟨J,K,Q⟩:=g H I (.inr ⟨by show((a,i,q)::es).length=300;rw[Ql];omega,rfl,rfl,rfl⟩) j;exact⟨J,K⟩
def sp_w_desk (K:W.Frag)(t:Adr):Sp:=λvs H Q _=>∃(sc mt md:Addr) (n r lim:Int) (hs s c:List Int) (zs yd:List V) (es:List (List Int×Nat×Int)),vs=[.ref sc,.ref mt,.ref md]/\zn2 K H sc n r hs lim/\zd0 n r hs.length s/\absI (zc6 hs s)<=lim/\H mt=some (.lst zs)/\Tups H zs (ptsE es c)/\H md=some (.lst yd)/\Tups H yd (zf4 es)/\Ch n r hs lim s es c/\es.length=300/\∀H',Same H H'->Q (.bl true) H'
theorem asks_eq (hs:List Int) (es:List (List Int×Nat×Int)):(mvsE hs es).map (λx=>zy7 x.1)=(zf4 es).map λy=>Str.ofString "move "++zo2 (y.getD 0 0) (y.getD 1 0) (y.getD 2 0):=by
 unfold mvsE zf4;rw[List.map_reverse,List.map_reverse,Zn,Zn];rfl
theorem dues_eq {n r:Int}{hs:List Int}{lim:Int}{s:List Int}{es:List (List Int×Nat×Int)}{c:List Int}(h:Ch n r hs lim s es c):(mvsE hs es).map (λx=>x.2)=((ptsE es c).drop 1).map (zw2 hs):=by
 rw[zw5 h];unfold mvsE;rw[List.map_reverse,Zn,List.drop_succ_cons,List.drop_zero,List.map_reverse,Zn];rfl
theorem yp1 {n r:Int}{hs:List Int}{lim:Int}{s:List Int}(b:zd0 n r hs.length s):∀ {d:List (List Int×Nat×Int)} {c:List Int},Ch n r hs lim s d c->∀y∈ptsE d c,zd0 n r hs.length y
 | [],c,h=>λy a=>by
   obtain rfl:c=s:=h;rw[QI.mp a];exact b
 | e::d,c,h=>λy a=>by
   rw[zD3] at a;rcases QB.mp a with z | z
   . exact yp1 b h.2.2 y z
   . rw[QI.mp z]
     exact h.valid b
theorem yk0 {n r:Int}{hs:List Int}{lim:Int}{s:List Int}(ok:zg6 n r hs lim)(d:zd0 n r hs.length s):∀ {b:List (List Int×Nat×Int)} {c:List Int},Ch n r hs lim s b c->∀y∈zf4 b,∃k u q:Int,y=[k,u,q]/\ddOk (.mv k u q)
 | [],_,_=>λy a=>nomatch a
 | e::b,c,⟨_,L,ch⟩=>λy a=>by
   rw[zg7] at a;rcases QB.mp a with z | z
   . exact yk0 ok d ch y z
   . rw[QI.mp z]
     exact⟨_,_,_,rfl,zN5 ok (ch.valid d) L⟩
theorem cut1 (z:V)(zs:List V):cutV (z::zs) (some 1) none=zs:=by
 unfold cutV;rw[HT.sIx_none,show(some (1:Int))=some ((1:Nat):Int) from rfl,HT.sIx_nat,Ql,Zx (by omega)];exact Zd (by simp)
theorem zD6 (es:List (List Int×Nat×Int))(c:List Int):(ptsE es c).length=es.length+1:=by unfold ptsE;rw[Qi,Zw,Qa];rfl
theorem zT1 (es:List (List Int×Nat×Int))(c:List Int):(ptsE es c)[es.length]?=some c:=by
 unfold ptsE;rw[QG (by simp)];simp
theorem mvs_mv (hs:List Int)(es:List (List Int×Nat×Int)):∀x∈mvsE hs es,∃k u w z,x=(Dd.mv k u w,z):=λx a=>by
 unfold mvsE at a;obtain⟨e,_,rfl⟩:=QN.mp (List.mem_reverse.mp a);exact⟨_,_,_,_,rfl⟩
theorem ok_w_desk (T:Txt K mg t):FnOk P w K mg base CX0 12 t.cs t.ct VB (sp_w_desk K t):=by
 refine T.b0.F.ok zr4 (λvs H be bf h=>?_) (λbi A bh s H vs be bf M h=>?_)
 . obtain⟨sc,U,W,n,r,F,d,s,c,zs,yd,G,rfl,aj,B,k0,a1,X,a2,Y,ch,N,q⟩:=h
   rfl
 . obtain⟨sc,U,W,n,r,F,d,s,c,zs,yd,G,rfl,aj,B,k0,a1,X,a2,Y,ch,N,q⟩:=h
   refine⟨_,(za3 (zF9 (i:=3) rfl zM0 (zi8 P2) (λ_ _ _ _ _=>(zc4 (i:=0) zM0.nd rfl (Or.inl rfl))) (λ_ _ _ _ _=>zk5) (λ_ _ _ _ _=>(zb4 zd5 zd1 (za6 (zB8 T) M.m T.aN zb1 (za0 P0 za1)))) zr4.nd rfl rfl)
     (za3 (zF9 (i:=4) rfl zM1 (zi8 (zh2 zP6 P1 (zi9 za2) zl0)) (λ_ _ _ _ _=>(zc4 (i:=0) zM1.nd rfl (Or.inl rfl))) (λ_ _ _ _ _=>zk5) (λ_ _ _ _ _=>(za6 (ok_w_lean T) M.m T.bY zb1 (za0 (zc2 (ix_listK K rfl) P1 za2 (λ_ _=>rfl)) (za0 P0 za1)))) zr4.nd rfl rfl)
     (za3 (zb7 (i:=4) zr4.nd rfl (Or.inl rfl) (zb4 zZ0 (pv 4) (zt1 (za0 zd1 (za0 (za6 (ok_w_goal T) M.m T.bX zb1 (za0 (zc2 zc3 P1 za2 (λ_ _=>rfl)) za1)) (za0 (za6 (zB8 T) M.m T.aN zb1 (za0 (zc2 zc3 P2 za2 (λ_ _=>rfl)) za1)) (za0 (zc2 zc3 (pv 4) za2 (λ_ _=>rfl)) za1)))))))
     (za3 (zb7 (i:=5) zr4.nd rfl (Or.inl rfl) (za6 (ok_answers T) M.m T.bH zb1 (za0 (za6 (ok_w_text T) M.m T.bW zb1 (za0 P0 (za0 (zc2 zc3 P1 za2 (λ_ _=>rfl)) za1))) (za0 (zb4 zZ0 P3 (zt1 (za0 (zc2 zc3 P3 za2 (λ_ _=>rfl)) (za0 zd1 (za0 zd1 (za0 (zc2 zc3 P3 za2 (λ_ _=>rfl)) (za0 (zc2 zc3 P3 za2 (λ_ _=>rfl)) za1))))))) za1))))
     (za3 (ze2 (zl1 QC QM QL zi0 (pv 4) (za0 zd1 za1)))
     (za3 (zc7 (PW.pt (zj5 (zd9 (zc9 (zb5 zh3 rfl T.ad Qx (za0 (pv 5) (za0 (zk7 (v:=.ty "list") rfl T.aJ Zv rfl) za1))))) (zi5 (zb9 zl4 (zb5 zb8 rfl T.ac Qr (za0 (pv 5) za1)) za2 (zc1 _))))) (za5 (zb2 zg9)) zb3)
     (za3 (zh7 PassesOwn.never rfl (zh9 rfl T.ai (za0 za2 za1)) (zc4 (i:=6) zr4.nd rfl (Or.inl rfl)) (za5 (zc7 (PW.pt (zj5 (zd9 (zc9 (zb5 zh3 rfl T.ad Qx (za0 (zc2 zc3 (pv 5) P6 (λ_ _=>rfl)) (za0 (zk7 (v:=.ty "str") rfl T.ay Zb rfl) za1))))) (zi5 (zb9 zl4 (zc2 zc3 (pv 5) P6 (λ_ _=>rfl)) (zc2 zc3 (pv 4) P6 (λ_ _=>rfl)) (zc1 _))))) (za5 (zb2 zg9)) zb3)))
     (za5 (zb2 zg9))))))))),?_⟩
   refine cut8 ?_;intro bj bl bm bn bo bp bq;obtain⟨h,ok,aw,hh⟩:=id aj;have hw:=ok.w;refine⟨_,rfl,W,rfl,⟨_,SqL.of a2⟩,λA hA=>?_⟩;refine zn4 (K:=K) (a:=W) (xs:=yd) (λj p=>Same H p/\p A=some (.lst ((((zf4 G).take j).map λy=>Str.ofString "move "++zo2 (y.getD 0 0) (y.getD 1 0) (y.getD 2 0)).map V.str))) ⟨Same.upd hA,za4⟩ (λi p C=>SqL.of (C.1 _ _ a2)) (λi x p bg hi C hN=>?_) (λp C=>?_)
   . dsimp only[zq6]
     obtain⟨b,y,rfl,D,I⟩:=zm9 Y hi;obtain⟨k,u,w,rfl,⟨k1,k2⟩,⟨u1,u2⟩,w1,w2⟩:=yk0 ok B ch y (Qt D);have am:=zL2 (k:=k) (u:=u) (q:=w) (by omega) (by omega) (by omega);have e6:(Str.ofString "move ").length=5:=by decide
     have br:sizeLine=16777216:=by decide
     have ax:i<300:=by have:=(QX.mp D).1;rw[zg5] at this;omega
     obtain⟨J,ay⟩:=C;refine iteT ⟨_,rfl,b,k,u,w,rfl,J _ _ I,⟨⟨by omega,by omega⟩,⟨by omega,by omega⟩,by omega,by omega⟩,_,_,rfl,rfl,(by omega),_,ay,?_,hN _ ⟨J.put hA,?_⟩⟩
     . rw[Qa,Qa,QT]
       exact zc5 (by omega)
     . rw[za4,QP,Qk,Qk,D]
       rfl
   obtain⟨s1,a7⟩:=C;rw[zd6 Y,QR,<-asks_eq d G] at a7;have V1:=yp1 B ch;have a8:=X;rw[zw5 ch] at a8;obtain⟨O,Q,rfl⟩:∃O Q,zs=O::Q:=by cases a8 with | cons a t=>exact⟨_,_,rfl⟩
   have TR:Tups H Q ((ptsE G c).drop 1):=by
     rw[zw5 ch];cases a8 with | cons a t=>exact t
   have am:(O::Q).length=301:=by rw[zd6 X,zD6,N]
   refine⟨_,rfl,_,rfl,U,_,rfl,SqL.of (s1 _ _ a1),λl2 H2 s2 f2 h2=>⟨l2,rfl,⟨_,SqL.of h2⟩,λak hB=>?_⟩⟩;rw[cut1] at h2;have a3:=s1.trans s2;refine zn4 (K:=K) (a:=l2) (xs:=Q) (λj p=>Same H2 p/\p ak=some (.lst (((((ptsE G c).drop 1).take j).map (zw2 d)).map V.str))) ⟨Same.upd hB,za4⟩ (λi p C=>SqL.of (C.1 _ _ h2)) (λi x p bg hi C hN=>?_) (λp C=>?_)
   . dsimp only[zq6]
     obtain⟨J,az⟩:=C;obtain⟨b,y,rfl,D,I⟩:=zm9 ((a3.trans J).tups TR) hi;have Vy:=V1 y (List.mem_of_mem_drop (Qt D));have ax:i<300:=by have:=(QX.mp hi).1;rw[Ql] at am;omega
     refine iteT ⟨_,rfl,sc,_,_,_,rfl,rfl,(a3.trans J).seq aw,rfl,_,rfl,h,b,n,r,F,d,y,rfl,(a3.trans J).seq hh,I,ok,Vy,λH3 Z=>⟨_,Z _ _ az,?_,hN _ ⟨(J.trans Z).put hB,?_⟩⟩⟩
     . rw[Qa,Qa,QT]
       exact zc5 (by omega)
     . rw[za4,QP,Qk,Qk,D]
       rfl
   obtain⟨Z,aa⟩:=C;rw[zd6 TR,QR,<-dues_eq ch] at aa;have ab:=a3.trans Z;have an:=Z _ _ (s2 _ _ a7);obtain⟨⟨f,i,g⟩,m,rfl⟩:∃e m,G=e::m:=by
     cases G with
     | nil=>cases N
     | cons e m=>exact⟨e,m,rfl⟩
   obtain⟨ec,al,ac⟩:=id ch;have Vc:=ch.valid B;have ad:m.length=299:=by rw[Ql] at N;omega
   obtain⟨b3,b1,b2⟩:∃b3,atI (O::Q) 300=some (.ref b3)/\H b3=some (.tup (c.map V.int)):=by
     obtain⟨b,y,e,D,I⟩:=zm9 X (i:=300) (Qe (by omega));have pl:=zT1 ((f,i,g)::m) c;rw[N,D] at pl;cases pl;exact⟨b,zh5 (j:=300) (by rw[Qe (by omega),e]),I⟩
   rw[zg7] at Y;obtain⟨y0,mv,rfl,D1,ae⟩:=zw1 Y;have ao:y0.length=299:=by rw[zd6 D1,zg5,ad]
   replace ae:H mv=some (.tup [.int ((i:Int)+1),.int (f.getD i 0),.int g]):=ae;have b4:atI (y0++[V.ref mv]) 299=some (.ref mv):=zh5 (j:=299) (by rw[QG (by rw[ao];omega),ao];rfl);have ap:atI (((mvsE d ((f,i,g)::m)).map (λx=>x.2)).map V.str) 299=some (.str (zw2 d c)):=zh5 (j:=299) (by
     rw[zL4,Qk,Qk,QG (by rw[Qa,Qa,zq4];omega),Qa,Qa,zq4,ad,ec];rfl)
   replace al:Lets n r d F f i g:=al;replace ac:Ch n r d F s m f:=ac;obtain⟨⟨k1,k2⟩,⟨u1,u2⟩,w1,w2⟩:=zN5 ok (ac.valid B) al;refine⟨_,rfl,_,rfl,U,_,_,_,rfl,rfl,SqL.of (ab _ _ a1),b1,b3,n,r,d.length,c,rfl,ab _ _ b2,Vc,ok.n2,ok.w,λH4 s4=>?_⟩;have a4:=ab.trans s4;have af:=s4 _ _ aa;have ag:=s4 _ _ an;refine⟨_,rfl,W,_,_,_,rfl,rfl,SqL.of (a4 _ _ a2),b4,mv,(i:Int)+1,f.getD i 0,g,rfl,a4 _ _ ae,⟨⟨by omega,by omega⟩,⟨by omega,by omega⟩,by omega,by omega⟩,_,rfl,ak,_,_,_,rfl,rfl,SqL.of af,ap,(by show 4<=sizeLine;decide),λl5 H5 s5 f5 h5=>?_⟩;refine⟨ak,l5,_,_,rfl,rfl,s5 _ _ af,h5,QZ (zc5 (by rw[Qa,Qa,zq4];show _+4<=_;omega)),λE H6 s6 f6 h6=>?_⟩;have aq:=s5.trans s6;have a5:=a4.trans aq;have R:=aq _ _ ag;have bt:A≠E:=za9 (s5 _ _ ag) f6;clear h5 af aa ag an a7 ap;obtain⟨b0,rfl,b5⟩:∃b0,O = .ref b0/\H b0=some (.tup (s.map V.int)):=by
     obtain⟨b,y,e,D,I⟩:=zm9 X (i:=0) (y:=O) rfl;rw[zw5 ch] at D;cases D;exact⟨b,e,I⟩
   have bu:=zq4 d ((f,i,g)::m);obtain⟨k,u,w,z,e0⟩:∃k u w z,(mvsE d ((f,i,g)::m))[0]?=some (Dd.mv k u w,z):=by
     have ar:=Qe (l:=mvsE d ((f,i,g)::m)) (i:=0) (by omega);obtain⟨k,u,w,z,e⟩:=mvs_mv d _ _ (Qt ar);exact⟨k,u,w,z,by rw[ar,e]⟩
   have a0:atI (((mvsE d ((f,i,g)::m)).map (λx=>zy7 x.1)).map V.str) 0=some (.str (zy7 (.mv k u w))):=zh5 (j:=0) (by rw[QQ,QQ,e0];rfl);have a9:atI (((mvsE d ((f,i,g)::m)).map (λx=>zy7 x.1)).map V.str) 299=some (.str (zy7 (.mv ((i:Int)+1) (f.getD i 0) g))):=zh5 (j:=299) (by
     rw[zL4,Qk,Qk,QG (by rw[Qa,Qa,zq4];omega),Qa,Qa,zq4,ad];rfl)
   obtain⟨b6,au⟩:=runsF ok B ch N e0;have bv:(zW7 n r F d s).length<=400:=zX1 (zW8 ok B) (by rw[wRows_count B];omega);refine⟨_,rfl,_,rfl,U,_,_,_,rfl,rfl,SqL.of (a5 _ _ a1),at_0,sc,b0,n,r,F,d,s,rfl,aj.same a5,a5 _ _ b5,B,_,rfl,_,rfl,A,_,_,_,rfl,rfl,SqL.of R,a0,_,rfl,A,_,_,_,rfl,rfl,SqL.of R,a9,_,rfl,A,_,_,_,rfl,rfl,SqL.of R,a0,(by show 5<=sizeLine;decide),λl7 H7 s7 f7 h7=>?_⟩;refine⟨A,l7,_,_,rfl,rfl,s7 _ _ R,h7,QZ (zc5 (by rw[Qa,Qa,zq4];show _+5<=_;omega)),λlh H8 s8 f8 h8=>?_⟩;have av:=s8 _ _ (s7 _ _ h6);have b7:=a5.trans (s7.trans s8);obtain⟨xs,S⟩:∃xs,xs=mvsE d ((f,i,g)::m)++[(Dd.mv k u w,Str.ofString "refused: "++Str.ofString "play full")]++[(Dd.show_,zB5 c)]++[(Dd.back,zo2 ((i:Int)+1) (f.getD i 0) g)]++[(Dd.mv ((i:Int)+1) (f.getD i 0) g,zw2 d c)]++[(Dd.mv k u w,Str.ofString "refused: "++Str.ofString "play full")]:=⟨_,rfl⟩;have b8:xs.length=305:=by
     rw[S];simp only[Qi,Zq];omega
   have b9:H8 lh=some (.lst (xs.map λx=>V.str (zy7 x.1))):=by
     rw[h8,S];simp only[Qk,Zn,QU];rfl
   have ba:((((mvsE d ((f,i,g)::m)).map (λx=>x.2)).map V.str++[V.str (Str.ofString "refused: play full"),.str (zB5 c),.str (zo2 ((i:Int)+1) (f.getD i 0) g),.str (zw2 d c)])++[V.str (Str.ofString "refused: play full")])=xs.map λx=>V.str x.2:=by
     rw[S];simp only[Qk,Zn,QU];rfl
   rw[<-S] at au;clear S h8 h7 e0 a0 a9 R h6;refine⟨zW7 n r F d s,lh,n,r,F,d,s,xs,b6,rfl,by omega,rd_wBeam ok B,ok,B,k0,b9,by omega,au,λo H9 s9 ho=>?_⟩;have a6:=s9 _ _ av;have bb:o≠E:=λz=>by rw[z,a6] at ho;have:=congrArg (λv=>match v with | some (HO.lst l)=>l.length | _=>0) ho;simp only[Qi,Qa,Ql,Zs] at this;omega
   have bc:H E=none:=(a4.trans s5).free f6;refine⟨_,rfl,.inl ⟨rfl,_,SqL.of a6⟩,E,_,_,rfl,rfl,a6,zc5 (by rw[Qi,Qa,Qa,zq4];show _+4<=_;omega),?_⟩;have ah:Same H (upd H9 E (.lst (xs.map λx=>V.str x.2))):=λb v e=>by
     rw[za8 (za9 e bc)];exact(b7.trans s9) _ _ e
   rw[ba];have ai:(upd H9 E (.lst (xs.map λx=>V.str x.2))) E=some (.lst (xs.map λx=>V.str x.2)):=za4;have L:(upd H9 E (.lst (xs.map λx=>V.str x.2))) o=some (.lst (xs.map λx=>V.str x.2)):=by rw[za8 bb];exact ho
   revert ah ai L;generalize upd H9 E (.lst (xs.map λx=>V.str x.2))=HE;intro ah ai L;refine⟨_,rfl,_,_,_,_,_,rfl,.ty _,.lst L,rfl,_,rfl,iteF ?_⟩;refine⟨_,rfl,o,_,rfl,.inl (SqL.of L),rfl,_,rfl,iteB (by rw[Qa,b8];rfl) ?_⟩;refine⟨_,rfl,by decide,by decide,zh1 (n:=(305:Int).toNat) (λj σ p=>X1 λv6=>A2 (σ=[some (.ref sc),some (.ref U),some (.ref W),some (.ref A),some (.ref E),some (.ref o),v6]) (p=HE)) ⟨none,rfl,rfl⟩ ?_ ?_⟩
   . rintro j σ p hj ⟨v6,rfl,rfl⟩
     have bw:j<305:=by simpa using hj
     have bd:j<xs.length:=by omega
     have hx:atI (xs.map λx=>V.str x.2) (0+(j:Int))=some (.str xs[j].2):=by rw[Int.zero_add];exact zh5 (by rw[QQ,Qe bd];rfl)
     refine⟨_,rfl,_,rfl,o,_,_,_,rfl,rfl,SqL.of L,hx,_,_,_,_,_,rfl,.ty _,.str _,rfl,_,rfl,iteF ?_⟩;refine⟨_,rfl,_,rfl,o,_,_,_,rfl,rfl,SqL.of L,hx,_,rfl,_,rfl,E,_,_,_,rfl,rfl,SqL.of ai,hx,rfl,_,rfl,iteB (by rw[Qg rfl];rfl) ?_⟩;exact⟨_,rfl,rfl⟩
   . rintro σ p ⟨v6,rfl,rfl⟩
     exact q _ ah
theorem Ch.one {n r:Int}{hs:List Int}{lim:Int}{s:List Int}:∀ {b:List (List Int×Nat×Int)} {c d:List Int},Ch n r hs lim s b c->Ch n r hs lim s b d->c=d
 | [],_,_,h,a=>Eq.trans (show _=s from h) (show _=s from a).symm
 | _::_,_,_,h,a=>h.1.trans a.1.symm
theorem Ch.split {n r:Int}{hs:List Int}{lim:Int}{s:List Int}:∀ {pre:List (List Int×Nat×Int)} {e:List Int×Nat×Int} {a:List (List Int×Nat×Int)} {c:List Int},Ch n r hs lim s (pre++e::a) c->Ch n r hs lim s (e::a) (e.1.set e.2.1 e.2.2)
 | [],e,a,c,h=>⟨rfl,h.2.1,h.2.2⟩
 | _::pre,e,a,c,h=>Ch.split (pre:=pre) h.2.2
theorem snoc_of {a:Type}{l:List a}(h:0<l.length):∃p e,l=p++[e]:=⟨l.dropLast,l.getLast (λz=>by rw[z] at h;cases h),(List.dropLast_concat_getLast _).symm⟩
theorem step_at {n r:Int}{hs:List Int}{lim:Int}{s:List Int}{es pre a:List (List Int×Nat×Int)}{c b:List Int}(ch:Ch n r hs lim s es c)(h:es=pre++a)(m:a.length<es.length)(k:Ch n r hs lim s a b) :
   ∃j i q,es=j++(b,i,q)::a/\Lets n r hs lim b i q/\Ch n r hs lim s ((b,i,q)::a) (b.set i q)/\(zf4 es)[a.length]?=some [(i:Int)+1,b.getD i 0,q]/\(ptsE es c)[a.length+1]?=some (b.set i q):=by
 obtain⟨p,e,rfl⟩:=snoc_of (l:=pre) (by rw[h,Qi] at m;omega);obtain⟨f,i,q⟩:=e;have d:es=p++(f,i,q)::a:=by rw[h,QU];rfl
 have g:=Ch.split (d▸ch);obtain rfl:f=b:=Ch.one g.2.2 k;refine⟨p,i,q,d,g.2.1,g,?_,?_⟩
 . have:zf4 es=zf4 a++(rowE (f,i,q)::zf4 p):=by
     rw[d];unfold zf4;rw[Qk,List.reverse_append,Qv,ZA,QU];rfl
   rw[this,QG (by rw[zg5];exact Qj _),zg5,Nat.sub_self];rfl
 . rw[zw5 ch,List.getElem?_cons_succ,d,Qk,List.reverse_append,Qv,ZA,QU,QG (by rw[Zw,Qa];exact Qj _),Zw,Qa,Nat.sub_self]
   rfl
theorem use_finK {R:Hp->Prop}{S:Hp->Prop}{G:Prop}(a:(∀o,S o->R o)->G)(b:∀o,S o->R o):G:=a b
theorem Lets.diff {n r:Int}{hs:List Int}{lim:Int}{xs:List Int}{i:Nat}{p:Int}(L:Lets n r hs lim xs i p):xs.set i p≠xs:=λz=>by
 refine L.ne ?_;have e:(xs.set i p)[i]?=some p:=by rw[List.getElem?_set_self (by simpa using L.lt)]
 rw[z] at e;rw[Qs,e];rfl
theorem zL0.one {t:Adr}{H:Hp}{f:Addr}{n r lim:Int}{hs x y:List Int}(W:zL0 t H f n r hs lim x y)(h:y∈nbs n r hs lim x)(o:x≠y):∃b g i j k,H f=some (.ins t.ad k (zI1 (.bl true) (.int 1) (.ref b) (.ref g) (.ref i) (.ref j))):=by
 have l:Walk n r hs lim x 1 y:=.succ .zero h;have p:∀ {d:Nat},Dst n r hs lim x d y->d=1:=λ{d} a=>by
   have u:¬ 1<d:=λz=>a.2 1 z l
   have v:d≠0:=λz=>by
     subst z;cases a.1;exact o rfl
   omega
 rcases W with⟨d,b,w,A,g,B,C,i,s,j,a,⟨k,c⟩,_⟩ | ⟨m,_⟩
 . rw[p a] at c
   exact⟨_,_,_,_,_,c⟩
 . obtain⟨e,_,q⟩:=l.dst
   exact absurd q (m e)
theorem pts_prev (e:List Int×Nat×Int)(es:List (List Int×Nat×Int))(c:List Int):(ptsE (e::es) c)[es.length]?=some e.1:=by
 rw[zD3,Zj (by rw[zD6];omega),zT1]
theorem cut_init (ys:List V)(v:V){k:Nat}(h:ys.length=k):cutV (ys++[v]) none (some (k:Int))=ys:=by
 unfold cutV;rw[HT.sIx_none,HT.sIx_nat,Qi,List.drop_zero,Nat.sub_zero,Zx (by rw[h];omega),<-h,List.take_left'];rfl
end
section
variable {P:Program} {w:World} {K:W.Frag} {mg:Str->Option Value} {base:Heap} {t:Adr}
theorem ok_law (T:Txt K mg t):FnOk P w K mg base CX0 13 t.bx t.cv Pc (sp_law K t):=by
 refine T.cC.ok zn5 (λvs d7 d8 d9 h=>?_) (λdg e6 da s d7 vs d8 d9 g h=>?_)
 . obtain⟨a,O,rfl,hS,bo,bj⟩:=h
   rfl
 . obtain⟨a,O,rfl,hS,bo,bj⟩:=h
   refine⟨_,(za3 (zz0 (za6 (ok_w_case T) g.m T.bR zb1 (za0 P0 za1)) (zJ4 rfl (ze1 (zc4 (i:=1) zn5.nd rfl (Or.inl rfl)) (ze1 (zc4 (i:=2) zn5.nd rfl (Or.inl rfl)) (ze1 (zc4 (i:=3) zn5.nd rfl (Or.inl rfl)) zs8)))))
     (za3 (zb7 (i:=4) zn5.nd rfl (Or.inl rfl) (zF4 T.cd (zI3 T) g.m rfl T.cp T.aT.b .nil zb1 (za0 (za6 (ok_w_beam T) g.m T.bV zb1 (za0 P1 za1)) (za0 P2 za1))))
     (za3 (zc7 (PW.pt (zj5 (zd9 (zc9 (za6 (zy3 T) g.m T.aI zb1 (za0 (zl8 (v:=.int 300) rfl T.aH ⟨_,rfl⟩) za1)))) (zj5 (zb9 zl4 (zl8 (v:=.int 300) rfl T.aH ⟨_,rfl⟩) za2 (zc1 _)) (zi5 (zd9 (zc9 (za6 (zD5 T) g.m T.aL zb1 (za0 (pv 4) (za0 P2 (za0 (zt1 za1) za1)))))))))) (za5 (zb2 zg9)) zb3)
     (za3 (zc7 (zb9 yl0 (za6 (zL3 T) g.m T.aY zb1 (za0 P1 (za0 P2 (za0 za2 za1)))) zE7 (zc1 _)) (za5 (zb2 zg9)) zb3)
     (za3 (zz0 (za6 (ok_w_long T) g.m T.bZ zb1 (za0 P0 (za0 P1 (za0 P2 za1)))) (zJ4 rfl (ze1 (zc4 (i:=5) zn5.nd rfl (Or.inl rfl)) (ze1 (zc4 (i:=6) zn5.nd rfl (Or.inl rfl)) zs8))))
     (za3 (zh7 PassesOwn.never rfl (zh9 rfl T.ai (za0 za2 za1)) (zc4 (i:=7) zn5.nd rfl (Or.inl rfl)) (za3 (zc7 (PW.pt (zy9 (zb9 zg3 (zb4 ze3 (pv 7) za2) (zb4 ze3 (za6 (zn1 T) g.m T.ao zb1 (za0 P0 (za0 za2 za1))) za2) (zc1 _)) (zw6 (zd9 (zc9 (za6 (ok_w_refused T) g.m T.bv zb1 (za0 (pv 4) za1))))))) (za5 (zb2 zg9)) zb3)
     (za3 (zb7 (i:=8) zn5.nd rfl (Or.inl rfl) (zM5 (pv 4) T.aa T.av (zr1 T) g.m T.ap.b .nil yb1 (za0 (zc2 zc3 P6 (pv 7) (λ_ _=>rfl)) za1)))
     (za5 (zc7 (PW.pt (zj5 (zd9 (zc9 (zb5 zh3 rfl T.ad Qx (za0 (pv 8) (za0 (zk7 (v:=.ty "tuple") rfl T.aq QV rfl) za1))))) (zi5 (zd9 (zc9 (za6 (zw3 T) g.m T.aE zb1 (za0 (pv 8) (za0 (zc2 zc3 (pv 5) (zb4 zf5 (pv 7) za2) (λ_ _=>rfl)) za1)))))))) (za5 (zb2 zg9)) zb3)))))
     (za3 (zb7 (i:=9) zn5.nd rfl (Or.inl rfl) (za6 (zL3 T) g.m T.aY zb1 (za0 P1 (za0 (zc2 zc3 (pv 5) za2 (λ_ _=>rfl)) (za0 (za6 (zn1 T) g.m T.ao zb1 (za0 P0 (za0 za2 za1))) za1)))))
     (za3 (zh7 PassesOwn.never rfl (zi8 (zt1 (za0 P9 (za0 (zM9 (za0 za2 (za0 za2 (za0 za2 za1)))) (za0 (zM9 (za0 za2 (za0 (zc2 ze7 (zc2 zc3 (pv 5) za2 (λ_ _=>rfl)) za2 (λ_ _=>rfl)) (za0 (zc2 ze7 (zc2 zc3 (pv 5) za2 (λ_ _=>rfl)) za2 (λ_ _=>rfl)) za1)))) za1))))) (zc4 (i:=10) zn5.nd rfl (Or.inl rfl)) (za5 (zc7 (PW.pt (zj5 (zd9 (zc9 (za6 (zX2 T) g.m T.bn zb1 (za0 (pv 4) (za0 P10 za1))))) (zi5 (zd9 (zc9 (za6 (zD5 T) g.m T.aL zb1 (za0 (pv 4) (za0 (zc2 zc3 (pv 5) za2 (λ_ _=>rfl)) (za0 P6 za1))))))))) (za5 (zb2 zg9)) zb3)))
     (za3 (zb7 (i:=11) zn5.nd rfl (Or.inl rfl) (zM5 (pv 4) T.aa T.ce (ok_Play_fewest T) g.m T.bc.b .nil zb1 (za0 (zc2 zc3 (pv 5) za2 (λ_ _=>rfl)) za1)))
     (za3 (zc7 (PW.pt (zj5 (zd9 (zc9 (za6 (ok_w_way T) g.m T.cb zb1 (za0 P1 (za0 (zc2 zc3 (pv 5) za2 (λ_ _=>rfl)) (za0 (zc2 zc3 (pv 5) za2 (λ_ _=>rfl)) (za0 P11 za1))))))) (zi5 (zb9 zl4 (zd3 P11 rfl) za2 (zc1 _))))) (za5 (zb2 zg9)) zb3)
     (za3 (zh7 PassesOwn.never rfl (zh9 rfl T.ai (za0 (zb4 zf5 za2 (zb4 ze3 (za6 (zn1 T) g.m T.ao zb1 (za0 P0 (za0 za2 za1))) za2)) za1)) (zc4 (i:=7) zn5.nd rfl (Or.inl rfl)) (za3 (zb7 (i:=8) zn5.nd rfl (Or.inl rfl) (zN9 (pv 4) T.aa T.bo (zI4 T) g.m T.aU.b .nil zb1))
     (za3 (zc7 (PW.pt (zj5 (zd9 (zc9 (zb5 zh3 rfl T.ad Qx (za0 (pv 8) (za0 (zk7 (v:=.ty "tuple") rfl T.aq QV rfl) za1))))) (zj5 (zd9 (zc9 (za6 (zw3 T) g.m T.aE zb1 (za0 (pv 8) (za0 (zc2 zc3 P6 za2 (λ_ _=>rfl)) za1))))) (zi5 (zd9 (zc9 (za6 (zD5 T) g.m T.aL zb1 (za0 (pv 4) (za0 (zc2 zc3 (pv 5) za2 (λ_ _=>rfl)) (za0 (zh2 zP6 P6 zl0 (zi9 za2)) za1)))))))))) (za5 (zb2 zg9)) zb3)
     (za3 (zb7 (i:=8) zn5.nd rfl (Or.inl rfl) (zM5 (pv 4) T.aa T.av (zr1 T) g.m T.ap.b .nil yb1 (za0 (zc2 zc3 P6 za2 (λ_ _=>rfl)) za1)))
     (za5 (zc7 (PW.pt (zj5 (zd9 (zc9 (zb5 zh3 rfl T.ad Qx (za0 (pv 8) (za0 (zk7 (v:=.ty "tuple") rfl T.aq QV rfl) za1))))) (zj5 (zd9 (zc9 (za6 (zw3 T) g.m T.aE zb1 (za0 (pv 8) (za0 (zc2 zc3 (pv 5) za2 (λ_ _=>rfl)) za1))))) (zi5 (zd9 (zc9 (za6 (zX2 T) g.m T.bn zb1 (za0 (pv 4) (za0 P9 za1))))))))) (za5 (zb2 zg9)) zb3))))))
     (za5 (zb2 (zN7 (za6 (zD5 T) g.m T.aL zb1 (za0 (pv 4) (za0 (zc2 zc3 (pv 5) za2 (λ_ _=>rfl)) (za0 P6 za1)))) (zI8 (za6 (ok_w_desk T) g.m T.b0 zb1 (za0 P1 (za0 (pv 5) (za0 P6 za1))))))))))))))))))),?_⟩
   refine cut12 ?_;intro dc dd de dh di dj dk dl dm dn dp;refine⟨_,rfl,a,O,rfl,hS,λl J h st go H1 n r d f s a9 C=>?_⟩;refine⟨l,_,rfl,SqL.of C.hl,rfl,_,_,rfl,_,_,rfl,_,_,rfl,rfl,?_⟩;have hw:=C.ok.w;have dq:=C.vs.len;have S1:zn2 K H1 J n r f d:=⟨h,C.ok,SqL.of C.hsc,SqL.of C.hh⟩;refine⟨_,rfl,J,n,r,d,f,rfl,S1,λb H3 s3 B3=>?_⟩;refine⟨_,rfl,λp D fp cm cn=>?_⟩;have an:Same H3 (upd (upd H3 D (.own p)) p (.ins t.aa D [])):=(Same.upd cm).updT (by rw[za8 (Ne.symm cn)];exact fp);have b8:(upd (upd H3 D (.own p)) p (.ins t.aa D [])) p=some (.ins t.aa D []):=za4;revert an b8;generalize upd (upd H3 D (.own p)) p (.ins t.aa D [])=H4;intro an b8;have co:b≠p:=λz=>by obtain⟨_,_,_,hb,_⟩:=B3;rw[z,fp] at hb;cases hb
   have b9:=s3.trans an;refine⟨p,b,st,D,n,r,d,f,s,rfl,b8,co,B3.same an,C.vs,.inr (b9 _ _ C.hst),C.ks,λH5 u m x5 cp P5=>⟨rfl,?_⟩⟩;have ao:H1 p=none:=s3.free fp;have ap:H1 m=none:=b9.free cp;have cq:Same H1 H5:=λbl b5 e=>x5 bl b5 (b9 _ _ e) (za9 e ao)
   refine⟨300,rfl,_,rfl,iteF ⟨rfl,_,rfl,iteB (by decide) ?_⟩⟩;refine⟨_,rfl,_,rfl,QD _,λm0 H6 s6 f6 h6=>?_⟩;have bw:=cq.trans s6;refine⟨p,st,m0,b,u,u,m,n,r,d,f,s,s,[],[],[],rfl,⟨P5.same s6,h6,.nil,rfl⟩,bw _ _ C.hst,by omega,by decide,λH7 s7=>⟨_,rfl,iteF ?_⟩⟩;have ba:=bw.trans s7;refine⟨_,rfl,_,rfl,J,st,0,n,r,d,f,s,rfl,S1.same ba,C.vs,ba _ _ C.hst,λv H8 s8 hv=>?_⟩;have aq:=ba.trans s8;have P8:=((P5.same s6).same s7).same s8;rcases hv with⟨rfl,bx⟩ | ⟨i0,q0,dr,rfl,L0,c8⟩
   . exact⟨rfl,_,rfl,iteT (bj _)⟩
   refine⟨rfl,_,rfl,iteF ?_⟩;have cr:nbs n r f d s≠[]:=λz=>by
     have:=zy0.mpr ⟨i0,q0,L0,rfl⟩;rw[z] at this;cases this
   clear L0 c8;refine⟨_,rfl,_,rfl,_,rfl,a,J,st,n,r,d,f,s,O,rfl,(C.sm.trans aq).seq hS,by omega,S1.same aq,C.vs,C.ks,aq _ _ C.hst,cr,λl2 q E Q U es bl H9 s9 ar aa T0 ab W ch h3=>?_⟩;refine⟨l2,_,rfl,SqL.of ar,rfl,_,_,rfl,_,_,rfl,rfl,?_⟩;have A:=P8.same s9;have Vc:=ch.valid C.vs;have ds:=Vc.len;have bz:=aq.trans s9;have au:E≠m:=λz=>by
     have h:=A.hm;rw[<-z,ab] at h;cases h;have:=zd6 W;rw[zg5,h3] at this;cases this
   have ac:q≠m:=λz=>by
     have h:=A.hm;rw[<-z,aa] at h;cases h;have:=zd6 T0;rw[zD6,h3] at this;cases this
   have av:E≠p:=λz=>by obtain⟨C,D,fs,hp⟩:=A.ip;rw[<-z,ab] at hp;cases hp
   have ad:q≠p:=λz=>by obtain⟨C,D,fs,hp⟩:=A.ip;rw[<-z,aa] at hp;cases hp
   refine⟨_,rfl,by decide,by decide,zh1 (n:=(300:Int).toNat) (λj I F=>∃X Y x c o G aw,I=[some (.ref a),some (.ref J),some (.ref st),some (.ref go),some (.ref p),some (.ref q),some (.ref E),X,Y,none,none,none]/\es=aw++G/\G.length=j/\Ch n r f d s G c/\zf8 t F p b u x m n r f d s c o (zf4 G)/\zi4 p m H9 F) ⟨none,none,u,s,[],[],es,rfl,by simp,rfl,rfl,A,λ_ _ e _ _=>e⟩ ?_ ?_⟩
   . rintro j I Z hj ⟨X,Y,x,c,o,G,aw,rfl,ee,ax,ae,PA,sA⟩
     have dt:j<300:=by simpa using hj
     obtain⟨c9,i,q1,cs,L,ct,em,ep⟩:=step_at ch ee (by omega) ae;have Vk:=ae.valid C.vs;have af:o.length=G.length:=by rw[zd6 PA.tm,zg5]
     have du:H1 m=none:=ap;have a6:Same H1 Z:=λb b5 e=>sA _ _ (bz _ _ e) (za9 e ao) (za9 e ap)
     refine⟨_,rfl,_,_,rfl,rfl,(by show(0:Int)<32;decide),_,rfl,a,O,6,rfl,(C.sm.trans a6).seq hS,_,_,rfl,rfl,(by show(0:Int)<32;decide),rfl,_,rfl,?_⟩;refine use_finK (R:=?R) (S:=λF=>Same Z F) (λfin=>?main) ?fin
     case main =>
       refine ite2 (λh1=>?_) (λh1=>?_)
       . refine⟨_,rfl,p,b,u,x,m,n,r,d,f,s,c,o,zf4 G,rfl,PA,Vk,by omega,λH6 s6=>⟨_,rfl,iteF ?_⟩⟩
         exact fin H6 s6
       . refine iteF ?_
         exact fin Z (Same.refl _)
     intro HB sB;have PB:=PA.same sB;obtain⟨cu,cv⟩:=PB.hp;have bb:zi4 p m H9 HB:=sA.trans (Same.two sB p m);rw[ax] at em ep;have gy:=Qe (l:=U) (i:=j) (by rw[zd6 W,zg5];omega);obtain⟨bm,ak,e1,e2,ay⟩:=zm9 W gy;rw[em] at e2;cases e2;have am:atI U (0+(j:Int))=some (.ref bm):=by rw[Int.zero_add];exact zh5 (by rw[gy,e1])
     have gz:=Qe (l:=Q) (i:=j+1) (by rw[zd6 T0,zD6];omega);obtain⟨bt,ak,e3,e4,cw⟩:=zm9 T0 gz;rw[ep] at e4;cases e4;have az:atI Q (0+(j:Int)+1)=some (.ref bt):=by rw[Int.zero_add];exact zh5 (j:=j+1) (by rw[gz,e3])
     have ca:=bb.tup A.ip ⟨_,A.hm⟩ ay;have cb:=bb _ _ ab av au;refine⟨_,rfl,p,cu,_,rfl,cv,zI2 _ _ _ _,_,rfl,_,rfl,E,_,_,_,rfl,rfl,SqL.of cb,am,p,bm,b,u,x,m,n,r,d,q1,f,s,c,o,zf4 G,i,rfl,PB,Vk,.inr ⟨ca,L,by omega,λx' tv HC sC PC=>?_⟩⟩;have bc:=bb.trans sC;have cc:=bc.tup A.ip ⟨_,A.hm⟩ cw;have cd:=bc _ _ aa ad ac;have dv:=Vk.len;refine⟨_,rfl,_,_,_,_,_,rfl,.ty _,.tup PC.hx,rfl,_,rfl,iteF ?_⟩;refine⟨_,rfl,_,rfl,_,rfl,_,_,rfl,rfl,q,_,_,_,rfl,rfl,SqL.of cd,az,x',bt,c.set i q1,c.set i q1,rfl,.inr (SqT.of PC.hx),.inr (SqT.of cc),by rw[QW];omega,_,rfl,iteB (by rw[Qg rfl];rfl) ?_⟩;exact⟨_,_,x',c.set i q1,_,_::G,c9,rfl,cs,by rw[Ql,ax],ct,by rw[zg7];exact PC,bc⟩
   . rintro I Z ⟨X,Y,x,c,o,G,aw,rfl,ee,ax,ae,PA,sA⟩
     have df:G.length=300:=by simpa using ax
     obtain rfl:aw=[]:=Qy (by have:=congrArg List.length ee;rw[Qi] at this;omega);obtain rfl:es=G:=ee;obtain rfl:c=bl:=Ch.one ae ch;have af:o.length=300:=by rw[zd6 PA.tm,zg5,h3]
     have a6:Same H1 Z:=λb b5 e=>sA _ _ (bz _ _ e) (za9 e ao) (za9 e ap)
     have N:=sA _ _ aa ad ac;have b6:=sA _ _ ab av au;have TA:Tups Z Q (ptsE es c):=sA.tups A.ip ⟨_,A.hm⟩ T0;have DA:Tups Z U (zf4 es):=sA.tups A.ip ⟨_,A.hm⟩ W;obtain⟨M,a2,a3⟩:∃M,atI Q 300=some (.ref M)/\Z M=some (.tup (c.map V.int)):=by
       have a9:=Qe (l:=Q) (i:=300) (by rw[zd6 T0,zD6];omega);obtain⟨b,ak,e,ey,hb⟩:=zm9 TA a9;have pl:=zT1 es c;rw[h3,ey] at pl;cases pl;exact⟨b,zh5 (j:=300) (by rw[a9,e]),hb⟩
     clear sA A T0 W aa ab ae;have kk:=Ch.keep24 C.vs C.ks ch;refine⟨_,rfl,_,rfl,q,_,_,_,rfl,rfl,SqL.of N,a2,_,rfl,a,O,5,rfl,(C.sm.trans a6).seq hS,J,M,_,n,r,d,f,c,rfl,S1.same a6,Vc,a3,λv HB sB hv=>?_⟩;have PB:=PA.same sB;obtain⟨⟨k,i,H⟩,y,rfl⟩:∃e y,es=e::y:=by
       cases es with
       | nil=>cases h3
       | cons e y=>exact⟨e,y,rfl⟩
     obtain⟨ec,L,ah⟩:=id ch;replace ec:c=k.set i H:=ec;replace L:Lets n r f d k i H:=L;replace ah:Ch n r f d s y k:=ah;have V0:=ah.valid C.vs;have k0:=Ch.keep24 C.vs C.ks ah;have b0:k∈nbs n r f d c:=yd2 V0 k0 (zy0.mpr ⟨i,H,L,ec⟩);rcases hv with⟨_,bx⟩ | ⟨i2,q2,mo,rfl,L2,dw⟩
     . rw[bx] at b0
       cases b0
     have dy:0<c.length:=by rw[ec,QW];have:=L.lt;omega
     have c1:atI (c.map V.int) 0=some (.int (c.getD 0 0)):=ze8 (by omega) (by show(0:Int)<_;omega);refine⟨_,rfl,(by show 3<=sizeLine;decide),λt1 HC sC f1 h1=>?_⟩;have a7:=sB.trans sC;refine⟨_,rfl,q,_,_,_,rfl,rfl,SqL.of (a7 _ _ N),a2,M,_,_,_,rfl,rfl,SqT.of (a7 _ _ a3),c1,_,rfl,q,_,_,_,rfl,rfl,SqL.of (a7 _ _ N),a2,M,_,_,_,rfl,rfl,SqT.of (a7 _ _ a3),c1,(by show 3<=sizeLine;decide),λt2 HD sD f2 h2=>⟨(by show 3<=sizeLine;decide),λlt HE sE f3 h4=>?_⟩⟩;have bd:=a7.trans (sD.trans sE);refine⟨lt,rfl,⟨_,SqL.of h4⟩,zp8 (K:=K) (a:=lt) (xs:=[.ref mo,.ref t1,.ref t2]) (λj I F=>X1 λb1=>A2 (I=[some (.ref a),some (.ref J),some (.ref st),some (.ref go),some (.ref p),some (.ref q),some (.ref E),X,Y,some (.ref mo),b1,none]) (Same HE F)) ⟨none,rfl,Same.refl _⟩ (λj I F _ ⟨_,_,s⟩=>SqL.of (s _ _ h4)) ?_ ?_⟩
     . rintro j ak I HF hj ⟨b1,rfl,ai⟩
       obtain⟨y',rfl⟩:∃y',ak = .ref y':=by
         have hm:=Qt hj;simp only[Qq,QS,or_false] at hm
         rcases hm with rfl | rfl | rfl<;>exact⟨_,rfl⟩
       have a0:=bd.trans ai;refine⟨_,rfl,_,rfl,p,y',b,u,x,m,n,r,d,f,s,c,o,_,rfl,PA.same a0,Vc,af,λHG sG=>⟨_,rfl,iteF ?_⟩⟩;have B:=a0.trans sG;refine⟨_,rfl,_,rfl,q,_,_,_,rfl,rfl,SqL.of (B _ _ N),a2,_,rfl,p,M,E,b,u,x,m,n,r,d,f,s,c,o,U,_,rfl,⟨PA.same B,B _ _ b6,B.tups DA,ch⟩,B _ _ a3,by omega,by omega,λHI sI=>⟨_,rfl,iteF ?_⟩⟩;exact⟨_,rfl,ai.trans (sG.trans sI)⟩
     . rintro I HF ⟨b1,rfl,ai⟩
       have a0:=bd.trans ai;obtain⟨b4,be,b2⟩:∃b4,atI Q 299=some (.ref b4)/\Z b4=some (.tup (k.map V.int)):=by
         have a9:=Qe (l:=Q) (i:=299) (by rw[zd6 TA,zD6];omega);obtain⟨b,ak,e,ey,hb⟩:=zm9 TA a9;have pl:=pts_prev (k,i,H) y c;rw[show y.length=299 by rw[Ql] at h3;omega,ey] at pl;cases pl;exact⟨b,zh5 (j:=299) (by rw[a9,e]),hb⟩
       clear bd ai a7 sD sE f1 f2 f3 h1 h2 h4 sC sB;have PF:=PA.same a0;obtain⟨cx,c2⟩:=PF.hp;refine⟨_,rfl,p,cx,_,rfl,c2,pf_fewest _ _ _ _,_,rfl,q,_,_,_,rfl,rfl,SqL.of (a0 _ _ N),be,p,b,u,x,m,b4,n,r,d,f,s,c,k,o,_,rfl,PF,Vc,V0,.inr (a0 _ _ b2),kk,k0,b0,(by rw[ec];exact Ne.symm L.diff),λwy HG sG bn=>?_⟩;have B:=a0.trans sG;have cz:c≠k:=by rw[ec];exact L.diff
       refine⟨_,rfl,_,rfl,q,_,_,_,rfl,rfl,SqL.of (B _ _ N),a2,_,rfl,q,_,_,_,rfl,rfl,SqL.of (B _ _ N),be,_,rfl,J,M,b4,wy,n,r,d,f,c,k,rfl,S1.same (a6.trans B),Vc,B _ _ a3,B _ _ b2,bn,λHI sI=>⟨_,rfl,iteF ?_⟩⟩;obtain⟨dz,la,ag,sh,D,c3⟩:=bn.one b0 cz;refine⟨_,rfl,wy,_,D,_,_,rfl,sI _ _ c3,T.ah,T.ax,zN4 _ _ _ _ _ _,rfl,_,rfl,iteB (by rw[Qg rfl];rfl) ?_⟩;have a1:=B.trans sI;clear c3 bn sG sI c2;have D1:=a1.tups DA;rw[zg7] at D1;obtain⟨aj,bm,bf,W,ay⟩:=zw1 D1;have bp:y.length=299:=by rw[Ql] at h3;omega
       have c4:aj.length=299:=by rw[zd6 W,zg5,bp]
       have am:atI U 299=some (.ref bm):=by rw[bf];exact zh5 (j:=299) (by rw[QG (by omega),c4];rfl)
       have cy:cutV U none (some 299)=aj:=by rw[bf];exact cut_init aj (.ref bm) c4
       have PI:=PA.same a1;have bo:=Vc.len;have db:=V0.len;have hw:=C.ok.w;have ce:c.set i (k.getD i 0)=k:=by
         rw[ec];exact yp0 L.lt
       have ei:i<c.length:=by rw[ec,QW];exact L.lt
       have b7:=a1 _ _ N;have bq:=a1 _ _ b6;have br:=a1 _ _ a3;have cf:=a1 _ _ b2;have TI:=a1.tups TA;have c5:=a6.trans a1;clear D1 DA TA N b6 a3 b2 PF a0;refine⟨_,rfl,a,O,5,rfl,(C.sm.trans c5).seq hS,_,_,rfl,rfl,(by show(0:Int)<3;decide),_,_,rfl,rfl,?_⟩;have e3:=Zc (O.getD 5 0) (b:=3) (by decide);have e4:=Za (O.getD 5 0) (b:=3) (by decide);refine⟨_,rfl,by omega,by omega,zh1 (n:=(1+O.getD 5 0 % 3).toNat) (λj I F=>X4 λX Y x o=>A4 (I=[some (.ref a),some (.ref J),some (.ref st),some (.ref go),some (.ref p),some (.ref q),some (.ref E),X,Y,some (.ref mo),b1,some (.ref wy)]) (zf8 t F p b u x m n r f d s c o (zf4 ((k,i,H)::y))) (o.length=300) (zi4 p m HI F)) ⟨X,Y,x,o,rfl,PI,af,λ_ _ e _ _=>e⟩ ?_ ?_⟩
       . rintro j I HJ hj ⟨X,Y,x,o,rfl,PJ,af,sJ⟩
         obtain⟨d0,d1⟩:=PJ.hp;have TJ:=PJ.tm;rw[zg7] at TJ;obtain⟨a4,tv,d2,T0,c6⟩:=zw1 TJ;have e0:a4.length=299:=by rw[zd6 T0,zg5,bp]
         refine⟨_,rfl,p,d0,_,rfl,d1,yj8 _ _ _ _,p,b,u,x,m,n,r,d,f,s,c,o,_,rfl,PJ,by omega,by omega,a4,_,tv,i,k.getD i 0,H,d2,zg7 _ _,c6,ei,λx1 HL sL PL=>?_⟩;rw[ce] at PL;have a8:=sJ.trans sL;have bu:=sL.tup PJ.ip ⟨_,PJ.hm⟩ c6;have bv:=a8.tup PI.ip ⟨_,PI.hm⟩ ay;have a5:=a8 _ _ bq av au;have al:=a8 _ _ b7 ad ac;have cg:=a8.tup PI.ip ⟨_,PI.hm⟩ cf;have D1:Tups HL aj (zf4 y):=a8.tups PI.ip ⟨_,PI.hm⟩ W;refine⟨_,rfl,_,_,_,_,_,rfl,.ty _,.tup bu,rfl,_,rfl,iteF ?_⟩;refine⟨_,rfl,_,rfl,E,_,_,_,rfl,rfl,SqL.of a5,am,tv,bm,rowE (k,i,H),rowE (k,i,H),rfl,.inr (SqT.of bu),.inr (SqT.of bv),(by show 3<=1000;decide),?_⟩;rw[Qg rfl];refine⟨_,rfl,iteF ?_⟩;refine⟨_,rfl,_,rfl,q,_,_,_,rfl,rfl,SqL.of al,be,_,rfl,_,rfl,E,_,rfl,SqL.of a5,λl2 HM sM f2 ar=>?_⟩;rw[cy] at ar;have PM:=PL.same sM;refine⟨p,b4,l2,b,u,x1,m,n,r,d,f,s,k,a4,aj,y,rfl,⟨PM,ar,sM.tups D1,ah⟩,sM _ _ cg,by omega,by omega,λHN sN=>⟨_,rfl,iteF ?_⟩⟩;have PN:=PM.same sN;have bg:=sM.trans sN;obtain⟨d3,d4⟩:=PN.hp;have e5:=V0.len;refine⟨_,rfl,p,d3,_,rfl,d4,zI2 _ _ _ _,_,rfl,E,_,_,_,rfl,rfl,SqL.of (bg _ _ a5),am,p,bm,b,u,x1,m,n,r,d,H,f,s,k,a4,zf4 y,i,rfl,PN,V0,.inr ⟨bg _ _ bv,L,by omega,λx2 bh d5 sO PO=>?_⟩⟩;rw[<-ec] at PO;have bi:=a8.trans ((Same.two bg p m).trans sO);have ci:=bi _ _ b7 ad ac;have cj:=bi.tup PI.ip ⟨_,PI.hm⟩ br;refine⟨_,rfl,_,_,_,_,_,rfl,.ty _,.tup PO.hx,rfl,_,rfl,iteF ?_⟩;refine⟨_,rfl,_,rfl,q,_,_,_,rfl,rfl,SqL.of ci,a2,x2,M,c,c,rfl,.inr (SqT.of PO.hx),.inr (SqT.of cj),by omega,?_⟩;rw[Qg rfl];refine⟨_,rfl,iteF ?_⟩;have c7:zf8 t d5 p b u x2 m n r f d s c (a4++[.ref bh]) (zf4 ((k,i,H)::y)):=by rw[zg7];exact PO
         refine⟨_,rfl,_,rfl,p,mo,b,u,x2,m,n,r,d,f,s,c,a4++[.ref bh],_,rfl,c7,Vc,by rw[Qi];show _+1=_;omega,λHR sR=>⟨_,rfl,iteF ?_⟩⟩;exact⟨_,_,x2,a4++[.ref bh],rfl,c7.same sR,by rw[Qi];show _+1=_;omega,bi.trans (Same.two sR p m)⟩
       . rintro I HJ ⟨X,Y,x,o,rfl,PJ,af,sJ⟩
         have a5:=sJ _ _ bq av au;have al:=sJ _ _ b7 ad ac;have cl:=sJ.tup PI.ip ⟨_,PI.hm⟩ br;have T1:Tups HJ Q (ptsE ((k,i,H)::y) c):=sJ.tups PI.ip ⟨_,PI.hm⟩ TI;have D1:Tups HJ U (zf4 ((k,i,H)::y)):=by
           rw[zg7,bf];exact zo7 (sJ.tups PI.ip ⟨_,PI.hm⟩ W) (sJ.tup PI.ip ⟨_,PI.hm⟩ ay)
         have d6:Same H1 HJ:=λb b5 e=>sJ _ _ (c5 _ _ e) (za9 e ao) (za9 e ap)
         refine⟨_,rfl,_,rfl,q,_,_,_,rfl,rfl,SqL.of al,a2,_,rfl,p,M,E,b,u,x,m,n,r,d,f,s,c,o,U,_,rfl,⟨PJ,a5,D1,ch⟩,cl,by omega,by omega,λHN sN=>?_⟩;exact⟨_,rfl,iteT ⟨_,rfl,_,rfl,_,rfl,J,q,E,n,r,d,f,s,c,Q,U,_,rfl,S1.same (d6.trans sN),C.vs,C.ks,sN _ _ al,sN.tups T1,sN _ _ a5,sN.tups D1,ch,h3,λF _=>bj F⟩⟩
end
theorem ars {n:Nat}{us:List Value}(h:us.length=n+1):∃x a,us=x::a/\a.length=n:=by
 cases us with
 | nil=>cases h
 | cons x a=>exact⟨x,a,rfl,Nat.succ.inj h⟩
theorem ar1 {us:List Value}(h:us.length=1):∃a,us=[a]:=by
 obtain⟨b,d,rfl,c⟩:=ars h;obtain rfl:=Qy c;exact⟨b,rfl⟩
theorem ar2 {us:List Value}(h:us.length=2):∃a b,us=[a,b]:=by
 obtain⟨c,g,rfl,d⟩:=ars h;obtain⟨e,i,rfl,f⟩:=ars d;obtain rfl:=Qy f;exact⟨c,e,rfl⟩
theorem ar3 {us:List Value}(h:us.length=3):∃a b c,us=[a,b,c]:=by
 obtain⟨d,k,rfl,e⟩:=ars h;obtain⟨f,l,rfl,g⟩:=ars e;obtain⟨i,m,rfl,j⟩:=ars g;obtain rfl:=Qy j;exact⟨d,f,i,rfl⟩
theorem ar4 {us:List Value}(h:us.length=4):∃a b c d,us=[a,b,c,d]:=by
 obtain⟨e,n,rfl,f⟩:=ars h;obtain⟨g,o,rfl,i⟩:=ars f;obtain⟨j,p,rfl,k⟩:=ars i;obtain⟨l,q,rfl,m⟩:=ars k;obtain rfl:=Qy m;exact⟨e,g,j,l,rfl⟩
theorem ar5 {us:List Value}(h:us.length=5):∃a b c d e,us=[a,b,c,d,e]:=by
 obtain⟨f,q,rfl,g⟩:=ars h;obtain⟨i,r,rfl,j⟩:=ars g;obtain⟨k,s,rfl,l⟩:=ars j;obtain⟨m,t,rfl,n⟩:=ars l;obtain⟨o,u,rfl,p⟩:=ars n;obtain rfl:=Qy p;exact⟨f,i,k,m,o,rfl⟩
theorem ar7 {us:List Value}(h:us.length=7):∃a b c d e f g,us=[a,b,c,d,e,f,g]:=by
 obtain⟨i,w,rfl,j⟩:=ars h;obtain⟨k,x,rfl,l⟩:=ars j;obtain⟨m,y,rfl,n⟩:=ars l;obtain⟨o,z,rfl,p⟩:=ars n;obtain⟨q,A,rfl,r⟩:=ars p;obtain⟨s,B,rfl,t⟩:=ars r;obtain⟨u,C,rfl,v⟩:=ars t;obtain rfl:=Qy v;exact⟨i,k,m,o,q,s,u,rfl⟩
theorem all_mk {l:W.OpenLaw} {w:World} {K:W.Frag} {h:Heap} {mg:Str->Option Value} {fa:Addr} (X:K.In h) (G:h.Ns mainGlobals mg) (hfa:mg "law" = some (.ref fa))
   {cy aZ a0 a1 ak a2:Value} {cz a3:Option Addr} {cA:Array (Option Value)} {ad:Addr}
   {ao:Addr} {cB:Value} {cC:Option Addr} {cD:Nat} {cE:Array (Option Value)} {cF cG:Value}
   {c4 a6 a7 a8 ap a9:Value} {c5 ba:Option Addr} {c6:Array (Option Value)} {af:Addr}
   {av:Addr} {c7:Value} {c8:Option Addr} {c9:Nat} {da:Array (Option Value)} {db:Value}
   {dc bb bc bd aq be:Value} {dd bf:Option Addr} {de:Array (Option Value)} {ag:Addr}
   {aw:Addr} {df:Value} {dg:Option Addr} {dh:Nat} {di:Array (Option Value)} {dj:Value}
   {aI:Addr}
   {d3:Addr}
   {bH:Addr}
   {bW:Addr}
   {a4:Addr}
   {bX:Addr}
   {fU:Addr}
   {fV:Addr}
   {fW:Addr}
   {fC:Addr}
   {d4:Addr}
   {fD:Addr}
   {fE:Addr}
   {ec:Addr}
   {ed:Addr}
   {fX:Addr}
   {ca:Addr}
   {bI:Addr}
   {cI:Addr}
   {bY:Addr}
   {fY:Addr}
   {a5:Addr}
   {dk:Addr}
   {ee:Addr}
   {cb:Addr}
   {ef:Addr}
   {bZ:Addr}
   {aJ:Addr}
   {aK:Addr}
   {aL:Addr}
   {ax:Addr}
   {am:Addr}
   {bg:Addr}
   {cc:Addr}
   {cJ:Addr}
   {cK:Addr}
   {b0:Addr}
   {bJ:Addr}
   {b1:Addr}
   {cd:Addr}
   {b2:Addr}
   {cL:Addr}
   {d5:Addr}
   {eg:Addr}
   {ce:Addr}
   {bK:Addr}
   {cM:Addr}
   {fZ:Addr}
   {d6:Addr}
   {eh:Addr}
   {d7:Addr}
   {fF:Addr}
   {ei:Addr}
   {d8:Addr}
   {ej:Addr}
   {ek:Addr}
   {el:Addr}
   {em:Addr}
   {cf:Addr}
   {en:Addr}
   {b3:Addr}
   {eo:Addr}
   {ep:Addr}
   {fG:Addr}
   {fH:Addr}
   {eq:Addr}
   {er:Addr}
   {b4:Addr}
   {es:Addr}
   {et:Addr}
   {eu:Addr}
   {cN:Addr}
   {ev:Addr}
   {ew:Addr}
   {ex:Addr}
   {gt gu gv gw f0 gx:Value} {gy gz:Option Addr} {gA:Array (Option Value)} {fM:Addr}
   {ai:Addr}
   {ah:Addr}
   {ae:Addr}
   {aa:Addr}
   {ab:Addr}
   {ac:Addr}
   {eP eQ:Str} {fN:Addr} {eR cO:List Value} {eS:List Str} {ey:List Value} {eT:Bool} {ez:Option Bool} {eU:Option Addr} {eV eW eX eY eZ:Option Value}
   {e0 e1:Str} {fO:Addr} {e2 cP:List Value} {e3:List Str} {eA:List Value} {e4:Bool} {eB:Option Bool} {e5:Option Addr} {e6 e7 e8 e9 fb:Option Value}
   {ea:ClassData}
   {eC:ClassData}
   {eD:ClassData}
   {aB:Tok}
   {bw:Tok}
   {bh:Tok}
   {aC:Tok}
   {bx:Tok}
   {ar:Tok}
   {bi:Tok}
   {aD:Tok}
   {cg:Tok}
   (gB:W.nsIn K mainGlobals "Beam" = some (some (.ref ai)))
   (gI:W.nsIn K mainGlobals "Way" = some (some (.ref ah)))
   (gC:W.nsIn K mainGlobals "Play" = some (some (.ref ae)))
   (fP:W.nsIn K mainGlobals "PlayFull" = some (some (.ref aa)))
   (fQ:W.nsIn K mainGlobals "NoWeight" = some (some (.ref ab)))
   (fc:W.nsIn K mainGlobals "BeamError" = some (some (.ref ac)))
   (dl:W.findIn K (.ref ac) "__init__" = some (some (.ref ad)))
   (f4:W.isFn K (.ref ad)=true)
   (dm:K.lookup ad=some ⟨cy,cz,.func (W.fnOf "__init__" "BeamError.__init__" (zh6 ze5) (zd2 ze5) (za7 ze5) (.ref ao) aZ a0 a1 a3 ak a2),cA⟩)
   (dn:W.codeIn K ak "BeamError.__init__" = true) (aj:W.keepIn K (.ref ad)=true)
   (cH:K.lookup ao=some ⟨cB,cC,.seq #[cF,cG] cD,cE⟩)
   (bt:W.findIn K (.ref aa) "__init__" = some (some (.ref af)))
   (dO:W.isFn K (.ref af)=true)
   (dP:K.lookup af=some ⟨c4,c5,.func (W.fnOf "__init__" "PlayFull.__init__" (zh6 zf2) (zd2 zf2) (za7 zf2) (.ref av) a6 a7 a8 ba ap a9),c6⟩)
   (dQ:W.codeIn K ap "PlayFull.__init__" = true) (ay:W.keepIn K (.ref af)=true)
   (dp:K.lookup av=some ⟨c7,c8,.seq #[db] c9,da⟩)
   (bu:W.findIn K (.ref ab) "__init__" = some (some (.ref ag)))
   (dR:W.isFn K (.ref ag)=true)
   (dS:K.lookup ag=some ⟨dc,dd,.func (W.fnOf "__init__" "NoWeight.__init__" (zh6 zf3) (zd2 zf3) (za7 zf3) (.ref aw) bb bc bd bf aq be),de⟩)
   (dT:W.codeIn K aq "NoWeight.__init__" = true) (az:W.keepIn K (.ref ag)=true)
   (dq:K.lookup aw=some ⟨df,dg,.seq #[dj] dh,di⟩)
   (cQ:W.findIn K (.ref ai) "__init__" = some (some (.ref aI)))
   (fe:W.isFn K (.ref aI)=true)
   (bz:∃fd,Dm K "__init__" "Beam.__init__" Pu zz6 aI fd)
   (ch:∃fd,Df K mg "outside" Pv zJ8 d3 fd)
   (aE:∃fd,Df K mg "check_bounds" Pw zr8 bH fd)
   (aQ:∃fd,Df K mg "check_hefts" ["hefts"] zt9 bW fd)
   (al:∃fd,Df K mg "check_standings" Vf zo1 a4 fd)
   (aR:∃fd,Df K mg "as_standing" Pa zu0 bX fd)
   (eE:∃fd,Df K mg "tilt" Pa zP7 fU fd)
   (eF:∃fd,Df K mg "side" Pa ye0 fV fd)
   (eG:∃fd,Df K mg "past" Px ye1 fW fd)
   (dX:∃fd,Df K mg "keeps" Pa zZ1 fC fd)
   (ci:∃fd,Df K mg "in_hand" Vh zJ9 d4 fd)
   (dY:∃fd,Df K mg "moved" Py zZ2 fD fd)
   (dZ:∃fd,Df K mg "moves" Pa zG9 fE fd)
   (dr:∃fd,Df K mg "turned" Pd zP8 ec fd)
   (ds:∃fd,Df K mg "behind" Pz zP9 ed fd)
   (eH:∃fd,Df K mg "full" PD ye2 fX fd)
   (bj:∃fd,Df K mg "check_move" Pm zx2 ca fd)
   (aF:∃fd,Df K mg "check_weight" Pn zr9 bI fd)
   (bA:∃fd,Df K mg "check_put" PH zz7 cI fd)
   (aS:∃fd,Df K mg "check_tilts" PK zu1 bY fd)
   (eI:∃fd,Df K mg "puts" Vi zQ0 fY fd)
   (dU:W.findIn K (.ref ah) "__init__" = some (some (.ref a5)))
   (fR:W.isFn K (.ref a5)=true)
   (bR:∃fd,Dm K "__init__" "Way.__init__" PP zF1 a5 fd)
   (dt:∃fd,Df K mg "fewest" Ph zQ1 dk fd)
   (du:∃fd,Df K mg "search" Ph zQ2 ee fd)
   (bk:∃fd,Df K mg "next_layer" Vj zx3 cb fd)
   (dv:∃fd,Df K mg "row_to" Vl zQ3 ef fd)
   (aT:∃fd,Df K mg "moved_again" Pf zi6 bZ fd)
   (cR:W.findIn K (.ref ae) "__init__" = some (some (.ref aJ)))
   (ff:W.isFn K (.ref aJ)=true)
   (bB:∃fd,Dm K "__init__" "Play.__init__" Vm zz8 aJ fd)
   (cS:W.findIn K (.ref ae) "move" = some (some (.ref aK)))
   (fg:W.isFn K (.ref aK)=true)
   (aM:∃fd,Dm K "move" "Play.move" Po zz9 aK fd)
   (cT:W.findIn K (.ref ae) "back" = some (some (.ref aL)))
   (fh:W.isFn K (.ref aL)=true)
   (aN:∃fd,Dm K "back" "Play.back" Pg zA0 aL fd)
   (cj:W.findIn K (.ref ae) "trail" = some (some (.ref ax)))
   (eJ:W.isFn K (.ref ax)=true)
   (aA:∃fd,Dm K "trail" "Play.trail" Pg zx4 ax fd)
   (b5:W.findIn K (.ref ae) "fewest" = some (some (.ref am)))
   (eb:W.isFn K (.ref am)=true)
   (an:∃fd,Dm K "fewest" "Play.fewest" PQ zu2 am fd)
   (au:∃fd,Df K mg "write_standing" Pa zj2 bg fd)
   (bl:∃fd,Df K mg "write_move" Pd zx5 cc fd)
   (bC:∃fd,Df K mg "read_move" Pb zA1 cJ fd)
   (bD:∃fd,Df K mg "read_beam" Pb zi3 cK fd)
   (aU:∃fd,Df K mg "read_weight" Pf zu3 b0 fd)
   (aG:∃fd,Df K mg "words_behind" Vo zs0 bJ fd)
   (aV:∃fd,Df K mg "write_place" Pp zu4 b1 fd)
   (bm:∃fd,Df K mg "read_place" Pb zx6 cd fd)
   (aW:∃fd,Df K mg "read_number" Pb zu5 b2 fd)
   (bE:∃fd,Df K mg "is_number" Pb zq3 cL fd)
   (ck:∃fd,Df K mg "answers" Vp zK0 d5 fd)
   (dw:∃fd,Df K mg "answer" Pi zQ4 eg fd)
   (bn:∃fd,Df K mg "answer_row" Pi zx7 ce fd)
   (aH:∃fd,Df K mg "answer_words" PR zs1 bK fd)
   (bF:∃fd,Df K mg "tell_tilt" ["play"] zA2 cM fd)
   (eK:∃fd,Df K mg "_law_at" PU ye3 fZ fd)
   (cl:∃fd,Df K mg "_law_whole" PV zK1 d6 fd)
   (dx:∃fd,Df K mg "_law_figs" Vq zQ5 eh fd)
   (cm:∃fd,Df K mg "_law_shape" Pc zv5 d7 fd)
   (d0:∃fd,Df K mg "_law_put" Vr zZ3 fF fd)
   (dy:∃fd,Df K mg "_law_tilt" Pj zQ6 ei fd)
   (cn:∃fd,Df K mg "_law_limit" Vs zK2 d8 fd)
   (dz:∃fd,Df K mg "_law_hard" ["_law_cell"] zQ7 ej fd)
   (dA:∃fd,Df K mg "_law_case" Pc zQ8 ek fd)
   (dB:∃fd,Df K mg "_law_lets" Vt zQ9 el fd)
   (dC:∃fd,Df K mg "_law_near" Pk zA3 em fd)
   (bo:∃fd,Df K mg "_law_is_spots" Vu zx8 cf fd)
   (dD:∃fd,Df K mg "_law_same" Pl zR0 en fd)
   (aX:∃fd,Df K mg "_law_same_rows" Pl zu6 b3 fd)
   (dE:∃fd,Df K mg "_law_walk" Vv zR1 eo fd)
   (dF:∃fd,Df K mg "_law_beam" PX zR2 ep fd)
   (d1:∃fd,Df K mg "_law_way" PY zZ4 fG fd)
   (d2:∃fd,Df K mg "_law_say" Pq zZ5 fH fd)
   (dG:∃fd,Df K mg "_law_text" Pk zR3 eq fd)
   (dH:∃fd,Df K mg "_law_goal" Pr zA4 er fd)
   (aY:∃fd,Df K mg "_law_move_text" Ps zu7 b4 fd)
   (dI:∃fd,Df K mg "_law_lean" Pj zR4 es fd)
   (dJ:∃fd,Df K mg "_law_pick" Vw zA5 et fd)
   (dK:∃fd,Df K mg "_law_full" PZ zR5 eu fd)
   (bG:∃fd,Df K mg "_law_refused" Vd zA6 cN fd)
   (dL:∃fd,Df K mg "_law_fits" Ve zR6 ev fd)
   (dM:∃fd,Df K mg "_law_long" VA zR7 ew fd)
   (dN:∃fd,Df K mg "_law_desk" VB zs2 ex fd)
   (fS:W.nsIn K mainGlobals "law" = some (some (.ref fM)))
   (gJ:K.lookup fM=some ⟨gt,gy,.func (W.fnOf "law" "law" (zh6 zV5) (zd2 zV5) (za7 zV5) .none gu gv gw gz f0 gx),gA⟩)
   (gK:W.codeIn K f0 "law" = true) (fT:W.keepIn K (.ref fM)=true)
   (gf:W.plainGet K ai Str.empty=true) (gg:W.hasDictIn K ai=true) (gh:W.plainOver K ai=true) (gi:W.findIn K (.ref ai) "__setattr__" = some (some (.builtin "object.__setattr__"))) (fI:W.makesIn K ai=true) (gj:W.keepIn K (.ref ai)=true)
   (bv:W.findIn K (.ref ai) "notches" = some none)
   (co:W.findIn K (.ref ai) "room" = some none)
   (b6:W.findIn K (.ref ai) "hefts" = some none)
   (b7:W.findIn K (.ref ai) "limit" = some none)
   (gD:W.plainGet K ah Str.empty=true) (gE:W.hasDictIn K ah=true) (gF:W.plainOver K ah=true) (gG:W.findIn K (.ref ah) "__setattr__" = some (some (.builtin "object.__setattr__"))) (f1:W.makesIn K ah=true) (gH:W.keepIn K (.ref ah)=true)
   (bL:W.findIn K (.ref ah) "reached" = some none)
   (cU:W.findIn K (.ref ah) "many" = some none)
   (dV:W.findIn K (.ref ah) "row" = some none)
   (b8:W.findIn K (.ref ah) "layers" = some none)
   (cp:W.findIn K (.ref ah) "again" = some none)
   (cV:W.findIn K (.ref ah) "shut" = some none)
   (gk:W.plainGet K ae Str.empty=true) (gl:W.hasDictIn K ae=true) (gm:W.plainOver K ae=true) (gn:W.findIn K (.ref ae) "__setattr__" = some (some (.builtin "object.__setattr__"))) (fJ:W.makesIn K ae=true) (go:W.keepIn K (.ref ae)=true)
   (cq:W.findIn K (.ref ae) "beam" = some none)
   (b9:W.findIn K (.ref ae) "start" = some none)
   (bp:W.findIn K (.ref ae) "standing" = some none)
   (cr:W.findIn K (.ref ae) "made" = some none)
   (fi:K.lookup aa=some (excClassObj eP eQ aa fN eR cO true eS ey eT ez eU eV eW eX eY eZ "ValueError.__new__")) (fj:MroV cO) (fk:W.findIn K (.ref aa) "__setattr__" = some (some (.builtin "object.__setattr__"))) (fl:W.keepIn K (.ref aa)=true)
   (fm:K.lookup ab=some (excClassObj e0 e1 ab fO e2 cP true e3 eA e4 eB e5 e6 e7 e8 e9 fb "ValueError.__new__")) (fn:MroV cP) (fo:W.findIn K (.ref ab) "__setattr__" = some (some (.builtin "object.__setattr__"))) (fp:W.keepIn K (.ref ab)=true)
   (aO:W.findIn K (.ref aa) "reason" = some none)
   (bq:W.findIn K (.ref aa) "word" = some none)
   (aP:W.findIn K (.ref ab) "reason" = some none)
   (br:W.findIn K (.ref ab) "word" = some none)
   (xw1:W.specialIn K (.builtin "object.__class__") "__get__" = some (some (.builtin "getset_descriptor.__get__")))
   (xw2:W.takesIn K (.builtin "object.__class__")=some true)
   (cs:W.clsIn K ac=some ea) (ct:W.typeIn K (.ref ac)=some (.type "type"))
   (cW:W.clsIn K aa=some eC) (cX:W.typeIn K (.ref aa)=some (.type "type"))
   (cY:W.clsIn K ab=some eD) (cZ:W.typeIn K (.ref ab)=some (.type "type"))
   (cu:W.subIn K (.ref ac) (.type "BaseException")=some true)
   (c0:W.subIn K (.ref aa) (.type "BaseException")=some true)
   (c1:W.subIn K (.ref ab) (.type "BaseException")=some true)
   (fq:W.findIn K (.ref aa) "__getattribute__" = some (some (.builtin "BaseException.__getattribute__"))) (fr:W.findIn K (.ref aa) "__getattr__" = some none) (fs:W.mroIn K aa (.type "BaseException")=some true) (ft:W.hasDictIn K aa=true) (fu:W.findIn K (.ref aa) "__class__" = some (some (.builtin "object.__class__"))) (fv:W.mroIn K aa (.type "object")=some true)
   (bM:W.subIn K (.ref aa) (.ref ac)=some true)
   (bS:W.subIn K (.ref aa) (.ref aa)=some true)
   (bT:W.subIn K (.ref aa) (.ref ab)=some false)
   (fw:W.findIn K (.ref ab) "__getattribute__" = some (some (.builtin "BaseException.__getattribute__"))) (fx:W.findIn K (.ref ab) "__getattr__" = some none) (fy:W.mroIn K ab (.type "BaseException")=some true) (fz:W.hasDictIn K ab=true) (fA:W.findIn K (.ref ab) "__class__" = some (some (.builtin "object.__class__"))) (fB:W.mroIn K ab (.type "object")=some true)
   (bN:W.subIn K (.ref ab) (.ref ac)=some true)
   (bU:W.subIn K (.ref ab) (.ref aa)=some false)
   (bV:W.subIn K (.ref ab) (.ref ab)=some true)
   (eL:W.specialIn K (.ref ac) "__getattribute__" = some (some (.builtin "type.__getattribute__"))) (eM:W.readsIn K ac (.type "type")=true) (eN:W.findCls K (.ref ac) (.type "type") "__init__" = some (.val (.ref ad)))
   (gp:W.findIn K (.ref ah) "__class__" = some (some (.builtin "object.__class__")))
   (gq:W.specialIn K (.builtin "object.__class__") "__get__" = some (some (.builtin "getset_descriptor.__get__")))
   (gr:W.takesIn K (.builtin "object.__class__")=some true)
   (gs:W.mroIn K ah (.type "object")=some true)
   (dW:W.nsIn K mainGlobals "fewest_layers" = some (some (.ref dk)))
   (fK:W.nsIn K mainGlobals "tuple" = some none)
   (f5:W.nsIn K mainGlobals "len" = some none)
   (fL:W.nsIn K mainGlobals "range" = some none)
   (f6:W.nsIn K mainGlobals "sum" = some none)
   (f7:W.nsIn K mainGlobals "zip" = some none)
   (f8:W.nsIn K mainGlobals "abs" = some none)
   (eO:W.nsIn K mainGlobals "sorted" = some none)
   (f9:W.nsIn K mainGlobals "set" = some none)
   (f2:W.nsIn K mainGlobals "list" = some none)
   (ga:W.nsIn K mainGlobals "str" = some none)
   (gb:W.nsIn K mainGlobals "int" = some none)
   (gc:W.nsIn K mainGlobals "all" = some none)
   (cv:W.nsIn K mainGlobals "isinstance" = some none)
   (f3:W.nsIn K mainGlobals "bool" = some none)
   (gd:W.nsIn K mainGlobals "min" = some none)
   (ge:W.nsIn K mainGlobals "max" = some none)
   (bO:W.nsIn K mainGlobals "MOST_NOTCHES" = some (some (.int 4 aB)))
   (c2:W.nsIn K mainGlobals "MOST_ROOM" = some (some (.int 3 bw)))
   (cw:W.nsIn K mainGlobals "MOST_LIMIT" = some (some (.int 400 bh)))
   (bP:W.nsIn K mainGlobals "MOST_WEIGHTS" = some (some (.int 5 aC)))
   (c3:W.nsIn K mainGlobals "MOST_HEFT" = some (some (.int 20 bx)))
   (bs:W.nsIn K mainGlobals "MOST_STANDINGS" = some (some (.int 1000 ar)))
   (cx:W.nsIn K mainGlobals "MOST_MOVES" = some (some (.int 300 bi)))
   (bQ:W.nsIn K mainGlobals "MOST_FIGURES" = some (some (.int 4 aD)))
   (d9:W.nsIn K mainGlobals "FIGURES" = some (some (.str (Str.ofString "0123456789") cg))) :
   ∃fd:FuncData,(∀(s:Shared) (v:Value),BindsTo s fd ⟨[v],[]⟩ [("_law_script",v)])/\∀base:Heap,K.In base->base.Ns mainGlobals mg->FnOk l.prog w K mg base CX0 13 fa fd Pc (yj3 K):=by
 have e:=hfa.symm.trans (W.mg_of X G fS);cases e;have F_BeamError_init:=zY3 (st:=ze5) dm dn aj;have b_BeamError_init:zk9 K _ Pt []:=λs us X hl=>by
   rw[Zt] at hl ⊢
   match us,hl with
   | [_,_,_],_=>exact BindsTo.of_defaults (fd:=W.fnOf "__init__" "BeamError.__init__" (zh6 ze5) (zd2 ze5) (za7 ze5) (.ref ao) aZ a0 a1 a3 ak a2) rfl (X _ _ cH) rfl rfl rfl
 have F_PlayFull_init:=zY3 (st:=zf2) dP dQ ay;have b_PlayFull_init:zk9 K _ Pe []:=λs us X hl=>by
   rw[Zt] at hl ⊢
   match us,hl with
   | [_,_],_=>exact BindsTo.of_defaults (fd:=W.fnOf "__init__" "PlayFull.__init__" (zh6 zf2) (zd2 zf2) (za7 zf2) (.ref av) a6 a7 a8 ba ap a9) rfl (X _ _ dp) rfl rfl rfl
 have F_NoWeight_init:=zY3 (st:=zf3) dS dT az;have b_NoWeight_init:zk9 K _ Pe []:=λs us X hl=>by
   rw[Zt] at hl ⊢
   match us,hl with
   | [_,_],_=>exact BindsTo.of_defaults (fd:=W.fnOf "__init__" "NoWeight.__init__" (zh6 zf3) (zd2 zf3) (za7 zf3) (.ref aw) bb bc bd bf aq be) rfl (X _ _ dq) rfl rfl rfl
 have F_law:=zO1 (st:=zV5) gJ gK fT;have b_law:=F_law.binds (ps:=Pc) λ_ _ _ _ _ _ us hl=>by obtain⟨x0,rfl⟩:=ar1 hl;rfl
 have T:Txt K mg { ah:=ad,ai:=_,ae:=af,aj:=_,af:=ag,ak:=_,ax:=aI,bf:=bz.choose,bz:=d3,bA:=ch.choose,aE:=bH,aF:=aE.choose,aK:=bW,aL:=aQ.choose,av:=a4,aw:=al.choose,aM:=bX,aN:=aR.choose,cJ:=fU,cK:=eE.choose,cL:=fV,cM:=eF.choose,cN:=fW,cO:=eG.choose,cw:=fC,cx:=dX.choose,bB:=d4,bC:=ci.choose,bu:=fD,bv:=dY.choose,cy:=fE,cz:=dZ.choose,bL:=ec,bM:=dr.choose,bN:=ed,bO:=ds.choose,cP:=fX,cQ:=eH.choose,aq:=ca,ar:=bj.choose,an:=bI,ao:=aF.choose,bg:=cI,bh:=bA.choose,aO:=bY,aP:=aS.choose,cR:=fY,cS:=eI.choose,aD:=a5,bw:=bR.choose,a3:=dk,bP:=dt.choose,bQ:=ee,bR:=du.choose,a4:=cb,a5:=bk.choose,bS:=ef,bT:=dv.choose,aQ:=bZ,aR:=aT.choose,ay:=aJ,bi:=bB.choose,al:=aK,az:=aM.choose,aA:=aL,bj:=aN.choose,au:=ax,a6:=aA.choose,ap:=am,aS:=an.choose,aB:=bg,aC:=au.choose,a7:=cc,a8:=bl.choose,bk:=cJ,bl:=bC.choose,bm:=cK,bn:=bD.choose,aT:=b0,aU:=aU.choose,aG:=bJ,aH:=aG.choose,aV:=b1,aW:=aV.choose,a9:=cd,ba:=bm.choose,aX:=b2,aY:=aW.choose,bo:=cL,bp:=bE.choose,bD:=d5,bE:=ck.choose,bU:=eg,bV:=dw.choose,bb:=ce,bc:=bn.choose,aI:=bK,aJ:=aH.choose,bq:=cM,br:=bF.choose,cT:=fZ,cU:=eK.choose,bF:=d6,bG:=cl.choose,bW:=eh,bX:=dx.choose,bH:=d7,bI:=cm.choose,cA:=fF,cB:=d0.choose,bY:=ei,bZ:=dy.choose,bJ:=d8,bK:=cn.choose,b0:=ej,b1:=dz.choose,b2:=ek,b3:=dA.choose,b4:=el,b5:=dB.choose,b6:=em,b7:=dC.choose,bd:=cf,be:=bo.choose,b8:=en,b9:=dD.choose,aZ:=b3,a0:=aX.choose,ca:=eo,cb:=dE.choose,cc:=ep,cd:=dF.choose,cC:=fG,cD:=d1.choose,cE:=fH,cF:=d2.choose,ce:=eq,cf:=dG.choose,cg:=er,ch:=dH.choose,a1:=b4,a2:=aY.choose,ci:=es,cj:=dI.choose,ck:=et,cl:=dJ.choose,cm:=eu,cn:=dK.choose,bs:=cN,bt:=bG.choose,co:=ev,cp:=dL.choose,cq:=ew,cr:=dM.choose,cs:=ex,ct:=dN.choose,bx:=fa,cv:=_,ag:=ai,ad:=ah,aa:=ae,ab:=aa,ac:=ab,am:=ac,cG:=aB,cX:=bw,cV:=bh,cH:=aC,cY:=bx,cu:=ar,cW:=bi,cI:=aD,cZ:=cg }:={ bM:=F_BeamError_init,aW:=b_BeamError_init,cH:=aj,b4:=F_PlayFull_init,a0:=b_PlayFull_init,cI:=ay,b5:=F_NoWeight_init,b6:=b_NoWeight_init,cJ:=az,aS:=bz.choose_spec,am:=ch.choose_spec,a4:=aE.choose_spec,a9:=aQ.choose_spec,aR:=al.choose_spec,af:=aR.choose_spec,a1:=eE.choose_spec,cl:=eF.choose_spec,aP:=eG.choose_spec,a5:=dX.choose_spec,a8:=ci.choose_spec,a6:=dY.choose_spec,ca:=dZ.choose_spec,bf:=dr.choose_spec,aK:=ds.choose_spec,bG:=eH.choose_spec,aB:=bj.choose_spec,aw:=aF.choose_spec,bq:=bA.choose_spec,ba:=aS.choose_spec,cm:=eI.choose_spec,bA:=bR.choose_spec,bg:=dt.choose_spec,bN:=du.choose_spec,bh:=bk.choose_spec,bO:=dv.choose_spec,bb:=aT.choose_spec,aT:=bB.choose_spec,ap:=aM.choose_spec,aU:=aN.choose_spec,bi:=aA.choose_spec,bc:=an.choose_spec,aX:=au.choose_spec,bj:=bl.choose_spec,br:=bC.choose_spec,bs:=bD.choose_spec,bd:=aU.choose_spec,ar:=aG.choose_spec,az:=aV.choose_spec,aC:=bm.choose_spec,al:=aW.choose_spec,bt:=bE.choose_spec,bH:=ck.choose_spec,bP:=dw.choose_spec,bk:=bn.choose_spec,a7:=aH.choose_spec,bu:=bF.choose_spec,ao:=eK.choose_spec,aI:=cl.choose_spec,bl:=dx.choose_spec,bI:=cm.choose_spec,bx:=d0.choose_spec,aD:=dy.choose_spec,bJ:=cn.choose_spec,bQ:=dz.choose_spec,bR:=dA.choose_spec,bS:=dB.choose_spec,bT:=dC.choose_spec,bm:=bo.choose_spec,aE:=dD.choose_spec,be:=aX.choose_spec,bU:=dE.choose_spec,bV:=dF.choose_spec,cb:=d1.choose_spec,aQ:=d2.choose_spec,bW:=dG.choose_spec,bX:=dH.choose_spec,aN:=aY.choose_spec,bY:=dI.choose_spec,aY:=dJ.choose_spec,bn:=dK.choose_spec,bv:=bG.choose_spec,aL:=dL.choose_spec,bZ:=dM.choose_spec,b0:=dN.choose_spec,cC:=F_law,cK:=b_law,cL:=W.mg_of X G fS,cM:=fT,ae:=⟨gf,gg,gh,gi⟩,cn:=W.mg_of X G gB,cc:=⟨fI,cQ,fe,gj⟩,ag:=bv,aF:=co,aj:=b6,aO:=b7,ah:=⟨gD,gE,gF,gG⟩,cx:=W.mg_of X G gI,cB:=⟨f1,dU,fR,gH⟩,au:=bL,ax:=cU,aA:=dV,ci:=b8,co:=cp,cs:=cV,aa:=⟨gk,gl,gm,gn⟩,cp:=W.mg_of X G gC,cd:=⟨fJ,cR,ff,go⟩,an:=cq,cj:=b9,ab:=bp,ak:=cr,b7:=W.mg_of X G dW,av:=⟨cS,fg,aM.choose_spec.F.kp⟩,bo:=⟨cT,fh,aN.choose_spec.F.kp⟩,ck:=⟨cj,eJ,aA.choose_spec.F.kp⟩,ce:=⟨b5,eb,an.choose_spec.F.kp⟩,aG:=⟨gp,gq,gr,gs⟩,a2:=W.mg_of X G fP,bB:=W.mg_of X G fQ,aV:=W.mg_of X G fc,a3:=⟨⟨_,_,_,_,_,_,_,_,_,_,_,_,_,_,_,fi,fj⟩,fk,fl⟩,bC:=⟨⟨_,_,_,_,_,_,_,_,_,_,_,_,_,_,_,fm,fn⟩,fo,fp⟩,bD:=bt,bw:=dO,bK:=aO,aZ:=bq,cy:=bu,ct:=dR,bL:=aP,b1:=br,cN:=⟨xw1,xw2⟩,cu:=⟨fq,fr,fs,ft,fu,fv⟩,bz:=zJ5 cu (by rw[cs];rfl) ct bM,bE:=zJ5 c0 (by rw[cW];rfl) cX bS,cO:=zJ5 c1 (by rw[cY];rfl) cZ bT,cP:=⟨fw,fx,fy,fz,fA,fB⟩,cQ:=zJ5 cu (by rw[cs];rfl) ct bN,cR:=zJ5 c0 (by rw[cW];rfl) cX bU,bF:=zJ5 c1 (by rw[cY];rfl) cZ bV,bp:=⟨eL,eM,eN,aj⟩,aq:=W.mg_none_of X G fK,ac:=W.mg_none_of X G f5,ai:=W.mg_none_of X G fL,cD:=W.mg_none_of X G f6,cE:=W.mg_none_of X G f7,aM:=W.mg_none_of X G f8,b2:=W.mg_none_of X G eO,cF:=W.mg_none_of X G f9,aJ:=W.mg_none_of X G f2,ay:=W.mg_none_of X G ga,b8:=W.mg_none_of X G gb,cG:=W.mg_none_of X G gc,ad:=W.mg_none_of X G cv,cq:=W.mg_none_of X G f3,b9:=W.mg_none_of X G gd,cz:=W.mg_none_of X G ge,cf:=W.mg_of X G bO,cv:=W.mg_of X G c2,cr:=W.mg_of X G cw,cg:=W.mg_of X G bP,cw:=W.mg_of X G c3,b3:=W.mg_of X G bs,aH:=W.mg_of X G cx,ch:=W.mg_of X G bQ,cA:=W.mg_of X G d9 }
 exact⟨_,λs v=>.of_eq rfl,λbase _ _=>ok_law T⟩
theorem walk {l:W.OpenLaw}{q:Program}{j:List Str}{o:(Str->Option Value)->Heap->Prop}{e:World->Heap->Prop}{d:DefRec}{K:Params->W.Frag}(p:l.most=some 63)(m:d.params.defaults=[])
   (r:∀(w:World) (h:Heap),e w h->(K w.params).In h)
   (F:∀(w:World) (b:Str->Option Value) (g:Addr) (h:Heap),(K w.params).In h->h.Ns mainGlobals b->b d.name=some (.ref g) →
     ∃i:FuncData,(∀(s:Shared) (u:Value),BindsTo s i ⟨[u],[]⟩ [("_law_script",u)])/\∀c:Heap,(K w.params).In c->c.Ns mainGlobals b->FnOk l.prog w (K w.params) b c CX0 13 g i Pc (yj3 (K w.params))) :
   W.WalkO q j o e l.row.toRowW d [] (λf t=>PySem.call f t) :=
 L2.walk_of (n:=63) (k:=13) (x:="_law_script") (CX:=λ_=>CX0) (sp:=λw=>yj3 (K w.params)) p (by decide) m ⟨rfl,by decide,by decide⟩ r F (λ_ _ a v y _ A=>⟨a,v,rfl,A,y,λ_=>rfl⟩) λ_ _ _ _ _ z=>z
end Bt
open PySem PySem.W PyProof.Rows
set_option maxRecDepth 100000 in
set_option maxHeartbeats 0 in
end
theorem PySem.Challenge.cw_beamtender_k24_play_full_holds : PySem.Challenge.rw_beamtender_k24_play_full.Holds := by
  w_on; o_law; k_head; (case hw => w_witness2)
  k_fill
  refine Bt.walk (l := PySem.Challenge.rw_beamtender_k24_play_full) rfl rfl (λw h Y => PySem.W.kIn_of Y) ?F
  case F =>
    intro w mg fa h KX G hmg;refine' Bt.all_mk KX G hmg ?aA ?aB ?aC ?aD ?aE ?aF ?aG ?aH ?aI ?aJ ?aK ?aL ?aM ?aN ?aO ?aP ?aQ ?aR ?aS ?aT ?aU ?aV ?aW ?aX ?aY ?aZ ?bA ?bB ?bC ?bD ?bE ?bF ?bG ?bH ?bI ?bJ ?bK ?bL ?bM ?bN ?bO ?bP ?bQ ?bR ?bS ?bT ?bU ?bV ?bW ?bX ?bY ?bZ ?cA ?cB ?cC ?cD ?cE ?cF ?cG ?cH ?cI ?cJ ?cK ?cL ?cM ?cN ?cO ?cP ?cQ ?cR ?cS ?cT ?cU ?cV ?cW ?cX ?cY ?cZ ?dA ?dB ?dC ?dD ?dE ?dF ?dG ?dH ?dI ?dJ ?dK ?dL ?dM ?dN ?dO ?dP ?dQ ?dR ?dS ?dT ?dU ?dV ?dW ?dX ?dY ?dZ ?eA ?eB ?eC ?eD ?eE ?eF ?eG ?eH ?eI ?eJ ?eK ?eL ?eM ?eN ?eO ?eP ?eQ ?eR ?eS ?eT ?eU ?eV ?eW ?eX ?eY ?eZ ?fA ?fB ?fC ?fD ?fE ?fF ?fG ?fH ?fI ?fJ ?fK ?fL ?fM ?fN ?fO ?fP ?fQ ?fR ?fS ?fT ?fU ?fV ?fW ?fX ?fY ?fZ ?gA ?gB ?gC ?gD ?gE ?gF ?gG ?gH ?gI ?gJ ?gK ?gL ?gM ?gN ?gO ?gP ?gQ ?gR ?gS ?gT ?gU ?gV ?gW ?gX ?gY ?gZ ?hA ?hB ?hC ?hD ?hE ?hF ?hG ?hH ?hI ?hJ ?hK ?hL ?hM ?hN ?hO ?hP ?hQ ?hR ?hS ?hT ?hU ?hV ?hW ?hX ?hY ?hZ ?iA ?iB ?iC ?iD ?iE ?iF ?iG ?iH ?iI ?iJ ?iK ?iL ?iM ?iN ?iO
    (case aA|aB|aC|aD|aE|aF|aG|aH|aI|aJ|aK|aL|aM|aN|aO|aP|aQ|aR|aS|aT|aU|aV|aW|aX|aY|aZ=>k_is)
    (case bA=>exact L2.dm_mk (by k_is) (by k_is) (by k_is) λ_ _ _ _ _ _ us hl => by obtain ⟨x0, x1, x2, x3, x4, rfl⟩ := Bt.ar5 hl; rfl)
    (case bB|bC|bK|bL|bP|bR|bT|bU|bY|bZ|cA|cX|dF|dQ|dV|eD|eG|eH|eI=>exact L2.df_mk KX G (by k_is) (by k_is) (by k_is) (by k_is) λ_ _ _ _ _ _ us hl=>by obtain ⟨x0,x1,x2,rfl⟩:=Bt.ar3 hl;rfl)
    (case bD|bN|cC|cT|cU|cV|cW|cY|cZ|dA|dB|dG|dI|dK|dO|dP|dW|dY|eA|eB|eF=>exact L2.df_mk KX G (by k_is) (by k_is) (by k_is) (by k_is) λ_ _ _ _ _ _ us hl=>by obtain ⟨x0,rfl⟩:=Bt.ar1 hl;rfl)
    (case bE|bF|bG|bH|bI|bJ|bM|bO|cB|cS|dC|dD|dE|dH|dM|dN|dR|dS|dT|dU|dZ|eC|eE=>exact L2.df_mk KX G (by k_is) (by k_is) (by k_is) (by k_is) λ_ _ _ _ _ _ us hl=>by obtain ⟨x0,x1,rfl⟩:=Bt.ar2 hl;rfl)
    (case bQ=>exact L2.df_mk KX G (by k_is) (by k_is) (by k_is) (by k_is) λ_ _ _ _ _ _ us hl=>by obtain ⟨x0,x1,x2,x3,x4,rfl⟩:=Bt.ar5 hl;rfl)
    (case bS|dJ|dL|dX=>exact L2.df_mk KX G (by k_is) (by k_is) (by k_is) (by k_is) λ_ _ _ _ _ _ us hl=>by obtain ⟨x0,x1,x2,x3,rfl⟩:=Bt.ar4 hl;rfl)
    (case bV|bW=>k_is)
    (case bX=>exact L2.dm_mk (by k_is) (by k_is) (by k_is) λ_ _ _ _ _ _ us hl => by obtain ⟨x0, x1, x2, x3, x4, x5, x6, rfl⟩ := Bt.ar7 hl; rfl)
    (case cD|cE=>k_is)
    (case cF=>exact L2.dm_mk (by k_is) (by k_is) (by k_is) λ_ _ _ _ _ _ us hl => by obtain ⟨x0, x1, x2, rfl⟩ := Bt.ar3 hl; rfl)
    (case cG|cH=>k_is)
    (case cI=>exact L2.dm_mk (by k_is) (by k_is) (by k_is) λ_ _ _ _ _ _ us hl => by obtain ⟨x0, x1, rfl⟩ := Bt.ar2 hl; rfl)
    (case cJ|cK=>k_is)
    (case cL=>exact L2.dm_mk (by k_is) (by k_is) (by k_is) λ_ _ _ _ _ _ us hl => by obtain ⟨x0, rfl⟩ := Bt.ar1 hl; rfl)
    (case cM|cN=>k_is)
    (case cO=>exact L2.dm_mk (by k_is) (by k_is) (by k_is) λ_ _ _ _ _ _ us hl => by obtain ⟨x0, rfl⟩ := Bt.ar1 hl; rfl)
    (case cP|cQ=>k_is)
    (case cR=>exact L2.dm_mk (by k_is) (by k_is) (by k_is) λ_ _ _ _ _ _ us hl => by obtain ⟨x0, x1, rfl⟩ := Bt.ar2 hl; rfl)
    (case eJ|eK|eL|eM|eN|eO|eP|eQ|eR|eS|eT|eU|eV|eW|eX|eY|eZ|fA|fB|fC|fD|fE|fF|fG|fH|fI|fJ|fK|fL|fM|fN|fO|fP|fQ|fR|fS|fT=>k_is)
    (case fU=>first | exact Or.inl rfl | exact Or.inr ⟨_, rfl⟩)
    (case fV|fW|fX=>k_is)
    (case fY=>first | exact Or.inl rfl | exact Or.inr ⟨_, rfl⟩)
    (case fZ|gA|gB|gC|gD|gE|gF|gG|gH|gI|gJ|gK|gL|gM|gN|gO|gP|gQ|gR|gS|gT|gU|gV|gW|gX|gY|gZ|hA|hB|hC|hD|hE|hF|hG|hH|hI|hJ|hK|hL|hM|hN|hO|hP|hQ|hR|hS|hT|hU|hV|hW|hX|hY|hZ|iA|iB|iC|iD|iE|iF|iG|iH|iI|iJ|iK|iL|iM|iN|iO=>k_is)
