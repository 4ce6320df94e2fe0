import PyProof.Rows.All
import Wide.All
import OpenK.AllK
import Wide.FinOn
import Open.Tops
import Lean
import PyProof.EqAt
import PyProof.EqKinds
import PyProof.TupleCall
import PyProof.ExcInit
import PyProof.ExcClass3
import PyProof.ExcBaseAll.ValueError
import PyProof.InstStoreFacts
import KE.KTryMore
import PyProof.RulesAs
import PyProof.NsDelKeeps
import PyProof.Rows.SortRuns
import KE.KDictSum
import KE.KSortTup
import PyProof.Rows.SetFrom
import PyProof.Rows.MinMaxN
import KE.KDictOf
import PySem.Challenge.RW_beamtender_k28_desk_refused
set_option genSizeOf false
set_option bootstrap.genMatcherCode false
set_option Elab.async false
set_option linter.all false
set_option maxRecDepth 100000
set_option maxHeartbeats 4000000
namespace PySem.W.Fast
def tw9252386709587868243:Unit:=()
def tw11093877209495991181:Unit:=()
def tw18371404869498239463:Unit:=()
def tw15752777336655377611:Unit:=()
def tw17477964225710263558:Unit:=()
def tw14909222468634073597:Unit:=()
def tw862572171361483922:Unit:=()
def tw1294872539189351102:Unit:=()
def tw7237534449651285625:Unit:=()
def tw14848026642332231369:Unit:=()
def tw10443972115167685737:Unit:=()
def tw9454596663663417057:Unit:=()
def tw16124907296705905126:Unit:=()
def tw17984828250133696484:Unit:=()
def tw9067880156794877461:Unit:=()
def tw3053039681705907590:Unit:=()
def tw10671703017435314962:Unit:=()
def tw1901647825215627982:Unit:=()
def tw5984143708942506367:Unit:=()
def tw12646201633312866470:Unit:=()
def tw17052796983068791434:Unit:=()
def tw12956959381625706810:Unit:=()
def tw18272578698108203428:Unit:=()
def tw1152981414993886155:Unit:=()
def tw10663524056049230594:Unit:=()
def tw2467528430711677637:Unit:=()
def tw6287023359698139569:Unit:=()
def tw13918070900721017462:Unit:=()
def tw18412536637008336101:Unit:=()
def tw17976260235993306699:Unit:=()
def tw18008403900301762646:Unit:=()
def tw9411876675700126472:Unit:=()
def tw14678072303138634297:Unit:=()
def tw5821911006821443499:Unit:=()
def tw13938373448573225456:Unit:=()
def tw10633027821192320760:Unit:=()
def tw8964479381270053676:Unit:=()
def tw9599814098166041113:Unit:=()
def tw14622875301053106882:Unit:=()
def tw16628238818213800457:Unit:=()
def tw18122505570158028760:Unit:=()
def tw657412986481394591:Unit:=()
def tw7372296821360801483:Unit:=()
def tw11370362293830285689:Unit:=()
def tw6990771862922980847:Unit:=()
def tw10323030359388251718:Unit:=()
def tw5268945621321606819:Unit:=()
def tw8683761304018220842:Unit:=()
def tw15078077610679079894:Unit:=()
def tw6634899264410076467:Unit:=()
def tw15925265949448558729:Unit:=()
def tw17287578785476044135:Unit:=()
def tw8154386272651081202:Unit:=()
def tw7436801061771752070:Unit:=()
def tw3890045312479836345:Unit:=()
def tw8289201723033672784:Unit:=()
def tw9605781566741075254:Unit:=()
def tw6823255452266843197:Unit:=()
def tw2911320888559986973:Unit:=()
def tw779113297265156232:Unit:=()
def tw4517699912411949365:Unit:=()
def tw4599408916308314879:Unit:=()
def tw9437125512719922277:Unit:=()
def tw8653984309956016162:Unit:=()
def tw8251602390916239078:Unit:=()
def tw1845818362578280308:Unit:=()
def tw15484327021457262774:Unit:=()
def tw16601209679299077434:Unit:=()
def tw14259238945965199361:Unit:=()
def tw18289631012114666751:Unit:=()
def tw6534638269923451698:Unit:=()
def tw18267388806484754249:Unit:=()
def tw8620533275595119947:Unit:=()
def tw13937447743923076125:Unit:=()
def tw4304239475801117149:Unit:=()
def tw13289688069668668681:Unit:=()
def tw12910276793347104840:Unit:=()
def tw5064875532240029374:Unit:=()
def tw103882420914111513:Unit:=()
def tw2820001725760277863:Unit:=()
def tw1028674323301138617:Unit:=()
def tw3013017930218729373:Unit:=()
def tw10717283139417537689:Unit:=()
def tw16016550133085892538:Unit:=()
def tw1445692441522581213:Unit:=()
def tw11684820928529727840:Unit:=()
def tw13330442626456223456:Unit:=()
def tw772657874765288961:Unit:=()
def tw7046939658872891319:Unit:=()
def tw8388551247895793903:Unit:=()
def tw8890067713494089578:Unit:=()
def tw7714284404807913830:Unit:=()
def tw12502990643044651330:Unit:=()
def tw2997100427077911204:Unit:=()
def tw7702557359998385182:Unit:=()
def tw3065183089253288475:Unit:=()
def tw15635021653711906561:Unit:=()
def tw13980391716373973125:Unit:=()
def tw17730509932181441153:Unit:=()
def tw9408222747589952149:Unit:=()
def tw1000842258696149368:Unit:=()
def tw15549063411931563809:Unit:=()
def tw6056029131129928188:Unit:=()
def tw3178918529748216085:Unit:=()
def tw3315807339538290543:Unit:=()
def tw12544126094507759576:Unit:=()
def tw510508489687345004:Unit:=()
def tw94312369156794807:Unit:=()
def tw3104085137606496750:Unit:=()
def tw13940807443798281087:Unit:=()
def tw18058020925672519607:Unit:=()
def tw2344292890008453064:Unit:=()
def tw15631277070633500900:Unit:=()
def tw15865710152223597601:Unit:=()
def tw12307263872765737386:Unit:=()
def tw11152937896425033067:Unit:=()
def tw16919948864608603538:Unit:=()
def tw7081219217070067141:Unit:=()
def tw7167577888936402910:Unit:=()
def tw9197304658949117301:Unit:=()
def tw13484413069630305440:Unit:=()
def tw15960876296514698637:Unit:=()
def tw5435949670003172306:Unit:=()
def tw16496239058014000790:Unit:=()
def tw1275438384871646307:Unit:=()
def tw12738888062330648496:Unit:=()
def tw10820806771485820009:Unit:=()
def tw4062561085211183239:Unit:=()
def tw10973713330888040641:Unit:=()
def tw11314678246958923041:Unit:=()
def tw9280559720540160438:Unit:=()
def tw7993358469165024741:Unit:=()
def tw9507497468520644574:Unit:=()
def tw3450276488458835093:Unit:=()
def tw11299500888830994319:Unit:=()
def tw15946059240643880343:Unit:=()
def tw2504313450237132770:Unit:=()
def tw6583059497908401695:Unit:=()
def tw5618704081367992974:Unit:=()
def tw7602320758946591936:Unit:=()
def tw16738802809170340383:Unit:=()
def tw7250266115057885554:Unit:=()
def tw16077915678027328600:Unit:=()
def tw12124372697101007219:Unit:=()
def tw5822687539928157022:Unit:=()
def tw9617132747901357244:Unit:=()
def tw16265753608964126237:Unit:=()
def tw16293240915958999274:Unit:=()
def tw6906358602825296887:Unit:=()
def tw16491373875333170620:Unit:=()
def tw345614751814102749:Unit:=()
def tw8199544070925167628:Unit:=()
def tw4011314796010634301:Unit:=()
def tw13715859635340528996:Unit:=()
def tw2376146251339899467:Unit:=()
def tw12703518704471188779:Unit:=()
def tw15089149639592806085:Unit:=()
def tw8863032751403379839:Unit:=()
def tw12762170892830866863:Unit:=()
def tw2100303338328872314:Unit:=()
def tw11364337024742858680:Unit:=()
def tw17272878522769818577:Unit:=()
def tw14352405326576224817:Unit:=()
def tw6055733791399981480:Unit:=()
def tw15040187060045286449:Unit:=()
def tw16300821235226906413:Unit:=()
def tw5393993317531125005:Unit:=()
def tw13284986261401224365:Unit:=()
def tw14149134608102500887:Unit:=()
def tw14168097292776707022:Unit:=()
def tw5099782730629757621:Unit:=()
def tw9716621485308279651:Unit:=()
def tw9513884694578321976:Unit:=()
def tw964025291714068046:Unit:=()
def tw3882083040895872235:Unit:=()
def tw4698872473200378980:Unit:=()
def tw10636932806721120778:Unit:=()
def tw8462681007095224893:Unit:=()
def tw16274425047615367574:Unit:=()
def tw4181922629742367180:Unit:=()
def tw14905249040276316220:Unit:=()
def tw12781270545668495627:Unit:=()
def tw5417864108911599316:Unit:=()
def tw2955376334476329085:Unit:=()
def tw12401827627117488271:Unit:=()
def tw7627212981247519944:Unit:=()
def tw1583082192504555227:Unit:=()
def tw3950208620310107622:Unit:=()
def tw1703398147701914194:Unit:=()
def tw5899196017250092262:Unit:=()
def tw13395928122616157352:Unit:=()
def tw18395447249889284424:Unit:=()
def tw7991381263852058442:Unit:=()
def tw8206308077353077152:Unit:=()
def tw13886701811110005027:Unit:=()
def tw4607666237618533621:Unit:=()
def tw15699863016569598264:Unit:=()
def tw5814548082606291424:Unit:=()
def tw6832014229881987696:Unit:=()
def tw10405599694063812739:Unit:=()
def tw6384380429368410037:Unit:=()
def tw3682201383558988232:Unit:=()
def tw1887009147814325085:Unit:=()
def tw234708281142473747:Unit:=()
def tw11070642299167359730:Unit:=()
def tw6881704362152558297:Unit:=()
def tw2611873140177220868:Unit:=()
def tw3019469949455086360:Unit:=()
def tw16960749861441929826:Unit:=()
def tw12272734062397362457:Unit:=()
def tw13729778500139187802:Unit:=()
def tw17485055340540243352:Unit:=()
def tw4957002753913949090:Unit:=()
def tw15989004983770298846:Unit:=()
def tw6219350956196092624:Unit:=()
def tw4258499475166030357:Unit:=()
def tw4967620232448868771:Unit:=()
def tw9218870538010551065:Unit:=()
def tw10682301958158965649:Unit:=()
def tw11908060083009463949:Unit:=()
def tw2873906900865933853:Unit:=()
def tw320137766859689576:Unit:=()
def tw4740779726407543000:Unit:=()
def tw106625873526075968:Unit:=()
def tw16328061554116807395:Unit:=()
def tw12267645336050823156:Unit:=()
def tw17688860007147443142:Unit:=()
def tw16177564472515902282:Unit:=()
def tw16712202820130727285:Unit:=()
def tw12854131776258026056:Unit:=()
def tw16621055288179733572:Unit:=()
def tw15603082487305424121:Unit:=()
def tw9774171697980739067:Unit:=()
def tw13042987009090369755:Unit:=()
def tw18127286466306570104:Unit:=()
def tw2791225963907702458:Unit:=()
def tw3723177373317537601:Unit:=()
def tw7394711482365575798:Unit:=()
def tw7691898122354419227:Unit:=()
def tw9254505162750572084:Unit:=()
def tw17290972964042678537:Unit:=()
def tw10683490133551891102:Unit:=()
def tw6003258108348354880:Unit:=()
def tw12585168246023265348:Unit:=()
def tw11594446826732008288:Unit:=()
def tw10903336093356984243:Unit:=()
def tw7235606131348083305:Unit:=()
def tw6495966422785669206:Unit:=()
def tw6372348885402806909:Unit:=()
def tw4741379270892838527:Unit:=()
def tw6327129590609866705:Unit:=()
def tw12620750862402277421:Unit:=()
def tw15822585218116058443:Unit:=()
def tw4660974710332887931:Unit:=()
def tw12651480319358766588:Unit:=()
def tw15200283316858162990:Unit:=()
def tw11078359832463643296:Unit:=()
def tw7827199926834777277:Unit:=()
def tw10267624684649909220:Unit:=()
def tw12107526965478557161:Unit:=()
def tw1468086669501970598:Unit:=()
def tw8310924538936311254:Unit:=()
def tw15408855724385353760:Unit:=()
def tw6400503971435075644:Unit:=()
def tw7060202860672180828:Unit:=()
def tw2121349194463633830:Unit:=()
def tw17258161852213530925:Unit:=()
def tw7471782390009903681:Unit:=()
def tw1932415249604858339:Unit:=()
def tw4098889890243815929:Unit:=()
def tw4965868089462060063:Unit:=()
def tw13913515062690201963:Unit:=()
def tw17053860226579071322:Unit:=()
def tw15027230264651535303:Unit:=()
def tw12698112638984492008:Unit:=()
def tw17257756357986011854:Unit:=()
def tw6215533152039126534:Unit:=()
def tw4811901259312654301:Unit:=()
def tw8066867726715957376:Unit:=()
def tw3687594823114701914:Unit:=()
def tw6060218190050778635:Unit:=()
def tw5957374806781909904:Unit:=()
def tw7153372282856021588:Unit:=()
def tw3830430188680812704:Unit:=()
def tw9551405537285381099:Unit:=()
def tw12210542442915399151:Unit:=()
def tw1435658892294650183:Unit:=()
def tw18429356701781453102:Unit:=()
def tw10891832162847521679:Unit:=()
def tw16122719051663199940:Unit:=()
def tw6413828415916323946:Unit:=()
def tw13401354008174147642:Unit:=()
def tw10996526213340549019:Unit:=()
def tw8339506708182586647:Unit:=()
def tw11408032075819563114:Unit:=()
def tw4550551621403207681:Unit:=()
def tw3950468068174259121:Unit:=()
def tw3933184146734922484:Unit:=()
def tw17319465659006786200:Unit:=()
def tw10444024752661012937:Unit:=()
def tw5307621015708992375:Unit:=()
def tw15328714800068425390:Unit:=()
def tw1492534315095241964:Unit:=()
def tw9975440970417669999:Unit:=()
def tw16447386301716905953:Unit:=()
def tw16052925329391691182:Unit:=()
def tw12752150830553017451:Unit:=()
def tw5355366707231505081:Unit:=()
def tw12949322264152296818:Unit:=()
def tw7763899285281672527:Unit:=()
def tw15184719589391248835:Unit:=()
def tw1011886094808034365:Unit:=()
def tw946860814155284815:Unit:=()
def tw10115618877673005015:Unit:=()
def tw9010099809741596245:Unit:=()
def tw8440458137534088382:Unit:=()
def tw13861638413835968133:Unit:=()
def tw8179984010025559478:Unit:=()
def tw690076699259883706:Unit:=()
def tw1916129475366820216:Unit:=()
def tw16357710459693451616:Unit:=()
def tw16693665330406178084:Unit:=()
def tw7913487494982484974:Unit:=()
def tw11920347305827331542:Unit:=()
def tw8799843197480935225:Unit:=()
def tw1541844247297520286:Unit:=()
def tw9577353047086436272:Unit:=()
def tw6221288335226394357:Unit:=()
def tw8358301076202330920:Unit:=()
def tw9825204371644591898:Unit:=()
def tw14319998673970433405:Unit:=()
def tw411974920610325560:Unit:=()
def tw11035741090231338881:Unit:=()
def tw16571092839454270792:Unit:=()
def tw17843169904580934029:Unit:=()
def tw3959295344381382892:Unit:=()
def tw9955913986758740559:Unit:=()
def tw6456229382141864479:Unit:=()
def tw1020594836707305216:Unit:=()
def tw14677674703312933230:Unit:=()
def tw9016096609202252766:Unit:=()
def tw11536218870955491037:Unit:=()
def tw6138748847494444489:Unit:=()
def tw3310003191857137361:Unit:=()
def tw7501313016683694444:Unit:=()
def tw529854329468910250:Unit:=()
def tw665817556643461201:Unit:=()
def tw10884504835522081619:Unit:=()
def tw12884345898040493565:Unit:=()
def tw13727869218938716840:Unit:=()
def tw243014645851030326:Unit:=()
def tw3761220389164215930:Unit:=()
def tw2660240500735174058:Unit:=()
def tw14511448695305008439:Unit:=()
def tw8231027407842749250:Unit:=()
def tw12568553590447402063:Unit:=()
def tw7665099563914829251:Unit:=()
def tw2211392441463003465:Unit:=()
def tw12273328002279823398:Unit:=()
def tw12473246741174196860:Unit:=()
def tw10959502279142616385:Unit:=()
def tw9178179058778410696:Unit:=()
def tw11230721723131433943:Unit:=()
def tw502495836982246989:Unit:=()
def tw2664406493659040729:Unit:=()
def tw8527514369018007257:Unit:=()
def tw12991364490781070965:Unit:=()
def tw12671018709270084346:Unit:=()
def tw15097151832389050100:Unit:=()
def tw11099970509632848620:Unit:=()
def tw7583253911553056191:Unit:=()
def tw4174351403395228357:Unit:=()
def tw10502333760148425580:Unit:=()
def tw5245458672508240684:Unit:=()
def tw6934088958044369265:Unit:=()
def tw1514344064824093552:Unit:=()
def tw11081201899694047314:Unit:=()
def tw9157589350751304737:Unit:=()
def tw6562163041563323974:Unit:=()
def tw7585699332345302173:Unit:=()
def tw13537983921936202266:Unit:=()
def tw11435391619590941314:Unit:=()
def tw1080543337418065352:Unit:=()
def tw13839079010758941282:Unit:=()
def tw13280436945506912963:Unit:=()
def tw2815197545554746675:Unit:=()
def tw47161570704036718:Unit:=()
def tw3569682346032787453:Unit:=()
def tw6441725991987630624:Unit:=()
def tw4500830113821270154:Unit:=()
def tw5861541601230951947:Unit:=()
def tw7856366617642422951:Unit:=()
def tw7439883640280057394:Unit:=()
def tw14156178658299049237:Unit:=()
def tw3230255935634896069:Unit:=()
def tw14793528613841356241:Unit:=()
def tw5898995299599593840:Unit:=()
def tw13943940324916339923:Unit:=()
def tw309385545636862894:Unit:=()
def tw7665518572684538450:Unit:=()
def tw10265172942697640106:Unit:=()
def tw9979345423554215016:Unit:=()
def tw251300949455718942:Unit:=()
def tw5311949027486367893:Unit:=()
def tw17932610595878791321:Unit:=()
def tw8205921478930665647:Unit:=()
def tw2488668148265196763:Unit:=()
def tw9487836372720062715:Unit:=()
def tw15690082421701309362:Unit:=()
def tw7007480984082095211:Unit:=()
def tw11584437843894268061:Unit:=()
def tw11867774271635991182:Unit:=()
def tw4631560925069724547:Unit:=()
def tw13342077861458292948:Unit:=()
def tw12021309773596684918:Unit:=()
def tw15583261048998747082:Unit:=()
def tw4029000634431701355:Unit:=()
def tw11070629219782796279:Unit:=()
def tw8133356010422923449:Unit:=()
def tw18440469551446415907:Unit:=()
def tw15904199594167711245:Unit:=()
def tw15621976337650108401:Unit:=()
def tw6004625546920555698:Unit:=()
def tw16478268676386189032:Unit:=()
def tw7265332195313137301:Unit:=()
def tw4090890459014202459:Unit:=()
def tw550970613757312479:Unit:=()
def tw17539524990856458832:Unit:=()
def tw17831479145759565942:Unit:=()
def tw7171795642936334445:Unit:=()
def tw16117101471947578159:Unit:=()
def tw11403076821752195099:Unit:=()
def tw10404248668069894984:Unit:=()
def tw18405930110733475709:Unit:=()
def tw9640275783446171127:Unit:=()
def tw6021518616687916795:Unit:=()
def tw17833299349283812095:Unit:=()
def tw12185636834206920843:Unit:=()
def tw7194236489510154445:Unit:=()
def tw967181451958306903:Unit:=()
def tw524048258799688333:Unit:=()
def tw13112545718370287331:Unit:=()
def tw8954937720878738642:Unit:=()
def tw5398983549539484722:Unit:=()
def tw8759779739261265001:Unit:=()
def tw3928190779004742125:Unit:=()
def tw14195979810670126923:Unit:=()
def tw12763405279172489904:Unit:=()
def tw16303290952775889906:Unit:=()
def tw12253003181905998971:Unit:=()
def tw2154145614821177048:Unit:=()
def tw6773530256975149701:Unit:=()
def tw10674909896736814064:Unit:=()
def tw3973855673088287084:Unit:=()
def tw16836811406650566717:Unit:=()
def tw14698416519950074807:Unit:=()
def tw13354989398945762970:Unit:=()
def tw7176615548978978305:Unit:=()
def tw7164401465345759305:Unit:=()
def tw14404858087532498792:Unit:=()
def tw2982073985316677885:Unit:=()
def tw12434623591825852099:Unit:=()
def tw1706671325077604251:Unit:=()
def tw16650694349510481960:Unit:=()
def tw2555765356103515764:Unit:=()
def tw7784344898248670515:Unit:=()
def tw7919678704030120392:Unit:=()
def tw9660912392891133213:Unit:=()
def tw13702891178513515200:Unit:=()
def tw10344600693680649153:Unit:=()
def tw917337710372036723:Unit:=()
def tw11371428006593430020:Unit:=()
def tw15920540932329065186:Unit:=()
def tw7968951724926223929:Unit:=()
def tw5472503011569244256:Unit:=()
def tw11446110343686128798:Unit:=()
def tw3310474441111162943:Unit:=()
def tw14153967976283286783:Unit:=()
def tw13549170709803225205:Unit:=()
def tw4432696882315497185:Unit:=()
def tw2524090735876988561:Unit:=()
def tw7969766742950106731:Unit:=()
def tw4478221943781944084:Unit:=()
def tw14870904656566379462:Unit:=()
def tw16569931499038282646:Unit:=()
def tw13426165663420723542:Unit:=()
def tw13202563430854603687:Unit:=()
def tw14820718122027986871:Unit:=()
def tw15829146534619486502:Unit:=()
def tw7206778218585899309:Unit:=()
def tw12792605756621036232:Unit:=()
def tw17651009731352378086:Unit:=()
def tw12139359464509512641:Unit:=()
def tw16762623236577580084:Unit:=()
def tw14901276094066464836:Unit:=()
def tw7024217113650771631:Unit:=()
def tw7926501758438157998:Unit:=()
def tw10536315786308224165:Unit:=()
def tw15093368838134435:Unit:=()
def tw14792473070074900555:Unit:=()
def tw14373597996661344341:Unit:=()
def tw1773169158880882427:Unit:=()
def tw6225532646710409926:Unit:=()
def tw16881123178058997748:Unit:=()
def tw16107666608751028353:Unit:=()
def tw10768007242653255701:Unit:=()
def tw3344264856214762453:Unit:=()
def tw12967348301036314611:Unit:=()
def tw12995501554110903693:Unit:=()
def tw11281166094575822959:Unit:=()
def tw11690546079099957906:Unit:=()
def tw333248365107832312:Unit:=()
def tw11314527338411894176:Unit:=()
def tw4603454429747954337:Unit:=()
def tw4944619957281068203:Unit:=()
def tw7307169189179478989:Unit:=()
def tw5286631185430878847:Unit:=()
def tw11135430593145654385:Unit:=()
def tw8995606092004679833:Unit:=()
def tw1809605570951312235:Unit:=()
def tw17785670394790641944:Unit:=()
def tw18208548051911198538:Unit:=()
def tw9143438935812720737:Unit:=()
def tw5187851378665936109:Unit:=()
def tw15672374552946108175:Unit:=()
def tw5421079637615113093:Unit:=()
def tw18023315080647246177:Unit:=()
def tw16863946444375655495:Unit:=()
def tw17871783018722114982:Unit:=()
def tw13656641336819677139:Unit:=()
def tw17095139741727789705:Unit:=()
def tw17732300699792209884:Unit:=()
def tw4147172054237745600:Unit:=()
def tw6591068968677951190:Unit:=()
def tw5201439970778346952:Unit:=()
def tw14236634364658081537:Unit:=()
def tw4713069534419796162:Unit:=()
def tw8229999116681756232:Unit:=()
def tw7010526503082130429:Unit:=()
def tw364469574641551040:Unit:=()
def tw15382510762436192212:Unit:=()
def tw9490309155736654723:Unit:=()
def tw17868243287415312093:Unit:=()
def tw12772585543002508241:Unit:=()
def tw13152590778591533176:Unit:=()
def tw14843347528962581828:Unit:=()
def tw2363476461658947551:Unit:=()
def tw14733206643531474862:Unit:=()
def tw10797328515250830899:Unit:=()
def tw17199159853307523207:Unit:=()
def tw11433929975891882672:Unit:=()
def tw8881223281460589460:Unit:=()
def tw6725825616237840880:Unit:=()
def tw17644102203623948242:Unit:=()
def tw14835577465991547960:Unit:=()
def tw997224137280953189:Unit:=()
def tw10926737936791278328:Unit:=()
def tw17486924553695584823:Unit:=()
def tw992578291410507126:Unit:=()
def tw4643641504793591570:Unit:=()
def tw1495706088296548418:Unit:=()
def tw9497405924168858852:Unit:=()
def tw4877520079002938526:Unit:=()
def tw13361512355217181844:Unit:=()
def tw6031122854090520158:Unit:=()
def tw10608706364209625476:Unit:=()
def tw9140988504525319348:Unit:=()
def tw13462262104740601851:Unit:=()
def tw11264357567346939185:Unit:=()
def tw9261912173675001780:Unit:=()
def tw5274323582478993231:Unit:=()
def tw3813410779409231638:Unit:=()
def tw7397810502203696631:Unit:=()
def tw3664616630974729063:Unit:=()
def tw13946348057117374256:Unit:=()
def tw3906453053357832964:Unit:=()
def tw2891220202907601008:Unit:=()
def tw702434908443484134:Unit:=()
def tw13320229121842498971:Unit:=()
def tw18093989898940529549:Unit:=()
def tw10729357167079503072:Unit:=()
def tw3907586277253645097:Unit:=()
def tw5553697080074124688:Unit:=()
def tw3861606038893987337:Unit:=()
def tw13614203293442473197:Unit:=()
def tw15671616451417279977:Unit:=()
def tw10519803351992640348:Unit:=()
def tw2011555492112828246:Unit:=()
def tw8935234141450513339:Unit:=()
def tw4390279131836267088:Unit:=()
def tw7623038827320487181:Unit:=()
def tw2016363088339311255:Unit:=()
def tw16675341003553534651:Unit:=()
def tw749535203436275088:Unit:=()
def tw12764176105014554140:Unit:=()
def tw4474616014057159464:Unit:=()
def tw10773560197866110006:Unit:=()
def tw12679218988453564108:Unit:=()
def tw5135736572065235579:Unit:=()
def tw4351698689999212943:Unit:=()
def tw1371415303774093105:=()
def tw6021514828113647408:=()
def tw8621253715350342595:=()
def tw2928002838536731068:=()
def tw1080701054671109577:=()
def tw16929825594660653886:=()
def tw15785416976183742316:=()
def tw525725023809784834:=()
def tw14697979907918590528:=()
def tw2678070241617253578:=()
def tw12092906278093644171:=()
def tw6485011422317517291:=()
def tw8470371788411224374:=()
def tw17620224635129918765:=()
def tw4250891839392363015:=()
def tw9472717935789354157:=()
end PySem.W.Fast
open_shared Tp for PySem.Challenge.pw_beamtender_k28_desk_refused leaving 1
namespace L2
open PySem PySem.Spec PyProof.Rows
noncomputable abbrev Key:=Sum Int Str
noncomputable def zV2:Key->Value->Bool
 | .inl k,v=>Value.isInt k v
 | .inr x,v=>Value.isStrOf x v
noncomputable def keyH (w:World):Key->Int
 | .inl k=>hashInt k
 | .inr x=>hashStr w x
theorem zg3:∀ {k:Key} {v:Value},zV2 k v=true->(∃ i t,k=Sum.inl i/\v=Value.int i t)\/(∃ x t,k=Sum.inr x/\v=Value.str x t)
 | .inl i,v,h=>by
   obtain ⟨t,e⟩:=Value.isInt_shape (k:=i) (v:=v) h
   exact .inl ⟨i,t,rfl,e⟩
 | .inr x,v,h=>by
   obtain ⟨t,e⟩:=Value.isStrOf_shape (x:=x) (v:=v) h
   exact .inr ⟨x,t,rfl,e⟩
theorem key_ll (a b:Int):decide ((Sum.inl a:Key)=Sum.inl b)=(a == b):=by
 by_cases e:a=b
 . subst e;simp
 . have h:¬ (Sum.inl a:Key)=Sum.inl b:=fun q=>e (Sum.inl.inj q)
   rw[decide_eq_false h]
   exact (beq_eq_false_iff_ne.mpr e).symm
theorem key_rr (a b:Str):decide ((Sum.inr a:Key)=Sum.inr b)=decide (a=b):=by
 by_cases e:a=b
 . subst e;simp
 . have h:¬ (Sum.inr a:Key)=Sum.inr b:=fun q=>e (Sum.inr.inj q)
   rw[decide_eq_false h,decide_eq_false e]
theorem key_lr (a:Int) (b:Str):decide ((Sum.inl a:Key)=Sum.inr b)=false:=decide_eq_false (fun q=>nomatch q)
theorem key_rl (a:Str) (b:Int):decide ((Sum.inr a:Key)=Sum.inl b)=false:=decide_eq_false (fun q=>nomatch q)
noncomputable def zO8 (prog:Program) (w:World):PySem.KeyKind prog w Key where
 is:=zV2
 hash:=keyH w
 inj:=fun v a b ha hb=>by
   rcases zg3 ha with ⟨i,t,rfl,rfl⟩ | ⟨x,t,rfl,rfl⟩
   . rcases zg3 hb with ⟨j,u,rfl,e⟩ | ⟨y,u,rfl,e⟩
     . injection e with e1 _;rw[e1]
     . exact nomatch e
   . rcases zg3 hb with ⟨j,u,rfl,e⟩ | ⟨y,u,rfl,e⟩
     . exact nomatch e
     . injection e with e1 _;rw[e1]
 byValue:=fun k v h=>by
   rcases zg3 h with ⟨i,t,rfl,rfl⟩ | ⟨x,t,rfl,rfl⟩<;>rfl
 pyHash:=fun hv h=>by
   rcases zg3 hv with ⟨i,t,rfl,rfl⟩ | ⟨x,t,rfl,rfl⟩
   . exact wpAny_pyHash_int h
   . exact wpAny_pyHash_str h
 eqBool:=fun hu hv h=>by
   rcases zg3 hu with ⟨i,t,rfl,rfl⟩ | ⟨x,t,rfl,rfl⟩
   . rcases zg3 hv with ⟨j,u,rfl,rfl⟩ | ⟨y,u,rfl,rfl⟩
     . rw[key_ll] at h;exact wpAny_eqBool_int h
     . rw[key_lr] at h;exact SeqAt.EqAt.int_str i t y u _ _ _ _ h
   . rcases zg3 hv with ⟨j,u,rfl,rfl⟩ | ⟨y,u,rfl,rfl⟩
     . rw[key_rl] at h;exact SeqAt.EqAt.str_int x t j u _ _ _ _ h
     . rw[key_rr] at h;exact wpAny_eqBool_str h
 «strs»:=fun k x t v h=>by
   rcases zg3 h with ⟨i,u,rfl,e⟩ | ⟨y,u,rfl,e⟩
   . exact nomatch e
   . injection e with e1 _
     subst e1
     cases v<;>rfl
end L2
namespace L2
open PySem PySem.Spec PyProof.Rows
inductive V where
 | non | bl (b:Bool) | int (i:Int) | str (x:Str) | byt (b:Array UInt8) | flt (b:UInt64) | ref (a:Addr) | ty (n:String)
 deriving DecidableEq
noncomputable def RelV:V->Value->Prop
 | .non,u=>u=Value.none
 | .bl b,u=>u=Value.bool b
 | .int i,u=>∃ t,u=Value.int i t
 | .str x,u=>∃ t,u=Value.str x t
 | .byt b,u=>∃ t,u=Value.bytes b t
 | .flt b,u=>∃ t,u=Value.float b t
 | .ref a,u=>u=Value.ref a
 | .ty n,u=>u=Value.type n
noncomputable abbrev Vals:List V->List Value->Prop:=Paired RelV
theorem Vals.length {xs:List V} {us:List Value} (r:Vals xs us):xs.length=us.length:=Paired.length r
theorem Vals.get:∀ {xs:List V} {us:List Value} {i:Nat} {x:V},Vals xs us->xs[i]?=some x->∃ u,us[i]?=some u/\RelV x u
 | _,_,_,_,.nil,e=>by simp at e
 | _,_,0,_,.cons r _,e=>by simp at e;subst e;exact⟨_,rfl,r⟩
 | _,_,i+1,x,.cons _ t,e=>by
   obtain ⟨u,h1,h2⟩:=Vals.get (i:=i) (x:=x) t (by simpa using e)
   exact⟨u,by simpa using h1,h2⟩
theorem Vals.set {x:V} {u:Value} (r:RelV x u):∀ {xs:List V} {us:List Value} (i:Nat),Vals xs us->Vals (xs.set i x) (us.set i u)
 | _,_,_,.nil=>.nil
 | _,_,0,.cons _ t=>.cons r t
 | _,_,i+1,.cons q t=>.cons q (Vals.set r i t)
theorem Vals.append:∀ {xs ys:List V} {us ws:List Value},Vals xs us->Vals ys ws->Vals (xs++ys) (us++ws)
 | _,_,_,_,.nil,s=>s
 | _,_,_,_,.cons r t,s=>.cons r (Vals.append t s)
theorem Vals.take:∀ {xs:List V} {us:List Value} (n:Nat),Vals xs us->Vals (xs.take n) (us.take n)
 | _,_,0,_=>.nil
 | _,_,_+1,.nil=>.nil
 | _,_,n+1,.cons r t=>.cons r (Vals.take n t)
theorem Vals.drop:∀ {xs:List V} {us:List Value} (n:Nat),Vals xs us->Vals (xs.drop n) (us.drop n)
 | _,_,0,r=>r
 | _,_,_+1,.nil=>.nil
 | _,_,n+1,.cons _ t=>Vals.drop n t
noncomputable def RelO:Option V->Option Value->Prop
 | some v,some u=>RelV v u
 | none,none=>True
 | _,_=>False
noncomputable def KV {κ:Type}:List (κ×V)->List (κ×Value)->Prop:=Paired fun (p:κ×V) (q:κ×Value)=>p.1=q.1/\RelV p.2 q.2
noncomputable def kV:Key->V
 | .inl i=>.int i
 | .inr x=>.str x
inductive HO where
 | lst (xs:List V)
 | tup (xs:List V)
 | dK (kvs:List (Key×V)) | dT (kvs:List (List Key×V))
 | set (S:Int->Bool) (n:Nat)
 | ins (C dx:Addr) (fs:List (Str×V))
 | own (x:Addr)
 | xd (fs:List (Str×V))
 | met (f x:Addr)
 | rng (lo hi:Int)
 | frz (o:Obj) (u:HO)
 | tbl (ps:Array Value)
 | ext (φ:Heap->Prop)
noncomputable abbrev Hp:=Addr->Option HO
noncomputable def upd (H:Hp) (a:Addr) (o:HO):Hp:=fun b=>if b=a then some o else H b
theorem za5 {H:Hp} {a:Addr} {o:HO}:upd H a o a=some o:=by unfold upd;rw[if_pos rfl]
theorem za7 {H:Hp} {a b:Addr} {o:HO} (h:b≠a):upd H a o b=H b:=by unfold upd;rw[if_neg h]
theorem zi8 {H:Hp} {a:Addr} {o u:HO}:upd (upd H a o) a u=upd H a u:=by
 funext b;unfold upd;split<;>rfl
theorem zD7 {H:Hp} {a b:Addr} {o u:HO} (h:H a=some o) (h':H b=some u) (d:o≠u):a≠b:=by
 intro e;subst e;rw[h] at h';exact d (Option.some.inj h')
theorem za8 {H:Hp} {a b:Addr} {o:HO} (h:H a=some o) (h':H b=none):a≠b:=by
 intro e;subst e;rw[h] at h';cases h'
noncomputable def TupD (h:Heap) (a:Addr) (items:Array Value):Prop:=∃ o,h.get? a=some o/\o.cls = .type "tuple"/\o.dict=none/\∃ n,o.data = .seq items n
theorem TupD.isTup {h:Heap} {a:Addr} {items:Array Value} (x:TupD h a items):IsTup h a items:=let ⟨o,e,c,_,n,d⟩:=x;⟨o,e,c,n,d⟩
theorem TupD.new (h:Heap) (items:Array Value):TupD (h.push { cls:=.type "tuple",data:=.seq items }) h.objs.size items:=⟨_,Heap.get?_push_size _ rfl,rfl,rfl,_,rfl⟩
section
variable (P:Program) (w:World)
noncomputable def zi0 (H:Hp) (h:Heap) (a:Addr):HO->Prop
 | .lst xs=>xs.length<=sizeLine/\∃ (its:List Value) (n:Nat),Vals xs its/\h.get? a=some { cls:=.type "list",data:=.seq its.toArray n }
 | .tup xs=>xs.length<=sizeLine/\∃ its:List Value,Vals xs its/\TupD h a its.toArray
 | .dK kvs=>kvs.length<=sizeLine/\(a == sysModules)=false/\∃ vs,KV kvs vs/\h.DictOf (zO8 P w) a vs
 | .dT kvs=>kvs.length<=sizeLine/\(a == sysModules)=false/\∃ xs:List (List Key×Addr×Value),
     Paired (fun (p:List Key×V) (q:List Key×Addr×Value)=>p.1=q.1/\H q.2.1=some (.tup (p.1.map kV))/\RelV p.2 q.2.2) kvs xs ∧
     ∃ o es ep,h.get? a=some o/\o.ExactDict/\o.data = .dict es ep/\es.toList=xs.map (entryOfKey (tupleKind (zO8 P w)))/\(xs.map (·.1)).Nodup
 | .set S n=>h.SetOf (intKind P w) a S n
 | .ins C dx fs=>H dx=some (.own a)/\fs.length<=1000/\dx≠a/\h.get? a=some (W.instObj C dx) ∧
     ∃ mA,h.Ns1 dx mA/\(∀ f,RelO (fs.lookup f) (mA f))/\PySem.Within mA (fs.map (·.1))
 | .own _=>∃ o,h.get? a=some o
 | .xd fs=>fs.length<=1000/\∃ mA,h.Ns1 a mA/\(∀ f,RelO (fs.lookup f) (mA f))/\PySem.Within mA (fs.map (·.1))
 | .rng lo hi=>∃ t u v,h.get? a=some { cls:=.type "range",data:=.fields #[.int lo t,.int hi u,.int 1 v] }
 | .frz o u=>h.get? a=some o/\zi0 H h a u
 | .tbl ps=>h.get? a=some { cls:=.none,data:=.fields ps }
 | .met f x=>h.get? a=some (W.methodObj (.ref f) (.ref x))
 | .ext φ=>φ h/\(∃ o,h.get? a=some o)/\∀ h1 h2:Heap,φ h1->(∀ o,h1.get? a=some o->h2.get? a=some o)->φ h2
noncomputable def HOk (H:Hp) (h:Heap):Prop:=∀ a o,H a=some o->zi0 P w H h a o
end
section
variable {P:Program} {w:World} {H H':Hp} {h h':Heap} {a:Addr} {o:HO}
theorem zi0.lt (x:zi0 P w H h a o):a<h.objs.size:=by
 cases o with
 | lst xs=>obtain ⟨_,_,_,_,e⟩:=x;exact Heap.lt_size e
 | tup xs=>obtain ⟨_,_,_,_,e,_⟩:=x;exact Heap.lt_size e
 | dK kvs=>obtain ⟨_,_,_,_,o,_,_,e,_⟩:=x;exact Heap.lt_size e
 | dT kvs=>obtain ⟨_,_,_,_,o,_,_,e,_⟩:=x;exact Heap.lt_size e
 | set S n=>obtain ⟨o,_,_,_,e,_⟩:=x;exact Heap.lt_size e
 | ins C dx fs=>obtain ⟨_,_,_,e,_⟩:=x;exact Heap.lt_size e
 | own y=>obtain ⟨_,e⟩:=x;exact Heap.lt_size e
 | xd fs=>obtain ⟨_,_,⟨_,_,_,e,_⟩,_⟩:=x;exact Heap.lt_size e
 | rng lo hi=>obtain ⟨_,_,_,e⟩:=x;exact Heap.lt_size e
 | frz ob u=>obtain ⟨e,_⟩:=x;exact Heap.lt_size e
 | tbl ps=>exact Heap.lt_size (show h.get? a=some _ from x)
 | met f y=>exact Heap.lt_size (show h.get? a=some _ from x)
 | ext φ=>obtain ⟨_,⟨_,e⟩,_⟩:=x;exact Heap.lt_size e
theorem Paired.mapP {α β:Type} {F G:α->β->Prop}:∀ {l₁:List α} {l₂:List β},Paired F l₁ l₂->(∀ a b,F a b->G a b)->Paired G l₁ l₂
 | _,_,.nil,_=>.nil
 | _,_,.cons r t,f=>.cons (f _ _ r) (Paired.mapP t f)
theorem zi0.stay (x:zi0 P w H h a o) (k:∀ b u,(b=a\/H b=some (.own a))->h.get? b=some u->h'.get? b=some u)
   (ho:∀ b,H b=some (.own a)->H' b=some (.own a)) (ht:∀ b xs,H b=some (.tup xs)->H' b=some (.tup xs)):zi0 P w H' h' a o:=by
 induction o with
 | lst xs=>obtain ⟨z,its,n,r,e⟩:=x;exact⟨z,its,n,r,k _ _ (.inl rfl) e⟩
 | tup xs=>obtain ⟨z,its,r,ob,e,c⟩:=x;exact⟨z,its,r,ob,k _ _ (.inl rfl) e,c⟩
 | dK kvs=>obtain ⟨z,y,vs,r,ob,es,ep,e,c⟩:=x;exact⟨z,y,vs,r,ob,es,ep,k _ _ (.inl rfl) e,c⟩
 | dT kvs =>
   obtain ⟨z,y,xs,r,ob,es,ep,e,c⟩:=x
   exact⟨z,y,xs,Paired.mapP r fun p q z=>⟨z.1,ht _ _ z.2.1,z.2.2⟩,ob,es,ep,k _ _ (.inl rfl) e,c⟩
 | set S n=>obtain ⟨ob,es,ep,t,e,c⟩:=x;exact⟨ob,es,ep,t,k _ _ (.inl rfl) e,c⟩
 | ins C dx fs =>
   obtain ⟨d,z,ne,e,mA,⟨od,es,ep,e2,c⟩,r⟩:=x
   exact⟨ho _ d,z,ne,k _ _ (.inl rfl) e,mA,⟨od,es,ep,k _ _ (.inr d) e2,c⟩,r⟩
 | own y=>obtain ⟨ob,e⟩:=x;exact⟨ob,k _ _ (.inl rfl) e⟩
 | xd fs=>obtain ⟨z,mA,⟨od,es,ep,e,c⟩,r⟩:=x;exact⟨z,mA,⟨od,es,ep,k _ _ (.inl rfl) e,c⟩,r⟩
 | rng lo hi=>obtain ⟨t,u,v,e⟩:=x;exact⟨t,u,v,k _ _ (.inl rfl) e⟩
 | frz ob u ih=>obtain ⟨e,q⟩:=x;exact⟨k _ _ (.inl rfl) e,ih q⟩
 | tbl ps =>
   have e:h.get? a=some { cls:=.none,data:=.fields ps }:=x
   show h'.get? a=some { cls:=.none,data:=.fields ps }
   exact k a _ (.inl rfl) e
 | met f y =>
   have e:h.get? a=some (W.methodObj (.ref f) (.ref y)):=x
   show h'.get? a=some (W.methodObj (.ref f) (.ref y))
   exact k a _ (.inl rfl) e
 | ext φ=>obtain ⟨p,⟨o,e⟩,st⟩:=x;exact⟨st _ _ p fun o q=>k _ _ (.inl rfl) q,⟨o,k _ _ (.inl rfl) e⟩,st⟩
theorem HOk.lt (x:HOk P w H h) (e:H a=some o):a<h.objs.size:=(x a o e).lt
theorem HOk.fresh (x:HOk P w H h) (e:h.objs.size<=a):H a=none:=by
 cases q:H a with
 | none=>rfl
 | some u=>exact absurd (Nat.lt_of_lt_of_le (x.lt q) e) (Nat.lt_irrefl _)
theorem HOk.kept (x:HOk P w H h) (k:∀ b u,h.get? b=some u->h'.get? b=some u):HOk P w H h':=fun a o e =>
 (x a o e).stay (fun b u _ q=>k b u q) (fun _ q=>q) fun _ _ q=>q
theorem HOk.laid (x:HOk P w H h) (k:∀ b u,h.get? b=some u->h'.get? b=some u) (hp:h.objs.size<=a) (new:zi0 P w (upd H a o) h' a o):HOk P w (upd H a o) h':=fun b u e=>by
 have hn:=x.fresh hp
 by_cases hb:b=a
 . subst hb;rw[za5] at e;cases e;exact new
 . rw[za7 hb] at e
   exact (x b u e).stay (fun c v _ q=>k c v q) (fun c q=>by rw[za7 (za8 q hn)];exact q) fun c xs q=>by rw[za7 (za8 q hn)];exact q
end
noncomputable def Rd (H:Hp) (a:Addr) (u:HO):Prop:=H a=some u\/∃ o,H a=some (.frz o u)
theorem Rd.ok {P:Program} {w:World} {H:Hp} {h:Heap} {a:Addr} {u:HO} (r:Rd H a u) (x:HOk P w H h):zi0 P w H h a u:=by
 rcases r with r | ⟨o,r⟩
 . exact x a u r
 . obtain ⟨_,q⟩:=x a _ r
   exact q
noncomputable def Mut:Option HO->Prop
 | some (.lst _)=>True
 | some (.dK _)=>True
 | some (.dT _)=>True
 | some (.set _ _)=>True
 | some (.ins _ _ _)=>True
 | some (.ext _)=>True
 | some (.xd _)=>True
 | _=>False
section
variable {P:Program} {w:World} {H:Hp} {h h':Heap} {x e:Addr} {o':HO}
theorem HOk.write (ok:HOk P w H h) (mu:Mut (H x)) (he:e=x\/H e=some (.own x)) (k:∀ b u,b≠e->h.get? b=some u->h'.get? b=some u) (heo:∃ u,h'.get? e=some u)
   (new:zi0 P w (upd H x o') h' x o'):HOk P w (upd H x o') h':=fun b u q=>by
 have nown:∀ c y,H c=some (.own y)->c≠x:=fun c y r z=>by subst z;rw[r] at mu;exact mu
 have ntup:∀ c xs,H c=some (.tup xs)->c≠x:=fun c xs r z=>by subst z;rw[r] at mu;exact mu
 by_cases hb:b=x
 . subst hb;rw[za5] at q;cases q;exact new
 . rw[za7 hb] at q
   by_cases hbe:b=e
   . have q':H b=some (.own x):=by
       rcases he with z | z
       . exact absurd (hbe.trans z) hb
       . rw[hbe];exact z
     rw[q] at q';cases q'
     obtain ⟨v,hv⟩:=heo
     exact⟨v,by rw[hbe];exact hv⟩
   . refine (ok b u q).stay (fun c v hc r=>k c v ?_ r) (fun c r=>by rw[za7 (nown c b r)];exact r) fun c xs r=>by rw[za7 (ntup c xs r)];exact r
     rcases hc with rfl | hc
     . exact hbe
     . rintro rfl
       rcases he with z | z
       . exact nown c b hc z
       . rw[hc] at z;cases z;exact hb rfl
end
structure Un (fs ex:List Addr) (H H':Hp) (h h':Heap):Prop where
 keep:∀ b o,h.get? b=some o->H b=none->b∉fs->b∉ex->h'.get? b=some o
 slot:∀ b o,h.get? b=some o->H b=none->b∈fs->b∉ex->∃ sl,h'.get? b=some { o with slots:=sl }
 free:∀ b o,h.get? b=some o->H b=none->b∉ex->H' b=none
 there:∀ b o,h.get? b=some o->b∉ex->∃ o',h'.get? b=some o'
 tups:∀ b xs,H b=some (.tup xs)->H' b=some (.tup xs)
 frzs:∀ b o u,H b=some (.frz o u)->H' b=some (.frz o u)
 tbls:∀ b ps,H b=some (.tbl ps)->∃ more,H' b=some (.tbl (ps++more))
section
variable {fs fs' ex ex':List Addr} {H H1 H2:Hp} {h h1 h2 h':Heap} {a x e:Addr} {o:HO}
theorem Un.any (u:Un fs ex H H1 h h1) {b:Addr} {ob:Obj} (q:h.get? b=some ob) (n:H b=none) (hx:b∉ex):∃ sl,h1.get? b=some { ob with slots:=sl }:=by
 by_cases hb:b∈fs
 . exact u.slot b ob q n hb hx
 . exact⟨ob.slots,u.keep b ob q n hb hx⟩
theorem Un.kept (k:∀ b u,h.get? b=some u->h'.get? b=some u):Un fs ex H H h h' :=
 ⟨fun b ob q _ _ _=>k b ob q,fun b ob q _ _ _=>⟨ob.slots,k b ob q⟩,fun _ _ _ n _=>n,fun b ob q _=>⟨ob,k b ob q⟩,fun _ _ q=>q,fun _ _ _ q=>q,fun _ ps q=>⟨#[],by rw[q];simp⟩⟩
theorem Un.refl:Un fs ex H H h h:=Un.kept fun _ _ q=>q
theorem Un.laid (k:∀ b u,h.get? b=some u->h'.get? b=some u) (hp:h.objs.size<=a) (hn:H a=none):Un fs ex H (upd H a o) h h' where
 keep:=fun b u q _ _ _=>k b u q
 slot:=fun b u q _ _ _=>⟨u.slots,k b u q⟩
 free:=fun b u q n _=>by rw[za7 (Nat.ne_of_lt (Nat.lt_of_lt_of_le (Heap.lt_size q) hp))];exact n
 there:=fun b u q _=>⟨u,k b u q⟩
 tups:=fun b xs q=>by rw[za7 (za8 q hn)];exact q
 frzs:=fun b u xs q=>by rw[za7 (za8 q hn)];exact q
 tbls:=fun b ps q=>⟨#[],by rw[za7 (za8 q hn),q];simp⟩
theorem Un.write (mu:Mut (H x)) (he:e=x\/H e=some (.own x)) (k:∀ b u,b≠e->h.get? b=some u->h'.get? b=some u) (heo:∃ u,h'.get? e=some u):Un fs ex H (upd H x o) h h':=by
 have hx:∀ b,H b=none->b≠x:=fun b n z=>by subst z;rw[n] at mu;exact mu
 have hb:∀ b,H b=none->b≠e:=fun b n z=>by
   subst z
   rcases he with r | r
   . exact hx b n r
   . rw[n] at r;cases r
 have hm:∀ b u,H b=some u->¬ Mut (some u)->b≠x:=fun b u q nm z=>by subst z;rw[q] at mu;exact nm mu
 refine⟨fun b u q n _ _=>k b u (hb b n) q,fun b u q n _ _=>⟨u.slots,k b u (hb b n) q⟩,fun b u q n _=>by rw[za7 (hx b n)];exact n,fun b u q _=>?_,
   fun b xs q=>by rw[za7 (hm b _ q fun z=>z)];exact q,fun b u xs q=>by rw[za7 (hm b _ q fun z=>z)];exact q,fun b ps q=>⟨#[],by rw[za7 (hm b _ q fun z=>z),q];simp⟩⟩
 by_cases hbe:b=e
 . subst hbe;exact heo
 . exact⟨u,k b u hbe q⟩
end
noncomputable def trk (h:Heap) (H:Hp):List Addr:=(List.range h.objs.size).filter fun a=>(H a).isSome
noncomputable def hidT (h:Heap) (H:Hp):Heap:=W.hideAll h (trk h H)
theorem hidT_size (h:Heap) (H:Hp):(hidT h H).objs.size=h.objs.size:=W.hideAll_size _ _
theorem hidT_get {h:Heap} {H:Hp} {b:Addr} {o:Obj} (e:h.get? b=some o) (n:H b=none):(hidT h H).get? b=some o :=
 W.hideAll_get _ e fun hm=>by
   have q:(H b).isSome=true:=(List.mem_filter.mp hm).2
   rw[n] at q;simp at q
theorem of_hidT {h:Heap} {H:Hp} {b:Addr} {o:Obj} (e:(hidT h H).get? b=some o):h.get? b=some o/\H b=none:=by
 have e':h.get? b=some o:=W.of_hideAll (trk h H) e
 refine⟨e',?_⟩
 cases q:H b with
 | none=>rfl
 | some x =>
   have hm:b∈trk h H:=List.mem_filter.mpr ⟨List.mem_range.mpr (Heap.lt_size e'),by simp[q]⟩
   have z:(hidT h H).get? b=none:=W.hideAll_none (trk h H) hm
   rw[z] at e;cases e
end L2
namespace L2
open PySem PySem.Spec PyProof.Rows
structure Mod (K:W.Frag) (mg:Str->Option Value) (base:Heap):Prop where
 kin:K.In base
 glob:base.Ns mainGlobals mg
 blt:∃ mb,base.Ns builtinsNs mb/\∀ x:Str,x≠"__name__"->mb x=bootBuiltins x
 nolimit:base.NoLimit
structure Cx where
 prog:Program
 w:World
 K:W.Frag
 mg:Str->Option Value
 base:Heap
 A:Around
 N:List Str
 s₀:Shared
 H₀:Hp
 env:Env
 outer:List Env
 stack:List Env
 ex:List Addr
 fn:Str->Bool
 calm:Bool
 pn:List (Addr×Obj)
 xe:Value->Shared->Prop
noncomputable def frs (l:List Env):List Addr:=l.filterMap (·.frame)
noncomputable abbrev Cx.fs (X:Cx):List Addr:=frs X.outer
noncomputable def Vis (sc:Scope) (x:Str):Prop:=sc.names.lookup x=some .local\/sc.names.lookup x=some .cell\/sc.names.lookup x=some .free
noncomputable def Loc (sc:Scope) (x:Str):Prop:=sc.names.lookup x=some .local\/sc.names.lookup x=some .cell
noncomputable def Look (env:Env) (h:Heap) (m:Str->Option Value) (x:Str) (u:Value):Prop :=
 (env.kindOf x=some .local/\m x=some u)\/((env.kindOf x=some .cell\/env.kindOf x=some .free)/\∃ c,env.cells.lookup x=some c/\h.IsCell c (some u))
structure Cx.Ok (X:Cx):Prop where
 mod:Mod X.K X.mg X.base
 kind:X.env.scope.kind = .function
 glob:X.env.globals=mainGlobals
 blt:X.env.builtins=builtinsNs
 above:X.s₀.heap.objs.size<=X.env.locals
 inj:∀ x y c,X.env.cells.lookup x=some c->X.env.cells.lookup y=some c->x=y
 has:∀ x,(X.env.kindOf x=some .cell\/X.env.kindOf x=some .free)->∃ c,X.env.cells.lookup x=some c
 cab:∀ x c,X.fn x=true->X.env.cells.lookup x=some c->X.s₀.heap.objs.size<=c
 hd:X.calm=true->X.A.handled=none
 frames:X.A.frames=some X.stack
 stk:X.stack=X.outer\/(X.stack=X.env::X.outer/\X.env.frame=some X.env.locals)
 exf:∀ b∈X.ex,b≠X.env.locals/\∀ x c,X.env.cells.lookup x=some c->c≠b
 bs:∀ b o,X.base.get? b=some o->X.s₀.heap.get? b=some o/\X.H₀ b=none
 bsz:X.base.objs.size<=X.s₀.heap.objs.size
 noex:∀ b o,X.base.get? b=some o->b∉X.ex
 exfs:∀ b∈X.ex,b∉X.fs
 funs:X.s₀.heap.FunFrames X.base X.outer
 frf:∀ b∈X.fs,X.H₀ b=none
structure Inv (X:Cx) (pins:List (Addr×Obj)) (σ:List (Option V)) (H:Hp) (s:Shared):Prop where
 ok:X.Ok
 os:s.os=X.s₀.os
 bare:AllBare s.gens
 base:Un X.fs X.ex X.H₀ H X.s₀.heap s.heap
 loc:∃ m,s.heap.Ns X.env.locals m/\∀ (i:Nat) (x:Str) (v:V),X.N[i]?=some x->σ[i]?=some (some v)->Vis X.env.scope x->∃ u,RelV v u/\Look X.env s.heap m x u
 cell:∀ x c,X.env.cells.lookup x=some c->∃ v,s.heap.IsCell c v
 free:H X.env.locals=none
 freeC:∀ x c,X.env.cells.lookup x=some c->H c=none
 pin:∀ p∈X.pn++pins,s.heap.get? p.1=some p.2/\H p.1=none/\p.1≠X.env.locals/\p.1∉X.fs/\∀ v,p.2.data≠.cell v
 hok:HOk X.prog X.w H s.heap
 len:σ.length=X.N.length
section
variable {X:Cx} {pins:List (Addr×Obj)} {σ:List (Option V)} {H H':Hp} {s:Shared} {h':Heap}
theorem Cx.Ok.nofr (ok:X.Ok) {b:Addr} {o:Obj} (e:X.base.get? b=some o):b∉X.fs:=fun hb=>by
 have:=(ok.funs.mem hb).1
 rw[e] at this;cases this
theorem Inv.bs (I:Inv X pins σ H s):∀ b o,X.base.get? b=some o->s.heap.get? b=some o/\H b=none:=fun b o e =>
 ⟨I.base.keep b o (I.ok.bs b o e).1 (I.ok.bs b o e).2 (I.ok.nofr e) (I.ok.noex b o e),I.base.free b o (I.ok.bs b o e).1 (I.ok.bs b o e).2 (I.ok.noex b o e)⟩
theorem Inv.bk (I:Inv X pins σ H s):∀ b o,X.base.get? b=some o->s.heap.get? b=some o:=fun b o e=>(I.bs b o e).1
theorem Inv.mod (I:Inv X pins σ H s):Mod X.K X.mg X.base:=I.ok.mod
theorem Inv.kIn (I:Inv X pins σ H s):X.K.In s.heap:=I.ok.mod.kin.keeps I.bk
theorem Inv.lt (I:Inv X pins σ H s):X.env.locals<s.heap.objs.size:=let ⟨_,hn,_⟩:=I.loc;hn.lt
theorem Inv.sz (I:Inv X pins σ H s):X.s₀.heap.objs.size<=s.heap.objs.size:=Nat.le_trans I.ok.above (Nat.le_of_lt I.lt)
theorem Inv.nofs (I:Inv X pins σ H s) {a:Addr} (h:s.heap.objs.size<=a):a∉X.fs:=fun hb=>by
 obtain ⟨_,o,ho,_⟩:=I.ok.funs.mem hb
 exact absurd (Nat.lt_of_lt_of_le (Heap.lt_size ho) (Nat.le_trans I.sz h)) (Nat.lt_irrefl _)
theorem Inv.cne (I:Inv X pins σ H s):∀ x c,X.env.cells.lookup x=some c->c≠X.env.locals:=fun x c e z=>by
 obtain ⟨v,o,ho,hd⟩:=I.cell x c e
 obtain ⟨m,⟨o',es,ep,ho',hd',_⟩,_⟩:=I.loc
 rw[z,ho'] at ho;cases ho;rw[hd'] at hd;cases hd
theorem Inv.funs (I:Inv X pins σ H s):s.heap.FunFrames X.base X.outer:=by
 have all:∀ (l:List Env),(∀ b∈frs l,b∈X.fs)->X.s₀.heap.FunFrames X.base l->s.heap.FunFrames X.base l:=by
   intro l
   induction l with
   | nil=>intro _ _;trivial
   | cons env r ih =>
     intro hs hl
     obtain ⟨hk,⟨L,o,hf,hn,ho,hd⟩,hr⟩:=hl
     have hL:L∈X.fs:=hs L (by unfold frs;rw[List.filterMap_cons,hf];exact List.mem_cons_self)
     obtain ⟨sl,e⟩:=I.base.slot L o ho (I.ok.frf L hL) hL fun z=>I.ok.exfs L z hL
     exact⟨hk,⟨L,_,hf,hn,e,hd⟩,ih (fun b hb=>hs b (by unfold frs;rw[List.filterMap_cons,hf];exact List.mem_cons_of_mem _ hb)) hr⟩
 exact all X.outer (fun _ hb=>hb) I.ok.funs
theorem Inv.stack (I:Inv X pins σ H s):s.heap.FunFrames X.base X.stack:=by
 rcases I.ok.stk with e | ⟨e,hf⟩
 . rw[e];exact I.funs
 . rw[e]
   obtain ⟨m,hn,_⟩:=I.loc
   refine .cons (by rw[I.ok.kind];decide) hf hn ?_ I.funs
   exact Heap.get?_none_of_le (Nat.le_trans I.ok.bsz I.ok.above)
theorem Inv.stkSub (I:Inv X pins σ H s):∀ b∈frs X.stack,b∈X.env.locals::X.fs:=fun b hb=>by
 rcases I.ok.stk with e | ⟨e,hf⟩
 . rw[e] at hb;exact List.mem_cons_of_mem _ hb
 . rw[e] at hb
   unfold frs at hb
   rw[List.filterMap_cons,hf] at hb
   exact hb
theorem Inv.stkFree (I:Inv X pins σ H s):∀ b∈frs X.stack,H b=none:=fun b hb=>by
 rcases List.mem_cons.mp (I.stkSub b hb) with e | hb
 . rw[e];exact I.free
 . obtain ⟨_,o,ho,_⟩:=I.ok.funs.mem hb
   exact I.base.free b o ho (I.ok.frf b hb) fun z=>I.ok.exfs b z hb
theorem Inv.step {g':Array GenState} {t':Nat} {d':Drawn} {ch:List Addr} (I:Inv X pins σ H s)
   (hch:∀ b∈ch,(b∈X.ex\/X.s₀.heap.objs.size<=b)/\b≠X.env.locals/\(∀ x c,X.env.cells.lookup x=some c->c≠b)/\∀ p∈X.pn++pins,p.1≠b)
   (keep:∀ b o,b≠X.env.locals->b∉X.fs->b∉ch->s.heap.get? b=some o->H b=none->h'.get? b=some o)
   (slot:∀ b o,b≠X.env.locals->b∈X.fs->b∉ch->s.heap.get? b=some o->H b=none->∃ sl,h'.get? b=some { o with slots:=sl }) (free:∀ b o,b∉ch->s.heap.get? b=some o->H b=none->H' b=none)
   (there:∀ b o,b∉ch->s.heap.get? b=some o->∃ o',h'.get? b=some o')
   (tups:∀ b xs,H b=some (.tup xs)->H' b=some (.tup xs)) (frzs:∀ b o u,H b=some (.frz o u)->H' b=some (.frz o u)) (tbls:∀ b ps,H b=some (.tbl ps)->∃ more,H' b=some (.tbl (ps++more)))
   (ns:∀ m,s.heap.Ns X.env.locals m->h'.Ns X.env.locals m) (hok:HOk X.prog X.w H' h') (hg:AllBare g') :
   Inv X pins σ H' { s with heap:=h',gens:=g',drawn:=d',toks:=t' }:=by
 have neL:∀ b o,X.s₀.heap.get? b=some o->b≠X.env.locals:=fun b o e=>Nat.ne_of_lt (Nat.lt_of_lt_of_le (Heap.lt_size e) I.ok.above)
 have neC:∀ b o,X.s₀.heap.get? b=some o->b∉X.ex->b∉ch:=fun b o e hx hb=>by
   rcases (hch b hb).1 with z | z
   . exact hx z
   . exact absurd (Nat.lt_of_lt_of_le (Heap.lt_size e) z) (Nat.lt_irrefl _)
 have cellK:∀ x c,X.env.cells.lookup x=some c->∀ v,s.heap.IsCell c v->h'.IsCell c v:=fun x c e v ⟨o,ho,hd⟩=>by
   have nch:c∉ch:=fun z=>(hch c z).2.2.1 x c e rfl
   by_cases hc:c∈X.fs
   . obtain ⟨sl,q⟩:=slot c o (I.cne x c e) hc nch ho (I.freeC x c e)
     exact⟨_,q,hd⟩
   . exact⟨o,keep c o (I.cne x c e) hc nch ho (I.freeC x c e),hd⟩
 refine⟨I.ok,I.os,hg,⟨fun b o e n hb hx=>?_,fun b o e n hb hx=>?_,fun b o e n hx=>?_,fun b o e hx=>?_,fun b xs e=>tups b xs (I.base.tups b xs e),fun b o xs e=>frzs b o xs (I.base.frzs b o xs e),fun b ps e=>?_⟩,?_,fun x c e=>?_,?_,fun x c e=>?_,fun p hp=>?_,hok,I.len⟩
 . exact keep b o (neL b o e) hb (neC b o e hx) (I.base.keep b o e n hb hx) (I.base.free b o e n hx)
 . obtain ⟨sl,e1⟩:=I.base.slot b o e n hb hx
   obtain ⟨sl',e2⟩:=slot b _ (neL b o e) hb (neC b o e hx) e1 (I.base.free b o e n hx)
   exact⟨sl',e2⟩
 . obtain ⟨o',e1⟩:=I.base.there b o e hx
   exact free b o' (neC b o e hx) e1 (I.base.free b o e n hx)
 . obtain ⟨o',e1⟩:=I.base.there b o e hx
   exact there b o' (neC b o e hx) e1
 . obtain ⟨m1,e1⟩:=I.base.tbls b ps e
   obtain ⟨m2,e2⟩:=tbls b _ e1
   exact⟨m1++m2,by rw[e2,Array.append_assoc]⟩
 . obtain ⟨m,hn,hl⟩:=I.loc
   refine⟨m,ns m hn,fun i x v e1 e2 e3=>?_⟩
   obtain ⟨u,r,l⟩:=hl i x v e1 e2 e3
   refine⟨u,r,?_⟩
   rcases l with l | ⟨k,c,e,z⟩
   . exact .inl l
   . exact .inr ⟨k,c,e,cellK x c e _ z⟩
 . obtain ⟨v,z⟩:=I.cell x c e
   exact⟨v,cellK x c e v z⟩
 . obtain ⟨m,⟨o,_,_,ho,_⟩,_⟩:=I.loc
   exact free _ o (fun z=>(hch _ z).2.1 rfl) ho I.free
 . obtain ⟨v,o,ho,hd⟩:=I.cell x c e
   exact free c o (fun z=>(hch c z).2.2.1 x c e rfl) ho (I.freeC x c e)
 . obtain ⟨e,n,ne,nf,d⟩:=I.pin p hp
   have nch:p.1∉ch:=fun z=>(hch p.1 z).2.2.2 p hp rfl
   exact⟨keep p.1 p.2 ne nf nch e n,free p.1 p.2 nch e n,ne,nf,d⟩
theorem Inv.un {t':Nat} (I:Inv X pins σ H s) (u:Un X.fs [] H H' s.heap h') (hok:HOk X.prog X.w H' h'):Inv X pins σ H' { s with heap:=h',toks:=t' }:=by
 obtain ⟨m,⟨o,es,ep,ho,r⟩,_⟩:=id I.loc
 obtain ⟨sl,hL⟩:=u.any ho I.free (by simp)
 exact I.step (g':=s.gens) (d':=s.drawn) (ch:=[]) (fun _ z=>nomatch z) (fun b o _ hb _ e n=>u.keep b o e n hb (by simp)) (fun b o _ hb _ e n=>u.slot b o e n hb (by simp)) (fun b o _ e n=>u.free b o e n (by simp)) (fun b o _ e=>u.there b o e (by simp)) u.tups u.frzs u.tbls (fun m' hm=>by
   obtain ⟨o',es',ep',ho',r'⟩:=hm
   rw[ho] at ho';cases ho'
   exact⟨_,es',ep',hL,r'⟩) hok I.bare
theorem Inv.call {g':Array GenState} {t':Nat} {d':Drawn} {ch:List Addr} (I:Inv X pins σ H s) (u:Un (frs X.stack) ch H H' s.heap h') (hok:HOk X.prog X.w H' h') (hg:AllBare g')
   (hch:∀ b∈ch,(b∈X.ex\/X.s₀.heap.objs.size<=b)/\b≠X.env.locals/\(∀ x c,X.env.cells.lookup x=some c->c≠b)/\∀ p∈X.pn++pins,p.1≠b) :
   Inv X pins σ H' { s with heap:=h',gens:=g',drawn:=d',toks:=t' }:=by
 obtain ⟨m,⟨o,es,ep,ho,r⟩,_⟩:=id I.loc
 obtain ⟨sl,hL⟩:=u.any ho I.free fun z=>(hch _ z).2.1 rfl
 exact I.step (ch:=ch) hch (fun b o hL hb hc e n=>u.keep b o e n (fun z=>(List.mem_cons.mp (I.stkSub b z)).elim hL hb) hc) (fun b o _ _ hc e n=>u.any e n hc) (fun b o hc e n=>u.free b o e n hc) (fun b o hc e=>u.there b o e hc) u.tups u.frzs u.tbls (fun m' hm=>by
   obtain ⟨o',es',ep',ho',r'⟩:=hm
   rw[ho] at ho';cases ho'
   exact⟨_,es',ep',hL,r'⟩) hok hg
theorem Inv.turned {t':Nat} {it:Addr} (I:Inv X pins σ H s) (k:∀ b o,b≠it->s.heap.get? b=some o->h'.get? b=some o) (hn:H it=none) (hL:it≠X.env.locals)
   (h1:it∈X.ex\/X.s₀.heap.objs.size<=it) (h2:∀ x c,X.env.cells.lookup x=some c->c≠it) (h3:∀ p∈X.pn++pins,p.1≠it):Inv X pins σ H { s with heap:=h',toks:=t' }:=by
 have nit:∀ b u,H b=some u->b≠it:=fun b u e z=>by rw[z,hn] at e;cases e
 refine I.step (g':=s.gens) (d':=s.drawn) (ch:=[it]) (fun b hb=>?_) (fun b o _ _ hc e _=>k b o (fun z=>hc (by simp[z])) e) (fun b o _ _ hc e _=>⟨o.slots,k b o (fun z=>hc (by simp[z])) e⟩) (fun _ _ _ _ n=>n)
   (fun b o hc e=>⟨o,k b o (fun z=>hc (by simp[z])) e⟩) (fun _ _ e=>e) (fun _ _ _ e=>e) (fun b ps e=>⟨#[],by rw[e];simp⟩) (fun m hm=>?_) (fun b u e=>?_) I.bare
 . have e:b=it:=by simpa using hb
   subst e
   exact⟨h1,hL,h2,h3⟩
 . obtain ⟨o,es,ep,ho,r⟩:=hm
   exact⟨o,es,ep,k _ o (Ne.symm hL) ho,r⟩
 . refine (I.hok b u e).stay (fun c v hc q=>k c v ?_ q) (fun _ q=>q) fun _ _ q=>q
   rcases hc with z | z
   . rw[z];exact nit b u e
   . exact nit c _ z
theorem Inv.tok (I:Inv X pins σ H s) (t:Nat):Inv X pins σ H { s with toks:=t }:=I.un (h':=s.heap) (t':=t) Un.refl I.hok
theorem Inv.kept {t':Nat} (I:Inv X pins σ H s) (k:∀ b u,s.heap.get? b=some u->h'.get? b=some u):Inv X pins σ H { s with heap:=h',toks:=t' }:=I.un (Un.kept k) (I.hok.kept k)
theorem Inv.laid {a:Addr} {o:HO} {t':Nat} (I:Inv X pins σ H s) (k:∀ b u,s.heap.get? b=some u->h'.get? b=some u) (hp:s.heap.objs.size<=a) (new:zi0 X.prog X.w (upd H a o) h' a o) :
 Inv X pins σ (upd H a o) { s with heap:=h',toks:=t' }:=I.un (Un.laid k hp (I.hok.fresh hp)) (I.hok.laid k hp new)
theorem Inv.write {x e:Addr} {o:HO} {t':Nat} (I:Inv X pins σ H s) (mu:Mut (H x)) (he:e=x\/H e=some (.own x)) (k:∀ b u,b≠e->s.heap.get? b=some u->h'.get? b=some u) (heo:∃ u,h'.get? e=some u)
 (new:zi0 X.prog X.w (upd H x o) h' x o):Inv X pins σ (upd H x o) { s with heap:=h',toks:=t' }:=I.un (Un.write mu he k heo) (I.hok.write mu he k heo new)
theorem Inv.pins_of {pins':List (Addr×Obj)} (I:Inv X pins σ H s) (h:∀ p∈pins',s.heap.get? p.1=some p.2/\H p.1=none/\p.1≠X.env.locals/\p.1∉X.fs/\∀ v,p.2.data≠.cell v):Inv X pins' σ H s :=
 ⟨I.ok,I.os,I.bare,I.base,I.loc,I.cell,I.free,I.freeC,fun p hp=>(List.mem_append.mp hp).elim (fun z=>I.pin p (List.mem_append_left _ z)) (h p),I.hok,I.len⟩
theorem zF2 {N:List Str} (hN:N.Nodup) {i j:Nat} {x:Str} (a:N[i]?=some x) (b:N[j]?=some x):i=j:=by
 obtain ⟨h1,e1⟩:=List.getElem?_eq_some_iff.mp a
 obtain ⟨h2,e2⟩:=List.getElem?_eq_some_iff.mp b
 exact (List.getElem_inj hN).mp (e1.trans e2.symm)
theorem zC0 {M:Model} {A:Around} {E:Value->Shared->Prop} {i:Nat} {x:Str} {v:V} {u:Value} {Q:Unit->Shared->Prop} (I:Inv X pins σ H s) (hN:X.N.Nodup) (hi:X.N[i]?=some x) (hx:Loc X.env.scope x) (r:RelV v u)
   (h:∀ s',Inv X pins (σ.set i (some v)) H s'->(∃ a,Heap.SameBut a s.heap s'.heap/\(a=X.env.locals\/X.env.cells.lookup x=some a))->Q () s') (hf:X.fn x=true\/X.env.scope.names.lookup x=some .local:=by first | exact .inl rfl | exact .inr rfl | assumption):wpAny M A (storeName X.env x u) Q E s:=by
 obtain ⟨m,hn,hl⟩:=id I.loc
 have hcls:(X.env.scope.kind == .class || (X.env.scope.kind == .module && X.env.locals != X.env.globals))=false:=by rw[I.ok.kind];rfl
 have hiσ:i<σ.length:=by rw[I.len];exact (List.getElem?_eq_some_iff.mp hi).1
 have cne:=I.cne
 have tracked:∀ {a:Addr} {h':Heap},(∃ o,s.heap.get? a=some o/\H a=none)->Heap.SameBut a s.heap h'->HOk X.prog X.w H h':=fun {a h'} ha hs b ob e=>by
   obtain ⟨_,_,hfree⟩:=ha
   refine (I.hok b ob e).stay (fun c w' hc q=>(hs.2 c ?_).trans q) (fun _ q=>q) fun _ _ q=>q
   rintro rfl
   rcases hc with rfl | hc
   . rw[hfree] at e;cases e
   . rw[hfree] at hc;cases hc
 rcases hx with hk | hk
 . refine wpAny_storeName_local hk hn (fun h' hn' hs=>?_) hcls
   obtain ⟨oL,_,_,hoL,_⟩:=id hn
   refine h _ ⟨I.ok,I.os,I.bare,⟨fun b o e n hb hx=>?_,fun b o e n hb hx=>?_,I.base.free,fun b o e hx=>?_,I.base.tups,I.base.frzs,I.base.tbls⟩,⟨_,hn',fun j y v' e1 e2 e3=>?_⟩,fun y c e=>?_,I.free,I.freeC,fun p hp=>?_,tracked ⟨oL,hoL,I.free⟩ hs,by simpa using I.len⟩ ⟨_,hs,.inl rfl⟩
   . exact (hs.2 b (Nat.ne_of_lt (Nat.lt_of_lt_of_le (Heap.lt_size e) I.ok.above))).trans (I.base.keep b o e n hb hx)
   . obtain ⟨sl,e1⟩:=I.base.slot b o e n hb hx
     exact⟨sl,(hs.2 b (Nat.ne_of_lt (Nat.lt_of_lt_of_le (Heap.lt_size e) I.ok.above))).trans e1⟩
   . obtain ⟨o',e1⟩:=I.base.there b o e hx
     exact⟨o',(hs.2 b (Nat.ne_of_lt (Nat.lt_of_lt_of_le (Heap.lt_size e) I.ok.above))).trans e1⟩
   . by_cases hj:j=i
     . subst hj
       rw[hi] at e1;cases e1
       rw[List.getElem?_set_self hiσ] at e2
       cases e2
       exact⟨u,r,.inl ⟨hk,by simp⟩⟩
     . rw[List.getElem?_set_ne (Ne.symm hj)] at e2
       obtain ⟨u',r',q⟩:=hl j y v' e1 e2 e3
       refine⟨u',r',?_⟩
       rcases q with ⟨k,e⟩ | ⟨k,c,e,z⟩
       . refine .inl ⟨k,?_⟩
         have:y≠x:=fun e=>hj (zF2 hN e1 (e▸hi))
         simp[this,e]
       . exact .inr ⟨k,c,e,z.sameBut hs (cne y c e)⟩
   . obtain ⟨w',z⟩:=I.cell y c e
     exact⟨w',z.sameBut hs (cne y c e)⟩
   . obtain ⟨e,n,ne,nf,d⟩:=I.pin p hp
     exact⟨(hs.2 p.1 ne).trans e,n,ne,nf,d⟩
 . have hfn:X.fn x=true:=by
     rcases hf with z | z
     . exact z
     . rw[z] at hk;cases hk
   obtain ⟨c,hc⟩:=I.ok.has x (.inl hk)
   obtain ⟨w',z⟩:=I.cell x c hc
   refine wpAny_storeName_cell I.ok.kind hk hc z (fun h' hc' hs=>?_)
   obtain ⟨oc,hoc,hocd⟩:=id z
   refine h { s with heap:=h' } ⟨I.ok,I.os,I.bare,⟨fun b o e n hb hx=>?_,fun b o e n hb hx=>?_,I.base.free,fun b o e hx=>?_,I.base.tups,I.base.frzs,I.base.tbls⟩,⟨m,hn.sameBut hs (Ne.symm (cne x c hc)),fun j y v' e1 e2 e3=>?_⟩,fun y c' e=>?_,I.free,I.freeC,fun p hp=>?_,tracked ⟨oc,hoc,I.freeC x c hc⟩ hs,by simpa using I.len⟩ ⟨c,hs,.inr hc⟩
   . exact (hs.2 b (Nat.ne_of_lt (Nat.lt_of_lt_of_le (Heap.lt_size e) (I.ok.cab x c hfn hc)))).trans (I.base.keep b o e n hb hx)
   . obtain ⟨sl,e1⟩:=I.base.slot b o e n hb hx
     exact⟨sl,(hs.2 b (Nat.ne_of_lt (Nat.lt_of_lt_of_le (Heap.lt_size e) (I.ok.cab x c hfn hc)))).trans e1⟩
   . obtain ⟨o',e1⟩:=I.base.there b o e hx
     exact⟨o',(hs.2 b (Nat.ne_of_lt (Nat.lt_of_lt_of_le (Heap.lt_size e) (I.ok.cab x c hfn hc)))).trans e1⟩
   . by_cases hj:j=i
     . subst hj
       rw[hi] at e1;cases e1
       rw[List.getElem?_set_self hiσ] at e2
       cases e2
       exact⟨u,r,.inr ⟨.inl hk,c,hc,hc'⟩⟩
     . rw[List.getElem?_set_ne (Ne.symm hj)] at e2
       obtain ⟨u',r',q⟩:=hl j y v' e1 e2 e3
       refine⟨u',r',?_⟩
       rcases q with q | ⟨k,c',e,z'⟩
       . exact .inl q
       . refine .inr ⟨k,c',e,z'.sameBut hs ?_⟩
         rintro rfl
         exact hj (zF2 hN e1 (I.ok.inj _ _ _ e hc▸hi))
   . by_cases hcc:c'=c
     . subst hcc;exact⟨_,hc'⟩
     . obtain ⟨w2,z2⟩:=I.cell y c' e
       exact⟨w2,z2.sameBut hs hcc⟩
   . obtain ⟨e,n,ne,nf,d⟩:=I.pin p hp
     refine⟨(hs.2 p.1 ?_).trans e,n,ne,nf,d⟩
     intro q
     rw[q,hoc] at e
     have q':oc=p.2:=Option.some.inj e
     exact d w' (by rw[<-q'];exact hocd)
theorem zF3 {M:Model} {A:Around} {E:Value->Shared->Prop} {i:Nat} {x:Str} {v:V} {u:Value} {Q:Unit->Shared->Prop} (I:Inv X pins σ H s) (hN:X.N.Nodup) (hi:X.N[i]?=some x) (hx:Loc X.env.scope x) (r:RelV v u)
   (h:∀ s',Inv X pins (σ.set i (some v)) H s'->Q () s') (hf:X.fn x=true\/X.env.scope.names.lookup x=some .local:=by first | exact .inl rfl | exact .inr rfl | assumption):wpAny M A (storeName X.env x u) Q E s :=
 zC0 I hN hi hx r (fun s' I' _=>h s' I') hf
theorem Inv.call' {s':Shared} {ch:List Addr} (I:Inv X pins σ H s) (ho:s'.os=s.os) (u:Un (frs X.stack) ch H H' s.heap s'.heap) (hok:HOk X.prog X.w H' s'.heap) (hg:AllBare s'.gens)
   (hch:∀ b∈ch,(b∈X.ex\/X.s₀.heap.objs.size<=b)/\b≠X.env.locals/\(∀ x c,X.env.cells.lookup x=some c->c≠b)/\∀ p∈X.pn++pins,p.1≠b):Inv X pins σ H' s':=by
 obtain ⟨h',g',d',t',o'⟩:=s'
 have e:o'=s.os:=ho
 subst e
 exact I.call (g':=g') (t':=t') (d':=d') u hok hg hch
end
noncomputable abbrev XK:=Value->Option Addr->Hp->Prop
noncomputable abbrev St:=List (Option V)
noncomputable abbrev VK:=V->Hp->Prop
noncomputable abbrev TE:=St->Hp->VK->Prop
noncomputable abbrev TT:=St->Hp->(Bool->Hp->Prop)->Prop
noncomputable abbrev TA:=St->Hp->(List V->Hp->Prop)->Prop
structure Ends where
 nx:St->Hp->Prop
 rt:VK
 bk:St->Hp->Prop:=fun _ _=>False
 ct:St->Hp->Prop:=fun _ _=>False
noncomputable abbrev TS:=Ends->St->Hp->Prop
noncomputable def EP (X:Cx) (pins:List (Addr×Obj)) (σ:St) (Q:VK) (u:Value) (s':Shared):Prop:=∃ v H',Inv X pins σ H' s'/\RelV v u/\Q v H'
noncomputable def TP (X:Cx) (pins:List (Addr×Obj)) (σ:St) (Q:Bool->Hp->Prop) (b:Bool) (s':Shared):Prop:=∃ H',Inv X pins σ H' s'/\Q b H'
noncomputable def AP (X:Cx) (pins:List (Addr×Obj)) (σ:St) (Q:List V->Hp->Prop) (us:List Value) (s':Shared):Prop:=∃ vs H',Inv X pins σ H' s'/\Vals vs us/\Q vs H'
noncomputable def SP (X:Cx) (pins:List (Addr×Obj)) (D:Ends) (f:Flow) (s':Shared):Prop :=
 match f with
 | .next=>∃ σ' H',Inv X pins σ' H' s'/\D.nx σ' H'
 | .brk=>∃ σ' H',Inv X pins σ' H' s'/\D.bk σ' H'
 | .cont=>∃ σ' H',Inv X pins σ' H' s'/\D.ct σ' H'
 | .ret u=>∃ v σ' H',Inv X pins σ' H' s'/\RelV v u/\D.rt v H'
noncomputable def PE (X:Cx) (e:Expr) (t:TE):Prop :=
 ∀ (pins:List (Addr×Obj)) (s:Shared) (σ:St) (H:Hp) (Q:VK),Inv X pins σ H s->t σ H Q->wpAny (model X.prog X.w) X.A (eval e X.env) (EP X pins σ Q) X.xe s
noncomputable def PT (X:Cx) (e:Expr) (t:TT):Prop :=
 ∀ (pins:List (Addr×Obj)) (s:Shared) (σ:St) (H:Hp) (Q:Bool->Hp->Prop),Inv X pins σ H s->t σ H Q->wpAny (model X.prog X.w) X.A (isTrue e X.env (eval e X.env)) (TP X pins σ Q) X.xe s
noncomputable def PW (X:Cx) (e:Expr) (t:TT):Prop :=
 ∀ (whole:Sem Value) (pins:List (Addr×Obj)) (s:Shared) (σ:St) (H:Hp) (Q:Bool->Hp->Prop),Inv X pins σ H s->t σ H Q->wpAny (model X.prog X.w) X.A (isTrue e X.env whole) (TP X pins σ Q) X.xe s
theorem PW.pt {X:Cx} {e:Expr} {t:TT} (h:PW X e t):PT X e t:=h _
noncomputable def PA (X:Cx) (es:List Expr) (t:TA):Prop :=
 ∀ (pos:Pos) (pins:List (Addr×Obj)) (s:Shared) (σ:St) (H:Hp) (Q:List V->Hp->Prop),Inv X pins σ H s->t σ H Q->wpAny (model X.prog X.w) X.A (spliced (backTo pos (starEach es X.env))) (AP X pins σ Q) X.xe s
noncomputable def PS (X:Cx) (st:Stmt) (t:TS):Prop :=
 ∀ (pins:List (Addr×Obj)) (s:Shared) (σ:St) (H:Hp) (D:Ends),Inv X pins σ H s->t D σ H->wpAny (model X.prog X.w) X.A (exec st X.env) (SP X pins D) X.xe s
noncomputable def PSs (X:Cx) (st:List Stmt) (t:TS):Prop :=
 ∀ (pins:List (Addr×Obj)) (s:Shared) (σ:St) (H:Hp) (D:Ends),Inv X pins σ H s->t D σ H->wpAny (model X.prog X.w) X.A (execs st X.env) (SP X pins D) X.xe s
theorem thn {α:Type} {t:Sem α} {Q Q':α->Shared->Prop} {M:Model} {A:Around} {E:Value->Shared->Prop} {s:Shared} (h:wpAny M A t Q E s) (hQ:∀ a s,Q a s->Q' a s):wpAny M A t Q' E s:=wpAny_mono h hQ fun _ _ x=>x
end L2
namespace L2
open PySem PySem.Spec PyProof.Rows
section
variable {X:Cx}
noncomputable def tVar (i:Nat):TE:=fun σ H Q=>∃ v,σ[i]?=some (some v)/\Q v H
noncomputable def tC (v:V):TE:=fun _ H Q=>Q v H
theorem pe_var {i:Nat} {x:Str} {pos:Pos} (hN:X.N[i]?=some x) (hv:Vis X.env.scope x) (hd:(x == ("__debug__" : Str))=false:=by decide) (hcd:(x == ("__classdict__" : Str))=false:=by decide):PE X (.Name x pos) (tVar i):=by
 intro pins s σ H Q I h
 obtain ⟨v,e,h⟩:=h
 obtain ⟨m,hn,hl⟩:=I.loc
 obtain ⟨u,r,l⟩:=hl i x v hN e hv
 have fin:EP X pins σ Q u s:=⟨v,H,I,r,h⟩
 rcases l with ⟨hk,hm⟩ | ⟨hk,c,hc,hcell⟩
 . exact wpAny_Name (wpAny_loadName_local I.ok.kind hk hn hm fin) hd
 . rcases hk with hk | hk
   . exact wpAny_Name (wpAny_loadName_cell I.ok.kind hk hc hcell fin) hd
   . exact wpAny_Name (wpAny_loadName_free I.ok.kind hk hc hcell fin hcd) hd
theorem za3 {i j pos}:PE X (.Constant (.int i) j pos) (tC (.int i)):=fun _ _ _ H _ I h=>wpAny_Constant_int ⟨.int i,H,I.tok _,⟨_,rfl⟩,h⟩
theorem zy4 {b j pos}:PE X (.Constant (.bool b) j pos) (tC (.bl b)):=fun _ _ _ H _ I h=>Constant_bool ⟨.bl b,H,I,rfl,h⟩
theorem zC1 {j pos}:PE X (.Constant .none j pos) (tC .non):=fun _ _ _ H _ I h=>Constant_none ⟨.non,H,I,rfl,h⟩
theorem zb0 {x j pos}:PE X (.Constant (.str x) j pos) (tC (.str x)):=fun _ _ _ H _ I h=>Calls.Constant_str ⟨.str x,H,I.tok _,⟨_,rfl⟩,h⟩
noncomputable def Gl (X:Cx) (x:Str):Prop:=X.env.kindOf x=some .globalImplicit
theorem zo2 {E:Value->Shared->Prop} {pins:List (Addr×Obj)} {s:Shared} {σ:St} {H:Hp} {x:Str} {u:Value} {pos:Pos} {Q:Value->Shared->Prop} (I:Inv X pins σ H s) (hg:Gl X x) (hm:X.mg x=some u) (h:Q u s)
   (hd:(x == ("__debug__" : Str))=false:=by decide):wpAny (model X.prog X.w) X.A (eval (.Name x pos) X.env) Q E s :=
 Calls.Name_function_global I.ok.kind hg (Calls.loadGlobal_global (by rw[I.ok.glob];exact I.mod.glob.keeps I.bk) hm h) hd
theorem zF4 {E:Value->Shared->Prop} {pins:List (Addr×Obj)} {s:Shared} {σ:St} {H:Hp} {x:Str} {u:Value} {pos:Pos} {Q:Value->Shared->Prop} (I:Inv X pins σ H s) (hg:Gl X x) (hm:X.mg x=none) (hv:bootBuiltins x=some u) (h:Q u s)
   (hn:x≠"__name__":=by decide) (hd:(x == ("__debug__" : Str))=false:=by decide):wpAny (model X.prog X.w) X.A (eval (.Name x pos) X.env) Q E s:=by
 obtain ⟨mb,h1,h2⟩:=I.mod.blt
 exact Calls.Name_function_global I.ok.kind hg (Calls.loadGlobal_builtin (by rw[I.ok.glob];exact I.mod.glob.keeps I.bk) hm (by rw[I.ok.blt];exact h1.keeps I.bk) ((h2 x hn).trans hv) h) hd
theorem zq9 {x:Str} {v:V} {u:Value} {pos:Pos} (hg:Gl X x) (hm:X.mg x=some u) (r:RelV v u) (hd:(x == ("__debug__" : Str))=false:=by decide):PE X (.Name x pos) (tC v) :=
 fun _ _ _ H _ I h=>zo2 I hg hm ⟨v,H,I,r,h⟩ hd
theorem zO9 {x:Str} {v:V} {u:Value} {pos:Pos} (hg:Gl X x) (hm:X.mg x=none) (hv:bootBuiltins x=some u) (r:RelV v u) (hn:x≠"__name__":=by decide) (hd:(x == ("__debug__" : Str))=false:=by decide):PE X (.Name x pos) (tC v) :=
 fun _ _ _ H _ I h=>zF4 I hg hm hv ⟨v,H,I,r,h⟩ hn hd
variable {a b:Expr} {ta tb:TE} {pos:Pos}
noncomputable def tB (t:TE):TT:=fun σ H Q=>t σ H fun x H1=>∃ c,x = .bl c/\Q c H1
theorem zi9 {e:Expr} {t:TE} (h:PE X e t) (he:∀ whole,isTrue e X.env whole=(do let v <-whole;standAt e.pos;holding [v] (truthy v)):=by intro _;rfl):PT X e (tB t):=by
 intro pins s σ H Q I hw
 refine isTrue_plain (thn (h pins s σ H _ I hw) fun v s1 ⟨x,H1,I1,r1,q1⟩=>?_) (he _)
 obtain ⟨d,rfl,q⟩:=q1
 cases r1
 exact wpAny_truthy_bool ⟨H1,I1,q⟩
variable {tA tB':TT} {rest:List Expr}
noncomputable def tAnd (t u:TT):TT:=fun σ H Q=>t σ H fun c H1=>if c=true then u σ H1 Q else Q false H1
noncomputable def tOr (t u:TT):TT:=fun σ H Q=>t σ H fun c H1=>if c=true then Q true H1 else u σ H1 Q
noncomputable def tNot (t:TT):TT:=fun σ H Q=>t σ H fun c H1=>Q (!c) H1
theorem zE4 (ha:PT X a tA):PW X (.BoolOp .And [a] pos) tA:=by
 intro wh pins s σ H Q I h
 refine isTrue_and (thn (ha pins s σ H Q I h) fun c s1 e=>?_)
 cases c with
 | true=>exact isTrue_and_nil e
 | false=>exact e
theorem zr5 (ha:PT X a tA):PW X (.BoolOp .Or [a] pos) tA:=by
 intro wh pins s σ H Q I h
 refine isTrue_or (thn (ha pins s σ H Q I h) fun c s1 e=>?_)
 cases c with
 | false=>exact isTrue_or_nil e
 | true=>exact e
theorem zK6 (ha:PT X a tA) (hb:PW X (.BoolOp .And (b::rest) pos) tB'):PW X (.BoolOp .And (a::b::rest) pos) (tAnd tA tB'):=by
 intro wh pins s σ H Q I h
 refine isTrue_and (thn (ha pins s σ H _ I h) fun c s1 ⟨H1,I1,q1⟩=>?_)
 cases c with
 | true=>exact hb wh pins s1 σ H1 Q I1 q1
 | false=>exact⟨H1,I1,q1⟩
theorem zr0 (ha:PT X a tA) (hb:PW X (.BoolOp .Or (b::rest) pos) tB'):PW X (.BoolOp .Or (a::b::rest) pos) (tOr tA tB'):=by
 intro wh pins s σ H Q I h
 refine isTrue_or (thn (ha pins s σ H _ I h) fun c s1 ⟨H1,I1,q1⟩=>?_)
 cases c with
 | true=>exact⟨H1,I1,q1⟩
 | false=>exact hb wh pins s1 σ H1 Q I1 q1
theorem zz3 (ha:PT X a tA):PT X (.UnaryOp .Not a pos) (tNot tA):=by
 intro pins s σ H Q I h
 exact isTrue_not (ha pins s σ H (fun c H1=>Q (!c) H1) I h)
noncomputable def tAndV (ta tb:TE):TE:=fun σ H Q=>ta σ H fun x H1=>∃ c,x = .bl c/\if c=true then tb σ H1 Q else Q (.bl false) H1
noncomputable def tOrV (ta tb:TE):TE:=fun σ H Q=>ta σ H fun x H1=>∃ c,x = .bl c/\if c=true then Q (.bl true) H1 else tb σ H1 Q
noncomputable def tNotV (ta:TE):TE:=fun σ H Q=>ta σ H fun x H1=>∃ c,x = .bl c/\Q (.bl (!c)) H1
theorem zO3 {op} {t:TE} (h:PE X a t):PE X (.BoolOp op [a] pos) t:=fun pins s σ H Q I hw=>BoolOp_one (h pins s σ H Q I hw)
theorem pe_and (ha:PE X a ta) (hb:PE X (.BoolOp .And (b::rest) pos) tb):PE X (.BoolOp .And (a::b::rest) pos) (tAndV ta tb):=by
 intro pins s σ H Q I h
 refine BoolOp_and (thn (ha pins s σ H _ I h) fun v s1 ⟨x,H1,I1,r1,q1⟩=>?_)
 obtain ⟨c,rfl,q1⟩:=q1
 cases r1
 refine wpAny_truthy_bool ?_
 cases c with
 | true=>exact hb pins s1 σ H1 Q I1 q1
 | false=>exact⟨.bl false,H1,I1,rfl,q1⟩
theorem zV3 (ha:PE X a ta) (hb:PE X (.BoolOp .Or (b::rest) pos) tb):PE X (.BoolOp .Or (a::b::rest) pos) (tOrV ta tb):=by
 intro pins s σ H Q I h
 refine BoolOp_or (thn (ha pins s σ H _ I h) fun v s1 ⟨x,H1,I1,r1,q1⟩=>?_)
 obtain ⟨c,rfl,q1⟩:=q1
 cases r1
 refine wpAny_truthy_bool ?_
 cases c with
 | false=>exact hb pins s1 σ H1 Q I1 q1
 | true=>exact⟨.bl true,H1,I1,rfl,q1⟩
theorem pe_not (ha:PE X a ta):PE X (.UnaryOp .Not a pos) (tNotV ta):=by
 intro pins s σ H Q I h
 refine UnaryOp_ (thn (ha pins s σ H _ I h) fun v s1 ⟨x,H1,I1,r1,q1⟩=>?_)
 obtain ⟨c,rfl,q1⟩:=q1
 cases r1
 exact not_of (wpAny_truthy_bool ⟨.bl (!c),H1,I1,rfl,q1⟩)
noncomputable def tIf (t:TT) (ta tb:TE):TE:=fun σ H Q=>t σ H fun c H1=>if c=true then ta σ H1 Q else tb σ H1 Q
theorem zM0 {c:Expr} (hc:PT X c tA) (ha:PE X a ta) (hb:PE X b tb):PE X (.IfExp c a b pos) (tIf tA ta tb):=by
 intro pins s σ H Q I h
 refine wpAny_IfExp (thn (hc pins s σ H _ I h) fun d s1 ⟨H1,I1,q1⟩=>?_)
 cases d with
 | true=>exact ha pins s1 σ H1 Q I1 q1
 | false=>exact hb pins s1 σ H1 Q I1 q1
end
end L2
namespace L2
open PySem PySem.Spec PyProof.Rows
noncomputable def SqL (K:W.Frag) (H:Hp) (a:Addr) (xs:List V):Prop :=
 Rd H a (.lst xs) ∨
   ∃ (o:Obj) (its:Array Value) (n:Nat),K.lookup a=some o/\o.cls = .type "list"/\o.dict=none/\o.data = .seq its n/\its.size<=sizeLine/\Vals xs its.toList
noncomputable def SqT (K:W.Frag) (H:Hp) (a:Addr) (xs:List V):Prop :=
 Rd H a (.tup xs) ∨
   ∃ (o:Obj) (its:Array Value) (n:Nat),K.lookup a=some o/\o.cls = .type "tuple"/\o.data = .seq its n/\its.size<=sizeLine/\Vals xs its.toList
noncomputable def absV:Value->Option V
 | .none=>some .non
 | .bool b=>some (.bl b)
 | .int i _=>some (.int i)
 | .str x _=>some (.str x)
 | .bytes b _=>some (.byt b)
 | .float b _=>some (.flt b)
 | .ref a=>some (.ref a)
 | .type n=>some (.ty n)
 | _=>none
theorem RelV.abs {x:V} {u:Value} (r:RelV x u):absV u=some x:=by
 cases x with
 | non=>cases r;rfl
 | bl _=>cases r;rfl
 | int _=>obtain ⟨t,rfl⟩:=r;rfl
 | str _=>obtain ⟨t,rfl⟩:=r;rfl
 | byt _=>obtain ⟨t,rfl⟩:=r;rfl
 | flt _=>obtain ⟨t,rfl⟩:=r;rfl
 | ref _=>cases r;rfl
 | ty _=>cases r;rfl
theorem RelV.inj {x y:V} {u:Value} (r:RelV x u) (q:RelV y u):x=y:=Option.some.inj (r.abs.symm.trans q.abs)
theorem Vals.inj:∀ {xs ys:List V} {us:List Value},Vals xs us->Vals ys us->xs=ys
 | _,_,_,.nil,.nil=>rfl
 | _,_,_,.cons r t,.cons r' t'=>by rw[r.inj r',Vals.inj t t']
section
variable {X:Cx} {pins:List (Addr×Obj)} {σ:St} {H:Hp} {s:Shared} {a:Addr} {xs ys:List V}
theorem SqL.of {K:W.Frag} (h:H a=some (.lst xs)):SqL K H a xs:=.inl (.inl h)
theorem SqT.of {K:W.Frag} (h:H a=some (.tup xs)):SqT K H a xs:=.inl (.inl h)
theorem Inv.list (I:Inv X pins σ H s) (h:SqL X.K H a xs):∃ its:List Value,Vals xs its/\PlainL s.heap a its.toArray/\xs.length<=sizeLine:=by
 rcases h with h | ⟨o,its,n,hk,hc,hd,hs,hz,r⟩
 . obtain ⟨z,its,n,r,e⟩:=h.ok I.hok
   exact⟨its,r,⟨_,n,e,rfl,rfl,rfl⟩,z⟩
 . refine⟨its.toList,r,⟨o,n,I.kIn a o hk,hc,hd,by simpa using hs⟩,?_⟩
   have e:=r.length
   simp only[Array.length_toList] at e
   omega
theorem Inv.tuple (I:Inv X pins σ H s) (h:SqT X.K H a xs):∃ its:List Value,Vals xs its/\IsTup s.heap a its.toArray/\xs.length<=sizeLine:=by
 rcases h with h | ⟨o,its,n,hk,hc,hs,hz,r⟩
 . obtain ⟨z,its,r,p⟩:=h.ok I.hok
   exact⟨its,r,p.isTup,z⟩
 . refine⟨its.toList,r,⟨o,I.kIn a o hk,hc,n,by simpa using hs⟩,?_⟩
   have e:=r.length
   simp only[Array.length_toList] at e
   omega
theorem Inv.list_inj (I:Inv X pins σ H s) (h:SqL X.K H a xs) (h':SqL X.K H a ys):xs=ys:=by
 obtain ⟨its,r,⟨o,n,e,_,_,d⟩,_⟩:=I.list h
 obtain ⟨its',r',⟨o',n',e',_,_,d'⟩,_⟩:=I.list h'
 rw[e] at e';cases e'
 rw[d] at d'
 injection d' with d1 _
 have:its=its':=by simpa using congrArg Array.toList d1
 subst this
 exact r.inj r'
theorem Inv.tuple_inj (I:Inv X pins σ H s) (h:SqT X.K H a xs) (h':SqT X.K H a ys):xs=ys:=by
 obtain ⟨its,r,⟨o,e,_,n,d⟩,_⟩:=I.tuple h
 obtain ⟨its',r',⟨o',e',_,n',d'⟩,_⟩:=I.tuple h'
 rw[e] at e';cases e'
 rw[d] at d'
 injection d' with d1 _
 have:its=its':=by simpa using congrArg Array.toList d1
 subst this
 exact r.inj r'
end
noncomputable abbrev Cx.wish (X:Cx) (E:Value->Shared->Prop):Cx:={ X with xe:=E }
noncomputable abbrev Cx.nox (X:Cx):Cx:=X.wish fun _ _=>False
theorem Cx.Ok.wish {X:Cx} (ok:X.Ok) (E:Value->Shared->Prop):(X.wish E).Ok :=
 ⟨ok.mod,ok.kind,ok.glob,ok.blt,ok.above,ok.inj,ok.has,ok.cab,ok.hd,ok.frames,ok.stk,ok.exf,ok.bs,ok.bsz,ok.noex,ok.exfs,ok.funs,ok.frf⟩
theorem Cx.Ok.unwish {X:Cx} {E:Value->Shared->Prop} (ok:(X.wish E).Ok):X.Ok :=
 ⟨ok.mod,ok.kind,ok.glob,ok.blt,ok.above,ok.inj,ok.has,ok.cab,ok.hd,ok.frames,ok.stk,ok.exf,ok.bs,ok.bsz,ok.noex,ok.exfs,ok.funs,ok.frf⟩
section
variable {X:Cx} {pins:List (Addr×Obj)} {σ:St} {H:Hp} {s:Shared} {E:Value->Shared->Prop}
theorem Inv.wish (I:Inv X pins σ H s) (E:Value->Shared->Prop):Inv (X.wish E) pins σ H s:=⟨I.ok.wish E,I.os,I.bare,I.base,I.loc,I.cell,I.free,I.freeC,I.pin,I.hok,I.len⟩
theorem Inv.unwish (I:Inv (X.wish E) pins σ H s):Inv X pins σ H s:=⟨I.ok.unwish,I.os,I.bare,I.base,I.loc,I.cell,I.free,I.freeC,I.pin,I.hok,I.len⟩
theorem SP.unwish {D:Ends} {f:Flow} {s':Shared} (h:SP (X.wish E) pins D f s'):SP X pins D f s':=by
 cases f with
 | next=>obtain ⟨σ',H',I,q⟩:=h;exact⟨σ',H',I.unwish,q⟩
 | brk=>obtain ⟨σ',H',I,q⟩:=h;exact⟨σ',H',I.unwish,q⟩
 | cont=>obtain ⟨σ',H',I,q⟩:=h;exact⟨σ',H',I.unwish,q⟩
 | ret u=>obtain ⟨v,σ',H',I,r,q⟩:=h;exact⟨v,σ',H',I.unwish,r,q⟩
theorem PSs.nox {st:List Stmt} {t:TS} (h:PSs X.nox st t):PSs X st t:=fun pins s σ H D I hw =>
 wpAny_mono (h pins s σ H D (I.wish _) hw) (fun _ _ q=>q.unwish) fun _ _ z=>False.elim z
end
section
variable {X:Cx} {st:Stmt} {rest:List Stmt} {t u:TS} {e:Expr} {te:TE} {pos:Pos}
noncomputable def zV4:TS:=fun D σ H=>D.nx σ H
noncomputable def tSeq (t u:TS):TS:=fun D σ H=>t { D with nx:=u D } σ H
theorem zb6:PSs X [] zV4:=fun _ _ σ H _ I h=>wpAny_execs_nil ⟨σ,H,I,h⟩
theorem za1 (h1:PS X st t) (h2:PSs X rest u):PSs X (st::rest) (tSeq t u):=by
 intro pins s σ H D I h
 refine wpAny_execs_cons (thn (h1 pins s σ H { D with nx:=u D } I h) fun f s1 q=>?_)
 cases f with
 | next =>
   obtain ⟨σ',H',I',q⟩:=q
   exact h2 pins s1 σ' H' D I' q
 | ret v=>exact q
 | brk=>exact q
 | cont=>exact q
theorem za6 (h1:PS X st t):PSs X [st] t:=by
 intro pins s σ H D I h
 refine wpAny_execs_cons (thn (h1 pins s σ H D I h) fun f s1 q=>?_)
 cases f with
 | next=>exact wpAny_execs_nil q
 | ret v=>exact q
 | brk=>exact q
 | cont=>exact q
theorem Inv.quiet {pins:List (Addr×Obj)} {σ:St} {H:Hp} {s:Shared} (I:Inv X pins σ H s):interactive X.env=false:=by simp[interactive,I.ok.kind]
noncomputable def tDrop (te:TE):TS:=fun D σ H=>te σ H fun _ H1=>D.nx σ H1
theorem zg4 (he:PE X e te) (hs:swapsWith e none pos.line X.env=pure false:=by rfl):PS X (.Expr e pos) (tDrop te):=by
 intro pins s σ H D I h
 exact wpAny_Expr_any (thn (he pins s σ H _ I h) fun v s1 ⟨x,H1,I1,r1,q1⟩=>⟨σ,H1,I1,q1⟩) I.quiet hs
noncomputable def tRet (te:TE):TS:=fun D σ H=>te σ H D.rt
theorem zb9 (he:PE X e te):PS X (.Return (some e) pos) (tRet te):=by
 intro pins s σ H D I h
 exact wpAny_Return_some (thn (he pins s σ H _ I h) fun v s1 ⟨x,H1,I1,r1,q1⟩=>⟨x,σ,H1,I1,r1,q1⟩)
noncomputable def tIfS (c:TT) (t u:TS):TS:=fun D σ H=>c σ H fun b H1=>if b=true then t D σ H1 else u D σ H1
theorem zc8 {c:Expr} {a b:List Stmt} {tc:TT} (hc:PT X c tc) (ha:PSs X a t) (hb:PSs X b u):PS X (.If c a b pos) (tIfS tc t u):=by
 intro pins s σ H D I h
 refine wpAny_If (thn (hc pins s σ H _ I h) fun d s1 ⟨H1,I1,q1⟩=>?_)
 cases d with
 | true=>exact ha pins s1 σ H1 D I1 q1
 | false=>exact hb pins s1 σ H1 D I1 q1
noncomputable def tNever:TS:=fun _ _ _=>False
theorem zr7 {sts:List Stmt}:PSs X sts tNever:=fun _ _ _ _ _ _ h=>h.elim
end
noncomputable abbrev TG:=V->St->Hp->(St->Hp->Prop)->Prop
noncomputable abbrev TGs:=List V->St->Hp->(St->Hp->Prop)->Prop
noncomputable def PG (X:Cx) (target:Expr) (t:TG):Prop :=
 ∀ (pins:List (Addr×Obj)) (s:Shared) (σ:St) (H:Hp) (v:V) (u:Value) (Q:St->Hp->Prop),Inv X pins σ H s->RelV v u->t v σ H Q →
   wpAny (model X.prog X.w) X.A (assign target X.env u) (fun _ s'=>∃ σ' H',Inv X pins σ' H' s'/\Q σ' H') X.xe s
noncomputable def PGs (X:Cx) (ts:List Expr) (t:TGs):Prop :=
 ∀ (pins:List (Addr×Obj)) (s:Shared) (σ:St) (H:Hp) (vs:List V) (us:List Value) (Q:St->Hp->Prop),Inv X pins σ H s->Vals vs us->t vs σ H Q →
   wpAny (model X.prog X.w) X.A (assignInOrder ((assignEach ts X.env).map (·.2)) us) (fun _ s'=>∃ σ' H',Inv X pins σ' H' s'/\Q σ' H') X.xe s
noncomputable abbrev TSet:=V->V->V->Hp->(Hp->Prop)->Prop
noncomputable def PSet (X:Cx) (t:TSet):Prop :=
 ∀ (pins:List (Addr×Obj)) (s:Shared) (σ:St) (H:Hp) (o i v:V) (ov iv u:Value) (Q:Hp->Prop),Inv X pins σ H s->RelV o ov->RelV i iv->RelV v u->t o i v H Q →
   wpAny (model X.prog X.w) X.A (setItem ov iv u) (fun _ s'=>∃ H',Inv X pins σ H' s'/\Q H') X.xe s
section
variable {X:Cx} {pos:Pos}
noncomputable def zl1 (i:Nat):TG:=fun v σ H Q=>Q (σ.set i (some v)) H
theorem zd4 {i:Nat} {x:Str} (hN:X.N.Nodup) (hi:X.N[i]?=some x) (hx:Loc X.env.scope x) (hf:X.fn x=true\/X.env.scope.names.lookup x=some .local:=by first | exact .inl rfl | exact .inr rfl | assumption):PG X (.Name x pos) (zl1 i):=by
 intro pins s σ H v u Q I r h
 exact wpAny_assign_Name (zF3 I hN hi hx r (fun s' I'=>⟨_,H,I',h⟩) hf)
noncomputable def gNil:TGs:=fun vs σ H Q=>vs=[]/\Q σ H
noncomputable def zT1 (t:TG) (u:TGs):TGs:=fun vs σ H Q=>∃ v r,vs=v::r/\t v σ H fun σ' H'=>u r σ' H' Q
theorem zE5:PGs X [] gNil:=by
 intro pins s σ H vs us Q I r h
 obtain ⟨e,h⟩:=h
 subst e
 cases r
 exact assignInOrder_nil ⟨σ,H,I,h⟩
theorem zi1 {e:Expr} {es:List Expr} {t:TG} {u:TGs} (h1:PG X e t) (h2:PGs X es u)
   (hs:(assignEach (e::es) X.env).map (·.2)=assign e X.env::(assignEach es X.env).map (·.2):=by rfl):PGs X (e::es) (zT1 t u):=by
 intro pins s σ H vs us Q I r h
 obtain ⟨v,vr,e1,h⟩:=h
 subst e1
 cases r with
 | cons r rr =>
   rw[hs]
   refine assignInOrder_cons (thn (h1 pins s σ H _ _ _ I r h) fun _ s1 ⟨σ1,H1,I1,q1⟩=>?_)
   exact h2 pins s1 σ1 H1 _ _ Q I1 rr q1
noncomputable def gTup (K:W.Frag) (n:Nat) (t:TGs):TG:=fun v σ H Q=>∃ a xs,v = .ref a/\SqT K H a xs/\xs.length=n/\t xs σ H Q
theorem zT2 {es:List Expr} {k:Nat} {t:TGs} {n:Nat} (hc:X.calm=true) (h:PGs X es t)
   (hn:(assignEach es X.env).length=n:=by rfl) (hst:(assignEach es X.env).findIdx? (·.1)=none:=by rfl):PG X (.Tuple es k pos) (gTup X.K n t):=by
 intro pins s σ H v u Q I r hw
 obtain ⟨a,xs,e1,hq,hl,hw⟩:=hw
 subst e1
 cases r
 obtain ⟨its,rv,ht,hz⟩:=I.tuple hq
 refine assign_Tuple_tuple (I.ok.hd hc) ht (by simp[hn,<-hl,rv.length]) hst fun h' hx=>?_
 have I1:Inv X pins σ H { s with heap:=h' }:=I.kept (t':=s.toks) fun b o e=>hx b o (Nat.ne_of_lt (Heap.lt_size e)) e
 exact h pins _ σ H xs _ Q I1 (by simpa using rv) hw
noncomputable def gSub (to ti:TE) (t:TSet):TG:=fun v σ H Q=>to σ H fun o H1=>ti σ H1 fun i H2=>t o i v H2 fun H3=>Q σ H3
theorem zC2 {o i:Expr} {to ti:TE} {t:TSet} (ho:PE X o to) (hi:PE X i ti) (hs:PSet X t)
   (ha:∀ v,assign (.Subscript o i pos) X.env v=(do
     let ov <-holding [v] (eval o X.env)
     let iv <-holding [v,ov] (eval i X.env)
     standAt pos
     holding [v,ov,iv] (setItem ov iv v)
     release [v,ov,iv] []):=by intro _;rfl):PG X (.Subscript o i pos) (gSub to ti t):=by
 intro pins s σ H v u Q I r h
 rw[ha]
 refine wpAny_bind (wpAny_holding (thn (ho pins s σ H _ I h) fun ov s1 ⟨x,H1,I1,r1,q1⟩=>?_))
 refine wpAny_bind (wpAny_holding (thn (hi pins s1 σ H1 _ I1 q1) fun iv s2 ⟨y,H2,I2,r2,q2⟩=>?_))
 refine wpAny_bind (wpAny_standAt (wpAny_bind (wpAny_holding (thn (hs pins s2 σ H2 x y v ov iv u _ I2 r1 r2 r q2) fun _ s3 ⟨H3,I3,q3⟩=>?_))))
 exact wpAny_release ⟨σ,H3,I3,q3⟩
noncomputable def tAsg (te:TE) (g:TG):TS:=fun D σ H=>te σ H fun x H1=>g x σ H1 D.nx
theorem zz4 {tg e:Expr} {te:TE} {g:TG} (he:PE X e te) (hg:PG X tg g) (hs:swapsWithSole [tg] e pos.line X.env=pure false:=by rfl) (hw:swappedStores [tg] e X.env=pure none:=by rfl)
   (h1:(assignEach [tg] X.env).map (·.2)=[assign tg X.env]:=by rfl):PS X (.Assign [tg] e pos) (tAsg te g):=by
 intro pins s σ H D I h
 refine wpAny_Assign_stores (thn (he pins s σ H _ I h) fun v s1 ⟨x,H1,I1,r1,q1⟩=>?_) hs hw
 rw[h1]
 exact thn (hg pins s1 σ H1 x v _ I1 r1 q1) fun _ s2 q=>q
theorem zb5 {i:Nat} {x:Str} {e:Expr} {te:TE} {pos':Pos} (hN:X.N.Nodup) (hi:X.N[i]?=some x) (hx:Loc X.env.scope x) (he:PE X e te) (hs:swapsWith e (some (.Name x pos')) pos.line X.env=pure false:=by rfl) (hf:X.fn x=true\/X.env.scope.names.lookup x=some .local:=by first | exact .inl rfl | exact .inr rfl | assumption) :
   PS X (.Assign [.Name x pos'] e pos) (tAsg te (zl1 i)):=by
 intro pins s σ H D I h
 refine wpAny_Assign_Name (thn (he pins s σ H _ I h) fun v s1 ⟨y,H1,I1,r1,q1⟩=>?_) hs
 exact zF3 I1 hN hi hx r1 (fun s2 I2=>⟨_,H1,I2,q1⟩) hf
end
section
variable {X:Cx} {pos:Pos}
end
structure It where
 go:Nat->Hp->Prop
 yld:Nat->Hp->V->Hp->Prop
 stop:Nat->Hp->Prop
noncomputable def FpOk (X:Cx) (pins:List (Addr×Obj)) (H:Hp) (b:Addr):Prop :=
 H b=none/\b≠X.env.locals/\b∉X.fs/\(b∈X.ex\/X.s₀.heap.objs.size<=b)/\(∀ x c,X.env.cells.lookup x=some c->c≠b)/\∀ p∈X.pn++pins,p.1≠b
theorem Inv.fpOk {X:Cx} {pins:List (Addr×Obj)} {σ:St} {H H':Hp} {s:Shared} {b:Addr} (I:Inv X pins σ H s) (hb:s.heap.objs.size<=b) (hn:H' b=none):FpOk X pins H' b:=by
 refine⟨hn,Nat.ne_of_gt (Nat.lt_of_lt_of_le I.lt hb),I.nofs hb,.inr (Nat.le_trans I.sz hb),fun x c e z=>?_,fun p hp z=>?_⟩
 . obtain ⟨v,q⟩:=I.cell x c e
   exact absurd (Nat.lt_of_lt_of_le q.lt (by rw[z];exact hb)) (Nat.lt_irrefl _)
 . exact absurd (Nat.lt_of_lt_of_le (Heap.lt_size (I.pin p hp).1) (by rw[z];exact hb)) (Nat.lt_irrefl _)
structure Turn (P:Program) (w:World) (K:W.Frag) (tg:Expr) (J:It) (fp:List Addr) (it:Addr) (tn:Nat->Heap->Prop):Prop where
 mem:it∈fp
 obj:∀ i h,tn i h->∀ b∈fp,∃ o,h.get? b=some o/\∀ v,o.data≠.cell v
 keep:∀ i h h',tn i h->(∀ b∈fp,∀ o,h.get? b=some o->h'.get? b=some o)->tn i h'
 item:∀ (X:Cx),X.prog=P->X.w=w->X.K=K->X.calm=true->∀ (i:Nat) (pins:List (Addr×Obj)) (s:Shared) (σ:St) (H:Hp) (E:Value->Shared->Prop),Inv X pins σ H s->(∀ b∈fp,FpOk X pins H b)->tn i s.heap->J.go i H →
   wpAny (model P w) X.A (pyNext (.ref it)) (fun r s1=>∃ u,r=some u ∧
     wpAny (model P w) X.A (letOwnedTupleGo tg (.ref it) u) (fun _ s2=>∃ x H',Inv X pins σ H' s2/\RelV x u/\J.yld i H x H'/\tn (i+1) s2.heap/\∀ b∈fp,H' b=none) E s1) E s
 done:∀ (X:Cx),X.prog=P->X.w=w->X.K=K->X.calm=true->∀ (i:Nat) (pins:List (Addr×Obj)) (s:Shared) (σ:St) (H:Hp) (E:Value->Shared->Prop),Inv X pins σ H s->(∀ b∈fp,FpOk X pins H b)->tn i s.heap->J.stop i H →
   wpAny (model P w) X.A (pyNext (.ref it)) (fun r s1=>r=none/\Inv X pins σ H s1) E s
 self:∀ (A:Around) (i:Nat) (s:Shared) (Q:Value->Shared->Prop) (E:Value->Shared->Prop),tn i s.heap->Q (.ref it) s->wpAny (model P w) A (pyIter (.ref it)) Q E s
noncomputable abbrev TI:=St->Hp->(It->Hp->Prop)->Prop
noncomputable def PIE (X:Cx) (pins:List (Addr×Obj)) (σ:St) (tg:Expr) (R:It->Hp->Prop) (itv:Value) (s2:Shared):Prop :=
 ∃ (it:Addr) (fp:List Addr) (tn:Nat->Heap->Prop) (J:It) (H':Hp),itv = .ref it/\Inv X pins σ H' s2/\Turn X.prog X.w X.K tg J fp it tn/\tn 0 s2.heap/\(∀ b∈fp,FpOk X pins H' b)/\R J H'
noncomputable def PI (X:Cx) (tg iter:Expr) (wi:TI):Prop :=
 ∀ (pins:List (Addr×Obj)) (s:Shared) (σ:St) (H:Hp) (R:It->Hp->Prop),Inv X pins σ H s->wi σ H R →
   wpAny (model X.prog X.w) X.A (eval iter X.env) (fun v s1=>wpAny (model X.prog X.w) X.A (pyIter v) (PIE X pins σ tg R) X.xe s1) X.xe s
theorem zP0 {M:Model} {A:Around} {E:Value->Shared->Prop} {s:Shared} {tg:Expr} {it:Addr} {u:Value} {o:Obj} {n:String} {vs:Array Value} {Q:Unit->Shared->Prop} (ho:s.heap.get? it=some o) (hc:o.cls = .type n) (hd:o.data = .fields vs)
   (hn:["enumerate","zip","dict_itemiterator","dict_reverseitemiterator","odict_iterator","itertools.zip_longest","itertools.pairwise"].contains n=false) (hQ:Q () s):wpAny M A (letOwnedTupleGo tg (.ref it) u) Q E s:=by
 unfold letOwnedTupleGo
 cases tg<;>first
   | exact wpAny_pure hQ
   | (cases u<;>first
       | exact wpAny_pure hQ
       | (refine wpAny_bind (wpAny_load ho ?_)
          rw[hc,hd]
          show wpAny M A (if (["enumerate","zip","dict_itemiterator","dict_reverseitemiterator","odict_iterator","itertools.zip_longest","itertools.pairwise"].contains n && vs[0]? == some (rawInt _))=true then _ else _) Q E s
          rw[if_neg (by intro h;rw[hn,Bool.false_and] at h;cases h)]
          exact wpAny_pure hQ))
noncomputable def Itl (K:W.Frag) (a:Addr):It :=
 ⟨fun i H=>∃ xs x,SqL K H a xs/\xs[i]?=some x,fun i H x H'=>H'=H/\∀ xs,SqL K H a xs->xs[i]?=some x,fun i H=>∃ xs,SqL K H a xs/\xs.length<=i⟩
noncomputable def Itt (K:W.Frag) (a:Addr):It :=
 ⟨fun i H=>∃ xs x,SqT K H a xs/\xs[i]?=some x,fun i H x H'=>H'=H/\∀ xs,SqT K H a xs->xs[i]?=some x,fun i H=>∃ xs,SqT K H a xs/\xs.length<=i⟩
noncomputable def Itr (lo:Int) (n:Nat):It:=⟨fun i _=>i<n,fun i H x H'=>H'=H/\x = .int (lo+i),fun i _=>n<=i⟩
theorem zH1 {P:Program} {w:World} {K:W.Frag} {tg:Expr} (a it:Addr):Turn P w K tg (Itl K a) [it] it (fun i h=>h.IsListIter it a i) where
 mem:=by simp
 obj:=fun i h st b hb=>by
   have e:b=it:=by simpa using hb
   subst e
   obtain ⟨o,e,c,d⟩:=st
   exact⟨o,e,fun v z=>by rw[d] at z;cases z⟩
 keep:=fun i h h' st k=>st.at fun o e=>k it (by simp) o e
 item:=by
   intro X hP hw hK hc i pins s σ H E I hf st hg
   subst hP hw hK
   obtain ⟨xs,x,hq,hx⟩:=hg
   obtain ⟨its,rv,p,hz⟩:=I.list hq
   obtain ⟨u,hu,ru⟩:=rv.get hx
   obtain ⟨f0,f1,f2,f3,f4,f5⟩:=hf it (by simp)
   refine wpAny_pyNext_list_item st p.isList (x:=u) (by simpa using hu) fun h' st' sb=>?_
   have I1:Inv X pins σ H { s with heap:=h' }:=I.turned (t':=s.toks) (fun b o hb e=>(sb.2 b hb).trans e) f0 f1 f3 f4 f5
   obtain ⟨o,e,c,d⟩:=id st'
   exact⟨u,rfl,zP0 (s:={ s with heap:=h' }) e c d (by decide) ⟨x,H,I1,ru,⟨rfl,fun ys hy=>by rw[I.list_inj hy hq];exact hx⟩,st',fun b hb=>(hf b hb).1⟩⟩
 done:=by
   intro X hP hw hK hc i pins s σ H E I hf st hg
   subst hP hw hK
   obtain ⟨xs,hq,hx⟩:=hg
   obtain ⟨its,rv,p,hz⟩:=I.list hq
   obtain ⟨f0,f1,f2,f3,f4,f5⟩:=hf it (by simp)
   have hl:=rv.length
   exact wpAny_pyNext_list_end (I.ok.hd hc) st p.isList (by simp;omega) fun h' eb=>⟨rfl,I.turned (t':=s.toks) (fun b o hb e=>eb b o hb e) f0 f1 f3 f4 f5⟩
 self:=fun _ _ _ _ _ st h=>wpAny_pyIter_listiter st h
theorem zF5 {P:Program} {w:World} {K:W.Frag} {tg:Expr} (a it:Addr):Turn P w K tg (Itt K a) [it] it (fun i h=>h.IsTupleIter it a i) where
 mem:=by simp
 obj:=fun i h st b hb=>by
   have e:b=it:=by simpa using hb
   subst e
   obtain ⟨o,e,c,d⟩:=st
   exact⟨o,e,fun v z=>by rw[d] at z;cases z⟩
 keep:=fun i h h' st k=>st.at fun o e=>k it (by simp) o e
 item:=by
   intro X hP hw hK hc i pins s σ H E I hf st hg
   subst hP hw hK
   obtain ⟨xs,x,hq,hx⟩:=hg
   obtain ⟨its,rv,p,hz⟩:=I.tuple hq
   obtain ⟨u,hu,ru⟩:=rv.get hx
   obtain ⟨f0,f1,f2,f3,f4,f5⟩:=hf it (by simp)
   refine wpAny_pyNext_tuple_item st (show s.heap.IsTuple a its.toArray from p) (x:=u) (by simpa using hu) fun h' st' sb=>?_
   have I1:Inv X pins σ H { s with heap:=h' }:=I.turned (t':=s.toks) (fun b o hb e=>(sb.2 b hb).trans e) f0 f1 f3 f4 f5
   obtain ⟨o,e,c,d⟩:=id st'
   exact⟨u,rfl,zP0 (s:={ s with heap:=h' }) e c d (by decide) ⟨x,H,I1,ru,⟨rfl,fun ys hy=>by rw[I.tuple_inj hy hq];exact hx⟩,st',fun b hb=>(hf b hb).1⟩⟩
 done:=by
   intro X hP hw hK hc i pins s σ H E I hf st hg
   subst hP hw hK
   obtain ⟨xs,hq,hx⟩:=hg
   obtain ⟨its,rv,p,hz⟩:=I.tuple hq
   obtain ⟨f0,f1,f2,f3,f4,f5⟩:=hf it (by simp)
   have hl:=rv.length
   exact wpAny_pyNext_tuple_end (I.ok.hd hc) st (show s.heap.IsTuple a its.toArray from p) (by simp;omega) fun h' eb=>⟨rfl,I.turned (t':=s.toks) (fun b o hb e=>eb b o hb e) f0 f1 f3 f4 f5⟩
 self:=fun _ _ _ _ _ st h=>wpAny_pyIter_tupleiter st h
theorem turn_range {P:Program} {w:World} {K:W.Frag} {tg:Expr} (it:Addr) (lo:Int) (n:Nat):Turn P w K tg (Itr lo n) [it] it (fun i h=>IsRangeIter h it (lo+(i:Nat)*1) ((n:Int)-(i:Nat)) 1) where
 mem:=by simp
 obj:=fun i h st b hb=>by
   have e:b=it:=by simpa using hb
   subst e
   exact⟨_,st,fun v z=>by
     have z':Data.fields _=Data.cell v:=z
     cases z'⟩
 keep:=fun i h h' st k=>k it (by simp) _ st
 item:=by
   intro X hP hw hK hc i pins s σ H E I hf st hg
   subst hP hw hK
   obtain ⟨f0,f1,f2,f3,f4,f5⟩:=hf it (by simp)
   have W:=Walks.range (prog:=X.prog) (w:=X.w) (I.ok.hd hc) it lo 1 n
   refine W.item i s _ _ hg st fun v h' tk hv st' kk=>?_
   obtain ⟨t,rfl⟩:=hv
   have I1:Inv X pins σ H { s with heap:=h',toks:=tk }:=I.turned (fun b o hb e=>kk b o (by simpa using hb) e) f0 f1 f3 f4 f5
   refine⟨_,rfl,zP0 (s:={ s with heap:=h',toks:=tk }) (n:="range_iterator") st' rfl rfl (by decide) ⟨.int (lo+i),H,I1,⟨t,?_⟩,⟨rfl,rfl⟩,st',fun b hb=>(hf b hb).1⟩⟩
   rw[Int.mul_one]
 done:=by
   intro X hP hw hK hc i pins s σ H E I hf st hg
   subst hP hw hK
   obtain ⟨f0,f1,f2,f3,f4,f5⟩:=hf it (by simp)
   exact wpAny_pyNext_range_end (I.ok.hd hc) st (by have:n<=i:=hg;omega) fun h' eb=>⟨rfl,I.turned (t':=s.toks) (fun b o hb e=>eb b o hb e) f0 f1 f3 f4 f5⟩
 self:=fun _ _ _ _ _ st h=>wpAny_pyIter_rangeiter st h
end L2
namespace L2
open PySem PySem.Spec PyProof.Rows
section
variable {X:Cx} {tg:Expr}
noncomputable def iList (K:W.Frag) (tl:TE):TI:=fun σ H R=>tl σ H fun x H1=>∃ a,x = .ref a/\(∃ xs,SqL K H1 a xs)/\R (Itl K a) H1
noncomputable def iTup (K:W.Frag) (tl:TE):TI:=fun σ H R=>tl σ H fun x H1=>∃ a,x = .ref a/\(∃ xs,SqT K H1 a xs)/\R (Itt K a) H1
theorem zo3 {l:Expr} {tl:TE} (hl:PE X l tl):PI X tg l (iList X.K tl):=by
 intro pins s σ H R I h
 refine thn (hl pins s σ H _ I h) fun v s1 ⟨x,H1,I1,r1,q1⟩=>?_
 obtain ⟨a,e,⟨xs,hq⟩,q⟩:=q1
 subst e
 cases r1
 obtain ⟨its,rv,p,hz⟩:=I1.list hq
 refine wpAny_pyIter_list p.isList ?_
 refine⟨s1.heap.objs.size,[s1.heap.objs.size],_,_,H1,rfl,I1.kept (t':=s1.toks) fun b o e=>Heap.get?_push_of_some _ e,zH1 a _,⟨_,Heap.get?_push_size _ rfl,rfl,rfl⟩,fun b hb=>?_,q⟩
 have e:b=s1.heap.objs.size:=by simpa using hb
 subst e
 exact I1.fpOk (Nat.le_refl _) (I1.hok.fresh (Nat.le_refl _))
theorem pi_tup {l:Expr} {tl:TE} (hl:PE X l tl):PI X tg l (iTup X.K tl):=by
 intro pins s σ H R I h
 refine thn (hl pins s σ H _ I h) fun v s1 ⟨x,H1,I1,r1,q1⟩=>?_
 obtain ⟨a,e,⟨xs,hq⟩,q⟩:=q1
 subst e
 cases r1
 obtain ⟨its,rv,p,hz⟩:=I1.tuple hq
 refine wpAny_pyIter_tuple (show s1.heap.IsTuple a its.toArray from p) ?_
 refine⟨s1.heap.objs.size,[s1.heap.objs.size],_,_,H1,rfl,I1.kept (t':=s1.toks) fun b o e=>Heap.get?_push_of_some _ e,zF5 a _,⟨_,Heap.get?_push_size _ rfl,rfl,rfl⟩,fun b hb=>?_,q⟩
 have e:b=s1.heap.objs.size:=by simpa using hb
 subst e
 exact I1.fpOk (Nat.le_refl _) (I1.hok.fresh (Nat.le_refl _))
theorem range_it {pins:List (Addr×Obj)} {σ:St} {H:Hp} {s:Shared} {R:It->Hp->Prop} {E:Value->Shared->Prop} {lo hi:Int} {t u v:Tok} {tk:Nat} (I:Inv X pins σ H s) (h1:-(2 ^ 62)<=lo) (h2:lo<2 ^ 62) (h3:-(2 ^ 62)<=hi) (h4:hi<2 ^ 62)
   (q:R (Itr lo (hi-lo).toNat) H):wpAny (model X.prog X.w) X.A (pyIter (.ref s.heap.objs.size)) (PIE X pins σ tg R) E { s with heap:=s.heap.push { cls:=.type "range",data:=.fields #[.int lo t,.int hi u,.int 1 v] },toks:=tk }:=by
 refine wpAny_pyIter_range (IsRange.new ..) (small_one h1 h2 h3 h4) ?_
 have I1:Inv X pins σ H { s with heap:=s.heap.push { cls:=.type "range",data:=.fields #[.int lo t,.int hi u,.int 1 v] },toks:=tk }:=I.kept fun b o e=>Heap.get?_push_of_some _ e
 refine⟨(s.heap.push { cls:=.type "range",data:=.fields #[.int lo t,.int hi u,.int 1 v] }).objs.size,[(s.heap.push { cls:=.type "range",data:=.fields #[.int lo t,.int hi u,.int 1 v] }).objs.size],_,_,H,rfl,
   I1.kept (t':=tk) fun b o e=>Heap.get?_push_of_some _ e,turn_range _ lo (hi-lo).toNat,?_,fun b hb=>?_,q⟩
 . have e1:lo+((0:Nat):Int)*1=lo:=by simp
   have e2:(((hi-lo).toNat:Nat):Int)-((0:Nat):Int)=Builtin.Range.rangeSize lo hi 1:=by rw[rangeSize_one];split<;>omega
   show IsRangeIter _ _ (lo+((0:Nat):Int)*1) ((((hi-lo).toNat:Nat):Int)-((0:Nat):Int)) 1
   rw[e1,e2]
   exact Heap.get?_push_size _ rfl
 . have e:b=(s.heap.push { cls:=.type "range",data:=.fields #[.int lo t,.int hi u,.int 1 v] }).objs.size:=by simpa using hb
   subst e
   exact I1.fpOk (Nat.le_refl _) (I1.hok.fresh (Nat.le_refl _))
noncomputable def iRng1 (ta:TA):TI:=fun σ H R=>ta σ H fun vs H1=>∃ j:Int,vs=[.int j]/\-(2 ^ 62)<=j/\j<2 ^ 62/\R (Itr 0 j.toNat) H1
theorem zo8 {a:Expr} {ta:TA} {p pos:Pos} (hg:Gl X "range") (hm:X.mg "range" = none) (ha:PA X [a] ta) (hs:starEach [a] X.env=[(false,eval a X.env)]:=by rfl):PI X tg (.Call (.Name "range" p) [a] [] pos) (iRng1 ta):=by
 intro pins s σ H R I h
 refine Call_ (zF4 I hg hm boot_range (PyProof.Rows.callWith_type1 (thn (ha pos pins s σ H _ I h) fun us s1 ⟨vs,H1,I1,r1,q1⟩=>?_) hs rfl))
 obtain ⟨j,e,q1,q2,q⟩:=q1
 subst e
 cases r1 with
 | cons r rr =>
   cases rr
   obtain ⟨t,rfl⟩:=r
   exact call_range_1 (range_it I1 (by omega) (by omega) q1 q2 (by simpa using q))
noncomputable def tFor (wi:TI) (g:TG) (tb:TS):TS:=fun D σ H=>wi σ H fun J H1=>∃ W:Nat->Nat->St->Hp->Prop,(∃ m,W 0 m σ H1)/\∀ i m σ H,W i m σ H →
 (J.stop i H/\D.nx σ H)\/(J.go i H/\∃ N:St->Hp->Prop,(∀ σ' H',N σ' H'->∃ m',m'<m/\W (i+1) m' σ' H')/\∀ x H',J.yld i H x H'->g x σ H' fun σ2 H2=>tb { D with nx:=N,ct:=N,bk:=D.nx } σ2 H2)
noncomputable def zv0 (fp:List Addr) (h:Heap):List (Addr×Obj):=fp.filterMap fun b=>(h.get? b).map fun o=>(b,o)
theorem zl9 {fp:List Addr} {h:Heap} {b:Addr} {o:Obj} (hb:b∈fp) (e:h.get? b=some o):(b,o)∈zv0 fp h:=List.mem_filterMap.mpr ⟨b,hb,by rw[e];rfl⟩
theorem of_pinsAt {fp:List Addr} {h:Heap} {p:Addr×Obj} (hp:p∈zv0 fp h):p.1∈fp/\h.get? p.1=some p.2:=by
 obtain ⟨b,hb,e⟩:=List.mem_filterMap.mp hp
 cases q:h.get? b with
 | none=>rw[q] at e;cases e
 | some o =>
   rw[q] at e
   have e':(b,o)=p:=Option.some.inj e
   subst e'
   exact⟨hb,q⟩
theorem Inv.pinned {pins:List (Addr×Obj)} {σ:St} {H:Hp} {s:Shared} {fp:List Addr} (I:Inv X pins σ H s) (hf:∀ b∈fp,FpOk X pins H b) (ho:∀ b∈fp,∃ o,s.heap.get? b=some o/\∀ v,o.data≠.cell v):Inv X (pins++zv0 fp s.heap) σ H s :=
 I.pins_of fun p hp=>(List.mem_append.mp hp).elim (fun z=>I.pin p (List.mem_append_right _ z)) fun z=>by
   obtain ⟨hb,e⟩:=of_pinsAt z
   obtain ⟨f0,f1,f2,_⟩:=hf p.1 hb
   obtain ⟨o,e',d⟩:=ho p.1 hb
   rw[e] at e';cases e'
   exact⟨e,f0,f1,f2,d⟩
theorem Inv.unpinned {pins pl:List (Addr×Obj)} {σ:St} {H:Hp} {s:Shared} (I:Inv X (pins++pl) σ H s):Inv X pins σ H s:=I.pins_of fun p hp=>I.pin p (List.mem_append_right _ (List.mem_append_left _ hp))
theorem zn2 {iter:Expr} {body:List Stmt} {wi:TI} {g:TG} {tb:TS} {pos:Pos} (hp:PassesOwn (model X.prog X.w) X.A X.env X.xe) (hc:X.calm=true) (hi:PI X tg iter wi) (hg:PG X tg g) (hb:PSs X body tb)
   (hs:∀ x,foldedSetIterable iter X.env x=pure x:=by intro _;rfl):PS X (.For tg iter body [] pos) (tFor wi g tb):=by
 intro pins s σ H D I h
 refine wpAny_For (thn (hi pins s σ H _ I h) fun v s1 h1=>thn h1 fun itv s2 h2=>?_) hs
 obtain ⟨it,fp,tn,J,H2,e,I2,T,st2,f2,W,⟨m0,w0⟩,turn⟩:=h2
 subst e
 have stat:∀ {H':Hp},(∀ b∈fp,H' b=none)->∀ b∈fp,FpOk X pins H' b:=fun hn b hb=>⟨hn b hb,(f2 b hb).2⟩
 refine codeAny_forLoop_any (fun n s'=>∃ i σ' H',Inv X pins σ' H' s'/\tn i s'.heap/\(∀ b∈fp,H' b=none)/\W i n σ' H') ?_ m0 ⟨0,σ,H2,I2,st2,fun b hb=>(f2 b hb).1,w0⟩
 rintro n s3 ⟨i,σ3,H3,I3,st3,fr3,w3⟩
 rcases turn i n σ3 H3 w3 with ⟨stop,qn⟩ | ⟨go,N,hN,step⟩
 . refine wpAny_passesOwn hp (thn (T.done X rfl rfl rfl hc i pins s3 σ3 H3 X.xe I3 (stat fr3) st3 stop) fun r s4 ⟨hr,I4⟩=>?_)
   subst hr
   exact wpAny_execs_nil ⟨σ3,H3,I4,qn⟩
 . refine wpAny_passesOwn hp (thn (T.item X rfl rfl rfl hc i pins s3 σ3 H3 X.xe I3 (stat fr3) st3 go) fun r s4 ⟨u,hr,h4⟩=>?_)
   subst hr
   refine wpAny_passesOwn hp (thn h4 fun _ s5 ⟨x,H5,I5,r5,y5,st5,fr5⟩=>?_)
   have I5':=I5.pinned (stat fr5) (T.obj _ _ st5)
   refine wpAny_passesOwn hp (thn (hg _ s5 σ3 H5 x u _ I5' r5 (step x H5 y5)) fun _ s6 ⟨σ6,H6,I6,q6⟩=>?_)
   refine wpAny_passesOwn hp (thn (hb _ s6 σ6 H6 _ I6 q6) fun f s7 q7=>?_)
   have again:∀ {σ7:St} {H7:Hp},Inv X (pins++zv0 fp s5.heap) σ7 H7 s7->N σ7 H7->∃ m,m<n/\∃ i σ' H',Inv X pins σ' H' s7/\tn i s7.heap/\(∀ b∈fp,H' b=none)/\W i m σ' H':=fun {σ7 H7} I7 n7=>by
     obtain ⟨m',hm,w7⟩:=hN σ7 H7 n7
     refine⟨m',hm,i+1,σ7,H7,I7.unpinned,T.keep _ _ _ st5 fun b hb o e=>(I7.pin (b,o) (List.mem_append_right _ (List.mem_append_right _ (zl9 hb e)))).1,fun b hb=>?_,w7⟩
     obtain ⟨o,e,d⟩:=T.obj _ _ st5 b hb
     exact (I7.pin (b,o) (List.mem_append_right _ (List.mem_append_right _ (zl9 hb e)))).2.1
   cases f with
   | next=>obtain ⟨σ7,H7,I7,n7⟩:=q7;exact again I7 n7
   | cont=>obtain ⟨σ7,H7,I7,n7⟩:=q7;exact again I7 n7
   | brk=>obtain ⟨σ7,H7,I7,q7⟩:=q7;exact⟨σ7,H7,I7.unpinned,q7⟩
   | ret v=>obtain ⟨x7,σ7,H7,I7,r7,q7⟩:=q7;exact⟨x7,σ7,H7,I7.unpinned,r7,q7⟩
end
theorem zv1 {K:W.Frag} {a:Addr} {xs:List V} {g:TG} {tb:TS} {D:Ends} {σ:St} {H:Hp} (Pv:Nat->St->Hp->Prop) (h0:Pv 0 σ H) (hl:∀ i σ H,i<=xs.length->Pv i σ H->SqL K H a xs)
   (hs:∀ i x σ H,xs[i]?=some x->Pv i σ H->g x σ H fun σ2 H2=>tb { D with nx:=Pv (i+1),ct:=Pv (i+1),bk:=D.nx } σ2 H2) (hd:∀ σ H,Pv xs.length σ H->D.nx σ H) :
   ∃ W:Nat->Nat->St->Hp->Prop,(∃ m,W 0 m σ H)/\∀ i m σ H,W i m σ H →
     ((Itl K a).stop i H/\D.nx σ H)\/((Itl K a).go i H/\∃ N:St->Hp->Prop,(∀ σ' H',N σ' H'->∃ m',m'<m/\W (i+1) m' σ' H')/\∀ x H',(Itl K a).yld i H x H'->g x σ H' fun σ2 H2=>tb { D with nx:=N,ct:=N,bk:=D.nx } σ2 H2):=by
 refine⟨fun i m σ H=>m=xs.length-i/\i<=xs.length/\Pv i σ H,⟨xs.length,by simp,Nat.zero_le _,h0⟩,?_⟩
 rintro i m σ H ⟨rfl,hi,p⟩
 have q:=hl i σ H hi p
 by_cases hlt:i<xs.length
 . refine .inr ⟨⟨xs,xs[i],q,by simp[hlt]⟩,Pv (i+1),fun σ' H' p'=>⟨xs.length-(i+1),by omega,rfl,hlt,p'⟩,fun x H' y=>?_⟩
   obtain ⟨e,y⟩:=y
   subst e
   exact hs i x σ _ (y xs q) p
 . have e:i=xs.length:=by omega
   subst e
   exact .inl ⟨⟨xs,q,Nat.le_refl _⟩,hd σ H p⟩
theorem zP1 {K:W.Frag} {a:Addr} {xs:List V} {g:TG} {tb:TS} {D:Ends} {σ:St} {H:Hp} (Pv:Nat->St->Hp->Prop) (h0:Pv 0 σ H) (hl:∀ i σ H,i<=xs.length->Pv i σ H->SqT K H a xs)
   (hs:∀ i x σ H,xs[i]?=some x->Pv i σ H->g x σ H fun σ2 H2=>tb { D with nx:=Pv (i+1),ct:=Pv (i+1),bk:=D.nx } σ2 H2) (hd:∀ σ H,Pv xs.length σ H->D.nx σ H) :
   ∃ W:Nat->Nat->St->Hp->Prop,(∃ m,W 0 m σ H)/\∀ i m σ H,W i m σ H →
     ((Itt K a).stop i H/\D.nx σ H)\/((Itt K a).go i H/\∃ N:St->Hp->Prop,(∀ σ' H',N σ' H'->∃ m',m'<m/\W (i+1) m' σ' H')/\∀ x H',(Itt K a).yld i H x H'->g x σ H' fun σ2 H2=>tb { D with nx:=N,ct:=N,bk:=D.nx } σ2 H2):=by
 refine⟨fun i m σ H=>m=xs.length-i/\i<=xs.length/\Pv i σ H,⟨xs.length,by simp,Nat.zero_le _,h0⟩,?_⟩
 rintro i m σ H ⟨rfl,hi,p⟩
 have q:=hl i σ H hi p
 by_cases hlt:i<xs.length
 . refine .inr ⟨⟨xs,xs[i],q,by simp[hlt]⟩,Pv (i+1),fun σ' H' p'=>⟨xs.length-(i+1),by omega,rfl,hlt,p'⟩,fun x H' y=>?_⟩
   obtain ⟨e,y⟩:=y
   subst e
   exact hs i x σ _ (y xs q) p
 . have e:i=xs.length:=by omega
   subst e
   exact .inl ⟨⟨xs,q,Nat.le_refl _⟩,hd σ H p⟩
theorem zm0 {lo:Int} {n:Nat} {g:TG} {tb:TS} {D:Ends} {σ:St} {H:Hp} (Pv:Nat->St->Hp->Prop) (h0:Pv 0 σ H)
   (hs:∀ i σ H,i<n->Pv i σ H->g (.int (lo+i)) σ H fun σ2 H2=>tb { D with nx:=Pv (i+1),ct:=Pv (i+1),bk:=D.nx } σ2 H2) (hd:∀ σ H,Pv n σ H->D.nx σ H) :
   ∃ W:Nat->Nat->St->Hp->Prop,(∃ m,W 0 m σ H)/\∀ i m σ H,W i m σ H →
     ((Itr lo n).stop i H/\D.nx σ H)\/((Itr lo n).go i H/\∃ N:St->Hp->Prop,(∀ σ' H',N σ' H'->∃ m',m'<m/\W (i+1) m' σ' H')/\∀ x H',(Itr lo n).yld i H x H'->g x σ H' fun σ2 H2=>tb { D with nx:=N,ct:=N,bk:=D.nx } σ2 H2):=by
 refine⟨fun i m σ H=>m=n-i/\i<=n/\Pv i σ H,⟨n,by simp,Nat.zero_le _,h0⟩,?_⟩
 rintro i m σ H ⟨rfl,hi,p⟩
 by_cases hlt:i<n
 . refine .inr ⟨hlt,Pv (i+1),fun σ' H' p'=>⟨n-(i+1),by omega,rfl,hlt,p'⟩,fun x H' y=>?_⟩
   obtain ⟨e,y⟩:=y
   subst e y
   exact hs i σ _ hlt p
 . have e:i=n:=by omega
   subst e
   exact .inl ⟨Nat.le_refl _,hd σ H p⟩
end L2
namespace L2
open PySem PySem.Spec PyProof.Rows
noncomputable abbrev R2:=V->V->Hp->VK->Prop
noncomputable def OpR (X:Cx) (f:Value->Value->Sem Value) (r:R2):Prop :=
 ∀ (pins:List (Addr×Obj)) (s:Shared) (σ:St) (H:Hp) (x y:V) (v u:Value) (Q:VK),Inv X pins σ H s->RelV x v->RelV y u->r x y H Q →
   wpAny (model X.prog X.w) X.A (f v u) (EP X pins σ Q) X.xe s
noncomputable def UnR (X:Cx) (f:Value->Sem Value) (r:V->Hp->VK->Prop):Prop :=
 ∀ (pins:List (Addr×Obj)) (s:Shared) (σ:St) (H:Hp) (x:V) (v:Value) (Q:VK),Inv X pins σ H s->RelV x v->r x H Q →
   wpAny (model X.prog X.w) X.A (f v) (EP X pins σ Q) X.xe s
noncomputable def zl2 (X:Cx) (f:Value) (r:List V->Hp->VK->Prop):Prop :=
 ∀ (pins:List (Addr×Obj)) (s:Shared) (σ:St) (H:Hp) (xs:List V) (us:List Value) (Q:VK),Inv X pins σ H s->Vals xs us->r xs H Q →
   wpAny (model X.prog X.w) X.A (call f us) (EP X pins σ Q) X.xe s
noncomputable def tOp (r:R2) (ta tb:TE):TE:=fun σ H Q=>ta σ H fun x H1=>tb σ H1 fun y H2=>r x y H2 Q
noncomputable def tUn (r:V->Hp->VK->Prop) (ta:TE):TE:=fun σ H Q=>ta σ H fun x H1=>r x H1 Q
noncomputable def rI (C:Int->Int->Prop) (g:Int->Int->V):R2:=fun x y H Q=>∃ i j,x = .int i/\y = .int j/\C i j/\Q (g i j) H
noncomputable def rI0 (g:Int->Int->V):R2:=fun x y H Q=>∃ i j,x = .int i/\y = .int j/\Q (g i j) H
noncomputable def rU (g:Int->V):V->Hp->VK->Prop:=fun x H Q=>∃ i,x = .int i/\Q (g i) H
section
variable {X:Cx} {a b c:Expr} {ta tb tc:TE} {pos:Pos}
theorem binT (ha:PE X a ta) (hb:PE X b tb) {pins:List (Addr×Obj)} {s:Shared} {σ:St} {H:Hp} {R:V->V->Hp->Prop} (I:Inv X pins σ H s)
   (h:ta σ H fun x H1=>tb σ H1 fun y H2=>R x y H2) {Q:Value->Shared->Prop} {f:Value->Value->Sem Value}
   (hf:∀ v u s2 x y H2,Inv X pins σ H2 s2->RelV x v->RelV y u->R x y H2->wpAny (model X.prog X.w) X.A (f v u) Q X.xe s2) :
   wpAny (model X.prog X.w) X.A (eval a X.env) (fun v s₁=>wpAny (model X.prog X.w) X.A (eval b X.env) (fun u s₂=>wpAny (model X.prog X.w) X.A (f v u) Q X.xe s₂) X.xe s₁) X.xe s:=by
 refine thn (ha pins s σ H _ I h) fun v s1 ⟨x,H1,I1,r1,q1⟩=>?_
 refine thn (hb pins s1 σ H1 _ I1 q1) fun u s2 ⟨y,H2,I2,r2,q2⟩=>?_
 exact hf v u s2 x y H2 I2 r1 r2 q2
theorem zb2 {op:Operator} {r:R2} (ho:OpR X (binaryOp op) r) (ha:PE X a ta) (hb:PE X b tb):PE X (.BinOp a op b pos) (tOp r ta tb):=by
 intro pins s σ H Q I h
 exact wpAny_BinOp (binT ha hb I h fun v u s2 x y H2 I2 rx ry q=>ho pins s2 σ H2 x y v u Q I2 rx ry q)
theorem zM1 {op:UnaryOp} {r:V->Hp->VK->Prop} (ho:UnR X (unaryOp op) r) (ha:PE X a ta):PE X (.UnaryOp op a pos) (tUn r ta):=by
 intro pins s σ H Q I h
 exact UnaryOp_ (thn (ha pins s σ H _ I h) fun v s1 ⟨x,H1,I1,r1,q1⟩=>ho pins s1 σ H1 x v Q I1 r1 q1)
theorem opI {f:Value->Value->Sem Value} {C:Int->Int->Prop} {g:Int->Int->Int}
   (rule:∀ (i j:Int) (t u:Tok) (s:Shared) (Q:Value->Shared->Prop) (E:Value->Shared->Prop),C i j->Q (.int (g i j) s.toks) { s with toks:=s.toks+1 }->wpAny (model X.prog X.w) X.A (f (.int i t) (.int j u)) Q E s) :
   OpR X f (rI C fun i j=>.int (g i j)):=by
 intro pins s σ H x y v u Q I rx ry h
 obtain ⟨i,j,rfl,rfl,hc,q⟩:=h
 obtain ⟨t,rfl⟩:=rx
 obtain ⟨t',rfl⟩:=ry
 exact rule i j t t' s _ _ hc ⟨.int (g i j),H,I.tok _,⟨_,rfl⟩,q⟩
theorem opI0 {f:Value->Value->Sem Value} {g:Int->Int->Int}
   (rule:∀ (i j:Int) (t u:Tok) (s:Shared) (Q:Value->Shared->Prop) (E:Value->Shared->Prop),Q (.int (g i j) s.toks) { s with toks:=s.toks+1 }->wpAny (model X.prog X.w) X.A (f (.int i t) (.int j u)) Q E s) :
   OpR X f (rI0 fun i j=>.int (g i j)):=by
 intro pins s σ H x y v u Q I rx ry h
 obtain ⟨i,j,rfl,rfl,q⟩:=h
 obtain ⟨t,rfl⟩:=rx
 obtain ⟨t',rfl⟩:=ry
 exact rule i j t t' s _ _ ⟨.int (g i j),H,I.tok _,⟨_,rfl⟩,q⟩
theorem opB0 {f:Value->Value->Sem Value} {g:Int->Int->Bool}
   (rule:∀ (i j:Int) (t u:Tok) (s:Shared) (Q:Value->Shared->Prop) (E:Value->Shared->Prop),Q (.bool (g i j)) s->wpAny (model X.prog X.w) X.A (f (.int i t) (.int j u)) Q E s) :
   OpR X f (rI0 fun i j=>.bl (g i j)):=by
 intro pins s σ H x y v u Q I rx ry h
 obtain ⟨i,j,rfl,rfl,q⟩:=h
 obtain ⟨t,rfl⟩:=rx
 obtain ⟨t',rfl⟩:=ry
 exact rule i j t t' s _ _ ⟨.bl (g i j),H,I,rfl,q⟩
noncomputable def CDiv (i j:Int):Prop:=0<j/\j<1073741824
noncomputable def CMul (i j:Int):Prop:=(-(2 ^ 64)<i/\i<2 ^ 64)\/(-(2 ^ 64)<j/\j<2 ^ 64)
theorem CMul.ok {i j:Int} (h:CMul i j):IntMulOk i j:=by
 rcases h with ⟨h1,h2⟩ | ⟨h1,h2⟩
 . exact .of_left (intBits_le_64 h1 h2)
 . exact .of_right (intBits_le_64 h1 h2)
theorem zi7:OpR X (binaryOp .Add) (rI0 fun i j=>.int (i+j)):=opI0 fun _ _ _ _ _ _ _ q=>add_int q
theorem zz5:OpR X (binaryOp .Sub) (rI0 fun i j=>.int (i-j)):=opI0 fun _ _ _ _ _ _ _ q=>sub_int q
theorem zv2:OpR X (binaryOp .Mult) (rI CMul fun i j=>.int (i*j)):=opI fun _ _ _ _ _ _ _ hc q=>mul_int q hc.ok
theorem zg5:OpR X (binaryOp .FloorDiv) (rI CDiv fun i j=>.int (i / j)):=opI fun i j _ _ _ _ _ hc q=>by
 have h1:(0:Int)<j:=hc.1
 have h2:j<1073741824:=hc.2
 exact floordiv_int (by omega) (by rw[Int.fdiv_eq_ediv_of_nonneg i (by omega)];exact q) (.inl (PyProof.noPylong_small (by omega)))
theorem ze1:OpR X (binaryOp .Mod) (rI (fun _ j=>0<j) fun i j=>.int (i % j)):=opI fun i j _ _ _ _ _ hc q=>by
 have h1:(0:Int)<j:=hc
 exact mod_int' (by omega) (by rw[Int.fmod_eq_emod_of_nonneg i (by omega)];exact q)
theorem unI {f:Value->Sem Value} {g:Int->Int}
   (rule:∀ (i:Int) (t:Tok) (s:Shared) (Q:Value->Shared->Prop) (E:Value->Shared->Prop),Q (.int (g i) s.toks) { s with toks:=s.toks+1 }->wpAny (model X.prog X.w) X.A (f (.int i t)) Q E s) :
   UnR X f (rU fun i=>.int (g i)):=by
 intro pins s σ H x v Q I rx h
 obtain ⟨i,rfl,q⟩:=h
 obtain ⟨t,rfl⟩:=rx
 exact rule i t s _ _ ⟨.int (g i),H,I.tok _,⟨_,rfl⟩,q⟩
theorem zF6:UnR X (unaryOp .USub) (rU fun i=>.int (-i)):=unI fun _ _ _ _ _ q=>neg_int q
end
noncomputable def scal:V->V->Bool
 | .non,.non=>true | .non,.int _=>true | .int _,.non=>true | .non,.bl _=>true | .bl _,.non=>true | .non,.str _=>true | .str _,.non=>true
 | .int _,.int _=>true | .bl _,.bl _=>true | .str _,.str _=>true | .byt _,.byt _=>true
 | .int _,.str _=>true | .str _,.int _=>true | .bl _,.str _=>true | .str _,.bl _=>true
 | _,_=>false
noncomputable def rEq:R2:=fun x y H Q=>scal x y=true/\Q (.bl (decide (x=y))) H
noncomputable def rNe:R2:=fun x y H Q=>scal x y=true/\Q (.bl (!decide (x=y))) H
theorem zP2 {i j:Int}:decide (V.int i=V.int j)=(i == j):=by
 rw[Bool.eq_iff_iff]
 simp
theorem zT3 {i j:Bool}:decide (V.bl i=V.bl j)=(i == j):=by
 rw[Bool.eq_iff_iff]
 simp
theorem zP3 {i j:Str}:decide (V.str i=V.str j)=(i == j):=by
 rw[Bool.eq_iff_iff]
 simp
theorem zP4 {i j:Array UInt8}:decide (V.byt i=V.byt j)=(i.toList == j.toList):=by
 rw[Bool.eq_iff_iff]
 cases i
 cases j
 simp
section
variable {X:Cx} {a b c:Expr} {ta tb tc:TE} {pos:Pos}
theorem ze0 {pins:List (Addr×Obj)} {σ:St} {H:Hp} {s:Shared} {Q:VK} {k k':Bool} (I:Inv X pins σ H s) (q:Q (.bl k) H) (e:k=k'):EP X pins σ Q (.bool k') s:=by
 subst e
 exact⟨.bl k,H,I,rfl,q⟩
theorem zf0:OpR X (compareOp .Eq) rEq:=by
 intro pins s σ H x y v u Q I rx ry h
 obtain ⟨hs,q⟩:=h
 cases x with
 | non =>
   cases rx
   cases y with
   | non=>cases ry;exact PySem.EqNone.eq_none_none (ze0 I q (by simp))
   | bl j=>cases ry;exact PySem.EqNone.eq_none_bool (ze0 I q (by simp))
   | int j=>obtain ⟨t',rfl⟩:=ry;exact PySem.EqNone.eq_none_int (ze0 I q (by simp))
   | str j=>obtain ⟨t',rfl⟩:=ry;exact PySem.EqNone.eq_none_str (ze0 I q (by simp))
   | _=>exact absurd (show false=true from hs) Bool.false_ne_true
 | bl i =>
   cases rx
   cases y with
   | non=>cases ry;exact PySem.EqNone.eq_bool_none (ze0 I q (by simp))
   | bl j=>cases ry;exact eq_bool (ze0 I q zT3)
   | str j=>obtain ⟨t',rfl⟩:=ry;exact PySem.EqMixed.eq_bool_str (ze0 I q (by simp))
   | _=>exact absurd (show false=true from hs) Bool.false_ne_true
 | int i =>
   obtain ⟨t,rfl⟩:=rx
   cases y with
   | non=>cases ry;exact PySem.EqNone.eq_int_none (ze0 I q (by simp))
   | int j=>obtain ⟨t',rfl⟩:=ry;exact eq_int (ze0 I q zP2)
   | str j=>obtain ⟨t',rfl⟩:=ry;exact PySem.EqMixed.eq_int_str (ze0 I q (by simp))
   | _=>exact absurd (show false=true from hs) Bool.false_ne_true
 | str i =>
   obtain ⟨t,rfl⟩:=rx
   cases y with
   | non=>cases ry;exact PySem.EqNone.eq_str_none (ze0 I q (by simp))
   | bl j=>cases ry;exact PySem.EqMixed.eq_str_bool (ze0 I q (by simp))
   | int j=>obtain ⟨t',rfl⟩:=ry;exact PySem.EqMixed.eq_str_int (ze0 I q (by simp))
   | str j=>obtain ⟨t',rfl⟩:=ry;exact eq_str (ze0 I q zP3)
   | _=>exact absurd (show false=true from hs) Bool.false_ne_true
 | byt i =>
   obtain ⟨t,rfl⟩:=rx
   cases y with
   | byt j=>obtain ⟨t',rfl⟩:=ry;exact W.eq_bytes (ze0 I q zP4)
   | _=>exact absurd (show false=true from hs) Bool.false_ne_true
 | _=>cases y<;>exact absurd (show false=true from hs) Bool.false_ne_true
theorem zr1:OpR X (compareOp .NotEq) rNe:=by
 intro pins s σ H x y v u Q I rx ry h
 obtain ⟨hs,q⟩:=h
 cases x with
 | non =>
   cases rx
   cases y with
   | non=>cases ry;exact PySem.EqNone.ne_none_none (ze0 I q (by simp))
   | bl j=>cases ry;exact PySem.EqNone.ne_none_bool (ze0 I q (by simp))
   | int j=>obtain ⟨t',rfl⟩:=ry;exact PySem.EqNone.ne_none_int (ze0 I q (by simp))
   | str j=>obtain ⟨t',rfl⟩:=ry;exact PySem.EqNone.ne_none_str (ze0 I q (by simp))
   | _=>exact absurd (show false=true from hs) Bool.false_ne_true
 | bl i =>
   cases rx
   cases y with
   | non=>cases ry;exact PySem.EqNone.ne_bool_none (ze0 I q (by simp))
   | bl j=>cases ry;exact ne_bool (ze0 I q (congrArg not zT3))
   | str j=>obtain ⟨t',rfl⟩:=ry;exact PySem.EqMixed.ne_bool_str (ze0 I q (by simp))
   | _=>exact absurd (show false=true from hs) Bool.false_ne_true
 | int i =>
   obtain ⟨t,rfl⟩:=rx
   cases y with
   | non=>cases ry;exact PySem.EqNone.ne_int_none (ze0 I q (by simp))
   | int j=>obtain ⟨t',rfl⟩:=ry;exact ne_int (ze0 I q (congrArg not zP2))
   | str j=>obtain ⟨t',rfl⟩:=ry;exact PySem.EqMixed.ne_int_str (ze0 I q (by simp))
   | _=>exact absurd (show false=true from hs) Bool.false_ne_true
 | str i =>
   obtain ⟨t,rfl⟩:=rx
   cases y with
   | non=>cases ry;exact PySem.EqNone.ne_str_none (ze0 I q (by simp))
   | bl j=>cases ry;exact PySem.EqMixed.ne_str_bool (ze0 I q (by simp))
   | int j=>obtain ⟨t',rfl⟩:=ry;exact PySem.EqMixed.ne_str_int (ze0 I q (by simp))
   | str j=>obtain ⟨t',rfl⟩:=ry;exact ne_str (ze0 I q (congrArg not zP3))
   | _=>exact absurd (show false=true from hs) Bool.false_ne_true
 | byt i =>
   obtain ⟨t,rfl⟩:=rx
   cases y with
   | byt j=>obtain ⟨t',rfl⟩:=ry;exact W.ne_bytes (ze0 I q (congrArg not zP4))
   | _=>exact absurd (show false=true from hs) Bool.false_ne_true
 | _=>cases y<;>exact absurd (show false=true from hs) Bool.false_ne_true
theorem zy5:OpR X (compareOp .Lt) (rI0 fun i j=>.bl (decide (i<j))):=opB0 fun _ _ _ _ _ _ _ q=>lt_int q
theorem op_le:OpR X (compareOp .LtE) (rI0 fun i j=>.bl (decide (i<=j))):=opB0 fun _ _ _ _ _ _ _ q=>le_int q
theorem zl7:OpR X (compareOp .Gt) (rI0 fun i j=>.bl (decide (j<i))):=opB0 fun _ _ _ _ _ _ _ q=>gt_int q
theorem zV5:OpR X (compareOp .GtE) (rI0 fun i j=>.bl (decide (j<=i))):=opB0 fun _ _ _ _ _ _ _ q=>ge_int q
theorem op_in_str:OpR X (compareOp .In) (fun x y H Q=>∃ i j,x = .str i/\y = .str j/\Q (.bl (!(Builtin.Str.occurrences j i 0 j.length 1).isEmpty)) H):=by
 intro pins s σ H x y v u Q I rx ry h
 obtain ⟨i,j,rfl,rfl,q⟩:=h
 obtain ⟨t,rfl⟩:=rx
 obtain ⟨t',rfl⟩:=ry
 exact in_str (ze0 I q rfl)
theorem op_isN:OpR X (compareOp .Is) (fun x y H Q=>y = .non/\Q (.bl (decide (x = .non))) H):=by
 intro pins s σ H x y v u Q I rx ry h
 obtain ⟨rfl,q⟩:=h
 cases ry
 refine is_none_gen (ze0 I q ?_)
 cases x<;>first
   | (cases rx;rfl)
   | (obtain ⟨t,rfl⟩:=rx;rfl)
theorem zb4 (b:Expr) {op:CmpOp} (h:op≠.In:=by decide) (h2:op≠.NotIn:=by decide):behindInMarks op b=false:=by
 have e1:(op == CmpOp.In)=false:=by cases op<;>first | rfl | exact absurd rfl h
 have e2:(op == CmpOp.NotIn)=false:=by cases op<;>first | rfl | exact absurd rfl h2
 cases b<;>simp[behindInMarks,e1,e2]
theorem zg6 {op:CmpOp} {r:R2} (ho:OpR X (compareOp op) r) (ha:PE X a ta) (hb:PE X b tb) (hm:behindInMarks op b=false):PE X (.Compare a [op] [b] pos) (tOp r ta tb):=by
 intro pins s σ H Q I h
 exact wpAny_Compare1 (binT ha hb I h fun v u s2 x y H2 I2 rx ry q=>ho pins s2 σ H2 x y v u Q I2 rx ry q) hm
noncomputable def zV6 (t:TE):TT:=fun σ H Q=>t σ H fun x H'=>∃ k,x = .bl k/\Q k H'
theorem zb3 {op:CmpOp} {r:R2} (ho:OpR X (compareOp op) r) (ha:PE X a ta) (hb:PE X b tb) (hm:behindInMarks op b=false):PT X (.Compare a [op] [b] pos) (zV6 (tOp r ta tb)):=by
 intro pins s σ H Q I h
 refine wpAny_isTrue_Compare1 (thn (ha pins s σ H _ I h) fun v s1 ⟨x,H1,I1,r1,q1⟩=>thn (hb pins s1 σ H1 _ I1 q1) fun u s2 ⟨y,H2,I2,r2,q2⟩ =>
   thn (ho pins s2 σ H2 x y v u _ I2 r1 r2 q2) fun c s3 ⟨z,H3,I3,r3,k,e,q3⟩=>?_) hm
 subst e
 cases r3
 exact wpAny_truthy_bool ⟨H3,I3,q3⟩
theorem zC3:(sizeLine:Nat)<2 ^ 63:=by rw[sizeLine_eq];decide
theorem zc5:OpR X (binaryOp .Add) (fun x y H Q=>∃ i j,x = .str i/\y = .str j/\i.length+j.length<=sizeLine/\Q (.str (i++j)) H):=by
 intro pins s σ H x y v u Q I rx ry h
 obtain ⟨i,j,rfl,rfl,hz,q⟩:=h
 obtain ⟨t,rfl⟩:=rx
 obtain ⟨t',rfl⟩:=ry
 exact add_str (fun t' tk=>⟨.str (i++j),H,I.tok _,⟨_,rfl⟩,q⟩) hz
theorem zr8 {x:V} {us:List Value} (r:Vals [x] us):∃ u,us=[u]/\RelV x u:=by
 cases r with
 | cons r1 r2=>cases r2;exact⟨_,rfl,r1⟩
theorem zP5 {x y:V} {us:List Value} (r:Vals [x,y] us):∃ u w',us=[u,w']/\RelV x u/\RelV y w':=by
 cases r with
 | cons r1 r2 =>
   cases r2 with
   | cons r3 r4=>cases r4;exact⟨_,_,rfl,r1,r3⟩
theorem zF7:zl2 X (.builtin "abs") (fun xs H Q=>∃ i,xs=[.int i]/\Q (.int (if i<0 then -i else i)) H):=by
 intro pins s σ H xs us Q I r h
 obtain ⟨i,rfl,q⟩:=h
 obtain ⟨u,rfl,t,rfl⟩:=zr8 r
 exact call_abs_int fun u tk=>⟨.int (if i<0 then -i else i),H,I.tok _,⟨_,rfl⟩,q⟩
theorem call_max2 (hc:X.calm=true):zl2 X (.builtin "max") (fun xs H Q=>∃ i j,xs=[.int i,.int j]/\Q (.int (if j>i then j else i)) H):=by
 intro pins s σ H xs us Q I r h
 obtain ⟨i,j,rfl,q⟩:=h
 obtain ⟨u,w',rfl,⟨t,rfl⟩,⟨t',rfl⟩⟩:=zP5 r
 refine max_two_ints (I.ok.hd hc) fun h' tk k=>⟨_,H,I.kept k,?_,q⟩
 by_cases hj:j>i
 . rw[if_pos hj,if_pos hj];exact⟨_,rfl⟩
 . rw[if_neg hj,if_neg hj];exact⟨_,rfl⟩
theorem zH2 (hc:X.calm=true):zl2 X (.builtin "min") (fun xs H Q=>∃ i j,xs=[.int i,.int j]/\Q (.int (if j<i then j else i)) H):=by
 intro pins s σ H xs us Q I r h
 obtain ⟨i,j,rfl,q⟩:=h
 obtain ⟨u,w',rfl,⟨t,rfl⟩,⟨t',rfl⟩⟩:=zP5 r
 refine min_two_ints (I.ok.hd hc) fun h' tk k=>⟨_,H,I.kept k,?_,q⟩
 by_cases hj:j<i
 . rw[if_pos hj,if_pos hj];exact⟨_,rfl⟩
 . rw[if_neg hj,if_neg hj];exact⟨_,rfl⟩
theorem zH3:zl2 X (.type "int") (fun xs H Q=>(∃ i,xs=[.int i]/\Q (.int i) H)\/∃ k,xs=[.bl k]/\Q (.int (if k then 1 else 0)) H):=by
 intro pins s σ H xs us Q I r h
 rcases h with ⟨i,rfl,q⟩ | ⟨k,rfl,q⟩
 . obtain ⟨u,rfl,t,rfl⟩:=zr8 r
   exact call_int_int ⟨.int i,H,I,⟨_,rfl⟩,q⟩
 . obtain ⟨u,rfl,r1⟩:=zr8 r
   cases r1
   exact call_int_bool ⟨.int (if k then 1 else 0),H,I.tok _,⟨_,rfl⟩,q⟩
theorem zf7:zl2 X (.type "str") (fun xs H Q=>∃ i,xs=[.int i]/\i.natAbs.log2<1920/\Q (.str (toString i)) H):=by
 intro pins s σ H xs us Q I r h
 obtain ⟨i,rfl,hz,q⟩:=h
 obtain ⟨u,rfl,t,rfl⟩:=zr8 r
 exact PySem.P.str_of_int hz ⟨.str _,H,I.tok _,⟨_,rfl⟩,q⟩
end
end L2
namespace L2
open PySem PySem.Spec PyProof.Rows
structure ObjM (h:Heap) (x dx C:Addr) (mA:Str->Option Value):Prop where
 obj:h.get? x=some (W.instObj C dx)
 ns:h.Ns1 dx mA
 ne:dx≠x
theorem zH4 {h:Heap} {dx:Addr} {mA:Str->Option Value} (n:h.Ns1 dx mA):∃ od,h.get? dx=some od/\∀ name,W.lookIn name od=some (mA name):=by
 obtain ⟨o,es,ep,ho,hd,hk,_,hm⟩:=n
 refine⟨o,ho,fun name=>?_⟩
 have e:=hm name
 unfold nsFind findBy at e
 rw[<-Array.find?_toList] at e
 unfold W.lookIn
 rw[hd]
 dsimp only
 split
 . rename_i y q
   rw[q] at e
   exact congrArg some e
 . rename_i q
   rw[q] at e
   have a:es.toList.any (·.refKey)=false:=by
     rw[List.any_eq_false]
     intro y hy
     obtain ⟨z,t,hkey⟩:=hk y (Array.mem_toList_iff.mp hy)
     simp[DictEntry.refKey,hkey]
   have a':¬ es.toList.any (·.refKey)=true:=by rw[a];exact Bool.false_ne_true
   rw[if_neg a']
   exact congrArg some e
theorem ObjM.look {h:Heap} {x dx C:Addr} {mA:Str->Option Value} (I:ObjM h x dx C mA):∃ od,W.InstAt h x (W.instObj C dx) C (some od)/\∀ name,W.lookIn name od=some (mA name) :=
 let ⟨od,ho,hl⟩:=zH4 I.ns
 ⟨od,⟨I.obj,rfl,rfl,ho⟩,hl⟩
section
variable {prog:Program} {w:World} {A:Around} {E:Value->Shared->Prop} {s:Shared} {K:W.Frag} {x dx C f:Addr} {mA:Str->Option Value} {name:Str} {v:Value}
theorem get_map {expr:Bool} {Q:Value->Shared->Prop} (X:K.In s.heap) (I:ObjM s.heap x dx C mA) (hg:W.plainGet K C name=true) (hh:W.hasDictIn K C=true)
   (ha:W.findIn K (.ref C) name=some none) (hv:mA name=some v) (hv':W.handedIn v=true) (h:Q v { s with toks:=s.toks+1 }) :
   wpAny (model prog w) A (getAttr (.ref x) name expr) Q E s:=by
 obtain ⟨od,J,hl⟩:=I.look
 exact W.get_value X J (W.plainGet_of hg).1 (W.findObj_own hh ha rfl (by rw[hl,hv])) hv' h
theorem get_meth {pl:Sem Bool} {Q:Value×List Value->Shared->Prop} (X:K.In s.heap) (I:ObjM s.heap x dx C mA) (hg:W.plainGet K C name=true)
   (hf:W.findIn K (.ref C) name=some (some (.ref f))) (ht:W.isFn K (.ref f)=true) (hv:mA name=none) (h:Q (.ref f,[.ref x]) s) :
   wpAny (model prog w) A (getMethod (.ref x) name pl) Q E s:=by
 obtain ⟨od,J,hl⟩:=I.look
 exact W.method_fn X J (W.plainGet_of hg).1 (W.plainGet_of hg).2 hf (beq_iff_eq.mp ht) (by show (W.lookIn name od).map (·.isSome)=some false;rw[hl,hv];rfl) h
theorem set_map {ns:List Str} {Q:Unit->Shared->Prop} (X:K.In s.heap) (I:ObjM s.heap x dx C mA)
   (hs:W.findIn K (.ref C) "__setattr__" = some (some (.builtin "object.__setattr__"))) (hp:W.plainOver K C=true) (ht:W.takerIn K C name=some none) (hh:W.hasDictIn K C=true)
   (hw:PySem.Within mA ns) (hsz:ns.length<=sizeLine)
   (h:∀ h',ObjM h' x dx C (fun y=>if y=name then some v else mA y)->Heap.SameBut dx s.heap h'->Q () { s with heap:=h',toks:=s.toks+2 }) :
   wpAny (model prog w) A (setAttr (.ref x) name v) Q E s:=by
 obtain ⟨od,J,hl⟩:=I.look
 refine W.set_plain X J hs (W.osa_open (s:={ s with toks:=s.toks+1 }) (r:=none) X J hp ht fun b=>?_)
 obtain ⟨cd,hc,hd'⟩:=W.any_some hh
 have hx:s.heap.get? x=some ⟨.ref C,some dx,.plain,#[]⟩:=I.obj
 refine wpAny_bind (wpAny_pure (wpAny_bind (wpAny_bind (wpAny_loadPart hx (wpAny_bind (W.Looks.here (s:={ s with toks:=s.toks+1 }) (W.looks_clsIn X hc) ?_))))))
 rw[hd']
 refine wpAny_pure (a:=some dx) (wpAny_bind (wpAny_pure (wpAny_bind ?_)))
 refine wpAny_nsSet1 (s:={ s with toks:=s.toks+1 }) I.ns fun h' hn2 hs2=>?_
 obtain ⟨oD,esD,epD,hoD,hdD,hcD⟩:=hn2.count (PySem.Within.cons name v hw)
 refine wpAny_bind (wpAny_lookBehind hoD (by rw[hdD];exact pastItsLine_dict (Nat.le_trans hcD (by rw[List.length_cons];omega))) ?_)
 exact wpAny_pure (h _ ⟨(hs2.2 _ (Ne.symm I.ne)).trans I.obj,hn2,I.ne⟩ hs2)
theorem make_map {R:Result->Shared->Prop} {vs:List Value} {kw:List (Str×Value)} (X:K.In s.heap) (hm:W.makesIn K C=true)
   (hi:W.findIn K (.ref C) "__init__" = some (some (.ref f))) (hf:W.typeIn K (.ref f)=some (.type "function"))
   (h:codeAny (model prog w) (A.under (.builtin "type.__call__" ⟨.ref C::vs,kw⟩)) (.call (.ref f) ⟨.ref (s.heap.objs.size+1)::vs,kw⟩) (W.InitBack (s.heap.objs.size+1) R)
     { s with heap:=(s.heap.push W.emptyDict).push (W.instObj C s.heap.objs.size) }) :
   codeAny (model prog w) A (.call (.ref C) ⟨vs,kw⟩) R s:=by
 obtain ⟨hh,g,d,t,os⟩:=s
 exact W.make_core (W.makes_of X hm) (W.looks_findIn X hi) (fun self=>W.bind_fn X self hf) (.inl rfl) h
end
noncomputable def putF (f:Str) (v:V):List (Str×V)->List (Str×V)
 | []=>[(f,v)]
 | (g,x)::r=>if g=f then (g,v)::r else (g,x)::putF f v r
theorem zc3 (f g:Str) (v:V):∀ fs:List (Str×V),(putF f v fs).lookup g=if g=f then some v else fs.lookup g
 | []=>by
   show List.lookup g [(f,v)]=_
   by_cases h:g=f
   . have hb:(g == f)=true:=beq_iff_eq.mpr h
     simp only[List.lookup,hb,if_pos h]
   . have hb:(g == f)=false:=beq_eq_false_iff_ne.mpr h
     simp only[List.lookup,hb,if_neg h]
 | (k,x)::r=>by
   have ih:=zc3 f g v r
   rw[show putF f v ((k,x)::r)=(if k=f then (k,v)::r else (k,x)::putF f v r) from rfl]
   by_cases hk:k=f
   . rw[if_pos hk]
     by_cases h:g=k
     . have hb:(g == k)=true:=beq_iff_eq.mpr h
       simp only[List.lookup,hb,if_pos (h.trans hk)]
     . have hb:(g == k)=false:=beq_eq_false_iff_ne.mpr h
       simp only[List.lookup,hb,if_neg (fun e:g=f=>h (e.trans hk.symm))]
   . rw[if_neg hk]
     by_cases h:g=k
     . have hb:(g == k)=true:=beq_iff_eq.mpr h
       simp only[List.lookup,hb,if_neg (fun e:g=f=>hk (h.symm.trans e))]
     . have hb:(g == k)=false:=beq_eq_false_iff_ne.mpr h
       simp only[List.lookup,hb]
       exact ih
theorem zr9 (f:Str) (v:V):∀ fs:List (Str×V),f∈(putF f v fs).map (·.1)/\∀ g,g∈fs.map (·.1)->g∈(putF f v fs).map (·.1)
 | []=>⟨by simp[putF],fun g h=>by simp at h⟩
 | (k,x)::r=>by
   obtain ⟨i1,i2⟩:=zr9 f v r
   rw[show putF f v ((k,x)::r)=(if k=f then (k,v)::r else (k,x)::putF f v r) from rfl]
   by_cases hk:k=f
   . rw[if_pos hk]
     subst hk
     exact⟨by simp,fun g h=>by simpa using h⟩
   . rw[if_neg hk]
     refine⟨?_,fun g h=>?_⟩
     . rw[List.map_cons]
       exact List.mem_cons_of_mem _ i1
     . rw[List.map_cons] at h ⊢
       rcases List.mem_cons.mp h with e | e
       . exact List.mem_cons.mpr (.inl e)
       . exact List.mem_cons_of_mem _ (i2 g e)
theorem zm9 (f:Str) (v:V):∀ fs:List (Str×V),(putF f v fs).length<=fs.length+1
 | []=>by simp[putF]
 | (k,x)::r=>by
   have ih:=zm9 f v r
   rw[show putF f v ((k,x)::r)=(if k=f then (k,v)::r else (k,x)::putF f v r) from rfl]
   by_cases hk:k=f
   . rw[if_pos hk,List.length_cons,List.length_cons];omega
   . rw[if_neg hk,List.length_cons,List.length_cons];omega
theorem RelO.some_of {v:V} {o:Option Value} (r:RelO (some v) o):∃ u,o=some u/\RelV v u:=by
 cases o with
 | none=>exact (show False from r).elim
 | some u=>exact⟨u,rfl,r⟩
theorem RelO.none_of {o:Option Value} (r:RelO none o):o=none:=by
 cases o with
 | none=>rfl
 | some u=>exact (show False from r).elim
theorem zH5 {v:V} {u:Value} (r:RelV v u):W.handedIn u=true:=by
 cases v with
 | non=>cases (show u=Value.none from r);rfl
 | bl b=>cases (show u=Value.bool b from r);rfl
 | int i=>obtain ⟨t,e⟩:=(show ∃ t,u=Value.int i t from r);cases e;rfl
 | str x=>obtain ⟨t,e⟩:=(show ∃ t,u=Value.str x t from r);cases e;rfl
 | byt b=>obtain ⟨t,e⟩:=(show ∃ t,u=Value.bytes b t from r);cases e;rfl
 | flt b=>obtain ⟨t,e⟩:=(show ∃ t,u=Value.float b t from r);cases e;rfl
 | ref a=>cases (show u=Value.ref a from r);rfl
 | ty n=>cases (show u=Value.type n from r);rfl
section
variable {P:Program} {w:World} {H H':Hp} {h h':Heap} {a C dx:Addr} {fs fs':List (Str×V)}
theorem zE6 (hok:HOk P w H h) (e:H a=some (.ins C dx fs)):∃ mA,ObjM h a dx C mA/\(∀ f,RelO (fs.lookup f) (mA f))/\PySem.Within mA (fs.map (·.1))/\fs.length<=1000/\H dx=some (.own a):=by
 obtain ⟨d,z,ne,ob,mA,n,r,q⟩:=(show zi0 P w H h a (.ins C dx fs) from hok a _ e)
 exact⟨mA,⟨ob,n,ne⟩,r,q,z,d⟩
end
structure Cls (K:W.Frag) (C:Addr):Prop where
 pg:W.plainGet K C Str.empty=true
 hd:W.hasDictIn K C=true
 po:W.plainOver K C=true
 sa:W.findIn K (.ref C) "__setattr__" = some (some (.builtin "object.__setattr__"))
theorem Cls.get {K:W.Frag} {C:Addr} (c:Cls K C) (f:Str):W.plainGet K C f=true:=c.pg
noncomputable def ze2 (K:W.Frag) (C:Addr) (f:Str):Prop:=W.findIn K (.ref C) f=some none
theorem ze2.taker {K:W.Frag} {C:Addr} {f:Str} (n:ze2 K C f):W.takerIn K C f=some none:=by
 unfold W.takerIn
 rw[show W.findIn K (.ref C) f=some none from n]
 rfl
structure Meth (K:W.Frag) (C:Addr) (m:Str) (f:Addr):Prop where
 at_:W.findIn K (.ref C) m=some (some (.ref f))
 fn:W.isFn K (.ref f)=true
 kp:W.keepIn K (.ref f)=true
section
variable {X:Cx} {pins:List (Addr×Obj)} {σ:St} {H:Hp} {s:Shared} {a C dx:Addr} {fs:List (Str×V)} {f:Str} {v:V} {A:Around} {E:Value->Shared->Prop}
theorem getattr_ok {b:Bool} {Q:Value->Shared->Prop} (I:Inv X pins σ H s) (e:H a=some (.ins C dx fs)) (c:Cls X.K C) (n:ze2 X.K C f) (l:fs.lookup f=some v)
   (h:∀ u s',Inv X pins σ H s'->RelV v u->Q u s'):wpAny (model X.prog X.w) A (getAttr (.ref a) f b) Q E s:=by
 obtain ⟨mA,O,r,_,_,_⟩:=zE6 I.hok e
 obtain ⟨u,hu,ru⟩:=RelO.some_of (v:=v) (o:=mA f) (by rw[<-l];exact r f)
 exact get_map I.kIn O (c.get f) c.hd n hu (zH5 ru) (h u _ (I.tok _) ru)
theorem getmeth_ok {m:Str} {g:Addr} {pl:Sem Bool} {Q:Value×List Value->Shared->Prop} (I:Inv X pins σ H s) (e:H a=some (.ins C dx fs)) (c:Cls X.K C) (k:Meth X.K C m g) (l:fs.lookup m=none)
   (h:Q (.ref g,[.ref a]) s):wpAny (model X.prog X.w) A (getMethod (.ref a) m pl) Q E s:=by
 obtain ⟨mA,O,r,_,_,_⟩:=zE6 I.hok e
 have hn:mA m=none:=RelO.none_of (by rw[<-l];exact r m)
 exact get_meth I.kIn O (c.get m) k.at_ k.fn hn h
theorem setattr_ok {y:V} {u:Value} {Q:Unit->Shared->Prop} (I:Inv X pins σ H s) (e:H a=some (.ins C dx fs)) (c:Cls X.K C) (n:ze2 X.K C f) (hl:fs.length<1000) (ry:RelV y u)
   (h:∀ s',Inv X pins σ (upd H a (.ins C dx (putF f y fs))) s'->Q () s'):wpAny (model X.prog X.w) A (setAttr (.ref a) f u) Q E s:=by
 obtain ⟨mA,O,r,wi,_,ho⟩:=zE6 I.hok e
 have hz:(fs.map (·.1)).length<=sizeLine:=by rw[List.length_map,sizeLine_eq];omega
 refine set_map I.kIn O c.sa c.po n.taker c.hd wi hz fun h' O' sb=>h _ ?_
 have hd:∃ o,h'.get? dx=some o:=let ⟨o,_,_,e',_⟩:=O'.ns;⟨o,e'⟩
 refine I.write (x:=a) (e:=dx) (by rw[e];exact True.intro) (.inr ho) (fun b q hb z=>(sb.2 b hb).trans z) hd ?_
 refine⟨by rw[za7 O.ne];exact ho,?_,O.ne,O'.obj,_,O'.ns,fun g=>?_,fun g hg=>?_⟩
 . have:=zm9 f y fs;omega
 . show RelO ((putF f y fs).lookup g) (if g=f then some u else mA g)
   rw[zc3]
   by_cases q:g=f
   . rw[if_pos q,if_pos q];exact ry
   . rw[if_neg q,if_neg q];exact r g
 . by_cases q:g=f
   . rw[q];exact (zr9 f y fs).1
   . refine (zr9 f y fs).2 g (wi g fun z=>hg ?_)
     show (if g=f then some u else mA g)=none
     rw[if_neg q];exact z
theorem Inv.made (I:Inv X pins σ H s):Inv X pins σ (upd (upd H s.heap.objs.size (.own (s.heap.objs.size+1))) (s.heap.objs.size+1) (.ins C s.heap.objs.size []))
   { s with heap:=(s.heap.push W.emptyDict).push (W.instObj C s.heap.objs.size) }:=by
 have e1:(s.heap.push W.emptyDict).get? s.heap.objs.size=some W.emptyDict:=Heap.get?_push_size s.heap rfl
 have e2:((s.heap.push W.emptyDict).push (W.instObj C s.heap.objs.size)).get? (s.heap.objs.size+1)=some (W.instObj C s.heap.objs.size):=by
   have:=Heap.get?_push_size (s.heap.push W.emptyDict) (o:=W.instObj C s.heap.objs.size) rfl
   rwa [Heap.size_push] at this
 have e3:(s.heap.push W.emptyDict).Ns s.heap.objs.size (fun _=>none):=⟨W.emptyDict,#[],_,e1,rfl,(fun e he=>absurd he (by simp)),fun _=>rfl⟩
 have I1:=I.laid (a:=s.heap.objs.size) (o:=.own (s.heap.objs.size+1)) (h':=s.heap.push W.emptyDict) (t':=s.toks) (fun b u q=>Heap.get?_push_of_some _ q) (Nat.le_refl _) ⟨_,e1⟩
 refine I1.laid (a:=s.heap.objs.size+1) (o:=.ins C s.heap.objs.size []) (t':=s.toks) (fun b u q=>Heap.get?_push_of_some _ q) (Nat.le_of_eq (Heap.size_push _ _)) ?_
 have ne:s.heap.objs.size≠s.heap.objs.size+1:=Nat.ne_of_lt (Nat.lt_succ_self _)
 refine⟨by rw[za7 ne,za5],Nat.zero_le _,ne,e2,fun _=>none,(Heap.Ns1.of_empty e3).at fun o q=>Heap.get?_push_of_some _ q,fun _=>True.intro,fun y hy=>absurd rfl hy⟩
theorem zP6 {prog:Program} {w:World} {env:Env} {e:Expr} {f:Str} {pos:Pos} {s:Shared} {Q:Value->Shared->Prop} (hb:attributeBase e f env (eval e env)=eval e env)
   (h:wpAny (model prog w) A (eval e env) (fun o s₁=>wpAny (model prog w) A (getAttr o f true) Q E s₁) E s):wpAny (model prog w) A (eval (.Attribute e f pos) env) Q E s :=
 Attribute_any_ h (by rw[arm_eval_Attribute,hb])
end
noncomputable def tFld (K:W.Frag) (ta:TE) (f:Str):TE:=fun σ H Q=>ta σ H fun x H1=>∃ a C dx fs v,x = .ref a/\H1 a=some (.ins C dx fs)/\Cls K C/\ze2 K C f/\fs.lookup f=some v/\Q v H1
noncomputable def sFld (K:W.Frag) (ta tv:TE) (f:Str):TS:=fun D σ H=>tv σ H fun y H1=>ta σ H1 fun x H2=>∃ a C dx fs,x = .ref a/\H2 a=some (.ins C dx fs)/\Cls K C/\ze2 K C f/\fs.length<1000 ∧
 D.nx σ (upd H2 a (.ins C dx (putF f y fs)))
section
variable {X:Cx} {o e value:Expr} {f:Str} {pos pos' tpos:Pos} {ta tv:TE}
theorem zp9 (he:PE X e ta) (hb:attributeBase e f X.env (eval e X.env)=eval e X.env):PE X (.Attribute e f pos) (tFld X.K ta f):=by
 intro pins s σ H Q I h
 refine zP6 hb (thn (he pins s σ H _ I h) fun u s1 ⟨x,H1,I1,rx,a,C,dx,fs,v,ex,ea,c,n,l,q⟩=>?_)
 subst ex
 obtain rfl:u=Value.ref a:=rx
 exact getattr_ok I1 ea c n l fun u' s2 I2 ru=>⟨v,H1,I2,ru,q⟩
theorem zv3 (ha:PE X o ta) (hv:PE X value tv) (hs:swapsWith value (some (.Attribute o f pos')) pos.line X.env=pure false):PS X (.Assign [.Attribute o f pos'] value pos) (sFld X.K ta tv f):=by
 intro pins s σ H D I h
 refine plainObj_wpAny_Assign_Attribute (thn (hv pins s σ H _ I h) fun u s1 ⟨y,H1,I1,ry,q⟩=>thn (ha pins s1 σ H1 _ I1 q) fun ov s2 ⟨x,H2,I2,rx,a,C,dx,fs,ex,ea,c,n,l,q2⟩=>?_) hs
 subst ex
 obtain rfl:ov=Value.ref a:=rx
 exact setattr_ok I2 ea c n l ry fun s3 I3=>⟨σ,_,I3,q2⟩
end
section
variable {X:Cx} {pins:List (Addr×Obj)} {σ:St} {H:Hp} {s:Shared} {A:Around} {E:Value->Shared->Prop} {Q:Value->Shared->Prop} {c:Value} {b:Bool}
inductive TyOf (K:W.Frag) (H:Hp):V->Value->Prop where
 | non:TyOf K H .non (.type "NoneType")
 | bl (x:Bool):TyOf K H (.bl x) (.type "bool")
 | int (i:Int):TyOf K H (.int i) (.type "int")
 | str (x:Str):TyOf K H (.str x) (.type "str")
 | flt (x:UInt64):TyOf K H (.flt x) (.type "float")
 | lst {a:Addr} {xs:List V} (e:H a=some (.lst xs)):TyOf K H (.ref a) (.type "list")
 | frz {a:Addr} {o:Obj} {xs:List V} (e:H a=some (.frz o (.lst xs))):TyOf K H (.ref a) (.type "list")
 | tup {a:Addr} {xs:List V} (e:H a=some (.tup xs)):TyOf K H (.ref a) (.type "tuple")
 | dK {a:Addr} {kvs:List (Key×V)} (e:H a=some (.dK kvs)):TyOf K H (.ref a) (.type "dict")
 | dT {a:Addr} {kvs:List (List Key×V)} (e:H a=some (.dT kvs)):TyOf K H (.ref a) (.type "dict")
 | ins {a C dx:Addr} {fs:List (Str×V)} (e:H a=some (.ins C dx fs)) (cl:Cls K C) (ha:W.findIn K (.ref C) "__class__" = some (some (.builtin "object.__class__")))
     (hn:W.specialIn K (.builtin "object.__class__") "__get__" = some (some (.builtin "getset_descriptor.__get__"))) (htk:W.takesIn K (.builtin "object.__class__")=some true)
     (hm:W.mroIn K C (.type "object")=some true):TyOf K H (.ref a) (.ref C)
theorem isinst_ok {x:V} {u t:Value} (I:Inv X pins σ H s) (rx:RelV x u) (ty:TyOf X.K H x t) (e:W.kitOne X.K t c=some b) (h:∀ tk,Q (.bool b) { s with toks:=tk }) :
   wpAny (model X.prog X.w) A (call (.builtin "isinstance") [u,c]) Q E s:=by
 cases ty with
 | non=>cases (show u=Value.none from rx);exact W.kia_one W.kitx_none I.kIn True.intro e (fun z=>nomatch z) h
 | bl y=>cases (show u=Value.bool y from rx);exact W.kia_one W.kitx_bool I.kIn True.intro e (fun z=>nomatch z) h
 | int i=>obtain ⟨t,q⟩:=(show ∃ t,u=Value.int i t from rx);cases q;exact W.kia_one W.kitx_int I.kIn True.intro e (fun z=>nomatch z) h
 | str y=>obtain ⟨t,q⟩:=(show ∃ t,u=Value.str y t from rx);cases q;exact W.kia_one W.kitx_str I.kIn True.intro e (fun z=>nomatch z) h
 | flt y=>obtain ⟨t,q⟩:=(show ∃ t,u=Value.float y t from rx);cases q;exact W.kia_one W.kitx_float I.kIn True.intro e (fun z=>nomatch z) h
 | @lst a xs ea =>
   cases (show u=Value.ref a from rx)
   obtain ⟨_,_,n,_,h1⟩:=(show zi0 X.prog X.w H s.heap a (.lst xs) from I.hok a _ ea)
   exact W.kia_one W.kitx_list I.kIn ⟨_,h1,rfl⟩ e (fun z=>nomatch z) h
 | @frz a ob xs ea =>
   cases (show u=Value.ref a from rx)
   obtain ⟨_,_,_,n,_,h1⟩:=(show zi0 X.prog X.w H s.heap a (.frz ob (.lst xs)) from I.hok a _ ea)
   exact W.kia_one W.kitx_list I.kIn ⟨_,h1,rfl⟩ e (fun z=>nomatch z) h
 | @tup a xs ea =>
   cases (show u=Value.ref a from rx)
   obtain ⟨_,_,_,p⟩:=(show zi0 X.prog X.w H s.heap a (.tup xs) from I.hok a _ ea)
   obtain ⟨o,h1,h2,_⟩:=p
   exact W.kia_one W.kitx_tuple I.kIn ⟨o,h1,h2⟩ e (fun z=>nomatch z) h
 | @dK a kvs ea =>
   cases (show u=Value.ref a from rx)
   obtain ⟨_,_,vs,_,p⟩:=(show zi0 X.prog X.w H s.heap a (.dK kvs) from I.hok a _ ea)
   obtain ⟨o,es,ep,h1,h2,_⟩:=p
   exact W.kia_one W.kitx_dict I.kIn ⟨o,h1,h2.1⟩ e (fun z=>nomatch z) h
 | @dT a kvs ea =>
   cases (show u=Value.ref a from rx)
   obtain ⟨_,_,xs,_,o,es,ep,h1,h2,_⟩:=(show zi0 X.prog X.w H s.heap a (.dT kvs) from I.hok a _ ea)
   exact W.kia_one W.kitx_dict I.kIn ⟨o,h1,h2.1⟩ e (fun z=>nomatch z) h
 | @ins a C dx fs ea cl ha hn htk hm =>
   cases (show u=Value.ref a from rx)
   obtain ⟨mA,O,_⟩:=zE6 I.hok ea
   obtain ⟨od,J,_⟩:=O.look
   exact W.kia_one (W.kitx_own (cl.get _) cl.hd ha hn htk hm) I.kIn J e (fun z=>nomatch z) h
end
end L2
namespace L2
open PySem PySem.Spec PyProof.Rows
structure Room (k:Nat) (A:Around):Prop where
 hd:A.handled=none
 dp:A.depth+3*k+5<recursionLimit
 un:A.units+16*k+200<cLine
theorem Room.mono {j k:Nat} {A:Around} (r:Room k A) (h:j<=k):Room j A:=⟨r.hd,by have:=r.dp;omega,by have:=r.un;omega⟩
theorem Room.deeper {k:Nat} {A:Around} (r:Room (k+1) A) (env:Env):Room k (A.deeper env) :=
 ⟨r.hd,by have:=r.dp;show A.depth+1+3*k+5<_;omega,by have:=r.un;show A.units+3+16*k+200<_;omega⟩
theorem make_depth {A:Around} {C:Addr} {us:List Value} {kw:List (Str×Value)}:(A.under (.builtin "type.__call__" ⟨.ref C::us,kw⟩)).depth=A.depth+1:=by
 first | rfl | simp[Around.under,Code.weight,Code.isCreation,Code.isGuard,Code.isCaller,Code.frames,Code.isFrame,guardIds]
theorem make_units {A:Around} {C:Addr} {us:List Value} {kw:List (Str×Value)}:(A.under (.builtin "type.__call__" ⟨.ref C::us,kw⟩)).units=A.units+1:=by
 first | rfl | simp[Around.under,Code.cUnits,Code.frames,Code.isFrame]
theorem Room.make {k:Nat} {A:Around} (r:Room (k+1) A) (C:Addr) (us:List Value) (kw:List (Str×Value)):Room k (A.under (.builtin "type.__call__" ⟨.ref C::us,kw⟩)) :=
 ⟨r.hd,by have:=r.dp;rw[make_depth];omega,by have:=r.un;rw[make_units];omega⟩
theorem Room.depth {k:Nat} {A:Around} (r:Room k A):A.depth<recursionLimit:=by have:=r.dp;omega
theorem Room.units {k:Nat} {A:Around} (r:Room k A):A.units+64<cLine:=by have:=r.un;omega
noncomputable def tNil:TA:=fun _ H Q=>Q [] H
noncomputable def zP7 (ta:TE) (tr:TA):TA:=fun σ H Q=>ta σ H fun x H1=>tr σ H1 fun xs H2=>Q (x::xs) H2
section
variable {X:Cx} {e:Expr} {es:List Expr} {te:TE} {t:TA} {pos:Pos}
theorem za2:PA X [] tNil:=fun _ _ _ _ H Q I h=>Calls.spliced_nil ⟨[],H,I,.nil,h⟩
theorem za0 (ha:PE X e te) (hr:PA X es t) (hs:starEach (e::es) X.env=(false,eval e X.env)::starEach es X.env:=by rfl):PA X (e::es) (zP7 te t):=by
 intro pos pins s σ H Q I h
 rw[hs]
 show wpAny _ _ (spliced ((false,eval e X.env)::backTo pos (starEach es X.env))) _ _ s
 refine Calls.spliced_cons (thn (ha pins s σ H _ I h) fun u s1 ⟨x,H1,I1,r1,q1⟩=>?_)
 exact thn (hr pos pins s1 σ H1 _ I1 q1) fun us s2 ⟨xs,H2,I2,r2,q2⟩=>⟨x::xs,H2,I2,.cons r1 r2,q2⟩
noncomputable def tLst (t:TA):TE:=fun σ H Q=>t σ H fun xs H1=>xs.length<=sizeLine/\∀ p,H1 p=none->Q (.ref p) (upd H1 p (.lst xs))
theorem zm1 (h:PA X es t):PE X (.List es pos) (tLst t):=by
 intro pins s σ H Q I hq
 refine wpAny_List_spliced (thn (h pos pins s σ H _ I hq) fun us s1 ⟨xs,H1,I1,r,z,q⟩=>⟨by rw[<-r.length];exact z,?_⟩)
 have hf:H1 s1.heap.objs.size=none:=I1.hok.fresh (Nat.le_refl _)
 refine⟨.ref s1.heap.objs.size,upd H1 s1.heap.objs.size (.lst xs),I1.laid (t':=s1.toks) (fun b u e=>Heap.get?_push_of_some _ e) (Nat.le_refl _) ?_,rfl,q _ hf⟩
 exact⟨z,us,0,r,Heap.get?_push_size _ rfl⟩
end
noncomputable abbrev Sp:=List V->Hp->VK->XK->Prop
noncomputable abbrev CXT:=List Env->Hp->Shared->XK->Value->Shared->Prop
structure Env0 (P:Program) (w:World) (K:W.Frag) (mg:Str->Option Value) (base:Heap) (A:Around) (outer:List Env) (s:Shared) (H:Hp):Prop where
 frames:A.frames=some outer
 mod:Mod K mg base
 bs:∀ b o,base.get? b=some o->s.heap.get? b=some o/\H b=none
 bsz:base.objs.size<=s.heap.objs.size
 funs:s.heap.FunFrames base outer
 frf:∀ b∈frs outer,H b=none
 hok:HOk P w H s.heap
 bare:AllBare s.gens
noncomputable def CE (outer:List Env) (P:Program) (w:World) (H:Hp) (s:Shared) (Q:VK) (u:Value) (s':Shared):Prop :=
 ∃ v H',s'.os=s.os/\AllBare s'.gens/\Un (frs outer) [] H H' s.heap s'.heap/\HOk P w H' s'.heap/\RelV v u/\Q v H'
noncomputable def CR (CX:CXT) (outer:List Env) (P:Program) (w:World) (H:Hp) (s:Shared) (Q:VK) (E:XK) (r:Result) (s':Shared):Prop :=
 match r with
 | .ok (.ret u)=>CE outer P w H s Q u s'
 | .ok _=>False
 | .error e=>CX outer H s E e s'
structure FnOk (P:Program) (w:World) (K:W.Frag) (mg:Str->Option Value) (base:Heap) (CX:CXT) (k:Nat) (f:Addr) (fd:FuncData) (ps:List Str) (sp:Sp):Prop where
 len:∀ vs H Q E,sp vs H Q E->vs.length=ps.length
 run:∀ (A:Around) (outer:List Env) (s:Shared) (H:Hp) (args:Args) (us:List Value) (vs:List V) (Q:VK) (E:XK),Room k A->Env0 P w K mg base A outer s H->BindsTo s fd args (ps.zip us)->Vals vs us->sp vs H Q E →
   codeAny (model P w) A (.call (.ref f) args) (CR CX outer P w H s Q E) s
theorem Env0.make {P:Program} {w:World} {K:W.Frag} {mg:Str->Option Value} {base:Heap} {A:Around} {outer:List Env} {s:Shared} {H:Hp} (e:Env0 P w K mg base A outer s H) (C:Addr) (us:List Value) (kw:List (Str×Value)) :
 Env0 P w K mg base (A.under (.builtin "type.__call__" ⟨.ref C::us,kw⟩)) outer s H:=⟨by first | exact e.frames | (simpa [Around.under,Code.envs,Code.isFrame,pushEnvs] using e.frames),e.mod,e.bs,e.bsz,e.funs,e.frf,e.hok,e.bare⟩
section
variable {X:Cx} {pins:List (Addr×Obj)} {σ:St} {H:Hp} {s s':Shared}
theorem Inv.env0 (I:Inv X pins σ H s):Env0 X.prog X.w X.K X.mg X.base X.A X.stack s H :=
 ⟨I.ok.frames,I.ok.mod,I.bs,Nat.le_trans I.ok.bsz I.sz,I.stack,I.stkFree,I.hok,I.bare⟩
theorem Inv.after {Q:VK} {u:Value} (I:Inv X pins σ H s) (h:CE X.stack X.prog X.w H s Q u s'):EP X pins σ Q u s':=by
 obtain ⟨v,H',os,bare,un,hok,r,q⟩:=h
 obtain ⟨hh,g,d,t,os'⟩:=s'
 obtain rfl:os'=s.os:=os
 exact⟨v,H',I.call (h':=hh) (g':=g) (d':=d) (t':=t) (ch:=[]) un hok bare (fun b z=>absurd z (by simp)),r,q⟩
end
noncomputable def zV7 (sp:Sp) (dvs:List V) (E:XK) (t:TA):TE:=fun σ H Q=>t σ H fun vs H1=>sp (vs++dvs) H1 Q E
noncomputable def tMeth (C:Addr) (m:Str) (sp:Sp) (dvs:List V) (E:XK) (ta:TE) (t:TA):TE:=fun σ H Q=>ta σ H fun x H1=>∃ a dx fs,x = .ref a/\H1 a=some (.ins C dx fs)/\fs.lookup m=none ∧
 t σ H1 fun vs H2=>sp (x::(vs++dvs)) H2 Q E
noncomputable def tMake (C:Addr) (sp:Sp) (dvs:List V) (E:XK) (t:TA):TE:=fun σ H Q=>t σ H fun vs H1=>∀ x dx,H1 x=none->H1 dx=none->dx≠x →
 sp (.ref x::(vs++dvs)) (upd (upd H1 dx (.own x)) x (.ins C dx [])) (fun v H2=>v = .non/\Q (.ref x) H2) E
noncomputable def zc6 (K:W.Frag) (fd:FuncData) (ps:List Str) (ds:List Value):Prop :=
 ∀ (s:Shared) (us:List Value),K.In s.heap->(us++ds).length=ps.length->BindsTo s fd ⟨us,[]⟩ (ps.zip (us++ds))
theorem zc6.all {K:W.Frag} {fd:FuncData} {ps:List Str} (h:∀ us:List Value,us.length=ps.length->bindArgs fd ⟨us,[]⟩=pure (ps.zip us)):zc6 K fd ps []:=fun s us _ hl=>by
 rw[List.append_nil] at hl ⊢
 exact .of_eq (h us hl)
noncomputable def zk4 (CX:CXT) (X:Cx) (E:XK):Prop:=∀ (pins:List (Addr×Obj)) (σ:St) (H:Hp) (s:Shared) (e:Value) (s':Shared),Inv X pins σ H s->CX X.stack H s E e s'->X.xe e s'
section
variable {X:Cx} {CX:CXT} {k:Nat} {f C:Addr} {fd:FuncData} {ps:List Str} {sp:Sp} {dvs:List V} {ds:List Value} {E:XK} {x m:Str} {p pos apos:Pos} {e o:Expr} {es:List Expr} {ta:TE} {t:TA}
theorem zO4 {pins:List (Addr×Obj)} {σ:St} {H:Hp} {s:Shared} {Q:VK} {us:List Value} {vs:List V} (F:FnOk X.prog X.w X.K X.mg X.base CX k f fd ps sp) (hr:Room k X.A) (hb:zc6 X.K fd ps ds) (hd:Vals dvs ds) (hx:zk4 CX X E)
   (I:Inv X pins σ H s) (r:Vals vs us) (h:sp (vs++dvs) H Q E):wpAny (model X.prog X.w) X.A (call (.ref f) us) (EP X pins σ Q) X.xe s:=by
 have r2:Vals (vs++dvs) (us++ds):=r.append hd
 have hl:(us++ds).length=ps.length:=by rw[<-r2.length];exact F.len _ _ _ _ h
 refine wpAny_call (codeAny_mono (F.run X.A X.stack s H ⟨us,[]⟩ (us++ds) (vs++dvs) Q E hr I.env0 (hb s us I.kIn hl) r2 h) fun r s' hq=>?_)
 cases r with
 | error e=>exact hx pins σ H s e s' I hq
 | ok fl =>
   cases fl with
   | ret u=>exact I.after hq
   | next=>exact False.elim hq
   | brk=>exact False.elim hq
   | cont=>exact False.elim hq
theorem zb1 (F:FnOk X.prog X.w X.K X.mg X.base CX k f fd ps sp) (hr:Room k X.A) (hg:Gl X x) (hm:X.mg x=some (.ref f)) (hk:W.keepIn X.K (.ref f)=true) (hb:zc6 X.K fd ps ds) (hd:Vals dvs ds) (hx:zk4 CX X E)
   (ha:PA X (e::es) t) (hdb:(x == ("__debug__" : Str))=false:=by decide) (he:starEach (e::es) X.env=(false,eval e X.env)::starEach es X.env:=by rfl) (hpl:(backTo pos (starEach es X.env)).any (·.1)=false:=by rfl) :
   PE X (.Call (.Name x p) (e::es) [] pos) (zV7 sp dvs E t):=by
 intro pins s σ H Q I h
 refine wpAny_Call_Name_kw (zo2 I hg hm ?_ hdb)
 refine W.callWith_K (h₀:=X.base) I.ok.mod.kin hk (thn (ha pos pins s σ H _ I h) fun us s1 ⟨vs,H1,I1,r,q⟩=>⟨I1.kIn,?_⟩) he hpl
 exact zO4 F hr hb hd hx I1 r q
theorem pe_meth0 {pl:Sem Bool} (he:PE X o ta) (c:Cls X.K C) (hm:Meth X.K C m f) (F:FnOk X.prog X.w X.K X.mg X.base CX k f fd ps sp) (hr:Room k X.A) (hb:zc6 X.K fd ps ds) (hd:Vals dvs ds) (hx:zk4 CX X E)
   (ht:eval (.Call (.Attribute o m apos) [] [] pos) X.env=(do
     let ov <-eval o X.env
     standAt apos.atName
     let (f,first) <-holding [ov] (getMethod ov m pl)
     callWith pos f first (backTo pos (starEach [] X.env)) (backToKw pos (keywordEach [] X.env))):=by rfl) :
   PE X (.Call (.Attribute o m apos) [] [] pos) (tMeth C m sp dvs E ta tNil):=by
 intro pins s σ H Q I h
 refine W.methodCall_KW (pl:=pl) (thn (he pins s σ H _ I h) fun u s1 ⟨x,H1,I1,rx,a,dx,fs,ex,ea,l,q⟩=>?_) ht
 subst ex
 obtain rfl:u=Value.ref a:=rx
 refine getmeth_ok I1 ea c hm l ?_
 exact W.callWith_K0 (first:=[.ref a]) I1.kIn hm.kp (zO4 (us:=[.ref a]) (vs:=[.ref a]) F hr hb hd hx I1 (.cons rfl .nil) q)
structure Mk (K:W.Frag) (C f:Addr):Prop where
 makes:W.makesIn K C=true
 init:W.findIn K (.ref C) "__init__" = some (some (.ref f))
 fn:W.isFn K (.ref f)=true
 kp:W.keepIn K (.ref C)=true
theorem run_make {pins:List (Addr×Obj)} {σ:St} {H:Hp} {s:Shared} {Q:VK} {us:List Value} {vs:List V} (M:Mk X.K C f) (F:FnOk X.prog X.w X.K X.mg X.base CX k f fd ps sp) (hr:Room (k+1) X.A) (hb:zc6 X.K fd ps ds) (hd:Vals dvs ds)
   (hx:zk4 CX X E) (I:Inv X pins σ H s) (r:Vals vs us)
   (h:∀ x dx,H x=none->H dx=none->dx≠x->sp (.ref x::(vs++dvs)) (upd (upd H dx (.own x)) x (.ins C dx [])) (fun v H2=>v = .non/\Q (.ref x) H2) E) :
   wpAny (model X.prog X.w) X.A (call (.ref C) us) (EP X pins σ Q) X.xe s:=by
 have hq:=h (s.heap.objs.size+1) s.heap.objs.size (I.hok.fresh (Nat.le_succ _)) (I.hok.fresh (Nat.le_refl _)) (Nat.ne_of_lt (Nat.lt_succ_self _))
 have I2:=Inv.made (C:=C) I
 have r2:Vals (V.ref (s.heap.objs.size+1)::(vs++dvs)) (Value.ref (s.heap.objs.size+1)::(us++ds)):=.cons rfl (r.append hd)
 have hl:(Value.ref (s.heap.objs.size+1)::us++ds).length=ps.length:=by
   have e:=r2.length
   rw[F.len _ _ _ _ hq] at e
   exact e.symm
 refine wpAny_call (make_map (f:=f) I.kIn M.makes M.init (beq_iff_eq.mp M.fn) (codeAny_mono (F.run _ X.stack _ _ ⟨Value.ref (s.heap.objs.size+1)::us,[]⟩ (Value.ref (s.heap.objs.size+1)::(us++ds)) _ _ E (hr.make C us [])
   (I2.env0.make C us []) (hb _ (Value.ref (s.heap.objs.size+1)::us) I2.kIn hl) r2 hq) fun r s' hq'=>?_))
 cases r with
 | error e=>exact hx pins σ _ _ e s' I2 hq'
 | ok fl =>
   cases fl with
   | ret u =>
     obtain ⟨v,H',I3,rv,ev,q3⟩:=I2.after hq'
     subst ev
     exact⟨rv,⟨V.ref (s.heap.objs.size+1),H',I3,rfl,q3⟩⟩
   | next=>exact False.elim hq'
   | brk=>exact False.elim hq'
   | cont=>exact False.elim hq'
theorem zP8 (M:Mk X.K C f) (F:FnOk X.prog X.w X.K X.mg X.base CX k f fd ps sp) (hr:Room (k+1) X.A) (hg:Gl X x) (hm:X.mg x=some (.ref C)) (hb:zc6 X.K fd ps ds) (hd:Vals dvs ds) (hx:zk4 CX X E)
   (ha:PA X (e::es) t) (hdb:(x == ("__debug__" : Str))=false:=by decide) (he:starEach (e::es) X.env=(false,eval e X.env)::starEach es X.env:=by rfl) (hpl:(backTo pos (starEach es X.env)).any (·.1)=false:=by rfl) :
   PE X (.Call (.Name x p) (e::es) [] pos) (tMake C sp dvs E t):=by
 intro pins s σ H Q I h
 refine wpAny_Call_Name_kw (zo2 I hg hm ?_ hdb)
 refine W.callWith_K (h₀:=X.base) I.ok.mod.kin M.kp (thn (ha pos pins s σ H _ I h) fun us s1 ⟨vs,H1,I1,r,q⟩=>⟨I1.kIn,?_⟩) he hpl
 exact run_make M F hr hb hd hx I1 r q
end
section
variable {X:Cx} {CX:CXT} {k:Nat} {f C:Addr} {fd:FuncData} {ps ks:List Str} {sp:Sp} {E:XK} {x m:Str} {p pos apos kpos:Pos} {e o:Expr} {es:List Expr} {kws:List Keyword} {te ta:TE} {t tk:TA} {nm:Option Str}
variable {g:List Value->List Value->List Value} {gV:List V->List V->List V}
end
structure zc1 (N P:List Str) (sc:Scope):Prop where
 kind:sc.kind = .function
 co:sc.isCoroutine=false
 gen:sc.isGenerator=false
 nd:N.Nodup
 pre:N.take P.length=P
 par:∀ x∈P,sc.names.lookup x=some .local\/sc.names.lookup x=some .cell
 nofree:∀ y∈sc.names,y.2≠.free
theorem zH6 {kindOf:Str->Option NameKind} {x:Str}:∀ {binds:List (Str×Value)} {m:Str->Option Value},(∀ v,(x,v)∉binds)->bindL kindOf binds m x=m x
 | [],_,_=>rfl
 | (n,v)::r,m,h=>by
   unfold bindL
   rw[zH6 fun w hw=>h w (List.mem_cons_of_mem _ hw)]
   split
   . have:x≠n:=by rintro rfl;exact h v List.mem_cons_self
     simp[this]
   . rfl
theorem zH7 {kindOf:Str->Option NameKind} {x:Str}:∀ {binds:List (Str×Value)} {m:Str->Option Value},(∀ v,(x,v)∉binds)->bindC kindOf binds m x=m x
 | [],_,_=>rfl
 | (n,v)::r,m,h=>by
   unfold bindC
   rw[zH7 fun w hw=>h w (List.mem_cons_of_mem _ hw)]
   split
   . rfl
   . have:x≠n:=by rintro rfl;exact h v List.mem_cons_self
     simp[this]
theorem zH8 {kindOf:Str->Option NameKind} {x:Str} {v:Value}:∀ {P:List Str} {vs:List Value} {i:Nat} {m:Str->Option Value},P.Nodup->P[i]?=some x->vs[i]?=some v->kindOf x=some .local →
   bindL kindOf (P.zip vs) m x=some v
 | [],_,_,_,_,h,_,_=>by simp at h
 | _::_,[],_,_,_,_,h,_=>by simp at h
 | p::P,w::vs,0,m,nd,h1,h2,hk=>by
   simp at h1 h2;subst h1;subst h2
   show bindL kindOf ((p,w)::P.zip vs) m p=_
   unfold bindL
   rw[zH6 fun v hv=>(List.nodup_cons.mp nd).1 (List.of_mem_zip hv).1,if_pos hk]
   simp
 | p::P,w::vs,i+1,m,nd,h1,h2,hk=>by
   show bindL kindOf ((p,w)::P.zip vs) m x=_
   unfold bindL
   exact zH8 (i:=i) (List.nodup_cons.mp nd).2 (by simpa using h1) (by simpa using h2) hk
theorem zH9 {kindOf:Str->Option NameKind} {x:Str} {v:Value}:∀ {P:List Str} {vs:List Value} {i:Nat} {m:Str->Option Value},P.Nodup->P[i]?=some x->vs[i]?=some v->kindOf x≠some .local →
   bindC kindOf (P.zip vs) m x=some v
 | [],_,_,_,_,h,_,_=>by simp at h
 | _::_,[],_,_,_,_,h,_=>by simp at h
 | p::P,w::vs,0,m,nd,h1,h2,hk=>by
   simp at h1 h2;subst h1;subst h2
   show bindC kindOf ((p,w)::P.zip vs) m p=_
   unfold bindC
   rw[zH7 fun v hv=>(List.nodup_cons.mp nd).1 (List.of_mem_zip hv).1,if_neg hk]
   simp
 | p::P,w::vs,i+1,m,nd,h1,h2,hk=>by
   show bindC kindOf ((p,w)::P.zip vs) m x=_
   unfold bindC
   exact zH9 (i:=i) (List.nodup_cons.mp nd).2 (by simpa using h1) (by simpa using h2) hk
noncomputable def start (N:List Str) (vs:List V):St:=vs.map some++List.replicate (N.length-vs.length) none
noncomputable def cxOf (CX:CXT) (P:Program) (w:World) (K:W.Frag) (mg:Str->Option Value) (base:Heap) (N:List Str) (qual:Str) (scope:Scope) (f:Addr) (cd:Value) (A:Around) (outer:List Env) (s:Shared) (H:Hp) (E:XK):Cx where
 prog:=P
 w:=w
 K:=K
 mg:=mg
 base:=base
 A:=A.deeper (envOfC qual scope s.heap.objs.size f cd)
 N:=N
 s₀:=s
 H₀:=H
 env:=envOfC qual scope s.heap.objs.size f cd
 outer:=outer
 stack:=envOfC qual scope s.heap.objs.size f cd::outer
 ex:=[]
 calm:=true
 fn:=fun _=>true
 pn:=[]
 xe:=fun e s'=>wpAny (model P w) (A.deeper (envOfC qual scope s.heap.objs.size f cd)) («leaving» (envOfC qual scope s.heap.objs.size f cd) e) (fun _ s''=>CX outer H s E e s'') (fun e' s''=>CX outer H s E e' s'') s'
theorem zM2 {sc:Scope} {n:Nat} {x:Str} (h:sc.names.lookup x=some .cell):∃ c,(cellsFrom n sc.names []).lookup x=some c:=by
 have q:=W.cellsFrom_some sc.names n [] (.inl h)
 exact Option.isSome_iff_exists.mp q
theorem inv_start {CX:CXT} {P:Program} {w:World} {K:W.Frag} {mg:Str->Option Value} {base:Heap} {N ps:List Str} {qual:Str} {scope:Scope} {f:Addr} {cd:Value} {A:Around} {outer:List Env} {s s1:Shared} {H:Hp} {E:XK} {us:List Value} {vs:List V}
   (S:zc1 N ps scope) (hd:A.handled=none) (e0:Env0 P w K mg base A outer s H) (hl:vs.length=ps.length) (r:Vals vs us)
   (x:InCallC s s.heap.objs.size (bindL (envOfC qual scope s.heap.objs.size f cd).kindOf (ps.zip us) fun _=>none) (cellsFrom (s.heap.objs.size+1) scope.names []) (bindC (envOfC qual scope s.heap.objs.size f cd).kindOf (ps.zip us) fun _=>none) s1) :
   Inv (cxOf CX P w K mg base N qual scope f cd A outer s H E) [] (start N vs) H s1:=by
 have hpl:ps.length<=N.length:=by have:=congrArg List.length S.pre;rw[List.length_take] at this;omega
 obtain ⟨h1,tk,rfl,hk⟩:=x.done
 have noA:∀ b:Addr,b∉(cxOf CX P w K mg base N qual scope f cd A outer s H E).ex:=fun b z=>absurd (show b∈([]:List Addr) from z) (by simp)
 refine⟨⟨e0.mod,S.kind,rfl,rfl,Nat.le_refl _,fun y z c h1 h2=>?_,fun y hy=>?_,fun y c _ h=>?_,fun _=>hd,Around.frames_deeper e0.frames,.inr ⟨rfl,rfl⟩,fun b z=>absurd z (noA b),e0.bs,e0.bsz,fun b _ _=>noA b,fun b z=>absurd z (noA b),e0.funs,e0.frf⟩,
   rfl,e0.bare,Un.kept hk,⟨_,x.toInCall.ns,fun i y v h1 h2 h3=>?_⟩,fun y c h=>⟨_,x.cell y c h⟩,e0.hok.fresh (Nat.le_refl _),fun y c h=>?_,fun p hp=>absurd (show p∈([]:List (Addr×Obj)) from hp) (by simp),e0.hok.kept hk,?_⟩
 . exact name_of_addr x.apart (PySem.mem_of_lookup h1) (PySem.mem_of_lookup h2)
 . have hy:scope.names.lookup y=some .cell\/scope.names.lookup y=some .free:=hy
   rcases hy with hy | hy
   . exact zM2 hy
   . exact absurd rfl (S.nofree _ (PySem.mem_of_lookup hy))
 . exact Nat.le_of_lt (x.above y c (PySem.mem_of_lookup h))
 . have hi:i<vs.length:=by
     unfold start at h2
     by_cases hi:i<vs.length
     . exact hi
     . rw[List.getElem?_append_right (by simpa using hi)] at h2
       rw[List.getElem?_replicate] at h2
       split at h2<;>cases h2
   have ha:vs[i]?=some v:=by
     unfold start at h2
     rw[List.getElem?_append_left (by simpa using hi),List.getElem?_map] at h2
     cases e:vs[i]? with
     | none=>rw[e] at h2;cases h2
     | some a=>rw[e] at h2;cases h2;rfl
   obtain ⟨u,hu,rv⟩:=r.get ha
   have hp:ps[i]?=some y:=by
     rw[<-S.pre,List.getElem?_take_of_lt (by omega)];exact h1
   have ndP:ps.Nodup:=by rw[<-S.pre];exact S.nd.sublist (List.take_sublist _ _)
   refine⟨u,rv,?_⟩
   rcases S.par y (List.mem_of_getElem? hp) with k | k
   . exact .inl ⟨k,zH8 ndP hp hu k⟩
   . obtain ⟨c,e⟩:=zM2 (n:=s.heap.objs.size+1) k
     refine .inr ⟨.inl k,c,e,?_⟩
     have q:=x.cell y c e
     rw[zH9 ndP hp hu (by show scope.names.lookup y≠_;rw[k];decide)] at q
     exact q
 . exact e0.hok.fresh (Nat.le_of_lt (x.above y c (PySem.mem_of_lookup h)))
 . unfold start
   show _=N.length
   rw[List.length_append,List.length_map,List.length_replicate]
   omega
theorem zP9 {CX:CXT} {P:Program} {w:World} {K:W.Frag} {mg:Str->Option Value} {base:Heap} {k:Nat} {f:Addr} {name qual:Str} {params:Arguments} {body:List Stmt} {scope:Scope} {dV kV doc pm cdv ct oc:Value} {an od:Option Addr}
   {osl:Array (Option Value)} {N ps:List Str} {sp:Sp} (lk:K.lookup f=some ⟨oc,od,.func (W.fnOf name qual params body scope dV kV doc pm an cdv ct),osl⟩) (hcd:W.codeIn K cdv qual=true) (S:zc1 N ps scope)
   (len:∀ vs H Q E,sp vs H Q E->vs.length=ps.length)
   (hbody:∀ (A:Around) (outer:List Env) (s:Shared) (H:Hp) (vs:List V) (Q:VK) (E:XK),Room k (A.deeper (envOfC qual scope s.heap.objs.size f cdv))->sp vs H Q E →
     ∃ t,PSs (cxOf CX P w K mg base N qual scope f cdv A outer s H E) body t/\t { nx:=fun _ H'=>Q .non H',rt:=Q } (start N vs) H) :
   FnOk P w K mg base CX (k+1) f (W.fnOf name qual params body scope dV kV doc pm an cdv ct) ps sp:=by
 refine⟨len,fun A outer s H args us vs Q E hr e0 hb r hsp=>?_⟩
 have hl:=len _ _ _ _ hsp
 have KX:K.In s.heap:=e0.mod.kin.keeps fun b o e=>(e0.bs b o e).1
 have lim:s.heap.NoLimit:=e0.mod.nolimit.keeps fun b o e=>(e0.bs b o e).1
 have hkind:∀ y∈ps.zip us,scope.names.lookup y.1=some .local\/(scope.names.lookup y.1=some .cell/\((cellsFrom (s.heap.objs.size+1) scope.names []).lookup y.1).isSome=true):=fun ⟨n,v⟩ hy=>by
   rcases S.par n (List.of_mem_zip hy).1 with q | q
   . exact .inl q
   . exact .inr ⟨q,W.cellsFrom_some _ _ _ (.inl q)⟩
 refine codeAny_call_function hr.depth (KX _ _ lk) rfl S.co S.gen rfl (W.codeRec_of KX hcd) (hb _ _ _ _ ?_)
 refine wpAny_newFunctionEnv_cells S.kind hkind fun env he s1 x=>?_
 subst he
 refine⟨lim.keeps x.toInCall.keep,codeAny_func ?_⟩
 obtain ⟨t,ht,hq⟩:=hbody A outer s H vs Q E (hr.deeper _) hsp
 have I:Inv (cxOf CX P w K mg base N qual scope f cdv A outer s H E) [] (start N vs) H s1:=inv_start S hr.hd e0 hl r x
 refine wpAny_mono (ht [] s1 (start N vs) H _ I hq) (fun fl s' hs=>?_) fun e s' hs=>hs
 have fin:∀ {σ':St} {H':Hp} {v:V} {u:Value},Inv (cxOf CX P w K mg base N qual scope f cdv A outer s H E) [] σ' H' s'->RelV v u->Q v H'->CE outer P w H s Q u s' :=
   fun {σ' H' v u} J rv q=>⟨v,H',J.os,J.bare,J.base,J.hok,rv,q⟩
 cases fl with
 | ret u =>
   obtain ⟨v,σ',H',J,rv,q⟩:=hs
   exact fin J rv q
 | next =>
   obtain ⟨σ',H',J,q⟩:=hs
   exact fin (v:=V.non) (u:=Value.none) J rfl q
 | brk =>
   obtain ⟨_,_,_,q⟩:=hs
   exact False.elim q
 | cont =>
   obtain ⟨_,_,_,q⟩:=hs
   exact False.elim q
end L2
namespace L2
open PySem PySem.Spec PyProof.Rows
section
variable {X:Cx} {x:Str} {p pos:Pos} {e:Expr} {es:List Expr} {t:TA} {id T:String} {r:List V->Hp->VK->Prop}
noncomputable def tCB (r:List V->Hp->VK->Prop) (t:TA):TE:=fun σ H Q=>t σ H fun vs H1=>r vs H1 Q
theorem zc0 (hc:zl2 X (.builtin id) r) (hg:Gl X x) (hm:X.mg x=none) (hv:bootBuiltins x=some (.builtin id)) (ha:PA X (e::es) t) (hn:x≠"__name__":=by decide) (hdb:(x == ("__debug__" : Str))=false:=by decide)
   (he:starEach (e::es) X.env=(false,eval e X.env)::starEach es X.env:=by rfl) (hpl:(backTo pos (starEach es X.env)).any (·.1)=false:=by rfl):PE X (.Call (.Name x p) (e::es) [] pos) (tCB r t):=by
 intro pins s σ H Q I h
 refine wpAny_Call_Name_kw (zF4 I hg hm hv ?_ hn hdb)
 exact PyProof.Rows.callWith_builtin1 (thn (ha pos pins s σ H _ I h) fun us s1 ⟨vs,H1,I1,r1,q1⟩=>hc pins s1 σ H1 vs us Q I1 r1 q1) he hpl
theorem ze7 (hc:zl2 X (.type T) r) (hg:Gl X x) (hm:X.mg x=none) (hv:bootBuiltins x=some (.type T)) (ha:PA X (e::es) t) (hn:x≠"__name__":=by decide) (hdb:(x == ("__debug__" : Str))=false:=by decide)
   (he:starEach (e::es) X.env=(false,eval e X.env)::starEach es X.env:=by rfl) (hpl:(backTo pos (starEach es X.env)).any (·.1)=false:=by rfl):PE X (.Call (.Name x p) (e::es) [] pos) (tCB r t):=by
 intro pins s σ H Q I h
 refine wpAny_Call_Name_kw (zF4 I hg hm hv ?_ hn hdb)
 exact PyProof.Rows.callWith_type1 (thn (ha pos pins s σ H _ I h) fun us s1 ⟨vs,H1,I1,r1,q1⟩=>hc pins s1 σ H1 vs us Q I1 r1 q1) he hpl
end
end L2
namespace HT
open PySem PyProof.Rows
section
open PySem.SeqAt
open PySem.AutoSeq1 (wpAny_loadPart')
open PySem.MeetsSeq PySem.MeetsSeq2 PySem.MeetsSeq3
end
section
variable {prog:Program} {w:World} {A:Around} {E:Value->Shared->Prop} {s:Shared}
noncomputable def sIx (n d:Nat):Option Int->Nat
 | none=>d
 | some v=>if v<0 then (v+(n:Int)).toNat else min v.toNat n
theorem sIx_none (n d:Nat):sIx n d none=d:=rfl
theorem sIx_nat (n d k:Nat):sIx n d (some (k:Int))=min k n:=by
 show (if (k:Int)<0 then ((k:Int)+(n:Int)).toNat else min (k:Int).toNat n)=min k n
 rw[if_neg (by omega),Int.toNat_natCast]
end
end HT
namespace L2
open PySem PySem.Spec PyProof.Rows
noncomputable abbrev TO:=St->Hp->(Option Int->Hp->Prop)->Prop
noncomputable def PO (X:Cx) (e:Option Expr) (t:TO):Prop :=
 ∀ (pins:List (Addr×Obj)) (s:Shared) (σ:St) (H:Hp) (Q:Option Int->Hp->Prop),Inv X pins σ H s->t σ H Q →
   wpAny (model X.prog X.w) X.A (evalPart e X.env) (fun u s'=>∃ o H',Inv X pins σ H' s'/\IsPart u o/\Q o H') X.xe s
noncomputable def tNoPart:TO:=fun _ H Q=>Q none H
noncomputable def tPart (t:TE):TO:=fun σ H Q=>t σ H fun x H1=>∃ i,x = .int i/\Q (some i) H1
theorem zq0 {ns:List Int}:∀ {us:List Value},Vals (ns.map V.int) us->IntsAre us ns:=by
 induction ns with
 | nil=>intro us r;rw[List.map_nil] at r;cases r;exact .nil
 | cons n ns ih =>
   intro us r
   rw[List.map_cons] at r
   cases r with
   | cons r1 r2 =>
     obtain ⟨t,e⟩:=r1
     subst e
     exact .cons n t (ih r2)
section
variable {X:Cx} {e:Expr} {te:TE} {lo hi:Option Expr} {tl th:TO} {pos p2:Pos}
theorem zf8:PO X none tNoPart:=by
 intro pins s σ H Q I h
 rw[evalPart_none]
 exact wpAny_pure ⟨none,H,I,.none,h⟩
theorem zf9 (h:PE X e te):PO X (some e) (tPart te):=by
 intro pins s σ H Q I hw
 rw[evalPart_some]
 refine thn (h pins s σ H _ I hw) fun u s1 ⟨x,H1,I1,r1,q1⟩=>?_
 obtain ⟨i,rfl,q⟩:=q1
 obtain ⟨t,rfl⟩:=r1
 exact⟨some i,H1,I1,.int i t,q⟩
noncomputable def SlR (X:Cx) (r:V->Option Int->Option Int->Hp->VK->Prop):Prop :=
 ∀ (pins:List (Addr×Obj)) (s:Shared) (σ:St) (H:Hp) (x:V) (v vl vu:Value) (lo hi:Option Int) (sl:Addr) (Q:VK),Inv X pins σ H s->RelV x v->s.heap.IsSliceOf sl vl vu .none->IsPart vl lo->IsPart vu hi->r x lo hi H Q →
   ∃ T id,typeLookup (.type T) "__getitem__" = pure (some (.builtin id))/\s.TypeIs v T/\wpAny (model X.prog X.w) X.A (getItem v (.ref sl)) (EP X pins σ Q) X.xe s
noncomputable def tSl (r:V->Option Int->Option Int->Hp->VK->Prop) (te:TE) (tl th:TO):TE:=fun σ H Q=>te σ H fun x H1=>tl σ H1 fun l H2=>th σ H2 fun u H3=>r x l u H3 Q
theorem ze3 {r:V->Option Int->Option Int->Hp->VK->Prop} (hr:SlR X r) (he:PE X e te) (hl:PO X lo tl) (hu:PO X hi th):PE X (.Subscript e (.Slice lo hi none p2) pos) (tSl r te tl th):=by
 intro pins s σ H Q I h
 refine Subscript_ (thn (he pins s σ H _ I h) fun v s1 ⟨x,H1,I1,r1,q1⟩=>?_)
 refine wpAny_Slice (thn (hl pins s1 σ H1 _ I1 q1) fun vl s2 ⟨l,H2,I2,pl,q2⟩=>thn (hu pins s2 σ H2 _ I2 q2) fun vu s3 ⟨u,H3,I3,pu,q3⟩=>?_)
 rw[evalPart_none]
 refine wpAny_pure ?_
 have I4:Inv X pins σ H3 { s3 with heap:=s3.heap.push { cls:=.type "slice",data:=.fields #[vl,vu,.none] } }:=I3.kept (t':=s3.toks) fun b ob q=>Heap.get?_push_of_some _ q
 obtain ⟨T,id,hT,ht,hg⟩:=hr pins { s3 with heap:=s3.heap.push { cls:=.type "slice",data:=.fields #[vl,vu,.none] } } σ H3 x v vl vu l u s3.heap.objs.size Q I4 r1 (Heap.IsSliceOf.new ..) pl pu q3
 show wpAny (model X.prog X.w) X.A (subscriptTail e (.Slice lo hi none p2) v (.ref s3.heap.objs.size)) (EP X pins σ Q) X.xe { s3 with heap:=s3.heap.push { cls:=.type "slice",data:=.fields #[vl,vu,.none] } }
 exact tail_any (ops:=[.ref s3.heap.objs.size,v]) ht hT hg (by with_unfolding_all rfl)
noncomputable def cutV (xs:List V) (lo hi:Option Int):List V:=(xs.drop (HT.sIx xs.length 0 lo)).take (HT.sIx xs.length xs.length hi-HT.sIx xs.length 0 lo)
theorem zD8 (xs:List V) (lo hi:Option Int):(cutV xs lo hi).length<=xs.length:=by
 unfold cutV
 rw[List.length_take,List.length_drop]
 omega
end
end L2
namespace L2
open PySem PySem.Spec PyProof.Rows
noncomputable def ixN (n:Nat) (i:Int):Option Nat:=if 0<=i then (if i<n then some i.toNat else none) else if -(n:Int)<=i then some (i+n).toNat else none
noncomputable def atI {α:Type} (xs:List α) (i:Int):Option α:=(ixN xs.length i).bind fun j=>xs[j]?
theorem zQ0 {n:Nat} {i:Int} {j:Nat} (h:ixN n i=some j):seqIndex? i n=some j/\j<n/\-(n:Int)<=i/\i<n:=by
 unfold ixN at h
 by_cases h0:0<=i
 . rw[if_pos h0] at h
   by_cases h1:i<n
   . rw[if_pos h1] at h
     have e:i.toNat=j:=Option.some.inj h
     exact⟨by rw[seqIndex_of h0 h1,e],by omega,by omega,h1⟩
   . rw[if_neg h1] at h;cases h
 . rw[if_neg h0] at h
   by_cases h1:-(n:Int)<=i
   . rw[if_pos h1] at h
     have e:(i+n).toNat=j:=Option.some.inj h
     exact⟨by rw[seqIndex_neg (by omega) h1,e],by omega,h1,by omega⟩
   . rw[if_neg h1] at h;cases h
theorem zK7 {α:Type} {xs:List α} {i:Int} {v:α} (h:atI xs i=some v):∃ j,seqIndex? i xs.length=some j/\xs[j]?=some v/\j<xs.length/\-(xs.length:Int)<=i/\i<xs.length:=by
 unfold atI at h
 cases e:ixN xs.length i with
 | none=>rw[e] at h;cases h
 | some j =>
   rw[e] at h
   obtain ⟨h1,h2,h3,h4⟩:=zQ0 e
   exact⟨j,h1,h,h2,h3,h4⟩
theorem zo4 {α:Type} {xs:List α} {j:Nat} {v:α} (h:xs[j]?=some v):atI xs (j:Int)=some v:=by
 have hj:j<xs.length:=(List.getElem?_eq_some_iff.mp h).1
 have e:ixN xs.length (j:Int)=some j:=by
   unfold ixN
   rw[if_pos (by omega),if_pos (by omega)];simp
 unfold atI;rw[e];exact h
noncomputable def PlainIx (b:Expr):Prop:=∀ o i,subscripted b false o i=operate [o,i] (getItem o i)
noncomputable def IxR (X:Cx) (r:R2):Prop :=
 ∀ (value slice:Expr) (pins:List (Addr×Obj)) (s:Shared) (σ:St) (H:Hp) (x y:V) (v u:Value) (Q:VK),Inv X pins σ H s->RelV x v->RelV y u->r x y H Q →
   subscripted slice false v u=operate [v,u] (getItem v u)->wpAny (model X.prog X.w) X.A (subscriptTail value slice v u) (EP X pins σ Q) X.xe s
noncomputable def MtR (X:Cx) (id:String) (r:V->List V->Hp->VK->Prop):Prop :=
 ∀ (pins:List (Addr×Obj)) (s:Shared) (σ:St) (H:Hp) (x:V) (xs:List V) (v:Value) (us:List Value) (Q:VK),Inv X pins σ H s->RelV x v->Vals xs us->r x xs H Q →
   wpAny (model X.prog X.w) X.A (call (.builtin id) (v::us)) (EP X pins σ Q) X.xe s
section
variable {X:Cx} {a b:Expr} {ta tb:TE} {pos:Pos}
theorem IxR.or {r r':R2} (h:IxR X r) (h':IxR X r'):IxR X (fun x y H Q=>r x y H Q\/r' x y H Q):=by
 intro value slice pins s σ H x y v u Q I rx ry q hs
 rcases q with q | q
 . exact h value slice pins s σ H x y v u Q I rx ry q hs
 . exact h' value slice pins s σ H x y v u Q I rx ry q hs
theorem zc7 {r:R2} (hr:IxR X r) (ha:PE X a ta) (hb:PE X b tb) (hs:PlainIx b):PE X (.Subscript a b pos) (tOp r ta tb):=by
 intro pins s σ H Q I h
 exact Subscript_ (binT ha hb I h fun v u s2 x y H2 I2 rx ry q=>hr a b pins s2 σ H2 x y v u Q I2 rx ry q (hs _ _))
noncomputable def rIxL (K:W.Frag):R2:=fun x y H Q=>∃ p xs i v,x = .ref p/\y = .int i/\SqL K H p xs/\atI xs i=some v/\Q v H
noncomputable def rIxT (K:W.Frag):R2:=fun x y H Q=>∃ p xs i v,x = .ref p/\y = .int i/\SqT K H p xs/\atI xs i=some v/\Q v H
noncomputable def rIxS:R2:=fun x y H Q=>∃ z i c,x = .str z/\y = .int i/\z.length<=sizeLine/\atI z.cps.toList i=some c/\Q (.str ⟨#[c]⟩) H
theorem zb7:IxR X (rIxL X.K):=by
 intro value slice pins s σ H x y v u Q I rx ry h hs
 obtain ⟨p,xs,i,z,rfl,rfl,hq,he,q⟩:=h
 cases rx
 obtain ⟨t,rfl⟩:=ry
 obtain ⟨its,r,pl,hz⟩:=I.list hq
 obtain ⟨j,h1,h2,h3,h4,h5⟩:=zK7 he
 obtain ⟨w,ew,rw'⟩:=r.get h2
 have hl:=r.length
 have hn:=zC3
 have fin:EP X pins σ Q w s:=⟨z,H,I,rw',q⟩
 by_cases h0:0<=i
 . have hj:i.toNat=j:=by
     rw[seqIndex_of h0 h5] at h1
     exact Option.some.inj h1
   exact item_listR pl.isList h0 (by omega) (by rw[hj];simpa using ew) fin hs
 . have hj:(i+(its.toArray.size:Int)).toNat=j:=by
     rw[seqIndex_neg (by omega) h4] at h1
     rw[List.size_toArray,<-hl]
     exact Option.some.inj h1
   exact subscriptTail_builtinR (x:=w) pl.isList.typeIs slot_list_getitem.lookup
     (wpAny_getItem_list_neg (Q:=fun r s'=>r=w/\EP X pins σ Q r s') pl.isList (by omega) (by rw[List.size_toArray]<;>omega) (by omega) (by rw[hj];simpa using ew) ⟨rfl,fin⟩) hs
theorem zK8:IxR X (rIxT X.K):=by
 intro value slice pins s σ H x y v u Q I rx ry h hs
 obtain ⟨p,xs,i,z,rfl,rfl,hq,he,q⟩:=h
 cases rx
 obtain ⟨t,rfl⟩:=ry
 obtain ⟨its,r,pl,hz⟩:=I.tuple hq
 obtain ⟨j,h1,h2,h3,h4,h5⟩:=zK7 he
 obtain ⟨w,ew,rw'⟩:=r.get h2
 have hl:=r.length
 have hn:=zC3
 have fin:EP X pins σ Q w s:=⟨z,H,I,rw',q⟩
 exact subscriptTail_builtinR (x:=w) pl.typeIs slot_tuple_getitem.lookup
   (getItem_tuple (j:=j) (Q:=fun r s'=>r=w/\EP X pins σ Q r s') pl (by omega) (by omega) (by rw[List.size_toArray,<-hl];exact h1) (by simpa using ew) ⟨rfl,fin⟩) hs
theorem zO5:IxR X rIxS:=by
 intro value slice pins s σ H x y v u Q I rx ry h hs
 obtain ⟨z,i,c,rfl,rfl,hz,he,q⟩:=h
 obtain ⟨t,rfl⟩:=rx
 obtain ⟨t',rfl⟩:=ry
 obtain ⟨j,h1,h2,h3,h4,h5⟩:=zK7 he
 have hl:z.cps.toList.length=z.length:=by simp[Str.length]
 rw[hl] at h1 h4 h5
 have hn:=zC3
 exact tail_any (typeIs_str s z t) slot_str_getitem.lookup (getItem_str (c:=c) (by
   have e1:decide (i < -(2 ^ 63:Int))=false:=decide_eq_false (by omega)
   have e2:decide (i≥2 ^ 63)=false:=decide_eq_false (by omega)
   rw[e1,e2,Bool.or_false]) (by rw[h1];simpa using h2) ⟨.str ⟨#[c]⟩,H,I.tok _,⟨_,rfl⟩,q⟩) hs
noncomputable def rIx (K:W.Frag):R2:=fun x y H Q=>rIxL K x y H Q\/rIxT K x y H Q\/rIxS x y H Q
theorem ix_seq:IxR X (rIx X.K):=zb7.or (zK8.or zO5)
theorem mapSeq_set (its:List Value) (n j:Nat) (u:Value):Obj.mapSeq (·.setIfInBounds j u) { cls:=.type "list",data:=.seq its.toArray n } = { cls:=.type "list",data:=.seq (its.set j u).toArray n }:=by
 simp[Obj.mapSeq]
theorem Inv.lst {pins:List (Addr×Obj)} {σ:St} {H:Hp} {s:Shared} {p:Addr} {xs:List V} (I:Inv X pins σ H s) (h:H p=some (.lst xs)) :
   ∃ (its:List Value) (n:Nat),Vals xs its/\s.heap.get? p=some { cls:=.type "list",data:=.seq its.toArray n }/\xs.length<=sizeLine:=by
 obtain ⟨z,its,n,r,e⟩:=I.hok p _ h
 exact⟨its,n,r,e,z⟩
theorem Inv.lstUpd {pins:List (Addr×Obj)} {σ:St} {H:Hp} {s:Shared} {p:Addr} {xs ys:List V} {its its':List Value} {n n':Nat} {f:Obj->Obj} (I:Inv X pins σ H s) (h:H p=some (.lst xs))
   (ho:s.heap.get? p=some { cls:=.type "list",data:=.seq its.toArray n }) (hf:f { cls:=.type "list",data:=.seq its.toArray n } = { cls:=.type "list",data:=.seq its'.toArray n' }) (r:Vals ys its') (hz:ys.length<=sizeLine) (t:Nat) :
   Inv X pins σ (upd H p (.lst ys)) { s with heap:=s.heap.update p f,toks:=t }:=by
 have e:(s.heap.update p f).get? p=some { cls:=.type "list",data:=.seq its'.toArray n' }:=by
   rw[Heap.get?_update_self f ho (by rw[hf]<;>rfl),hf]
 refine I.write (x:=p) (e:=p) (by rw[h];trivial) (.inl rfl) (fun b u hb q=>(Heap.get?_update_other _ _ (Ne.symm hb)).trans q) ⟨_,e⟩ ?_
 exact⟨hz,its',n',r,e⟩
noncomputable def rSetL:V->V->V->Hp->(Hp->Prop)->Prop:=fun o i v H Q=>∃ p xs k j,o = .ref p/\i = .int k/\H p=some (.lst xs)/\ixN xs.length k=some j/\Q (upd H p (.lst (xs.set j v)))
theorem zs0:PSet X rSetL:=by
 intro pins s σ H o i v ov iv u Q I ro ri rv h
 obtain ⟨p,xs,k,j,rfl,rfl,hp,hj,q⟩:=h
 cases ro
 obtain ⟨t,rfl⟩:=ri
 obtain ⟨its,n,r,ho,hz⟩:=I.lst hp
 obtain ⟨h1,h2,h3,h4⟩:=zQ0 hj
 have hl:=r.length
 have hn:=zC3
 have I':Inv X pins σ (upd H p (.lst (xs.set j v))) { s with heap:=s.heap.update p (Obj.mapSeq (·.setIfInBounds j u)) } :=
   I.lstUpd hp ho (mapSeq_set its n j u) (r.set rv j) (by rw[List.length_set];exact hz) s.toks
 by_cases h0:0<=k
 . have hk:k.toNat=j:=by
     rw[seqIndex_of h0 h4] at h1
     exact Option.some.inj h1
   exact W.ki_setAt ho h0 (by omega) (by rw[List.size_toArray,<-hl];exact h4) (by rw[hk];exact⟨_,I',q⟩)
 . have hk:(k+(its.toArray.size:Int)).toNat=j:=by
     rw[seqIndex_neg (by omega) h3] at h1
     rw[List.size_toArray,<-hl]
     exact Option.some.inj h1
   exact W.ki_setBack ho (by omega) (by rw[List.size_toArray,<-hl];exact h3) (by omega) (by rw[hk];exact⟨_,I',q⟩)
theorem slice_bounds (lo hi:Option Int) (n:Nat):(sliceBounds lo hi none n).1=((HT.sIx n 0 lo:Nat):Int)/\(sliceBounds lo hi none n).2.1=((HT.sIx n n hi:Nat):Int)/\(sliceBounds lo hi none n).2.2=1:=by
 refine⟨?_,?_,rfl⟩
 . cases lo with
   | none=>simp[sliceBounds,HT.sIx]
   | some i =>
     simp only[sliceBounds,HT.sIx,Option.getD_none,show (1:Int)>0 by decide,if_true]
     by_cases h:i<0
     . simp only[h,if_true]<;>omega
     . simp only[h,if_false]<;>omega
 . cases hi with
   | none=>simp[sliceBounds,HT.sIx]
   | some i =>
     simp only[sliceBounds,HT.sIx,Option.getD_none,show (1:Int)>0 by decide,if_true]
     by_cases h:i<0
     . simp only[h,if_true]<;>omega
     . simp only[h,if_false]<;>omega
theorem slicePick_cut (its:List Value) (lo hi:Option Int):slicePick its.toArray lo hi none=((its.drop (HT.sIx its.length 0 lo)).take (HT.sIx its.length its.length hi-HT.sIx its.length 0 lo)).toArray:=by
 obtain ⟨h1,h2,h3⟩:=slice_bounds lo hi its.toArray.size
 unfold slicePick
 rw[h1,h2,h3]
 simp only[sliceRange_one,pick_run,List.size_toArray]<;>rfl
noncomputable def rSlL (K:W.Frag):V->Option Int->Option Int->Hp->VK->Prop:=fun x lo hi H Q=>∃ a xs,x = .ref a/\SqL K H a xs/\∀ p,H p=none->Q (.ref p) (upd H p (.lst (cutV xs lo hi)))
theorem zQ1:SlR X (rSlL X.K):=by
 intro pins s σ H x v vl vu lo hi sl Q I rx hs pl pu h
 obtain ⟨a,xs,rfl,hx,q⟩:=h
 cases rx
 obtain ⟨its,r,ht,hz⟩:=I.list hx
 have hlen:=r.length
 refine⟨"list",_,slot_list_getitem.lookup,ht.isList.typeIs,?_⟩
 refine wpAny_getItem_list_slice ht.isList hs pl pu .none (by simp) ?_ (by rw[List.size_toArray]<;>omega)
 rw[slicePick_cut,<-hlen]
 refine⟨.ref s.heap.objs.size,_,I.laid (t':=s.toks) (o:=.lst (cutV xs lo hi)) (fun b ob q=>Heap.get?_push_of_some _ q) (Nat.le_refl _) ?_,rfl,q _ (I.hok.fresh (Nat.le_refl _))⟩
 exact⟨Nat.le_trans (zD8 xs lo hi) hz,_,0,(r.drop (HT.sIx xs.length 0 lo)).take (HT.sIx xs.length xs.length hi-HT.sIx xs.length 0 lo),Heap.get?_push_size _ rfl⟩
noncomputable def zA3:V->Bool
 | .non=>true
 | .bl _=>true
 | .int _=>true
 | .str _=>true
 | _=>false
noncomputable def eqV:V->V->Bool
 | .non,.non=>true
 | .bl a,.bl b=>a == b
 | .bl a,.int b=>(if a then 1 else 0) == b
 | .int a,.bl b=>a == (if b then 1 else 0)
 | .int a,.int b=>a == b
 | .str a,.str b=>a == b
 | _,_=>false
theorem eqAt_V {A:Around} {s:Shared} {y x:V} {u v:Value} (ry:RelV y u) (rx:RelV x v) (fy:zA3 y=true) (fx:zA3 x=true):SeqAt.EqAt A s u v (eqV y x):=by
 cases y with
 | non =>
   cases ry
   cases x with
   | non=>cases rx;exact SeqAt.EqAt.same _
   | bl b=>cases rx;exact SeqAt.EqAt.none_bool b
   | int b=>obtain ⟨t,rfl⟩:=rx;exact SeqAt.EqAt.none_int b t
   | str b=>obtain ⟨t,rfl⟩:=rx;exact SeqAt.EqAt.none_str b t
   | _=>exact absurd (show false=true from fx) Bool.false_ne_true
 | bl a =>
   cases ry
   cases x with
   | non=>cases rx;exact SeqAt.EqAt.bool_none a
   | bl b=>cases rx;exact SeqAt.EqAt.bool_bool a b
   | int b=>obtain ⟨t,rfl⟩:=rx;exact SeqAt.EqAt.bool_int a b t
   | str b=>obtain ⟨t,rfl⟩:=rx;exact SeqAt.EqAt.bool_str a b t
   | _=>exact absurd (show false=true from fx) Bool.false_ne_true
 | int a =>
   obtain ⟨t',rfl⟩:=ry
   cases x with
   | non=>cases rx;exact SeqAt.EqAt.int_none a t'
   | bl b=>cases rx;exact SeqAt.EqAt.int_bool a t' b
   | int b=>obtain ⟨t,rfl⟩:=rx;exact SeqAt.EqAt.int_int a t' b t
   | str b=>obtain ⟨t,rfl⟩:=rx;exact SeqAt.EqAt.int_str a t' b t
   | _=>exact absurd (show false=true from fx) Bool.false_ne_true
 | str a =>
   obtain ⟨t',rfl⟩:=ry
   cases x with
   | non=>cases rx;exact SeqAt.EqAt.str_none a t'
   | bl b=>cases rx;exact SeqAt.EqAt.str_bool a t' b
   | int b=>obtain ⟨t,rfl⟩:=rx;exact SeqAt.EqAt.str_int a t' b t
   | str b=>obtain ⟨t,rfl⟩:=rx;exact SeqAt.EqAt.str_str a t' b t
   | _=>exact absurd (show false=true from fx) Bool.false_ne_true
 | _=>exact absurd (show false=true from fy) Bool.false_ne_true
noncomputable def eqU (x:V) (u:Value):Bool:=match u with
 | .none=>eqV .non x
 | .bool b=>eqV (.bl b) x
 | .int i _=>eqV (.int i) x
 | .str z _=>eqV (.str z) x
 | _=>false
theorem zT4 {x y:V} {u:Value} (r:RelV y u) (f:zA3 y=true):eqU x u=eqV y x:=by
 cases y with
 | non=>cases r;rfl
 | bl b=>cases r;rfl
 | int i=>obtain ⟨t,rfl⟩:=r;rfl
 | str z=>obtain ⟨t,rfl⟩:=r;rfl
 | _=>exact absurd (show false=true from f) Bool.false_ne_true
theorem zK9 {x:V}:∀ {xs:List V} {us:List Value},Vals xs us->xs.all zA3=true->us.any (eqU x)=xs.any fun y=>eqV y x
 | _,_,.nil,_=>rfl
 | y::xs,u::us,.cons r t,f=>by
   rw[List.all_cons,Bool.and_eq_true] at f
   rw[List.any_cons,List.any_cons,zT4 r f.1,zK9 t f.2]
theorem zF8 {A:Around} {s:Shared} {x:V} {v:Value} (rx:RelV x v) (fx:zA3 x=true):∀ {xs:List V} {us:List Value},Vals xs us->xs.all zA3=true->∀ u∈us,SeqAt.EqAt A s u v (eqU x u)
 | _,_,.nil,_=>fun u hu=>by cases hu
 | y::xs,u::us,.cons r t,f=>fun u' hu=>by
   rw[List.all_cons,Bool.and_eq_true] at f
   rcases List.mem_cons.mp hu with rfl | hu
   . rw[zT4 r f.1];exact eqAt_V r rx f.1 fx
   . exact zF8 rx fx t f.2 u' hu
noncomputable def inV (x:V) (xs:List V):Bool:=xs.any fun y=>eqV y x
noncomputable def rIn (K:W.Frag) (neg:Bool):R2:=fun x y H Q=>∃ p xs,y = .ref p/\(SqL K H p xs\/SqT K H p xs)/\zA3 x=true/\xs.all zA3=true/\Q (.bl (if neg then !inV x xs else inV x xs)) H
theorem op_in_seq:OpR X (compareOp .In) (rIn X.K false):=by
 intro pins s σ H x y v u Q I rx ry h
 obtain ⟨p,xs,rfl,hq,fx,fs,q⟩:=h
 cases ry
 rcases hq with hq | hq
 . obtain ⟨its,r,pl,hz⟩:=I.list hq
   refine SeqAt.in_listAt (eqU x) pl.isList (fun w hw=>zF8 rx fx r fs w (by simpa using hw)) ⟨.bl _,H,I,rfl,?_⟩
   rw[show its.toArray.any (eqU x)=its.any (eqU x) by simp,zK9 r fs]
   exact q
 . obtain ⟨its,r,pl,hz⟩:=I.tuple hq
   refine SeqAt.in_tupleAt (eqU x) pl (fun w hw=>zF8 rx fx r fs w (by simpa using hw)) ⟨.bl _,H,I,rfl,?_⟩
   rw[show its.toArray.any (eqU x)=its.any (eqU x) by simp,zK9 r fs]
   exact q
theorem zc2:zl2 X (.builtin "len") (fun xs H Q=>∃ p ys,xs=[.ref p]/\(SqL X.K H p ys\/SqT X.K H p ys)/\Q (.int ys.length) H):=by
 intro pins s σ H xs us Q I r h
 obtain ⟨p,ys,rfl,hq,q⟩:=h
 obtain ⟨u,rfl,rx⟩:=zr8 r
 cases rx
 have hn:=zC3
 rcases hq with hq | hq
 . obtain ⟨its,r',pl,hz⟩:=I.list hq
   have hlen:=r'.length
   exact Calls.call_len_list pl.isList (by simp only[List.size_toArray]<;>omega) ⟨.int ys.length,H,I.tok _,⟨s.toks+1,by rw[List.size_toArray,hlen]⟩,q⟩
 . obtain ⟨its,r',pl,hz⟩:=I.tuple hq
   have hlen:=r'.length
   exact len_tuple pl (by simp only[List.size_toArray]<;>omega) ⟨.int ys.length,H,I.tok _,⟨s.toks+1,by rw[List.size_toArray,hlen]⟩,q⟩
theorem zg7:zl2 X (.builtin "len") (fun xs H Q=>∃ z,xs=[.str z]/\z.length<=sizeLine/\Q (.int z.length) H):=by
 intro pins s σ H xs us Q I r h
 obtain ⟨z,rfl,hz,q⟩:=h
 obtain ⟨u,rfl,t,rfl⟩:=zr8 r
 have hn:=zC3
 exact len_str (by omega) ⟨.int z.length,H,I.tok _,⟨_,rfl⟩,q⟩
theorem call_list_of:zl2 X (.type "list") (fun xs H Q=>∃ p ys,xs=[.ref p]/\(SqL X.K H p ys\/SqT X.K H p ys)/\∀ l,H l=none->Q (.ref l) (upd H l (.lst ys))):=by
 intro pins s σ H xs us Q I r h
 obtain ⟨p,ys,rfl,hq,q⟩:=h
 obtain ⟨u,rfl,rx⟩:=zr8 r
 cases rx
 have fin:∀ (its:List Value),Vals ys its->ys.length<=sizeLine->∀ (h':Heap) (c':Nat),(∀ b o',s.heap.get? b=some o'->h'.get? b=some o') →
     h'.get? s.heap.objs.size=some { cls:=.type "list",dict:=none,data:=.seq its.toArray c',slots:=#[] }->EP X pins σ Q (.ref s.heap.objs.size) { s with heap:=h' }:=fun its r' hz h' c' kp e =>
   ⟨.ref s.heap.objs.size,_,I.laid (t':=s.toks) kp (Nat.le_refl _) (show zi0 X.prog X.w _ h' _ (.lst ys) from ⟨hz,its,c',r',e⟩),rfl,q _ (I.hok.fresh (Nat.le_refl _))⟩
 rcases hq with hq | hq
 . obtain ⟨its,r',pl,hz⟩:=I.list hq
   have hlen:=r'.length
   obtain ⟨o,ho,hc,n,hd⟩:=pl.isList
   exact call_list_seq p (.inl rfl) ho hc hd (fun h' c' kp e=>fin its r' hz h' c' kp e) (by simp only[List.size_toArray]<;>omega)
 . obtain ⟨its,r',pl,hz⟩:=I.tuple hq
   have hlen:=r'.length
   obtain ⟨o,ho,hc,n,hd⟩:=pl
   exact call_list_seq p (.inr rfl) ho hc hd (fun h' c' kp e=>fin its r' hz h' c' kp e) (by simp only[List.size_toArray]<;>omega)
theorem zy6:zl2 X (.type "tuple") (fun xs H Q=>∃ p ys,xs=[.ref p]/\((SqL X.K H p ys/\∀ l,H l=none->Q (.ref l) (upd H l (.tup ys)))\/(SqT X.K H p ys/\Q (.ref p) H))):=by
 intro pins s σ H xs us Q I r h
 obtain ⟨p,ys,rfl,h⟩:=h
 obtain ⟨u,rfl,rx⟩:=zr8 r
 cases rx
 rcases h with ⟨hq,q⟩ | ⟨hq,q⟩
 . obtain ⟨its,r',pl,hz⟩:=I.list hq
   have hlen:=r'.length
   refine call_tuple_list pl.isList (fun h' kp=>?_) (by simp only[List.size_toArray]<;>omega)
   have I1:Inv X pins σ H { s with heap:=h' }:=I.kept (t':=s.toks) kp
   have I2:Inv X pins σ (upd H h'.objs.size (.tup ys)) { s with heap:=h'.push { cls:=.type "tuple",data:=.seq its.toArray } } :=
     I1.laid (t':=s.toks) (fun b o e=>Heap.get?_push_of_some _ e) (Nat.le_refl _) (show zi0 X.prog X.w _ _ _ (.tup ys) from ⟨hz,its,r',TupD.new _ _⟩)
   exact⟨.ref h'.objs.size,_,I2,rfl,q _ (I1.hok.fresh (Nat.le_refl _))⟩
 . obtain ⟨its,r',pl,hz⟩:=I.tuple hq
   exact call_tuple_same pl ⟨.ref p,H,I,rfl,q⟩
noncomputable def tyV (K:W.Frag) (T:String) (x:V) (H:Hp):Prop:=match x with
 | .str _=>T = "str"
 | .int _=>T = "int"
 | .ref p=>(T = "list"/\∃ xs,SqL K H p xs)\/(T = "tuple"/\∃ o,K.lookup p=some o/\o.cls = .type "tuple"/\o.dict=none) ∨
     (T = "dict"/\((∃ kvs,H p=some (.dK kvs))\/∃ kvs,H p=some (.dT kvs)))\/(T = "set"/\∃ S n,H p=some (.set S n))
 | _=>False
theorem zT5 {pins:List (Addr×Obj)} {σ:St} {H:Hp} {s:Shared} {T:String} {x:V} {v:Value} (I:Inv X pins σ H s) (r:RelV x v) (ty:tyV X.K T x H) :
   s.TypeIs v T/\∀ a,v = .ref a->∃ ob,s.heap.get? a=some ob/\ob.dict=none:=by
 cases x with
 | str z =>
   obtain ⟨t,rfl⟩:=r
   cases (show T = "str" from ty)
   exact⟨typeIs_str s z t,fun _ e=>nomatch e⟩
 | int i =>
   obtain ⟨t,rfl⟩:=r
   cases (show T = "int" from ty)
   exact⟨typeIs_int s i t,fun _ e=>nomatch e⟩
 | ref p =>
   cases r
   rcases ty with ⟨rfl,xs,hq⟩ | ⟨rfl,o,hk,hc,hd⟩ | ⟨rfl,hk⟩ | ⟨rfl,S,n,hk⟩
   . obtain ⟨its,_,pl,_⟩:=I.list hq
     refine⟨pl.isList.typeIs,fun a e=>?_⟩
     cases e
     obtain ⟨o,n,e,c,hd,_⟩:=pl
     exact⟨o,e,hd⟩
   . refine⟨⟨o,I.kIn p o hk,hc⟩,fun a e=>?_⟩
     cases e
     exact⟨o,I.kIn _ o hk,hd⟩
   . have z:∃ o,s.heap.get? p=some o/\o.ExactDict:=by
       rcases hk with ⟨kvs,hk⟩ | ⟨kvs,hk⟩
       . obtain ⟨_,_,_,_,o,_,_,e,ex,_⟩:=I.hok p _ hk
         exact⟨o,e,ex⟩
       . obtain ⟨_,_,_,_,o,_,_,e,ex,_⟩:=I.hok p _ hk
         exact⟨o,e,ex⟩
     obtain ⟨o,e,ex⟩:=z
     refine⟨⟨o,e,ex.1⟩,fun a e2=>?_⟩
     cases e2
     exact⟨o,e,ex.2.1⟩
   . obtain ⟨o,_,_,_,e,ex,_⟩:=I.hok p _ hk
     refine⟨⟨o,e,ex.1⟩,fun a e2=>?_⟩
     cases e2
     exact⟨o,e,ex.2.1⟩
 | _=>exact False.elim ty
noncomputable def tBM0 (K:W.Frag) (T:String) (r:V->List V->Hp->VK->Prop) (to:TE):TE:=fun σ H Q=>to σ H fun x H1=>tyV K T x H1/\r x [] H1 Q
noncomputable def tBM (K:W.Frag) (T:String) (r:V->List V->Hp->VK->Prop) (to:TE) (t:TA):TE:=fun σ H Q=>to σ H fun x H1=>tyV K T x H1/\t σ H1 fun xs H2=>r x xs H2 Q
variable {o e:Expr} {es:List Expr} {to:TE} {t:TA} {name:Str} {apos cpos:Pos} {T id:String} {r:V->List V->Hp->VK->Prop}
theorem pe_bm0 (pa:PlainAttrs T) (slot:Slot T name id) (hty:typeOf (.builtin id)=pure (.type "method_descriptor")) (hm:MtR X id r) (ho:PE X o to)
   (hbase:attributeBase o name X.env (eval o X.env)=eval o X.env:=by rfl) (hline:(apos.endLine == cpos.line)=true:=by rfl):PE X (.Call (.Attribute o name apos) [] [] cpos) (tBM0 X.K T r to):=by
 intro pins s σ H Q I h
 refine wpAny_Call_method0_late hbase hline (thn (ho pins s σ H _ I h) fun v s1 ⟨x,H1,I1,r1,ty,q1⟩=>?_)
 obtain ⟨h1,h2⟩:=zT5 I1 r1 ty
 exact⟨T,id,pa,slot,hty,h1,h2,Calls.callWith_builtin rfl (PySem.evalArgs_none (hm pins s1 σ H1 x [] v [] Q I1 r1 .nil q1))⟩
theorem zk0 (pa:PlainAttrs T) (slot:Slot T name id) (hty:typeOf (.builtin id)=pure (.type "method_descriptor")) (hm:MtR X id r) (ho:PE X o to) (ha:PA X (e::es) t)
   (hbase:attributeBase o name X.env (eval o X.env)=eval o X.env:=by rfl)
   (hfew:((backTo cpos (starEach (e::es) X.env)).all (fun x=>!x.1) && (backToKw cpos (keywordEach [] X.env)).all (fun x=>x.1.isSome)
     && decide ((e::es).length+([]:List Keyword).length+(if ([]:List Keyword).isEmpty then 0 else 1)<30))=true:=by rfl)
   (hline:(apos.endLine == cpos.line)=true:=by rfl) (hs:starEach (e::es) X.env=(false,eval e X.env)::starEach es X.env:=by rfl) (hplain:(backTo cpos (starEach es X.env)).any (·.1)=false:=by rfl) :
   PE X (.Call (.Attribute o name apos) (e::es) [] cpos) (tBM X.K T r to t):=by
 intro pins s σ H Q I h
 refine wpAny_Call_method_late hbase hfew hline rfl (thn (ho pins s σ H _ I h) fun v s1 ⟨x,H1,I1,r1,ty,q1⟩=>?_)
 obtain ⟨h1,h2⟩:=zT5 I1 r1 ty
 refine⟨T,id,pa,slot,hty,h1,h2,?_⟩
 have hA:=ha cpos pins s1 σ H1 _ I1 q1
 rw[hs] at hA ⊢
 refine Calls.callWith_builtin (by show (false || (backTo cpos (starEach es X.env)).any (·.1))=false;rw[hplain]<;>rfl) (Calls.evalArgs_plain ?_)
 exact thn hA fun us s2 ⟨vs,H2,I2,r2,q2⟩=>hm pins s2 σ H2 x vs v us Q I2 r1 r2 q2
/- xs.append(e),list.index on a module's tuple .. are MtR facts of 06m -/
end
end L2
namespace L2
open PySem PySem.Spec PyProof.Rows
noncomputable def MtM (X:Cx) (id:String) (r:V->List V->Hp->VK->Prop):Prop :=
 ∀ (pins:List (Addr×Obj)) (s:Shared) (σ:St) (H:Hp) (x:V) (xs:List V) (v:Value) (us:List Value) (Q:VK),Inv X pins σ H s->RelV x v->Vals xs us->r x xs H Q →
   wpAny (model X.prog X.w) X.A (call (.builtin id) (v::us)) (EP X pins σ Q) X.xe s
theorem Vals.one:∀ {x:V} {us:List Value},Vals [x] us->∃ u,us=[u]/\RelV x u
 | _,_,.cons r .nil=>⟨_,rfl,r⟩
theorem Vals.zero:∀ {us:List Value},Vals [] us->us=[]
 | _,.nil=>rfl
theorem Vals.rep {xs:List V} {us:List Value} (h:Vals xs us):∀ k:Nat,Vals (List.replicate k xs).flatten (List.replicate k us).flatten
 | 0=>.nil
 | k+1=>by
   rw[List.replicate_succ,List.replicate_succ,List.flatten_cons,List.flatten_cons]
   exact Vals.append h (Vals.rep h k)
theorem zI0 (its:List Value):∀ (k:Nat) (acc:List Value),
   List.foldl (fun x1 x2=>x1++x2) acc.toArray (List.replicate k its.toArray)=(acc++(List.replicate k its).flatten).toArray
 | 0,acc=>by simp
 | k+1,acc=>by
   have e:acc.toArray++its.toArray=(acc++its).toArray:=by simp
   have e2:(acc++its)++(List.replicate k its).flatten=acc++(List.replicate (k+1) its).flatten:=by
     rw[List.replicate_succ,List.flatten_cons,List.append_assoc]
   rw[<-e2,<-zI0 its k (acc++its),<-e,List.replicate_succ,List.foldl_cons]
section
variable {X:Cx} {pins:List (Addr×Obj)} {σ:St} {H:Hp} {s:Shared} {l b:Addr} {xs ys zs:List V}
theorem Inv.lset {its its':List Value} {n:Nat} {f:Array Value->Array Value} {t':Nat} (I:Inv X pins σ H s) (hH:H l=some (.lst xs))
   (e:s.heap.get? l=some { cls:=.type "list",data:=.seq its.toArray n }) (hf:f its.toArray=its'.toArray) (hv:Vals ys its') (hz:ys.length<=sizeLine) :
   Inv X pins σ (upd H l (.lst ys)) { s with heap:=s.heap.update l (Obj.mapSeq f),toks:=t' }:=by
 have q:=PySem.IsL.update e f
 rw[hf] at q
 refine I.write (x:=l) (e:=l) (by rw[hH];exact trivial) (.inl rfl) (fun b' u hb hu=>(Heap.get?_update_other s.heap (Obj.mapSeq f) (Ne.symm hb)).trans hu) ⟨_,q⟩ ?_
 exact⟨hz,its',_,hv,q⟩
theorem Inv.lnew {its:List Value} {t':Nat} (I:Inv X pins σ H s) (hv:Vals ys its) (hz:ys.length<=sizeLine) :
   Inv X pins σ (upd H s.heap.objs.size (.lst ys)) { s with heap:=s.heap.push { cls:=.type "list",data:=.seq its.toArray },toks:=t' } :=
 I.laid (fun _ _ q=>Heap.get?_push_of_some _ q) (Nat.le_refl _) ⟨hz,its,0,hv,Heap.get?_push_size _ rfl⟩
theorem Inv.fresh (I:Inv X pins σ H s):H s.heap.objs.size=none:=I.hok.fresh (Nat.le_refl _)
theorem Inv.lstM (I:Inv X pins σ H s) (hH:H l=some (.lst xs)):xs.length<=sizeLine/\∃ (its:List Value) (n:Nat),Vals xs its/\xs.length=its.length/\s.heap.get? l=some { cls:=.type "list",data:=.seq its.toArray n }:=by
 obtain ⟨z,its,n,r,e⟩:=I.hok l _ hH
 exact⟨z,its,n,r,r.length,e⟩
theorem notLongL {n:Nat} (h:n<=sizeLine):Builtin.List.listTooLong n=false:=by
 unfold Builtin.List.listTooLong
 exact decide_eq_false (by omega)
end
section
variable {X:Cx}
noncomputable def rAppend:V->List V->Hp->VK->Prop:=fun x vs H Q=>∃ l xs y,x = .ref l/\vs=[y]/\H l=some (.lst xs)/\xs.length<sizeLine/\Q .non (upd H l (.lst (xs++[y])))
theorem zj5:MtM X "list.append" rAppend:=by
 intro pins s σ H x vs v us Q I rx rv h
 obtain ⟨l,xs,y,rfl,rfl,hH,hz,q⟩:=h
 cases rx
 obtain ⟨u,rfl,ru⟩:=rv.one
 obtain ⟨z,its,n,r,hl,e⟩:=I.lstM hH
 refine call_meets F.slot_list_append ⟨_,e,rfl⟩ F.entry_list_append (F.args_list_append_2 _ _) (PySem.list_append l its.toArray n u (by rw[List.size_toArray];omega)) ⟨e,?_⟩
 refine⟨.non,_,I.lset (its':=its++[u]) hH e (by simp) (r.append (.cons ru .nil)) ?_,rfl,q⟩
 rw[List.length_append,List.length_singleton]
 omega
noncomputable def rCat:R2:=fun x y H Q=>∃ l b xs zs,x = .ref l/\y = .ref b/\H l=some (.lst xs)/\H b=some (.lst zs)/\xs.length+zs.length<=sizeLine/\∀ p,H p=none->Q (.ref p) (upd H p (.lst (xs++zs)))
theorem zT6:OpR X (binaryOp .Add) rCat:=by
 intro pins s σ H x y v u Q I rx ry h
 obtain ⟨l,b,xs,zs,rfl,rfl,hH,hB,hz,q⟩:=h
 cases rx
 cases ry
 obtain ⟨z,its,n,r,hl,e⟩:=I.lstM hH
 obtain ⟨z2,its2,n2,r2,hl2,e2⟩:=I.lstM hB
 refine PySem.P.add_list e e2 ?_ (by rw[List.size_toArray,List.size_toArray];omega)
 have ea:its.toArray++its2.toArray=(its++its2).toArray:=by simp
 rw[ea]
 exact⟨.ref _,_,I.lnew (t':=s.toks) (r.append r2) (by rw[List.length_append];omega),rfl,q _ I.fresh⟩
noncomputable def rRep:R2:=fun x y H Q=>∃ l k xs,x = .ref l/\y = .int k/\H l=some (.lst xs)/\-(2 ^ 63)<=k/\k<2 ^ 63/\xs.length*k.toNat<=sizeLine ∧
 ∀ p,H p=none->Q (.ref p) (upd H p (.lst (List.replicate k.toNat xs).flatten))
theorem zL0 {α:Type} (xs:List α) (k:Nat):(List.replicate k xs).flatten.length=k*xs.length:=by
 induction k with
 | zero=>simp
 | succ k ih=>rw[List.replicate_succ,List.flatten_cons,List.length_append,ih,Nat.succ_mul,Nat.add_comm]
theorem zO6:OpR X (binaryOp .Mult) rRep:=by
 intro pins s σ H x y v u Q I rx ry h
 obtain ⟨l,k,xs,rfl,rfl,hH,h1,h2,hz,q⟩:=h
 cases rx
 obtain ⟨t,rfl⟩:=ry
 obtain ⟨z,its,n,r,hl,e⟩:=I.lstM hH
 have hlen:its.toArray.size*k.toNat<=sizeLine:=by rw[List.size_toArray,<-hl];exact hz
 have hcap:¬ its.toArray.size*k.toNat>(2 ^ 63-1) / 8:=by
   have:(sizeLine:Nat)<=(2 ^ 63-1) / 8:=by decide
   omega
 have hfit:¬ (!Builtin.List.listFitsIndex k)=true:=by
   rw[fitsIndex_both h1 h2]
   exact Bool.false_ne_true
 have hlong:¬ Builtin.List.listTooLong (its.toArray.size*k.toNat)=true:=by
   rw[notLongL hlen]
   exact Bool.false_ne_true
 have hnew:List.foldl (fun x1 x2=>x1++x2) #[] (List.replicate (if its.toArray.isEmpty=true then 0 else k.toNat) its.toArray)=(List.replicate k.toNat its).flatten.toArray:=by
   have f0:∀ m:Nat,List.foldl (fun x1 x2=>x1++x2) #[] (List.replicate m its.toArray)=(List.replicate m its).flatten.toArray:=fun m=>by
     have:=zI0 its m []
     rw[List.nil_append] at this
     exact this
   rw[f0]
   cases its with
   | nil=>simp
   | cons a r'=>rw[if_neg (by simp)]
 refine wpAny_binaryOp_repeat_ref (T:="list") (U:="int") (by decide) ⟨_,e,rfl⟩ (fun s'=>typeIs_int s' k t) noFill_list_mul F.fills_int_mul F.slot_int_rmul repeat_list F.slot_int_index.lookup
   (call_meets F.slot_int_rmul (typeIs_int s k t) F.entry_int_rmul (F.args_int_rmul_2 _ _) (int___rmul___int_list k t l its.toArray n)
     ⟨e,rfl,⟨_,e,rfl⟩,call_meets F.slot_list_mul ⟨_,e,rfl⟩ F.entry_list_mul (F.args_list_mul_2 _ _) (AutoListH.list___mul___list_int_3 l its.toArray n k t hfit hcap hlong) ⟨e,?_⟩⟩)
 rw[hnew]
 exact⟨.ref _,_,I.lnew (t':=s.toks) (r.rep k.toNat) (by rw[zL0,Nat.mul_comm];exact hz),rfl,q _ I.fresh⟩
end
section
variable {prog:Program} {w:World} {A:Around} {E:Value->Shared->Prop} {s:Shared}
end
section
variable {X:Cx}
end
end L2
namespace Att
open PySem PySem.W PySem.Calls PyProof.Rows
theorem ints_of_wellAll {P:Params} {h:Heap}:∀ (ns:List Int) (vs:List Value),WellAll P h vs (ns.map WData.int)->IntsAre vs ns:=by
 intro ns
 induction ns with
 | nil =>
   intro vs w
   rw[List.map_nil] at w
   cases w
   exact .nil
 | cons n ns ih =>
   intro vs w
   rw[List.map_cons] at w
   cases w with
   | cons a b =>
     cases a
     exact .cons _ _ (ih _ b)
theorem script_of {l:OpenLaw} {n:Nat} (hn:l.most=some n) {P:Params} {h:Heap} {args:List WData} {vals:List Value}
   (hpre:l.row.toRowW.claim.pre args=true) (hwl:WellAll P h vals args) :
   ∃ a vs ns,vals=[Value.ref a]/\args=[WData.list (ns.map WData.int)]/\h.get? a=some { cls:=.type "list",data:=.seq vs.toArray }/\IntsAre vs ns/\ns.length<=n:=by
 have hsh:WShape.hasAll [] args [.list .int]=true:=(pre_splitW hpre).1
 have hc:l.pre.holds [] { args:=args }=true:=(pre_splitW hpre).2
 obtain ⟨d,r,rfl,h1,h2⟩:=hasAllW_cons hsh
 obtain rfl:=hasAllW_nil h2
 obtain ⟨xs,rfl,h3⟩:=hasW_list h1
 obtain ⟨ns,rfl⟩:=items_int h3
 have hlen:ns.length<=n:=by
   unfold OpenLaw.pre at hc
   have h4:(WTm.not (.lt (.lit (.int (n:Int))) (.len (.arg 0)))).holds [] { args:=[.list (ns.map .int)] }=true:=by
     have h4:=(holds_andW hc).1
     rw[hn] at h4
     exact h4
   have h5:=condW_of h4 (w_not (w_lt w_lit (w_len_list (w_arg rfl))))
   rw[List.length_map] at h5
   refine Nat.le_of_not_lt fun q=>?_
   have q':(n:Int)<((ns.length:Nat):Int):=by omega
   first
     | (rw[decide_eq_true q'] at h5;exact absurd h5 (by decide))
     | (simp at h5;omega)
 cases hwl with
 | cons w1 w2 =>
   cases w2
   cases w1 with
   | list ho hall=>exact⟨_,_,ns,rfl,rfl,ho,ints_of_wellAll ns _ hall,hlen⟩
theorem post_true (l:OpenLaw) (args:List WData):l.row.toRowW.claim.post args (.bool true) args=true :=
 postW_of (r:=l.row.toRowW) (X:=(true == true))
   (show WShape.has [] (.bool true) .bool=true by first | rfl | decide | simp[WShape.has,WShape.arms,WShape.armsAll])
   (show (WTm.eq .res (.lit (.bool true))).value [] { args:=args,res:=some (.bool true),after:=args }=some (.bool (true == true)) from w_eq_bool (w_res rfl) w_lit) rfl
theorem attach_call {l:OpenLaw} {n:Nat} {q:Program} {loose:List Str} {XP:(Str->Option Value)->Heap->Prop} {YP:World->Heap->Prop} {d:DefRec}
   (hn:l.most=some n) (hdf:d.params.defaults=[])
   (call:∀ (w:World) (s₀ s₁:Shared) (mg mb:Str->Option Value) (fa:Addr) (o:Obj) (pm cd doc:Value) (a:Addr) (vs:List Value) (ns:List Int),
     Ground q loose [] XP w s₀ mg mb s₁.heap->YP w s₁.heap →
     s₁.heap.get? fa=some o->o.data = .func (docDef d.name d.params d.body d.scope pm cd doc)->s₁.heap.CodeRec cd d.name->mg d.name=some (.ref fa) →
     s₁.heap.get? a=some { cls:=.type "list",data:=.seq vs.toArray }->IntsAre vs ns->ns.length<=n->s₁.gens = #[] →
     codeAny (model l.prog w) callerA (.call (.ref fa) ⟨[.ref a],[]⟩) (fun r s'=>r = .ok (.ret (.bool true))/\OldK s₁.heap s'.heap/\s'.os=s₁.os/\AllBare s'.gens) s₁) :
   WalkO q loose XP YP l.row.toRowW d [] (fun f vs=>PySem.call f vs):=by
 intro w s₀ s₁ mg mb G Y fa o pm cd doc dV kV ho hd hcd hD hmg hg args vals as hpre hlay hrd hwl hlo
 obtain rfl:dV = .none:=Dflts.none hD hdf
 obtain rfl:kV = .none:=Dflts.noKw hD
 obtain ⟨a,vs,ns,rfl,rfl,hobj,hints,hlen⟩:=script_of hn hpre hwl
 refine enter_call (codeAny_mono (call w s₀ s₁ mg mb fa o pm cd doc a vs ns G Y ho (fd_plain hd) hcd hmg hobj hints hlen hg) fun r s' hq=>?_)
 obtain ⟨rfl,h2,h3,h4⟩:=hq
 exact⟨.inl ⟨.bool true,.bool true,[],rfl,fun _=>rfl,.bool true,post_true l _,fun _=>⟨List.Pairwise.nil,fun _ hm=>(nomatch hm)⟩⟩,h2,h3,h4⟩
section
variable {prog:Program} {w:World} {A:Around} {E:Value->Shared->Prop} {s:Shared} {K:Frag}
end
end Att
namespace L2
open PySem PySem.Spec PyProof.Rows
theorem zI1:∀ {vs:List Value} {ns:List Int},IntsAre vs ns->Vals (ns.map V.int) vs
 | _,_,.nil=>.nil
 | _,_,.cons n t h=>.cons ⟨t,rfl⟩ (zI1 h)
noncomputable def Only (H:Hp):Prop:=∀ b,H b=none\/∃ o xs,H b=some (.frz o (.lst xs))
theorem law_call {P:Program} {w:World} {K:W.Frag} {mg mb:Str->Option Value} {CX:CXT} {k:Nat} {fa a:Addr} {fd:FuncData} {x:Str} {sp:Sp} {s₁:Shared} {vs:List Value} {ns:List Int}
   (KX:K.In s₁.heap) (hns:s₁.heap.Ns mainGlobals mg) (hb:s₁.heap.Ns builtinsNs mb) (hbb:∀ x:Str,x≠"__name__"->mb x=bootBuiltins x) (hlim:s₁.heap.NoLimit) (hg:s₁.gens = #[])
   (ha:s₁.heap.get? a=some { cls:=.type "list",data:=.seq vs.toArray }) (hi:IntsAre vs ns) (hl:ns.length<=sizeLine) (hr:Room k callerA)
   (F:∀ base:Heap,K.In base->base.Ns mainGlobals mg->FnOk P w K mg base CX k fa fd [x] sp) (hbind:∀ (s:Shared) (u:Value),BindsTo s fd ⟨[u],[]⟩ [(x,u)])
   (hsp:∀ H:Hp,Only H->SqL K H a (ns.map V.int)->sp [.ref a] H (fun v _=>v = .bl true) fun _ _ _=>False)
   (hCX:∀ H e s',CX [] H s₁ (fun _ _ _=>False) e s'->False) :
   codeAny (model P w) callerA (.call (.ref fa) ⟨[.ref a],[]⟩) (fun r s'=>r = .ok (.ret (.bool true))/\OldK s₁.heap s'.heap/\s'.os=s₁.os/\AllBare s'.gens) s₁:=by
 have rv:=zI1 hi
 have lenV:=hi.length
 have core:∀ H:Hp,Only H->SqL K H a (ns.map V.int)->HOk P w H s₁.heap->(∀ b,H b≠none->b=a)->(H a≠none->K.lookup a=none) →
     codeAny (model P w) callerA (.call (.ref fa) ⟨[.ref a],[]⟩) (fun r s'=>r = .ok (.ret (.bool true))/\OldK s₁.heap s'.heap/\s'.os=s₁.os/\AllBare s'.gens) s₁:=by
   intro H hO hS hok hA hK
   have base_of:∀ {b:Addr} {o:Obj},s₁.heap.get? b=some o->H b=none->(hidT s₁.heap H).get? b=some o:=fun e n=>hidT_get e n
   have noA:∀ {b:Addr} {o:Obj} {es:Array DictEntry} {ep:Nat},s₁.heap.get? b=some o->o.data = .dict es ep->H b=none:=fun {b o es ep} e d=>by
     cases q:H b with
     | none=>rfl
     | some u =>
       have e':b=a:=hA b (by rw[q];simp)
       subst e'
       rw[ha] at e;cases e
       have d':Data.seq vs.toArray _=Data.dict es ep:=d
       cases d'
   have nsK:∀ {b:Addr} {m:Str->Option Value},s₁.heap.Ns b m->(hidT s₁.heap H).Ns b m:=fun {b m} ⟨o,es,ep,e,d,r⟩=>⟨o,es,ep,base_of e (noA e d),d,r⟩
   have hKb:K.In (hidT s₁.heap H):=fun b o e=>base_of (KX b o e) (by
     cases q:H b with
     | none=>rfl
     | some u =>
       have e':b=a:=hA b (by rw[q];simp)
       subst e'
       rw[hK (by rw[q];simp)] at e;cases e)
   have hM:Mod K mg (hidT s₁.heap H):=⟨hKb,nsK hns,⟨mb,nsK hb,hbb⟩,let ⟨mc,h1,h2⟩:=hlim;⟨mc,nsK h1,h2⟩⟩
   have e0:Env0 P w K mg (hidT s₁.heap H) callerA [] s₁ H:=⟨rfl,hM,fun b o e=>of_hidT e,Nat.le_of_eq (hidT_size _ _),trivial,fun b hb=>absurd (show b∈([]:List Addr) from hb) (by simp),hok,.of_eq hg⟩
   refine codeAny_mono ((F _ hKb (nsK hns)).run callerA [] s₁ H ⟨[.ref a],[]⟩ [.ref a] [.ref a] _ _ hr e0 (hbind s₁ (.ref a)) (.cons rfl .nil) (hsp H hO hS)) fun r s' h=>?_
   cases r with
   | error e=>exact (hCX H e s' h).elim
   | ok fl =>
     cases fl with
     | next=>exact False.elim h
     | brk=>exact False.elim h
     | cont=>exact False.elim h
     | ret u =>
       obtain ⟨v,H',os,bare,un,hok',r',q⟩:=h
       have q':v = .bl true:=q
       subst q'
       obtain rfl:u=Value.bool true:=r'
       refine⟨rfl,OldK.of_keep fun b o e=>?_,os,bare⟩
       cases q:H b with
       | none=>exact un.keep b o e q (by intro z;exact absurd (show b∈([]:List Addr) from z) (by simp)) (by simp)
       | some u =>
         rcases hO b with z | ⟨ob,xs,z⟩
         . rw[q] at z;cases z
         . have z2:=un.frzs b ob _ z
           obtain ⟨e1,_⟩:=hok b _ z
           obtain ⟨e2,_⟩:=hok' b _ z2
           rw[e] at e1;cases e1
           exact e2
 cases hk:K.lookup a with
 | some o =>
   have e:=KX a o hk
   rw[ha] at e
   cases e
   refine core (fun _=>none) (fun _=>.inl rfl) (.inr ⟨_,vs.toArray,_,hk,rfl,rfl,rfl,by rw[List.size_toArray,lenV];exact hl,by simpa using rv⟩) (fun b u z=>by have z':(none:Option HO)=some u:=z;cases z') (fun b z=>absurd rfl z) fun z=>absurd rfl z
 | none =>
   refine core (fun b=>if b=a then some (.frz { cls:=.type "list",data:=.seq vs.toArray } (.lst (ns.map V.int))) else none) (fun b=>?_) (.inl (.inr ⟨{ cls:=.type "list",data:=.seq vs.toArray },if_pos rfl⟩)) (fun b u z=>?_) (fun b z=>?_) fun _=>hk
   . by_cases hb:b=a
     . exact .inr ⟨_,_,if_pos hb⟩
     . exact .inl (if_neg hb)
   . by_cases hb:b=a
     . have z':=(if_pos hb).symm.trans z
       cases z'
       subst hb
       exact⟨ha,by rw[List.length_map];exact hl,vs,_,rv,ha⟩
     . have z':=(if_neg hb).symm.trans z
       cases z'
   . by_cases hb:b=a
     . exact hb
     . exact absurd (if_neg hb) z
end L2
namespace L2
open PySem PySem.Spec PyProof.Rows
theorem walk_of {l:W.OpenLaw} {n k:Nat} {q:Program} {loose:List Str} {XP:(Str->Option Value)->Heap->Prop} {YP:World->Heap->Prop} {d:DefRec} {K:Params->W.Frag} {CX:World->CXT} {sp:World->Sp} {x:Str}
   (hn:l.most=some n) (hn2:n<=sizeLine) (hdf:d.params.defaults=[]) (hr:Room k callerA)
   (hY:∀ (w:World) (h:Heap),YP w h->(K w.params).In h)
   (F:∀ (w:World) (mg:Str->Option Value) (fa:Addr) (h:Heap),(K w.params).In h->h.Ns mainGlobals mg->mg d.name=some (.ref fa) →
     ∃ fd:FuncData,(∀ (s:Shared) (u:Value),BindsTo s fd ⟨[u],[]⟩ [(x,u)]) ∧
       ∀ base:Heap,(K w.params).In base->base.Ns mainGlobals mg->FnOk l.prog w (K w.params) mg base (CX w) k fa fd [x] (sp w))
   (hsp:∀ (w:World) (H:Hp) (a:Addr) (ns:List Int),ns.length<=n->Only H->SqL (K w.params) H a (ns.map V.int)->sp w [.ref a] H (fun v _=>v = .bl true) fun _ _ _=>False)
   (hCX:∀ (w:World) (H:Hp) (s:Shared) (e:Value) (s':Shared),CX w [] H s (fun _ _ _=>False) e s'->False) :
   W.WalkO q loose XP YP l.row.toRowW d [] (fun f vs=>PySem.call f vs):=by
 refine Att.attach_call hn hdf fun w s₀ s₁ mg mb fa o pm cd doc a vs ns G Y ho hd hcd hmg hobj hints hlen hg=>?_
 have KX:=hY w _ Y
 obtain ⟨fd,hb,hF⟩:=F w mg fa _ KX G.T.g hmg
 exact law_call KX G.T.g G.T.b G.T.builtins G.T.nolimit hg hobj hints (Nat.le_trans hlen hn2) hr hF hb (fun H hO hS=>hsp w H a ns hlen hO hS) fun H e s'=>hCX w H s₁ e s'
end L2
namespace L2
open PySem PySem.Spec PyProof.Rows
noncomputable def zo5 (s:Stmt) (j:Nat):Stmt:=match s with
 | .ClassDef _ _ _ body _ _ _ _ _ _ _=>body.getD j (.Pass ⟨0,0,0,0⟩)
 | _=>.Pass ⟨0,0,0,0⟩
noncomputable def zb8 (s:Stmt):Arguments:=match s with
 | .FunctionDef _ a _ _ _ _ _ _ _ _=>a
 | _=>{ posonlyargs:=[],args:=[],vararg:=none,kwonlyargs:=[],kw_defaults:=[],kwarg:=none,defaults:=[] }
noncomputable def za9 (s:Stmt):List Stmt:=match s with
 | .FunctionDef _ _ b _ _ _ _ _ _ _=>b
 | _=>[]
noncomputable def za4 (s:Stmt):Scope:=match s with
 | .FunctionDef _ _ _ _ _ _ sc _ _ _=>sc
 | _=>{ kind:=.function,names:=[],isGenerator:=false,isCoroutine:=false }
noncomputable abbrev CX0:CXT:=fun _ _ _ _ _ _=>False
noncomputable abbrev E0:XK:=fun _ _ _=>False
theorem zc4 {X:Cx}:zk4 CX0 X E0:=fun _ _ _ _ _ _ _ h=>h.elim
structure Fun (K:W.Frag) (x qual:Str) (st:Stmt) (f:Addr) (fd:FuncData):Prop where
 ex:∃ (oc:Value) (od:Option Addr) (kV doc pm:Value) (an:Option Addr) (cdv ct:Value) (osl:Array (Option Value)),
   fd=W.fnOf x qual (zb8 st) (za9 st) (za4 st) .none kV doc pm an cdv ct/\K.lookup f=some ⟨oc,od,.func fd,osl⟩/\W.codeIn K cdv qual=true
 kp:W.keepIn K (.ref f)=true
section
variable {P:Program} {w:World} {K:W.Frag} {mg:Str->Option Value} {base:Heap}
theorem Fun.ok {x qual:Str} {st:Stmt} {f:Addr} {fd:FuncData} {N ps:List Str} {k:Nat} {sp:Sp} (F:Fun K x qual st f fd) (S:zc1 N ps (za4 st)) (len:∀ vs H Q E,sp vs H Q E->vs.length=ps.length)
   (hbody:∀ (cdv:Value) (A:Around) (outer:List Env) (s:Shared) (H:Hp) (vs:List V) (Q:VK) (E:XK),Room k (A.deeper (envOfC qual (za4 st) s.heap.objs.size f cdv))->sp vs H Q E →
     ∃ t,PSs (cxOf CX0 P w K mg base N qual (za4 st) f cdv A outer s H E).nox (za9 st) t/\t { nx:=fun _ H'=>Q .non H',rt:=Q } (start N vs) H):FnOk P w K mg base CX0 (k+1) f fd ps sp:=by
 obtain ⟨oc,od,kV,doc,pm,an,cdv,ct,osl,rfl,lk,hcd⟩:=F.ex
 refine zP9 lk hcd S len fun A outer s H vs Q E hr hsp=>?_
 obtain ⟨t,h,q⟩:=hbody cdv A outer s H vs Q E hr hsp
 exact⟨t,h.nox,q⟩
theorem Fun.binds {x qual:Str} {st:Stmt} {f:Addr} {fd:FuncData} {ps:List Str} (F:Fun K x qual st f fd)
   (h:∀ (kV doc pm:Value) (an:Option Addr) (cdv ct:Value) (us:List Value),us.length=ps.length->bindArgs (W.fnOf x qual (zb8 st) (za9 st) (za4 st) .none kV doc pm an cdv ct) ⟨us,[]⟩=pure (ps.zip us)):zc6 K fd ps []:=by
 obtain ⟨oc,od,kV,doc,pm,an,cdv,ct,osl,rfl,lk,hcd⟩:=F.ex
 exact .all (h kV doc pm an cdv ct)
theorem zc9 {x qual:Str} {st:Stmt} {f:Addr} {oc:Value} {od an:Option Addr} {osl:Array (Option Value)} {kV doc pm cdv ct:Value} (l:K.lookup f=some ⟨oc,od,.func (W.fnOf x qual (zb8 st) (za9 st) (za4 st) .none kV doc pm an cdv ct),osl⟩)
 (c:W.codeIn K cdv qual=true) (k:W.keepIn K (.ref f)=true):Fun K x qual st f (W.fnOf x qual (zb8 st) (za9 st) (za4 st) .none kV doc pm an cdv ct):=⟨⟨oc,od,kV,doc,pm,an,cdv,ct,osl,rfl,l,c⟩,k⟩
end
theorem hu_of {A:Around} {k:Nat} (hr:Room k A):A.units+1<cLine:=Nat.lt_of_le_of_lt (Nat.add_le_add_left (by decide:1<=64) _) hr.units
theorem zg1 {n:Nat} (h:n<=1000):n<sizeLine:=Nat.lt_of_le_of_lt h (by decide)
section
variable {X:Cx}
theorem pv (i:Nat) {x:Str} {pos:Pos} (hN:X.N[i]?=some x:=by rfl) (hv:Vis X.env.scope x:=by first | exact Or.inl rfl | exact Or.inr (Or.inl rfl) | exact Or.inr (Or.inr rfl)) (hd:(x == ("__debug__" : Str))=false:=by decide)
 (hcd:(x == ("__classdict__" : Str))=false:=by decide):PE X (.Name x pos) (tVar i):=pe_var hN hv hd hcd
end
theorem iteF {A B:Prop} (h:B):if false=true then A else B:=by
 rw[if_neg Bool.false_ne_true]
 exact h
theorem iteT {A B:Prop} (h:A):if true=true then A else B:=by
 rw[if_pos rfl]
 exact h
theorem ite2 {c A B:Prop} [Decidable c] (h1:c->A) (h2:¬ c->B):if c then A else B:=by
 by_cases h:c
 . rw[if_pos h]
   exact h1 h
 . rw[if_neg h]
   exact h2 h
noncomputable def Same (H H':Hp):Prop:=∀ b o,H b=some o->H' b=some o
theorem Same.refl (H:Hp):Same H H:=fun _ _ h=>h
theorem Same.trans {H H1 H2:Hp} (a:Same H H1) (b:Same H1 H2):Same H H2:=fun c o h=>b c o (a c o h)
theorem Same.free {H H':Hp} (e:Same H H') {l:Addr} (h:H' l=Option.none):H l=Option.none:=by
 cases q:H l with
 | none=>rfl
 | some o =>
   rw[e l o q] at h
   cases h
theorem Same.seq {K:W.Frag} {H H':Hp} {a:Addr} {xs:List V} (e:Same H H') (h:SqL K H a xs):SqL K H' a xs:=by
 rcases h with (h | ⟨o,h⟩) | h
 . exact .inl (.inl (e _ _ h))
 . exact .inl (.inr ⟨o,e _ _ h⟩)
 . exact .inr h
end L2
namespace L2
open PySem PySem.Spec PyProof.Rows
section
variable {prog:Program} {w:World} {A:Around} {R:Result->Shared->Prop} {s:Shared}
theorem compLoop_go {elt target iter:Expr} {ifs:List Expr} {scope:Scope} {pos:Pos} {it acc:Value} {env:Env} (I:Nat->Shared->Prop)
   (turn:∀ n s,I n s->wpAny (model prog w) A (pyNext it) (fun r s1=>match r with
     | none=>R (.ok .next) s1
     | some v=>wpAny (model prog w) A (letOwnedTupleGo target it v) (fun _ s1'=>wpAny (model prog w) A (assign target env v) (fun _ s2 =>
         wpAny (model prog w) A (forIn ifs true fun c r=>if r=true then do let ok <-isTrue c env (eval c env);pure (ForInStep.yield ok) else pure (ForInStep.yield r)) (fun ok s3 =>
           if ok=true then wpAny (model prog w) A (eval elt env) (fun x s4 =>
             wpAny (model prog w) A (call (.builtin "list.append") [acc,x]) (fun _ s5=>∃ m,m<n/\I m s5) (fun _ _=>False) s4) (fun _ _=>False) s3
           else ∃ m,m<n/\I m s3) (fun _ _=>False) s2) (fun _ _=>False) s1') (fun _ _=>False) s1) (fun _ _=>False) s)
   (n:Nat) (h:I n s) :
   codeAny (model prog w) A (.compLoop (.ListComp elt [⟨target,iter,ifs,0⟩] scope pos) 0 it acc env) R s:=by
 refine codeAny_loop rfl I (fun n s hI=>?_) n h
 show wpAny _ A ((compTurn (.ListComp elt [⟨target,iter,ifs,0⟩] scope pos) 0 it acc env).onRaise (fun x=>do noteFrame x env;theTreesLotGoes x)) _ _ s
 refine wpAny_noted ?_
 rw[compTurn_list]
 refine wpAny_bind (wpAny_standAt (wpAny_bind (wpAny_mono (turn n s hI) (fun r s1 h1=>?_) fun _ _ h'=>h'.elim)))
 cases r with
 | none=>exact wpAny_pure h1
 | some v =>
   refine wpAny_bind (wpAny_mono h1 (fun _ s1' h1'=>?_) fun _ _ h'=>h'.elim)
   refine wpAny_bind (wpAny_mono h1' (fun _ s2 h2=>wpAny_bind (wpAny_mono h2 (fun ok s3 h3=>?_) fun _ _ h'=>h'.elim)) fun _ _ h'=>h'.elim)
   cases ok with
   | false=>exact wpAny_pure ⟨rfl,h3⟩
   | true=>exact wpAny_bind (wpAny_bind (wpAny_mono h3 (fun x s4 h4=>wpAny_bind (wpAny_mono h4 (fun _ s5 h5=>wpAny_pure (wpAny_pure ⟨rfl,h5⟩)) fun _ _ h'=>h'.elim)) fun _ _ h'=>h'.elim))
end
theorem zz6 {scope:Scope} {env:Env} (h:∀ y∈scope.names,y.2 = .free->∃ c,env.cells.lookup y.1=some c) :
   ∃ cl,closureFor scope env=pure cl/\(∀ x c,cl.lookup x=some c->env.cells.lookup x=some c)/\∀ y∈scope.names,y.2 = .free->∃ c,cl.lookup y.1=some c:=by
 have all:∀ (names:List (Str×NameKind)) (acc:List (Str×Addr)) (f:Str×NameKind->List (Str×Addr)->Sem (ForInStep (List (Str×Addr)))),
     (∀ n k c,f (n,k) c=if k == .free then (do let a <-cellOf env n;pure (.yield ((n,a)::c))) else pure (.yield c)) →
     (∀ y∈names,y.2 = .free->∃ c,env.cells.lookup y.1=some c)->(∀ x c,acc.lookup x=some c->env.cells.lookup x=some c) →
     ∃ cl,forIn names acc f=pure cl/\(∀ x c,cl.lookup x=some c->env.cells.lookup x=some c)/\(∀ x c,acc.lookup x=some c->∃ c',cl.lookup x=some c')/\∀ y∈names,y.2 = .free->∃ c,cl.lookup y.1=some c:=by
   intro names
   induction names with
   | nil=>intro acc f _ _ ha;exact⟨acc,by rw[List.forIn_nil],ha,fun x c e=>⟨c,e⟩,fun y hy=>nomatch hy⟩
   | cons y r ih =>
     intro acc f hf hy ha
     obtain ⟨n,k⟩:=y
     rw[List.forIn_cons,hf]
     by_cases hk:k = .free
     . subst hk
       obtain ⟨c,hc⟩:=hy (n,.free) List.mem_cons_self rfl
       have hc':env.cells.lookup n=some c:=hc
       have ec:cellOf env n=pure c:=by unfold cellOf;rw[hc']
       rw[if_pos (by decide),ec,pure_bind,pure_bind]
       obtain ⟨cl,e,h1,h2,h3⟩:=ih ((n,c)::acc) f hf (fun y hy'=>hy y (List.mem_cons_of_mem _ hy')) (fun x c' e=>by
         rw[List.lookup_cons] at e
         cases hx:x == n with
         | true=>rw[hx] at e;cases e;rw[eq_of_beq hx];exact hc'
         | false=>rw[hx] at e;exact ha x c' e)
       refine⟨cl,e,h1,fun x c' e'=>?_,fun y hy' hk'=>?_⟩
       . cases hx:x == n with
         | true=>exact h2 x c (by rw[List.lookup_cons,hx])
         | false=>exact h2 x c' (by rw[List.lookup_cons,hx];exact e')
       . rcases List.mem_cons.mp hy' with z | z
         . subst z;exact h2 n c (by rw[List.lookup_cons];simp)
         . exact h3 y z hk'
     . have hb:(k == NameKind.free)=false:=by simpa using hk
       rw[hb]
       rw[if_neg (by decide),pure_bind]
       obtain ⟨cl,e,h1,h2,h3⟩:=ih acc f hf (fun y hy'=>hy y (List.mem_cons_of_mem _ hy')) ha
       refine⟨cl,e,h1,h2,fun y hy' hk'=>?_⟩
       rcases List.mem_cons.mp hy' with z | z
       . subst z;exact absurd hk' hk
       . exact h3 y z hk'
 have fin:∀ f:Str×NameKind->List (Str×Addr)->Sem (ForInStep (List (Str×Addr))),
     (∀ n k c,f (n,k) c=if k == .free then (do let a <-cellOf env n;pure (.yield ((n,a)::c))) else pure (.yield c)) →
     ∃ cl,(forIn scope.names [] f >>= fun r=>pure r)=pure cl/\(∀ x c,cl.lookup x=some c->env.cells.lookup x=some c)/\∀ y∈scope.names,y.2 = .free->∃ c,cl.lookup y.1=some c:=fun f hf=>by
   obtain ⟨cl,e,h1,_,h3⟩:=all scope.names [] f hf h (fun x c e=>by cases e)
   exact⟨cl,by rw[e,pure_bind],h1,h3⟩
 unfold closureFor
 exact fin _ (fun n k c=>by cases hk:k == NameKind.free<;>simp[hk])
noncomputable def Cx.comp (X:Cx) (scope:Scope) (cl:List (Str×Addr)) (C:Addr) (N':List Str) (s0:Shared) (H0:Hp) (fp:List Addr):Cx :=
 { X with N:=N',s₀:=s0,H₀:=H0,env:=compEnvC scope cl C X.env,outer:=X.stack,ex:=fp,fn:=fun _=>false,pn:=[],xe:=fun _ _=>False }
noncomputable def selS (ix:List (Option Nat)) (σ:St):St:=ix.map fun o=>o.bind fun j=>(σ[j]?).join
structure ze9 (ON:List Str) (osc scope:Scope) (N':List Str) (ix:List (Option Nat)):Prop where
 kind:scope.kind = .function
 nocell:∀ y∈scope.names,y.2≠.cell
 names:∀ y∈scope.names,y.2 = .local->scope.names.lookup y.1=some .local
 frees:∀ y∈scope.names,y.2 = .free->osc.names.lookup y.1=some .cell
 len:ix.length=N'.length
 nd:N'.Nodup
 chk:((ix.zip N').all fun p=>match p.1 with | none=>true | some j=>decide (ON[j]?=some p.2) && decide (scope.names.lookup p.2=some .free))=true
theorem ze9.sel {ON:List Str} {osc scope:Scope} {N':List Str} {ix:List (Option Nat)} (S:ze9 ON osc scope N' ix) (i j:Nat) (x:Str) (h1:ix[i]?=some (some j)) (h2:N'[i]?=some x):ON[j]?=some x/\scope.names.lookup x=some .free:=by
 have hz:(ix.zip N')[i]?=some (some j,x):=by rw[List.getElem?_zip_eq_some];exact⟨h1,h2⟩
 have:=List.all_eq_true.mp S.chk _ (List.mem_of_getElem? hz)
 simp only[Bool.and_eq_true,decide_eq_true_eq] at this
 exact this
theorem zA4 {env:Env}:∀ {names:List (Str×NameKind)} {x:Str},names.lookup x=some .free →
   ((names.map fun (n,k)=>if (k == NameKind.free && env.scope.kind == .function && env.kindOf n == some .cell) then (n,NameKind.cell) else (n,k)).lookup x=some .cell ∨
    (names.map fun (n,k)=>if (k == NameKind.free && env.scope.kind == .function && env.kindOf n == some .cell) then (n,NameKind.cell) else (n,k)).lookup x=some .free)
 | [],_,h=>by simp at h
 | (n,k)::r,x,h=>by
   have ih:=@zA4 env r x
   rw[List.map_cons]
   cases hx:x == n with
   | true =>
     rw[List.lookup_cons,hx] at h
     cases h
     by_cases hc:(NameKind.free == NameKind.free && env.scope.kind == .function && env.kindOf n == some .cell)=true
     . left;simp only[hc,if_true,List.lookup_cons,hx]
     . right
       have hc':(NameKind.free == NameKind.free && env.scope.kind == .function && env.kindOf n == some .cell)=false:=by simpa using hc
       simp only[hc',Bool.false_eq_true,if_false,List.lookup_cons,hx]
   | false =>
     rw[List.lookup_cons,hx] at h
     have ih':=ih h
     by_cases hc:(k == NameKind.free && env.scope.kind == .function && env.kindOf n == some .cell)=true
     . simp only[hc,if_true,List.lookup_cons,hx];exact ih'
     . have hc':(k == NameKind.free && env.scope.kind == .function && env.kindOf n == some .cell)=false:=by simpa using hc
       simp only[hc',Bool.false_eq_true,if_false,List.lookup_cons,hx];exact ih'
theorem zA5 {env:Env}:∀ {names:List (Str×NameKind)} {x:Str},(∀ y∈names,y.2≠.cell) →
   ((names.map fun (n,k)=>if (k == NameKind.free && env.scope.kind == .function && env.kindOf n == some .cell) then (n,NameKind.cell) else (n,k)).lookup x=some .cell ∨
    (names.map fun (n,k)=>if (k == NameKind.free && env.scope.kind == .function && env.kindOf n == some .cell) then (n,NameKind.cell) else (n,k)).lookup x=some .free)->(x,NameKind.free)∈names
 | [],_,_,h=>by simp at h
 | (n,k)::r,x,hn,h=>by
   have ih:=@zA5 env r x fun y hy=>hn y (List.mem_cons_of_mem _ hy)
   rw[List.map_cons] at h
   cases hx:x == n with
   | true =>
     have e:=eq_of_beq hx
     subst e
     by_cases hc:(k == NameKind.free && env.scope.kind == .function && env.kindOf x == some .cell)=true
     . have hk:k = .free:=by
         have:=(Bool.and_eq_true_iff.mp (Bool.and_eq_true_iff.mp hc).1).1
         exact eq_of_beq this
       subst hk;exact List.mem_cons_self
     . have hc':(k == NameKind.free && env.scope.kind == .function && env.kindOf x == some .cell)=false:=by simpa using hc
       simp only[hc',Bool.false_eq_true,if_false,List.lookup_cons,beq_self_eq_true] at h
       rcases h with h | h
       . have hk:k = .cell:=Option.some.inj h
         exact absurd hk (hn (x,k) List.mem_cons_self)
       . have hk:k = .free:=Option.some.inj h
         subst hk;exact List.mem_cons_self
   | false =>
     refine List.mem_cons_of_mem _ (ih ?_)
     by_cases hc:(k == NameKind.free && env.scope.kind == .function && env.kindOf n == some .cell)=true
     . simp only[hc,if_true,List.lookup_cons,hx] at h;exact h
     . have hc':(k == NameKind.free && env.scope.kind == .function && env.kindOf n == some .cell)=false:=by simpa using hc
       simp only[hc',Bool.false_eq_true,if_false,List.lookup_cons,hx] at h;exact h
section
variable {X:Cx} {pins:List (Addr×Obj)} {σ:St} {H:Hp} {s:Shared}
theorem Inv.comp {scope:Scope} {N':List Str} {ix:List (Option Nat)} {cl:List (Str×Addr)} {fp:List Addr} {h':Heap} {t':Nat} (I:Inv X pins σ H s) (S:ze9 X.N X.env.scope scope N' ix) (hfp:∀ b∈fp,FpOk X pins H b) (hlt:∀ b∈fp,b<s.heap.objs.size)
   (c1:∀ x c,cl.lookup x=some c->X.env.cells.lookup x=some c) (c2:∀ y∈scope.names,y.2 = .free->∃ c,cl.lookup y.1=some c)
   (ns:h'.Ns s.heap.objs.size fun _=>none) (sb:∀ b o,s.heap.get? b=some o->h'.get? b=some o) :
   Inv (X.comp scope cl s.heap.objs.size N' s H fp) [] (selS ix σ) H { s with heap:=h',toks:=t' }:=by
 have fpne:∀ b∈fp,b≠s.heap.objs.size:=fun b hb=>Nat.ne_of_lt (hlt b hb)
 have cin:∀ x c,cl.lookup x=some c->∃ v,s.heap.IsCell c v:=fun x c e=>I.cell x c (c1 x c e)
 refine⟨⟨I.ok.mod,S.kind,I.ok.glob,I.ok.blt,Nat.le_refl _,fun x y c e1 e2=>I.ok.inj x y c (c1 x c e1) (c1 y c e2),fun x hx=>?_,fun x c z=>(by cases z),I.ok.hd,I.ok.frames,.inl rfl,fun b hb=>⟨fpne b hb,fun x c e=>?_⟩,I.bs,Nat.le_trans I.ok.bsz I.sz,fun b o e hb=>?_,fun b hb hf=>?_,I.stack,I.stkFree⟩,
   rfl,I.bare,Un.kept sb,⟨_,ns,fun i x v e1 e2 e3=>?_⟩,fun x c e=>?_,I.hok.fresh (Nat.le_refl _),fun x c e=>I.freeC x c (c1 x c e),fun p hp=>(by cases hp),I.hok.kept sb,?_⟩
 . obtain ⟨c,e⟩:=c2 (x,.free) (zA5 S.nocell hx) rfl
   exact⟨c,e⟩
 . exact (hfp b hb).2.2.2.2.1 x c (c1 x c e)
 . rcases (hfp b hb).2.2.2.1 with z | z
   . exact I.ok.noex b o e z
   . exact absurd (Nat.lt_of_lt_of_le (Heap.lt_size (I.ok.bs b o e).1) z) (Nat.lt_irrefl _)
 . rcases List.mem_cons.mp (I.stkSub b hf) with z | z
   . exact (hfp b hb).2.1 z
   . exact (hfp b hb).2.2.1 z
 . -- what the block sees
   have e2':ix[i]?.map (fun o=>o.bind fun j=>(σ[j]?).join)=some (some v):=by
     have:=e2
     unfold selS at this
     rwa [List.getElem?_map] at this
   cases hi:ix[i]? with
   | none=>rw[hi] at e2';cases e2'
   | some o =>
     rw[hi] at e2'
     cases o with
     | none=>cases e2'
     | some j =>
       have e4:(σ[j]?).join=some v:=Option.some.inj e2'
       have e5:σ[j]?=some (some v):=by
         cases q:σ[j]? with
         | none=>rw[q] at e4;cases e4
         | some z=>rw[q] at e4;have:z=some v:=e4;rw[this]
       obtain ⟨hN,hfr⟩:=S.sel i j x hi e1
       have hk:=S.frees (x,.free) (PySem.mem_of_lookup hfr) rfl
       obtain ⟨m,_,hl⟩:=I.loc
       obtain ⟨u,r,lk⟩:=hl j x v hN e5 (.inr (.inl hk))
       refine⟨u,r,.inr ?_⟩
       rcases lk with ⟨k1,_⟩ | ⟨_,c,ec,hc⟩
       . exact absurd (k1.symm.trans hk) (by decide)
       . obtain ⟨c',ec'⟩:=c2 (x,.free) (PySem.mem_of_lookup hfr) rfl
         have:=c1 x c' ec'
         rw[ec] at this
         cases this
         refine⟨zA4 hfr,c,ec',?_⟩
         obtain ⟨o,ho,hd⟩:=hc
         exact⟨o,sb c o ho,hd⟩
 . obtain ⟨v,o,ho,hd⟩:=cin x c e
   exact⟨v,o,sb c o ho,hd⟩
 . show (selS ix σ).length=N'.length
   unfold selS
   rw[List.length_map]
   exact S.len
theorem Inv.uncomp {scope:Scope} {N':List Str} {cl:List (Str×Addr)} {fp:List Addr} {C:Addr} {σ':St} {H':Hp} {s':Shared} (I:Inv X pins σ H s) (hfp:∀ b∈fp,FpOk X pins H b) (hC:s.heap.objs.size<=C)
   (J:Inv (X.comp scope cl C N' s H fp) [] σ' H' s'):Inv X pins σ H' s' :=
 I.call' (ch:=fp) J.os J.base J.hok J.bare fun b hb=>by
   obtain ⟨f0,f1,f2,f3,f4,f5⟩:=hfp b hb
   exact⟨f3,f1,f4,f5⟩
end
noncomputable def zn8 (D:Addr) (telt:TE) (N:St->Hp->Prop):St->Hp->Prop:=fun σ H=>telt σ H fun v H1=>∃ acc,H1 D=some (.lst acc)/\acc.length<sizeLine/\N σ (upd H1 D (.lst (acc++[v])))
noncomputable def zT7 (wi:TI) (ix:List (Option Nat)) (g:TG) (tif:TT) (telt:TE):TE:=fun σ H Q=>wi σ H fun J H1=>∀ D,H1 D=none->∃ W:Nat->Nat->St->Hp->Prop,(∃ m,W 0 m (selS ix σ) (upd H1 D (.lst []))) ∧
 ∀ i m σ' H',W i m σ' H'->(J.stop i H'/\Q (.ref D) H')\/(J.go i H'/\∃ N:St->Hp->Prop,(∀ σ2 H2,N σ2 H2->∃ m',m'<m/\W (i+1) m' σ2 H2) ∧
   ∀ x H2,J.yld i H' x H2->g x σ' H2 fun σ3 H3=>tif σ3 H3 fun b H4=>if b=true then zn8 D telt N σ3 H4 else N σ3 H4)
noncomputable def PIfs (X:Cx) (ifs:List Expr) (t:TT):Prop :=
 ∀ (pins:List (Addr×Obj)) (s:Shared) (σ:St) (H:Hp) (Q:Bool->Hp->Prop),Inv X pins σ H s->t σ H Q →
   wpAny (model X.prog X.w) X.A (forIn ifs true fun c r=>if r=true then do let ok <-isTrue c X.env (eval c X.env);pure (ForInStep.yield ok) else pure (ForInStep.yield r)) (TP X pins σ Q) X.xe s
noncomputable def zu5:TT:=fun _ H Q=>Q true H
theorem zq1 {X:Cx}:PIfs X [] zu5:=fun _ _ _ H _ I h=>wpAny_tests_nil ⟨H,I,h⟩
section
variable {X:Cx} {scope:Scope} {N':List Str} {ix:List (Option Nat)} {tg iter elt:Expr} {ifs:List Expr} {pos:Pos} {wi:TI} {g:TG} {tif:TT} {telt:TE}
theorem zF9 {RR:Value->Addr->Result->Shared->Prop} {pins:List (Addr×Obj)} {σ:St} {s2:Shared} {H2:Hp} {it:Addr} {fp:List Addr} {tn:Nat->Heap->Prop} {J:It} {cl:List (Str×Addr)} {Q:VK} {E:Value->Shared->Prop}
   (hc:X.calm=true) (S:ze9 X.N X.env.scope scope N' ix)
   (c1:∀ x c,cl.lookup x=some c->X.env.cells.lookup x=some c) (c2:∀ y∈scope.names,y.2 = .free->∃ c,cl.lookup y.1=some c)
   (hg:∀ cl C s0 H0 fp,PG (X.comp scope cl C N' s0 H0 fp) tg g) (hif:∀ cl C s0 H0 fp,PIfs (X.comp scope cl C N' s0 H0 fp) ifs tif) (he:∀ cl C s0 H0 fp,PE (X.comp scope cl C N' s0 H0 fp) elt telt)
   (I2:Inv X pins σ H2 s2) (T:Turn X.prog X.w X.K tg J fp it tn) (st2:tn 0 s2.heap) (f2:∀ b∈fp,FpOk X pins H2 b)
   (body:∀ D,H2 D=none->∃ W:Nat->Nat->St->Hp->Prop,(∃ m,W 0 m (selS ix σ) (upd H2 D (.lst []))) ∧
     ∀ i m σ' H',W i m σ' H'->(J.stop i H'/\Q (.ref D) H')\/(J.go i H'/\∃ N:St->Hp->Prop,(∀ σ2 H2,N σ2 H2->∃ m',m'<m/\W (i+1) m' σ2 H2) ∧
       ∀ x H2,J.yld i H' x H2->g x σ' H2 fun σ3 H3=>tif σ3 H3 fun b H4=>if b=true then zn8 D telt N σ3 H4 else N σ3 H4))
   (hRR:∀ D C s3 s' H' m,Inv X pins σ H' s'->s2.heap.objs.size<=s3->s3<=C->s'.heap.Ns C m->FpOk X pins H' C->HOk X.prog X.w H' s'.heap->Q (.ref D) H'->RR (.ref D) C (.ok .next) s') :
   wpAny (model X.prog X.w) X.A (newList []) (fun acc s3=>wpAny (model X.prog X.w) X.A (newFunctionEnv scope X.env.globals cl [] X.env.qual none .none (some X.env)) (fun cenv s4 =>
     codeAny (model X.prog X.w) X.A (.compStart (.ListComp elt [⟨tg,iter,ifs,0⟩] scope pos) 0 (.ref it) acc { cenv with scope:=relabel scope X.env }) (RR acc cenv.locals) s4) E s3) E s2:=by
 have hlt2:∀ b∈fp,b<s2.heap.objs.size:=fun b hb=>by
   obtain ⟨o,e,_⟩:=T.obj _ _ st2 b hb
   exact Heap.lt_size e
 obtain ⟨W,⟨m0,w0⟩,turn⟩:=body s2.heap.objs.size I2.fresh
 refine wpAny_newObj_type (wpAny_newFunctionEnv S.nocell (by intro y hy;simp at hy) (fun h1 hns1 hsb1=>?_) S.kind)
 dsimp only at hns1 hsb1 ⊢
 have I3:Inv X pins σ (upd H2 s2.heap.objs.size (.lst [])) { s2 with heap:=s2.heap.push { cls:=.type "list",dict:=none,data:=.seq ([]:List Value).toArray } } :=
   Inv.lnew (its:=[]) (t':=s2.toks) I2 .nil (Nat.zero_le _)
 generalize hs3:({ s2 with heap:=s2.heap.push { cls:=.type "list",dict:=none,data:=.seq ([]:List Value).toArray } }:Shared)=s3 at I3
 have hh3:s3.heap=s2.heap.push { cls:=.type "list",dict:=none,data:=.seq ([]:List Value).toArray }:=by rw[<-hs3]
 have hsz3:s3.heap.objs.size=s2.heap.objs.size+1:=by rw[hh3,Heap.size_push]
 have hsh:({ s2 with heap:=h1,toks:=s2.toks+([]:List (Str×Value)).length }:Shared) = { s3 with heap:=h1,toks:=s2.toks+([]:List (Str×Value)).length }:=by rw[<-hs3]
 rw[<-hh3] at hns1 hsb1 ⊢
 have fpD:∀ b∈fp,b≠s2.heap.objs.size:=fun b hb=>Nat.ne_of_lt (hlt2 b hb)
 have f3:∀ b∈fp,FpOk X pins (upd H2 s2.heap.objs.size (.lst [])) b:=fun b hb=>⟨by rw[za7 (fpD b hb)];exact (f2 b hb).1,(f2 b hb).2⟩
 have old:∀ b o,s3.heap.get? b=some o->h1.get? b=some o:=fun b o e=>hsb1.extBut b o (Nat.ne_of_lt (Heap.lt_size e)) (Heap.get?_push_of_some _ e)
 have J4:Inv (X.comp scope cl s3.heap.objs.size N' s3 (upd H2 s2.heap.objs.size (.lst [])) fp) [] (selS ix σ) (upd H2 s2.heap.objs.size (.lst [])) { s3 with heap:=h1,toks:=s2.toks+([]:List (Str×Value)).length } :=
   I3.comp S f3 (fun b hb=>Nat.lt_of_lt_of_le (hlt2 b hb) (by rw[hsz3];exact Nat.le_succ _)) c1 c2 hns1 old
 have st4:tn 0 h1:=T.keep _ _ _ st2 fun b hb o e=>old b o (by rw[hh3];exact Heap.get?_push_of_some _ e)
 generalize hCC:s3.heap.objs.size=C at *
 generalize hX':X.comp scope cl C N' s3 (upd H2 s2.heap.objs.size (.lst [])) fp=X' at J4
 have stat:∀ {H':Hp},(∀ b∈fp,H' b=none)->∀ b∈fp,FpOk X' [] H' b:=fun {H'} hn b hb=>by
   subst hX'
   refine⟨hn b hb,(J4.ok.exf b hb).1,J4.ok.exfs b hb,.inl hb,(J4.ok.exf b hb).2,fun p hp=>(by cases hp)⟩
 rw[hsh]
 have loop:codeAny (model X.prog X.w) X.A (.compLoop (.ListComp elt [⟨tg,iter,ifs,0⟩] scope pos) 0 (.ref it) (.ref s2.heap.objs.size) (compEnvC scope cl C X.env)) (RR (.ref s2.heap.objs.size) C) { s3 with heap:=h1,toks:=s2.toks+([]:List (Str×Value)).length }:=by
   refine compLoop_go (fun n s'=>∃ i σ' H',Inv X' [] σ' H' s'/\tn i s'.heap/\(∀ b∈fp,H' b=none)/\W i n σ' H') ?_ m0 ⟨0,_,_,J4,st4,fun b hb=>(f3 b hb).1,w0⟩
   rintro n s5 ⟨i,σ5,H5,I5,st5,fr5,w5⟩
   rcases turn i n σ5 H5 w5 with ⟨stop,qn⟩ | ⟨go,N,hN,step⟩
   . have td:=T.done X' (by subst hX';rfl) (by subst hX';rfl) (by subst hX';rfl) (by subst hX';exact hc) i [] s5 σ5 H5 (fun _ _=>False) I5 (stat fr5) st5 stop
     have eA:X'.A=X.A:=by subst hX';rfl
     rw[eA] at td
     refine thn td fun r s6 ⟨hr,I6⟩=>?_
     subst hr
     subst hX'
     obtain ⟨m,hnm,_⟩:=I6.loc
     have I7:Inv X pins σ H5 s6:=I3.uncomp f3 (Nat.le_of_eq hCC) I6
     refine hRR s2.heap.objs.size C s3.heap.objs.size s6 H5 m I7 (by omega) (by omega) hnm ?_ I6.hok qn
     have q:=I3.fpOk (H':=H5) (b:=C) (by omega) I6.free
     exact q
   . have ti:=T.item X' (by subst hX';rfl) (by subst hX';rfl) (by subst hX';rfl) (by subst hX';exact hc) i [] s5 σ5 H5 (fun _ _=>False) I5 (stat fr5) st5 go
     have eA:X'.A=X.A:=by subst hX';rfl
     rw[eA] at ti
     refine thn ti fun r s6 ⟨u,hr,h6⟩=>?_
     subst hr
     refine thn h6 fun _ s7 ⟨x,H7,I7,r7,y7,st7,fr7⟩=>?_
     have I7':=I7.pinned (stat fr7) (T.obj _ _ st7)
     have again:∀ {pl:List (Addr×Obj)} {σ8:St} {H8:Hp} {s8:Shared},Inv X' ([]++zv0 fp s7.heap) σ8 H8 s8->N σ8 H8->∃ m,m<n/\∃ i σ' H',Inv X' [] σ' H' s8/\tn i s8.heap/\(∀ b∈fp,H' b=none)/\W i m σ' H':=fun {pl σ8 H8 s8} I8 n8=>by
       obtain ⟨m',hm,w8⟩:=hN σ8 H8 n8
       refine⟨m',hm,i+1,σ8,H8,I8.unpinned,T.keep _ _ _ st7 fun b hb o e=>(I8.pin (b,o) (List.mem_append_right _ (List.mem_append_right _ (zl9 hb e)))).1,fun b hb=>?_,w8⟩
       obtain ⟨o,e,d⟩:=T.obj _ _ st7 b hb
       exact (I8.pin (b,o) (List.mem_append_right _ (List.mem_append_right _ (zl9 hb e)))).2.1
     have eE:X'.env=compEnvC scope cl C X.env:=by subst hX';rfl
     have eP:X'.prog=X.prog:=by subst hX';rfl
     have eW:X'.w=X.w:=by subst hX';rfl
     have eX:X'.xe=fun _ _=>False:=by subst hX';rfl
     have hg':PG X' tg g:=by subst hX';exact hg _ _ _ _ _
     have hif':PIfs X' ifs tif:=by subst hX';exact hif _ _ _ _ _
     have he':PE X' elt telt:=by subst hX';exact he _ _ _ _ _
     have a1:=hg' _ s7 σ5 H7 x u _ I7' r7 (step x H7 y7)
     rw[eE,eP,eW,eA,eX] at a1
     refine thn a1 fun _ s8 ⟨σ8,H8,I8,q8⟩=>?_
     have a2:=hif' _ s8 σ8 H8 _ I8 q8
     rw[eE,eP,eW,eA,eX] at a2
     refine thn a2 fun ok s9 ⟨H9,I9,q9⟩=>?_
     cases ok with
     | false=>exact again (pl:=[]) I9 q9
     | true =>
       have q9':zn8 s2.heap.objs.size telt N σ8 H9:=q9
       have a3:=he' _ s9 σ8 H9 _ I9 q9'
       rw[eE,eP,eW,eA,eX] at a3
       show wpAny _ _ _ _ _ _
       refine thn a3 fun y s10 ⟨v,H10,I10,r10,acc,hD,hl,n10⟩=>?_
       obtain ⟨hz,its,k,rv,hgD⟩:=I10.hok s2.heap.objs.size _ hD
       have hlen:=rv.length
       refine wpAny_list_append_plain (hsz:=by rw[List.size_toArray,<-hlen];exact Nat.le_of_lt hl) ⟨k,hgD⟩ fun h11 hl11 hs11=>?_
       obtain ⟨k',hk'⟩:=hl11
       have ep:(its.toArray.push y)=(its++[y]).toArray:=by simp
       rw[ep] at hk'
       have I11:Inv X' ([]++zv0 fp s7.heap) σ8 (upd H10 s2.heap.objs.size (.lst (acc++[v]))) { s10 with heap:=h11 } :=
         I10.write (x:=s2.heap.objs.size) (e:=s2.heap.objs.size) (t':=s10.toks) (by rw[hD];exact trivial) (.inl rfl) (fun b o hb e=>hs11.extBut b o hb e) ⟨_,hk'⟩ ⟨by rw[List.length_append];exact hl,its++[y],k',rv.append (.cons r10 .nil),hk'⟩
       exact again (pl:=[]) I11 n10
 exact codeAny_compStart_list loop (T.self _ 0 _ _ _ st4 loop)
theorem zE7 (hc:X.calm=true) (S:ze9 X.N X.env.scope scope N' ix) (hi:PI X tg iter wi)
   (hg:∀ cl C s0 H0 fp,PG (X.comp scope cl C N' s0 H0 fp) tg g) (hif:∀ cl C s0 H0 fp,PIfs (X.comp scope cl C N' s0 H0 fp) ifs tif) (he:∀ cl C s0 H0 fp,PE (X.comp scope cl C N' s0 H0 fp) elt telt)
   (hs:∀ x,foldedSetIterable iter X.env x=pure x:=by intro _;rfl):PE X (.ListComp elt [⟨tg,iter,ifs,0⟩] scope pos) (zT7 wi ix g tif telt):=by
 intro pins s σ H Q I h
 obtain ⟨cl,hcl,c1,c2⟩:=zz6 (scope:=scope) (env:=X.env) fun y hy hk=>I.ok.has y.1 (.inl (S.frees y hy hk))
 rw[eval_ListComp]
 refine wpAny_comprehension_free (use:=none) rfl hs hcl S.kind S.names (thn (hi pins s σ H _ I h) fun xv s1 h1=>thn h1 fun itv s2 h2=>?_)
 obtain ⟨it,fp,tn,J,H2,e,I2,T,st2,f2,body⟩:=h2
 subst e
 refine zF9 (RR:=fun acc C=>compPost (model X.prog X.w) X.A X.xe none (EP X pins σ Q) acc C) (Q:=Q) hc S c1 c2 hg hif he I2 T st2 f2 body ?_
 intro D C s3 s' H' m I' h1 h2 hm hf hok q
 obtain ⟨f0,f1,f2',f3,f4,f5⟩:=hf
 refine⟨m,hm,fun h' sb=>⟨.ref D,H',?_,rfl,q⟩⟩
 exact I'.turned (t':=s'.toks) (fun b o hb e=>sb.extBut b o hb e) f0 f1 f3 f4 f5
theorem zQ2 {i:Nat} {y:Str} {py spos:Pos} (hc:X.calm=true) (S:ze9 X.N X.env.scope scope N' ix) (hi:PI X tg iter wi)
   (hg:∀ cl C s0 H0 fp,PG (X.comp scope cl C N' s0 H0 fp) tg g) (hif:∀ cl C s0 H0 fp,PIfs (X.comp scope cl C N' s0 H0 fp) ifs tif) (he:∀ cl C s0 H0 fp,PE (X.comp scope cl C N' s0 H0 fp) elt telt)
   (hN:X.N.Nodup) (hy:X.N[i]?=some y) (hx:X.env.scope.names.lookup y=some .local)
   (hsw:swapsWith (.ListComp elt [⟨tg,iter,ifs,0⟩] scope pos) (some (.Name y py)) spos.line X.env=pure true:=by rfl)
   (hs:∀ x,foldedSetIterable iter X.env x=pure x:=by intro _;rfl):PS X (.Assign [.Name y py] (.ListComp elt [⟨tg,iter,ifs,0⟩] scope pos) spos) (tAsg (zT7 wi ix g tif telt) (zl1 i)):=by
 intro pins s σ H D0 I h
 obtain ⟨cl,hcl,c1,c2⟩:=zz6 (scope:=scope) (env:=X.env) fun y hy hk=>I.ok.has y.1 (.inl (S.frees y hy hk))
 rw[exec_Assign_Name_used _ _ _ _ hsw]
 refine wpAny_bind (wpAny_standAt (wpAny_bind ?_))
 show wpAny _ _ (do let _ <-comprehension (.ListComp elt [⟨tg,iter,ifs,0⟩] scope pos) scope X.env _ (newList []) false (eval iter X.env) (some (assign (.Name y py) X.env))) _ _ s
 refine wpAny_bind (wpAny_mono (wpAny_comprehension_free (use:=some (assign (.Name y py) X.env)) (Q:=fun _ s'=>SP X pins D0 .next s') rfl hs hcl S.kind S.names
   (thn (hi pins s σ H _ I h) fun xv s1 h1=>thn h1 fun itv s2 h2=>?_)) (fun _ s' hq=>wpAny_pure (wpAny_pure hq)) fun _ _ e=>e)
 obtain ⟨it,fp,tn,J,H2,e,I2,T,st2,f2,body⟩:=h2
 subst e
 refine zF9 (RR:=fun acc C=>compPost (model X.prog X.w) X.A X.xe (some (assign (.Name y py) X.env)) (fun _ s'=>SP X pins D0 .next s') acc C) (Q:=fun v H1=>zl1 i v σ H1 D0.nx) hc S c1 c2 hg hif he I2 T st2 f2 body ?_
 intro D C s3 s' H' m I' h1 h2 hm hf hok q
 obtain ⟨f0,f1,f2',f3,f4,f5⟩:=hf
 show wpAny _ _ (assign (.Name y py) X.env (.ref D)) _ _ _
 refine wpAny_assign_Name (zC0 I' hN hy (.inl hx) (v:=.ref D) rfl (fun s4 I4 ⟨a,sb,ha⟩=>?_) (.inr hx))
 have hCa:C≠a:=by
   rcases ha with z | z
   . rw[z];exact f1
   . exact Ne.symm (f4 y a z)
 refine⟨m,hm.sameBut sb hCa,fun h' sb'=>⟨_,H',?_,q⟩⟩
 exact I4.turned (t':=s4.toks) (fun b o hb e=>sb'.extBut b o hb e) f0 f1 f3 f4 f5
end
end L2
namespace L2
open PySem PySem.Spec PyProof.Rows
section
variable {X:Cx}
noncomputable def rCountL (K:W.Frag):V->List V->Hp->VK->Prop:=fun x vs H Q=>∃ (l:Addr) (ns:List Int) (k:Int),x = .ref l/\vs=[.int k]/\SqL K H l (ns.map V.int)/\Q (.int (ns.count k:Nat)) H
theorem zI2:MtR X "list.count" (rCountL X.K):=by
 intro pins s σ H x vs v us Q I rx rv h
 obtain ⟨l,ns,k,rfl,rfl,hS,q⟩:=h
 cases rx
 obtain ⟨u,rfl,t,rfl⟩:=rv.one
 obtain ⟨its,r,p,hz⟩:=I.list hS
 exact count_list_ints p.isList (zq0 r) ⟨.int (ns.count k:Nat),H,I.tok _,⟨_,rfl⟩,q⟩
noncomputable def rCountT (K:W.Frag):V->List V->Hp->VK->Prop:=fun x vs H Q=>∃ (l:Addr) (ns:List Int) (k:Int),x = .ref l/\vs=[.int k]/\SqT K H l (ns.map V.int)/\Q (.int (ns.count k:Nat)) H
theorem mt_countT:MtR X "tuple.count" (rCountT X.K):=by
 intro pins s σ H x vs v us Q I rx rv h
 obtain ⟨l,ns,k,rfl,rfl,hS,q⟩:=h
 cases rx
 obtain ⟨u,rfl,t,rfl⟩:=rv.one
 obtain ⟨its,r,⟨⟨cls,dd,data,sl⟩,ho,hc,n,hd⟩,hz⟩:=I.tuple hS
 simp only at hc hd
 subst hc hd
 have hi:=zq0 r
 refine call_meets PySem.F.slot_tuple_count ⟨_,ho,rfl⟩ PySem.F.entry_tuple_count (PySem.F.args_tuple_count_2 _ _) (SeqAt.tuple_countAt l its.toArray n dd sl (.int k t) (isInt k)) ⟨ho,fun y hy=>(eq_isInt k t hi y (by simpa using hy)).at _ _,?_⟩
 rw[show its.toArray.toList=its from rfl,countP_isInt k hi]
 exact⟨.int (ns.count k:Nat),H,I.tok _,⟨_,rfl⟩,q⟩
noncomputable def tTM (r:V->List V->Hp->VK->Prop) (to:TE) (t:TA):TE:=fun σ H Q=>to σ H fun x H1=>(∃ p ys,x = .ref p/\H1 p=some (.tup ys))/\t σ H1 fun xs H2=>r x xs H2 Q
variable {o e:Expr} {es:List Expr} {to:TE} {t:TA} {name:Str} {apos cpos:Pos} {id:String} {r:V->List V->Hp->VK->Prop}
theorem pe_tm (slot:Slot "tuple" name id) (hty:typeOf (.builtin id)=pure (.type "method_descriptor")) (hm:MtR X id r) (ho:PE X o to) (ha:PA X (e::es) t)
   (hbase:attributeBase o name X.env (eval o X.env)=eval o X.env:=by rfl)
   (hfew:((backTo cpos (starEach (e::es) X.env)).all (fun x=>!x.1) && (backToKw cpos (keywordEach [] X.env)).all (fun x=>x.1.isSome)
     && decide ((e::es).length+([]:List Keyword).length+(if ([]:List Keyword).isEmpty then 0 else 1)<30))=true:=by rfl)
   (hline:(apos.endLine == cpos.line)=true:=by rfl) (hs:starEach (e::es) X.env=(false,eval e X.env)::starEach es X.env:=by rfl) (hplain:(backTo cpos (starEach es X.env)).any (·.1)=false:=by rfl) :
   PE X (.Call (.Attribute o name apos) (e::es) [] cpos) (tTM r to t):=by
 intro pins s σ H Q I h
 refine wpAny_Call_method_late hbase hfew hline rfl (thn (ho pins s σ H _ I h) fun v s1 ⟨x,H1,I1,r1,⟨p,ys,ex,hp⟩,q1⟩=>?_)
 subst ex
 cases r1
 obtain ⟨_,its,_,ob,eo,ec,ed,_⟩:=I1.hok p _ hp
 refine⟨"tuple",id,PySem.F.plainAttrs_tuple,slot,hty,⟨ob,eo,ec⟩,fun a ea=>by cases ea;exact⟨ob,eo,ed⟩,?_⟩
 have hA:=ha cpos pins s1 σ H1 _ I1 q1
 rw[hs] at hA ⊢
 refine Calls.callWith_builtin (by show (false || (backTo cpos (starEach es X.env)).any (·.1))=false;rw[hplain]<;>rfl) (Calls.evalArgs_plain ?_)
 exact thn hA fun us s2 ⟨vs,H2,I2,r2,q2⟩=>hm pins s2 σ H2 (.ref p) vs _ us Q I2 rfl r2 q2
inductive ClsV:V->Value->Prop where
 | ty (n:String):ClsV (.ty n) (.type n)
 | own (C:Addr):ClsV (.ref C) (.ref C)
noncomputable def rIsi (K:W.Frag):List V->Hp->VK->Prop:=fun xs H Q=>∃ x cv t c b,xs=[x,cv]/\ClsV cv c/\TyOf K H x t/\W.kitOne K t c=some b/\Q (.bl b) H
theorem zM3:zl2 X (.builtin "isinstance") (rIsi X.K):=by
 intro pins s σ H xs us Q I r h
 obtain ⟨x,cv,t,c,b,rfl,hc,ty,e,q⟩:=h
 obtain ⟨u,w',rfl,ru,rw'⟩:=zP5 r
 have ew:w'=c:=by
   cases hc with
   | ty n=>exact rw'
   | own C=>exact rw'
 subst ew
 exact isinst_ok I ru ty e fun tk=>⟨.bl b,H,I.tok tk,rfl,q⟩
theorem zI3 {prog:Program} {w:World} {A:Around} {E:Value->Shared->Prop} {it t:Addr} {items:Array Value} (hne:t≠it):∀ (n i:Nat) (s:Shared) (Q:List Value->Shared->Prop),s.heap.IsListIter it t i->s.heap.IsList t items->i+n<=items.size →
   (∀ h',h'.IsListIter it t (i+n)->Heap.SameBut it s.heap h'->Q ((items.toList.drop i).take n) { s with heap:=h' })->wpAny (model prog w) A (draw (.ref it) n) Q E s
 | 0,i,s,Q,hit,_,_,hQ=>by
   show wpAny _ _ (pure []) Q E s
   exact wpAny_pure (by simpa using hQ s.heap hit (Heap.SameBut.refl ..))
 | n+1,i,s,Q,hit,ht,hle,hQ=>by
   have hlt:i<items.size:=by omega
   show wpAny _ _ (pyNext (.ref it) >>= _) Q E s
   refine wpAny_bind (wpAny_pyNext_list_item hit ht (x:=items[i]) (by simp[hlt]) fun h1 hit1 hs1=>?_)
   refine wpAny_bind (wpAny_holding (zI3 hne n (i+1) _ _ hit1 (ht.extBut hs1.extBut hne) (by omega) fun h2 hit2 hs2=>wpAny_pure ?_))
   have hd:items.toList.drop i=items[i]::items.toList.drop (i+1):=by simp[List.drop_eq_getElem_cons,hlt]
   have:=hQ h2 (by rw[show i+(n+1)=i+1+n by omega];exact hit2) (hs1.trans hs2)
   rw[hd,List.take_succ_cons] at this
   exact this
theorem unpackItems_list {prog:Program} {w:World} {A:Around} {E:Value->Shared->Prop} {s:Shared} {t:Addr} {items:Array Value} {Q:List Value->Shared->Prop} (hh:A.handled=none) (ht:s.heap.IsList t items)
   (hQ:∀ h',Heap.ExtBut s.heap.objs.size s.heap h'->Q items.toList { s with heap:=h' }):wpAny (model prog w) A (unpackItems (.ref t) items.size none) Q E s:=by
 have hlt:t≠s.heap.objs.size:=by obtain ⟨o,ho,_⟩:=ht;exact Nat.ne_of_lt (Heap.lt_size ho)
 unfold unpackItems
 refine wpAny_bind ?_
 . unfold notIterableAtAll
   refine wpAny_bind (wpAny_specialOf ht.typeIs slot_list_iter.lookup ?_)
   refine wpAny_pure ?_
   simp only[Bool.false_eq_true,if_false]
   refine wpAny_bind (wpAny_holding (wpAny_pyIter_list ht ?_))
   refine wpAny_bind (wpAny_holding (zI3 hlt items.size 0 _ _ ⟨_,Heap.get?_push_size _ rfl,rfl,rfl⟩ (ht.push _) (by omega) fun h1 hit1 hs1=>?_))
   have hall:List.take items.size (List.drop 0 items.toList)=items.toList:=by
     rw[List.drop_zero];exact List.take_of_length_le (by simp)
   rw[hall]
   rw[if_neg (by simp)]
   have ht1:h1.IsList t items:=(ht.push _).extBut hs1.extBut hlt
   refine wpAny_bind (wpAny_holding (wpAny_pyNext_list_end hh hit1 ht1 (by simp) fun h2 he2=>?_))
   simp only[Option.isSome_none,Bool.false_eq_true,if_false]
   refine wpAny_pure (hQ h2 fun b o hb e=>he2 b o hb (hs1.extBut b o hb (Heap.get?_push_of_some _ e)))
noncomputable def gLst (K:W.Frag) (n:Nat) (t:TGs):TG:=fun v σ H Q=>∃ a xs,v = .ref a/\SqL K H a xs/\xs.length=n/\t xs σ H Q
theorem zT8 {es:List Expr} {k:Nat} {t:TGs} {n:Nat} {pos:Pos} (hc:X.calm=true) (h:PGs X es t)
   (hn:(assignEach es X.env).length=n:=by rfl) (hst:(assignEach es X.env).findIdx? (·.1)=none:=by rfl):PG X (.Tuple es k pos) (gLst X.K n t):=by
 intro pins s σ H v u Q I r hw
 obtain ⟨a,xs,e1,hq,hl,hw⟩:=hw
 subst e1
 cases r
 obtain ⟨its,rv,ht,hz⟩:=I.list hq
 have hln:=rv.length
 rw[assign_Tuple]
 refine wpAny_bind (wpAny_standAt ?_)
 unfold unpack
 have esz:(assignEach es X.env).length=its.toArray.size:=by rw[hn,<-hl,hln,List.size_toArray]
 rw[esz,hst]
 refine wpAny_bind (wpAny_holding (unpackItems_list (I.ok.hd hc) ht.isList fun h' hx=>?_))
 have I1:Inv X pins σ H { s with heap:=h' }:=I.kept (t':=s.toks) fun b o e=>hx b o (Nat.ne_of_lt (Heap.lt_size e)) e
 exact h pins _ σ H xs _ Q I1 (by simpa using rv) hw
theorem zy7:∀ {us:List Value} {ns:List Int},IntsAre us ns->∃ ps:List (Int×Tok),us=ps.map (fun p=>Value.int p.1 p.2)/\ps.map (·.1)=ns
 | _,_,.nil=>⟨[],rfl,rfl⟩
 | _,_,.cons n t h=>by
   obtain ⟨ps,e1,e2⟩:=zy7 h
   exact⟨(n,t)::ps,by rw[List.map_cons,e1],by rw[List.map_cons,e2]⟩
noncomputable def iSeq (K:W.Frag) (tl:TE):TI:=fun σ H R=>tl σ H fun x H1=>∃ a,x = .ref a/\(((∃ xs,SqL K H1 a xs)/\R (Itl K a) H1)\/((∃ xs,SqT K H1 a xs)/\R (Itt K a) H1))
theorem pi_seq {tg l:Expr} {tl:TE} (hl:PE X l tl):PI X tg l (iSeq X.K tl):=by
 intro pins s σ H R I h
 refine thn (hl pins s σ H _ I h) fun v s1 ⟨x,H1,I1,r1,q1⟩=>?_
 obtain ⟨a,e,q⟩:=q1
 subst e
 cases r1
 rcases q with ⟨⟨xs,hq⟩,q⟩ | ⟨⟨xs,hq⟩,q⟩
 . obtain ⟨its,rv,p,hz⟩:=I1.list hq
   refine wpAny_pyIter_list p.isList ?_
   refine⟨s1.heap.objs.size,[s1.heap.objs.size],_,_,H1,rfl,I1.kept (t':=s1.toks) fun b o e=>Heap.get?_push_of_some _ e,zH1 a _,⟨_,Heap.get?_push_size _ rfl,rfl,rfl⟩,fun b hb=>?_,q⟩
   have e:b=s1.heap.objs.size:=by simpa using hb
   subst e
   exact I1.fpOk (Nat.le_refl _) (I1.hok.fresh (Nat.le_refl _))
 . obtain ⟨its,rv,p,hz⟩:=I1.tuple hq
   refine wpAny_pyIter_tuple (show s1.heap.IsTuple a its.toArray from p) ?_
   refine⟨s1.heap.objs.size,[s1.heap.objs.size],_,_,H1,rfl,I1.kept (t':=s1.toks) fun b o e=>Heap.get?_push_of_some _ e,zF5 a _,⟨_,Heap.get?_push_size _ rfl,rfl,rfl⟩,fun b hb=>?_,q⟩
   have e:b=s1.heap.objs.size:=by simpa using hb
   subst e
   exact I1.fpOk (Nat.le_refl _) (I1.hok.fresh (Nat.le_refl _))
noncomputable def stE:Stmt->Expr
 | .Assign _ v _=>v
 | .Return (some v) _=>v
 | .Expr v _=>v
 | _=>.Constant .none 0 ⟨0,0,0,0⟩
noncomputable def zQ3 (e:Expr) (j:Nat):Expr:=match e with
 | .Call _ as _ _=>as.getD j (.Constant .none 0 ⟨0,0,0,0⟩)
 | _=>.Constant .none 0 ⟨0,0,0,0⟩
noncomputable def zt7:Expr->Scope
 | .ListComp _ _ sc _=>sc
 | _=>{ kind:=.function,names:=[],isGenerator:=false,isCoroutine:=false }
noncomputable def stAt (l:List Stmt) (i:Nat):Stmt:=l.getD i (.Pass ⟨0,0,0,0⟩)
noncomputable def stBody:Stmt->List Stmt
 | .If _ b _ _=>b
 | .For _ _ b _ _=>b
 | .While _ b _ _=>b
 | _=>[]
end
end L2
namespace L2
open PySem PySem.Spec PyProof.Rows
theorem iteB {c:Bool} {A B:Prop} (e:c=false) (h:B):if c=true then A else B:=by
 subst e;exact iteF h
theorem iteA {c:Bool} {A B:Prop} (e:c=true) (h:A):if c=true then A else B:=by
 subst e;exact iteT h
theorem fl0 {f:Str} {v:V}:(putF f v []).length<=1:=zm9 f v []
theorem flS {f:Str} {v:V} {fs:List (Str×V)} {k:Nat} (h:fs.length<=k):(putF f v fs).length<=k+1:=Nat.le_trans (zm9 f v fs) (Nat.succ_le_succ h)
theorem zv4 {fs:List (Str×V)} {k:Nat} (h:fs.length<=k) (hk:k<1000:=by decide):fs.length<1000:=Nat.lt_of_le_of_lt h hk
noncomputable def zj0 (p:Addr) (H H':Hp):Prop:=∀ b o,H b=some o->b≠p->H' b=some o
theorem Same.upd {H:Hp} {l:Addr} {o:HO} (h:H l=none):Same H (upd H l o):=fun b u e=>by
 rw[za7 (za8 e h)];exact e
theorem Same.updT {H H1:Hp} {l:Addr} {o:HO} (s:Same H H1) (h:H1 l=none):Same H (L2.upd H1 l o):=s.trans (Same.upd h)
theorem Same.put {H H1:Hp} {l:Addr} {o:HO} (s:Same H H1) (h:H l=none):Same H (L2.upd H1 l o):=fun b u e=>by
 rw[za7 (za8 e h)];exact s b u e
theorem upd_id {H:Hp} {m:Addr} {o:HO} (h:H m=some o):L2.upd H m o=H:=by
 funext b
 by_cases hb:b=m
 . subst hb;rw[za5,h]
 . rw[za7 hb]
theorem ix_listK {X:Cx} (K:W.Frag) (h:X.K=K):IxR X (rIxL K):=h▸zb7
theorem zQ4 {X:Cx} (K:W.Frag) (h:X.K=K):IxR X (rIxT K):=h▸zK8
theorem zz7 {xs:List Int} {i:Nat} {v:V} (h:(xs.map V.int)[i]?=some v):∃ z,v = .int z/\xs[i]?=some z:=by
 rw[List.getElem?_map] at h
 cases e:xs[i]? with
 | none=>rw[e] at h;cases h
 | some z=>rw[e] at h;exact⟨z,(Option.some.inj h).symm,rfl⟩
theorem zQ5 {xs:List Int} {j:Nat} {z:Int} (h:xs[j]?=some z):atI (xs.map V.int) (j:Int)=some (V.int z):=zo4 (by rw[List.getElem?_map,h];rfl)
theorem zq2 {xs:List Int} {i:Int} (h0:0<=i) (h1:i<xs.length):atI (xs.map V.int) i=some (.int (xs.getD i.toNat 0)):=by
 obtain ⟨j,rfl⟩:∃ j:Nat,i=j:=⟨i.toNat,by omega⟩
 have hj:j<xs.length:=by omega
 rw[zQ5 (z:=xs[j]) (by simp[hj])]
 simp[hj]
theorem zk1 {a b:Int}:decide (V.int a=V.int b)=decide (a=b):=by
 by_cases h:a=b
 . subst h;simp
 . rw[decide_eq_false h,decide_eq_false];intro e;cases e;exact h rfl
theorem comp_map {J:It} {H1:Hp} {D:Addr} {n:Nat} {x:Nat->V} {f:Nat->V} {j:Nat} {σc:St} {telt:TE} {Q:Hp->Prop} (hn:n<=sizeLine)
   (go:∀ i acc,i<n->J.go i (upd H1 D (.lst acc))) (st:∀ acc,J.stop n (upd H1 D (.lst acc))) (yl:∀ i acc v H',i<n->J.yld i (upd H1 D (.lst acc)) v H'->H'=upd H1 D (.lst acc)/\v=x i)
   (el:∀ i acc R,i<n->R (f i) (upd H1 D (.lst acc))->telt (σc.set j (some (x i))) (upd H1 D (.lst acc)) R) (q:Q (upd H1 D (.lst ((List.range n).map f)))) :
   ∃ W:Nat->Nat->St->Hp->Prop,(∃ m,W 0 m σc (upd H1 D (.lst []))) ∧
     ∀ i m σ' H',W i m σ' H'->(J.stop i H'/\Q H')\/(J.go i H'/\∃ N:St->Hp->Prop,(∀ σ2 H2,N σ2 H2->∃ m',m'<m/\W (i+1) m' σ2 H2) ∧
       ∀ v H2,J.yld i H' v H2->zl1 j v σ' H2 fun σ3 H3=>zu5 σ3 H3 fun b H4=>if b=true then zn8 D telt N σ3 H4 else N σ3 H4):=by
 refine⟨fun i m σ' H'=>m=n-i/\i<=n/\(∀ v,σ'.set j (some v)=σc.set j (some v))/\H'=upd H1 D (.lst ((List.range i).map f)),⟨n,by simp,Nat.zero_le _,fun _=>rfl,rfl⟩,?_⟩
 rintro i m σ' H' ⟨rfl,hi,hσ,rfl⟩
 by_cases hlt:i<n
 . refine .inr ⟨go i _ hlt,fun σ2 H2=>(∀ v,σ2.set j (some v)=σc.set j (some v))/\H2=upd H1 D (.lst ((List.range (i+1)).map f)),fun σ2 H2 ⟨h1,h2⟩=>⟨n-(i+1),by omega,rfl,hlt,h1,h2⟩,fun v H2 y=>?_⟩
   obtain ⟨rfl,rfl⟩:=yl i _ v H2 hlt y
   dsimp only[zl1,zu5]
   refine iteT ?_
   dsimp only[zn8]
   rw[hσ]
   refine el i _ _ hlt ⟨_,za5,?_,?_,?_⟩
   . rw[List.length_map,List.length_range];omega
   . intro v;simp
   . rw[zi8,List.range_succ,List.map_append];rfl
 . have e:i=n:=by omega
   subst e
   exact .inl ⟨st _,q⟩
theorem zL1 {K:W.Frag} {H:Hp} {a D:Addr} {xs:List V} {o:HO} (h:SqL K H a xs) (n:H D=none):SqL K (upd H D o) a xs:=(Same.upd n).seq h
theorem map_range_get {α β:Type} (xs:List α) (d:α) (f:α->β):(List.range xs.length).map (fun i=>f (xs.getD i d))=xs.map f:=by
 apply List.ext_getElem
 . simp
 . intro i h1 h2
   simp at h1 h2
   simp[h1]
theorem comp_list {K:W.Frag} {H1:Hp} {a D:Addr} {xs:List V} {f:V->V} {j:Nat} {σc:St} {telt:TE} {Q:Hp->Prop} (h:SqL K H1 a xs) (hD:H1 D=none) (hn:xs.length<=sizeLine)
   (el:∀ x acc R,x∈xs->R (f x) (upd H1 D (.lst acc))->telt (σc.set j (some x)) (upd H1 D (.lst acc)) R) (q:Q (upd H1 D (.lst (xs.map f)))) :
   ∃ W:Nat->Nat->St->Hp->Prop,(∃ m,W 0 m σc (upd H1 D (.lst []))) ∧
     ∀ i m σ' H',W i m σ' H'->((Itl K a).stop i H'/\Q H')\/((Itl K a).go i H'/\∃ N:St->Hp->Prop,(∀ σ2 H2,N σ2 H2->∃ m',m'<m/\W (i+1) m' σ2 H2) ∧
       ∀ v H2,(Itl K a).yld i H' v H2->zl1 j v σ' H2 fun σ3 H3=>zu5 σ3 H3 fun b H4=>if b=true then zn8 D telt N σ3 H4 else N σ3 H4):=by
 refine comp_map (J:=Itl K a) (n:=xs.length) (x:=fun i=>xs.getD i .non) (f:=fun i=>f (xs.getD i .non)) hn (fun i acc hi=>⟨xs,xs[i],zL1 h hD,by simp[hi]⟩) (fun acc=>⟨xs,zL1 h hD,Nat.le_refl _⟩) (fun i acc v H' hi y=>?_) (fun i acc R hi r=>?_) ?_
 . obtain ⟨e,y⟩:=y
   have:=y xs (zL1 h hD)
   exact⟨e,by rw[List.getD_eq_getElem?_getD,this];rfl⟩
 . refine el _ acc R ?_ r
   rw[List.getD_eq_getElem?_getD,List.getElem?_eq_getElem hi]
   exact List.getElem_mem hi
 . rw[map_range_get];exact q
end L2
namespace L2
open PySem PySem.Spec PyProof.Rows
section
variable {prog:Program} {w:World} {A:Around} {E:Value->Shared->Prop} {s:Shared}
theorem zG0 {it l:Addr} {i:Nat} {its:Array Value} {x:Value} {Q:Value->Shared->Prop} (hit:s.heap.IsTupleIter it l i) (hl:s.heap.IsTuple l its) (hx:its[i]?=some x)
   (hQ:∀ h',h'.IsTupleIter it l (i+1)->Heap.SameBut it s.heap h'->Q x { s with heap:=h' }):wpAny (model prog w) A (Builtin.SmallTypes.nextOf (.ref it)) Q E s:=by
 obtain ⟨oi,hoi,hci,hdi⟩:=id hit
 obtain ⟨os,hos,_,ns,hds⟩:=hl
 unfold Builtin.SmallTypes.nextOf
 refine wpAny_bind (wpAny_callSpecial?_slot (name:=Str.ofString "__next__") hit.typeIs F.slot_tuple_iterator_next (wpAny_call_entry F.slot_tuple_iterator_next hit.typeIs F.entry_tuple_iterator_next ?_ (F.args_tuple_iterator_next_1 _)))
 show wpAny _ _ (field (.ref it) 0 >>= _) _ _ s
 refine wpAny_bind (wpAny_field hoi hdi (x:=.ref l) rfl ?_);show wpAny _ _ (if (Value.ref l == Value.none)=true then _ else _) _ _ s
 rw[if_neg (show ¬ ((Value.ref l == Value.none)=true) from Bool.false_ne_true)];show wpAny _ _ (field (.ref it) 1 >>= _) _ _ s
 refine wpAny_bind (wpAny_field hoi hdi (x:=.int i 0) rfl ?_);show wpAny _ _ (seqItems? (.ref l) >>= _) _ _ s
 refine wpAny_bind (wpAny_seqItems hos hds ?_);simp only[Int.toNat_natCast,hx]
 refine wpAny_bind (wpAny_setField hoi hdi (by simp) (wpAny_pure ⟨x,rfl,wpAny_pure (hQ _ ?_ (Heap.SameBut.update ..))⟩))
 refine⟨_,Heap.get?_update_self _ hoi (Obj.isFreed_of_fields (Obj.data_mapFields hdi _)),(Obj.cls_mapFields ..).trans hci,?_⟩;rw[Obj.data_mapFields hdi];simp[rawInt]
theorem nextOf_tup_end {it l:Addr} {i:Nat} {its:Array Value} {Q:Value->Shared->Prop} (hh:A.handled=none) (hit:s.heap.IsTupleIter it l i) (hl:s.heap.IsTuple l its) (hx:its[i]?=none)
   (hE:∀ h' e,Heap.ExtBut it s.heap h'->(∃ o,h'.get? e=some o/\o.cls = .type "StopIteration")->E (.ref e) { s with heap:=h' }):wpAny (model prog w) A (Builtin.SmallTypes.nextOf (.ref it)) Q E s:=by
 obtain ⟨oi,hoi,hci,hdi⟩:=id hit
 obtain ⟨os,hos,_,ns,hds⟩:=hl
 unfold Builtin.SmallTypes.nextOf
 refine wpAny_bind (wpAny_callSpecial?_slot (name:=Str.ofString "__next__") hit.typeIs F.slot_tuple_iterator_next (wpAny_call_entry F.slot_tuple_iterator_next hit.typeIs F.entry_tuple_iterator_next ?_ (F.args_tuple_iterator_next_1 _)))
 show wpAny _ _ (field (.ref it) 0 >>= _) _ _ s
 refine wpAny_bind (wpAny_field hoi hdi (x:=.ref l) rfl ?_);show wpAny _ _ (if (Value.ref l == Value.none)=true then _ else _) _ _ s
 rw[if_neg (show ¬ ((Value.ref l == Value.none)=true) from Bool.false_ne_true)];show wpAny _ _ (field (.ref it) 1 >>= _) _ _ s
 refine wpAny_bind (wpAny_field hoi hdi (x:=.int i 0) rfl ?_);show wpAny _ _ (seqItems? (.ref l) >>= _) _ _ s
 refine wpAny_bind (wpAny_seqItems hos hds ?_);simp only[Int.toNat_natCast,hx]
 refine wpAny_bind (wpAny_rule (wpAny_bind (wpAny_setField hoi hdi (by simp) ?_)));show wpAny _ _ (newExc (.type "StopIteration") [] >>= _) _ _ _
 refine wpAny_bind ?_;simp only[newExc,newTuple]
 refine wpAny_bind (wpAny_newObj_type ?_ (by size_fits))
 refine wpAny_bind (m:=firstArgMember _ _) (wpAny_of_eq (a:=Value.none) (by first | rfl | (simp only[firstArgMember];rfl)) ?_)
 refine wpAny_newObj_type ?_ (by size_fits);simp only[raiseNew]
 refine wpAny_bind (wpAny_handled ?_);first | rw[show A.in1.handled=none from hh] | rw[hh]
 refine wpAny_bind (wpAny_pure (wpAny_throw ?_))
 exact hE _ _ (((Heap.SameBut.update ..).extBut.push _).push _) ⟨_,Heap.get?_push_size _ rfl,rfl⟩
structure zO7 (z TI TO i1 i2:Addr):Prop where
 TIz:TI≠z
 TOz:TO≠z
 i1z:i1≠z
 i2z:i2≠z
 TITO:TI≠TO
 TIi1:TI≠i1
 TIi2:TI≠i2
 TOi1:TO≠i1
 TOi2:TO≠i2
 i12:i1≠i2
structure ZAt (h:Heap) (z TI TO i1 i2 l1 l2:Addr) (f0:Value) (i:Nat):Prop where
 hz:IsZip h z TI TO f0
 hTI:IsPair h TI (.ref i1) (.ref i2)
 hTO:∃ a b,IsPair h TO a b
 h1:h.IsTupleIter i1 l1 i
 h2:h.IsTupleIter i2 l2 i
theorem zip_item {z TI TO i1 i2 l1 l2:Addr} {k:Nat} {xs ys:Array Value} {x y:Value} {Q:Option Value->Shared->Prop} (D:zO7 z TI TO i1 i2) (L:∀ l,l=l1\/l=l2->l≠z/\l≠TO/\l≠i1/\l≠i2) (Z:ZAt s.heap z TI TO i1 i2 l1 l2 .none k)
   (hl1:s.heap.IsTuple l1 xs) (hl2:s.heap.IsTuple l2 ys) (hx:xs[k]?=some x) (hy:ys[k]?=some y)
   (hQ:∀ h',ZAt h' z TI TO i1 i2 l1 l2 (rawInt s.heap.objs.size) (k+1)->IsPair h' s.heap.objs.size x y →
     (∀ c o,c≠z->c≠TO->c≠i1->c≠i2->s.heap.get? c=some o->h'.get? c=some o)->Q (some (.ref s.heap.objs.size)) { s with heap:=h' }) :
   wpAny (model prog w) A (pyNext (.ref z)) Q E s:=by
 obtain ⟨hz,hTI,⟨a,b,hTO⟩,h1,h2⟩:=Z
 obtain ⟨l1z,l1TO,l1i1,l1i2⟩:=L l1 (.inl rfl)
 obtain ⟨l2z,l2TO,l2i1,l2i2⟩:=L l2 (.inr rfl)
 have hT:s.TypeIs (.ref z) "zip":=⟨_,hz,rfl⟩
 unfold pyNext
 refine wpAny_bind (wpAny_attempt (wpAny_callSpecial?_slot (name:=Str.ofString "__next__") hT F.slot_zip_next (wpAny_call_entry F.slot_zip_next hT F.entry_zip_next ?_ (F.args_zip_next_1 _))))
 show wpAny _ _ (field (.ref z) 2 >>= _) _ _ _
 refine wpAny_bind (wpAny_field hz rfl (x:=.bool false) rfl ?_);show wpAny _ _ (field (.ref z) 3 >>= _) _ _ _
 refine wpAny_bind (wpAny_field hz rfl (x:=.ref TI) rfl ?_)
 refine wpAny_bind (wpAny_seqItems hTI rfl ?_);show wpAny _ _ (Builtin.SmallTypes.ownedTupleIsFree (.ref z) >>= _) _ _ _
 refine wpAny_bind ?_;unfold Builtin.SmallTypes.ownedTupleIsFree
 refine wpAny_bind (wpAny_field hz rfl (x:=.none) rfl (wpAny_pure ?_));simp only[if_true]
 refine wpAny_bind (wpAny_rule (wpAny_bind (wpAny_field hz rfl (x:=.ref TO) rfl ?_)))
 refine wpAny_bind (wpAny_setField_rec hz (by simp) fun g1 z1 e1=>?_)
 replace z1:IsZip g1 z TI TO .ellipsis:=z1
 refine wpAny_bind ?_;simp only[List.zipIdx_cons,List.zipIdx_nil,List.forIn_cons,List.forIn_nil]
 refine wpAny_bind (wpAny_bind (wpAny_onRaise ?_));show wpAny _ _ (Builtin.SmallTypes.nextOf (.ref i1) >>= _) _ _ _
 refine wpAny_bind (zG0 (h1.extBut e1.extBut D.i1z) (hl1.extBut e1.extBut l1z) hx fun g2 j1 e2=>wpAny_pure ?_)
 have t2:IsPair g2 TO a b:=e2.extBut _ _ D.TOi1 (e1.extBut _ _ D.TOz hTO)
 refine wpAny_bind (wpAny_seqItems t2 rfl (wpAny_bind (wpAny_updateSeq_pair t2 fun g3 t3 e3=>?_)))
 replace t3:IsPair g3 TO x b:=t3
 refine wpAny_bind (wpAny_letGo (wpAny_pure ?_))
 refine wpAny_bind (wpAny_bind (wpAny_onRaise ?_));show wpAny _ _ (Builtin.SmallTypes.nextOf (.ref i2) >>= _) _ _ _
 refine wpAny_bind (zG0 (((h2.extBut e1.extBut D.i2z).extBut e2.extBut D.i12.symm).extBut e3.extBut D.TOi2.symm) (((hl2.extBut e1.extBut l2z).extBut e2.extBut l2i1).extBut e3.extBut l2TO) hy fun g4 j2 e4=>wpAny_pure ?_)
 have t4:IsPair g4 TO x b:=e4.extBut _ _ D.TOi2 t3
 refine wpAny_bind (wpAny_seqItems t4 rfl (wpAny_bind (wpAny_updateSeq_pair t4 fun g5 t5 e5=>?_)))
 replace t5:IsPair g5 TO x y:=t5
 refine wpAny_bind (wpAny_letGo (wpAny_pure (wpAny_pure ?_)))
 refine wpAny_bind (wpAny_seqItems t5 rfl (wpAny_bind (wpAny_newTuple ?_)))
 have sz:g5.objs.size=s.heap.objs.size:=by rw[e5.1,e4.1,e3.1,e2.1,e1.1]
 have z5:IsZip g5 z TI TO .ellipsis:=e5.extBut _ _ D.TOz.symm (e4.extBut _ _ D.i2z.symm (e3.extBut _ _ D.TOz.symm (e2.extBut _ _ D.i1z.symm z1)))
 have k5:∀ c o,c≠z->c≠TO->c≠i1->c≠i2->s.heap.get? c=some o->g5.get? c=some o:=fun c o c1 c2 c3 c4 e=>e5.extBut _ _ c2 (e4.extBut _ _ c4 (e3.extBut _ _ c2 (e2.extBut _ _ c3 (e1.extBut _ _ c1 e))))
 have m1:g5.IsTupleIter i1 l1 (k+1):=((j1.extBut e3.extBut D.TOi1.symm).extBut e4.extBut D.i12).extBut e5.extBut D.TOi1.symm
 have m2:g5.IsTupleIter i2 l2 (k+1):=j2.extBut e5.extBut D.TOi2.symm
 have zl:z<g5.objs.size:=Heap.lt_size z5
 show wpAny _ _ (Builtin.SmallTypes.ownedTupleHandOut (.ref z) (.ref g5.objs.size) >>= _) _ _ _
 refine wpAny_bind ?_;unfold Builtin.SmallTypes.ownedTupleHandOut
 have z6:IsZip (g5.push { cls:=.type "tuple",data:=.seq #[x,y] }) z TI TO .ellipsis:=Heap.get?_push_of_some _ z5
 refine wpAny_bind (wpAny_setField_rec z6 (by simp) fun g7 z7 e7=>?_)
 replace z7:IsZip g7 z TI TO (rawInt g5.objs.size):=z7
 refine wpAny_setField_rec z7 (by simp) fun g8 z8 e8=>?_
 replace z8:IsZip g8 z TI TO (rawInt g5.objs.size):=z8
 have up:∀ c o,c≠z->g5.get? c=some o->g8.get? c=some o:=fun c o c1 e=>e8.extBut _ _ c1 (e7.extBut _ _ c1 (Heap.get?_push_of_some _ e))
 have t8:IsPair g8 g5.objs.size x y:=e8.extBut _ _ (Nat.ne_of_gt zl) (e7.extBut _ _ (Nat.ne_of_gt zl) (Heap.get?_push_size _ rfl))
 rw[sz] at z8 t8
 refine wpAny_pure ⟨_,rfl,wpAny_pure ?_⟩
 show Q (some (.ref g5.objs.size)) _
 rw[sz]
 have at1:∀ {it l:Addr} {i:Nat},g5.IsTupleIter it l i->it≠z->g8.IsTupleIter it l i:=fun q ne=>let ⟨o,ho,r⟩:=q;⟨o,up _ o ne ho,r⟩
 exact hQ g8 ⟨z8,up _ _ D.TIz (k5 _ _ D.TIz D.TITO D.TIi1 D.TIi2 hTI),⟨x,y,up _ _ D.TOz t5⟩,at1 m1 D.i1z,at1 m2 D.i2z⟩ t8 fun c o c1 c2 c3 c4 e=>up c o c1 (k5 c o c1 c2 c3 c4 e)
theorem zip_end {z TI TO i1 i2 l1 l2:Addr} {k:Nat} {xs:Array Value} {Q:Option Value->Shared->Prop} (hh:A.handled=none) (D:zO7 z TI TO i1 i2) (L:l1≠z) (Z:ZAt s.heap z TI TO i1 i2 l1 l2 .none k)
   (hl1:s.heap.IsTuple l1 xs) (hx:xs[k]?=none)
   (hQ:∀ h',(∀ c o,c≠z->c≠TO->c≠i1->c≠i2->s.heap.get? c=some o->h'.get? c=some o)->Q none { s with heap:=h' }):wpAny (model prog w) A (pyNext (.ref z)) Q E s:=by
 obtain ⟨hz,hTI,⟨a,b,hTO⟩,h1,h2⟩:=Z
 have hT:s.TypeIs (.ref z) "zip":=⟨_,hz,rfl⟩
 unfold pyNext
 refine wpAny_bind (wpAny_attempt (wpAny_callSpecial?_slot (name:=Str.ofString "__next__") hT F.slot_zip_next (wpAny_call_entry F.slot_zip_next hT F.entry_zip_next ?_ (F.args_zip_next_1 _))))
 show wpAny _ _ (field (.ref z) 2 >>= _) _ _ _
 refine wpAny_bind (wpAny_field hz rfl (x:=.bool false) rfl ?_);show wpAny _ _ (field (.ref z) 3 >>= _) _ _ _
 refine wpAny_bind (wpAny_field hz rfl (x:=.ref TI) rfl ?_)
 refine wpAny_bind (wpAny_seqItems hTI rfl ?_);show wpAny _ _ (Builtin.SmallTypes.ownedTupleIsFree (.ref z) >>= _) _ _ _
 refine wpAny_bind ?_;unfold Builtin.SmallTypes.ownedTupleIsFree
 refine wpAny_bind (wpAny_field hz rfl (x:=.none) rfl (wpAny_pure ?_));simp only[if_true]
 refine wpAny_bind (wpAny_rule (wpAny_bind (wpAny_field hz rfl (x:=.ref TO) rfl ?_)))
 refine wpAny_bind (wpAny_setField_rec hz (by simp) fun g1 z1 e1=>?_)
 replace z1:IsZip g1 z TI TO .ellipsis:=z1
 refine wpAny_bind ?_;simp only[List.zipIdx_cons,List.zipIdx_nil,List.forIn_cons,List.forIn_nil]
 refine wpAny_bind (wpAny_bind (wpAny_onRaise ?_));show wpAny _ _ (Builtin.SmallTypes.nextOf (.ref i1) >>= _) _ _ _
 refine wpAny_bind (nextOf_tup_end hh (h1.extBut e1.extBut D.i1z) (hl1.extBut e1.extBut L) hx fun g2 e e2 he=>?_)
 obtain ⟨oe,hoe,hce⟩:=he
 have z2:IsZip g2 z TI TO .ellipsis:=e2 _ _ D.i1z.symm z1
 have nez:e≠z:=fun q=>by subst q;rw[z2] at hoe;cases hoe;simp at hce
 refine wpAny_setField_rec z2 (by simp) fun g3 _ e3=>?_
 refine wpAny_bind (wpAny_isInstance (T:="StopIteration") (b:=true) ⟨oe,e3.extBut _ _ nez hoe,hce⟩ isSubtype_stop ?_)
 exact wpAny_pure (hQ _ fun c o c1 _ c3 _ q=>e3.extBut _ _ c1 (e2 _ _ c3 (e1.extBut _ _ c1 q)))
noncomputable abbrev zp1 (h:Heap) (l1:Addr):Heap:=h.push { cls:=.type "tuple_iterator",data:=.fields #[.ref l1,.int 0 0] }
noncomputable abbrev zp2 (h:Heap) (l1 l2:Addr):Heap:=(zp1 h l1).push { cls:=.type "tuple_iterator",data:=.fields #[.ref l2,.int 0 0] }
noncomputable abbrev zp3 (h:Heap) (l1 l2:Addr):Heap:=(zp2 h l1 l2).push { cls:=.type "tuple",data:=.seq #[.ref h.objs.size,.ref (zp1 h l1).objs.size] }
noncomputable abbrev zp4 (h:Heap) (l1 l2:Addr):Heap:=(zp3 h l1 l2).push { cls:=.type "tuple",data:=.seq #[.none,.none] }
noncomputable abbrev zp5 (h:Heap) (l1 l2:Addr):Heap:=(zp4 h l1 l2).push { cls:=.type "zip",data:=.fields #[.none,.bool false,.bool false,.ref (zp2 h l1 l2).objs.size,.ref (zp3 h l1 l2).objs.size] }
theorem zip_made (l1 l2:Addr) (xs ys:Array Value) :
   Meets (Builtin.«zip.__new__» ⟨[.type "zip",.ref l1,.ref l2],[]⟩) (fun _ R s=>s.heap.IsTuple l1 xs/\s.heap.IsTuple l2 ys/\R (.ok (.ret (.ref (zp4 s.heap l1 l2).objs.size))) { s with heap:=zp5 s.heap l1 l2 }) :=
 .of_wp fun prog w A R s h=>by
   obtain ⟨hp,g,d,tk,os⟩:=s
   obtain ⟨hl1,hl2,h⟩:=h
   have hsub:=sub_zip
   have q1:Heap.IsTuple (Shared.heap ⟨hp,g,d,tk,os⟩) l1 xs:=hl1
   have q2:Heap.IsTuple (Shared.heap ⟨hp.push { cls:=.type "tuple_iterator",data:=.fields #[.ref l1,.int 0 0] },g,d,tk,os⟩) l2 ys:=Heap.IsTuple.push hl2 _
   wp_walk using wpAny_pyIter_tuple q1,wpAny_pyIter_tuple q2
   exact⟨_,rfl,h⟩
theorem zip_call {l1 l2:Addr} {xs ys:Array Value} {Q:Value->Shared->Prop} (hl1:s.heap.IsTuple l1 xs) (hl2:s.heap.IsTuple l2 ys)
   (h:∀ h',ZAt h' (s.heap.objs.size+4) (s.heap.objs.size+2) (s.heap.objs.size+3) s.heap.objs.size (s.heap.objs.size+1) l1 l2 .none 0 →
     (∀ c o,s.heap.get? c=some o->h'.get? c=some o)->Q (.ref (s.heap.objs.size+4)) { s with heap:=h' }):wpAny (model prog w) A (call (.type "zip") [.ref l1,.ref l2]) Q E s:=by
 refine callType_new F.called_zip (by decide) (F.typeCall_zip_2 _ _) (F.newCall_zip_2 _ _) (fun obj=>F.args_object_init_3 obj _ _) F.entry_zip_new (zip_made l1 l2 xs ys) ⟨hl1,hl2,?_⟩
 have n1:(zp1 s.heap l1).objs.size=s.heap.objs.size+1:=Heap.size_push ..
 have n2:(zp2 s.heap l1 l2).objs.size=s.heap.objs.size+2:=by rw[Heap.size_push,n1]
 have n3:(zp3 s.heap l1 l2).objs.size=s.heap.objs.size+3:=by rw[Heap.size_push,n2]
 have n4:(zp4 s.heap l1 l2).objs.size=s.heap.objs.size+4:=by rw[Heap.size_push,n3]
 have p5:(zp5 s.heap l1 l2).get? (zp4 s.heap l1 l2).objs.size=some _:=Heap.get?_push_size _ rfl
 have p4:(zp5 s.heap l1 l2).get? (zp3 s.heap l1 l2).objs.size=some _:=Heap.get?_push_of_some _ (Heap.get?_push_size _ rfl)
 have p3:(zp5 s.heap l1 l2).get? (zp2 s.heap l1 l2).objs.size=some _:=Heap.get?_push_of_some _ (Heap.get?_push_of_some _ (Heap.get?_push_size _ rfl))
 have p2:(zp5 s.heap l1 l2).get? (zp1 s.heap l1).objs.size=some _:=Heap.get?_push_of_some _ (Heap.get?_push_of_some _ (Heap.get?_push_of_some _ (Heap.get?_push_size _ rfl)))
 have p1:(zp5 s.heap l1 l2).get? s.heap.objs.size=some _:=Heap.get?_push_of_some _ (Heap.get?_push_of_some _ (Heap.get?_push_of_some _ (Heap.get?_push_of_some _ (Heap.get?_push_size _ rfl))))
 show _/\_
 rw[n2,n3,n4] at p5
 rw[n1,n2] at p3
 rw[n3] at p4
 rw[n1] at p2
 rw[n4]
 refine⟨⟨_,p5,rfl⟩,h _ ⟨p5,p3,⟨_,_,p4⟩,⟨_,p1,rfl,rfl⟩,⟨_,p2,rfl,rfl⟩⟩ fun c o x=>?_⟩
 exact Heap.get?_push_of_some _ (Heap.get?_push_of_some _ (Heap.get?_push_of_some _ (Heap.get?_push_of_some _ (Heap.get?_push_of_some _ x))))
end
noncomputable def Itz (l1 l2:Addr):It :=
 ⟨fun i H=>∃ xs ys x y,H l1=some (.tup xs)/\H l2=some (.tup ys)/\xs[i]?=some x/\ys[i]?=some y,
  fun i H v H'=>∃ p xs ys x y,H p=none/\v = .ref p/\H l1=some (.tup xs)/\H l2=some (.tup ys)/\xs[i]?=some x/\ys[i]?=some y/\H'=upd H p (.tup [x,y]),
  fun i H=>∃ xs ys,H l1=some (.tup xs)/\H l2=some (.tup ys)/\xs.length<=i⟩
theorem turn_zip {P:Program} {w:World} {K:W.Frag} {es:List Expr} {k0:Nat} {tp:Pos} {l1 l2 z TI TO i1 i2:Addr} (D:zO7 z TI TO i1 i2) :
   Turn P w K (.Tuple es k0 tp) (Itz l1 l2) [z,TI,TO,i1,i2] z (fun i h=>ZAt h z TI TO i1 i2 l1 l2 .none i) where
 mem:=by simp
 obj:=fun i h Z b hb=>by
   obtain ⟨hz,hTI,⟨a,c,hTO⟩,⟨o1,e1,c1,d1⟩,⟨o2,e2,c2,d2⟩⟩:=Z
   simp only[List.mem_cons,List.not_mem_nil,or_false] at hb
   rcases hb with rfl | rfl | rfl | rfl | rfl
   . exact⟨_,hz,fun v q=>by cases (show Data.fields _=Data.cell v from q)⟩
   . exact⟨_,hTI,fun v q=>by cases (show Data.seq _ _=Data.cell v from q)⟩
   . exact⟨_,hTO,fun v q=>by cases (show Data.seq _ _=Data.cell v from q)⟩
   . exact⟨o1,e1,fun v q=>by rw[d1] at q;cases q⟩
   . exact⟨o2,e2,fun v q=>by rw[d2] at q;cases q⟩
 keep:=fun i h h' Z k=>by
   obtain ⟨hz,hTI,⟨a,c,hTO⟩,⟨o1,e1,r1⟩,⟨o2,e2,r2⟩⟩:=Z
   exact⟨k z (by simp) _ hz,k TI (by simp) _ hTI,⟨a,c,k TO (by simp) _ hTO⟩,⟨o1,k i1 (by simp) _ e1,r1⟩,⟨o2,k i2 (by simp) _ e2,r2⟩⟩
 item:=by
   intro X hP hw hK hc i pins s σ H E I hf Z hg
   subst hP hw hK
   obtain ⟨xs,ys,x,y,hx,hy,ex,ey⟩:=hg
   obtain ⟨_,vx,rx,tx⟩:=I.hok l1 _ hx
   obtain ⟨_,vy,ry,ty⟩:=I.hok l2 _ hy
   obtain ⟨u,hu,ru⟩:=rx.get ex
   obtain ⟨v,hv,rv⟩:=ry.get ey
   have hfree:∀ b∈[z,TI,TO,i1,i2],H b=none:=fun b hb=>(hf b hb).1
   have L:∀ l,l=l1\/l=l2->l≠z/\l≠TO/\l≠i1/\l≠i2:=fun l hl=>by
     have hs:∃ o,H l=some o:=by
       rcases hl with e | e
       . exact⟨_,by rw[e];exact hx⟩
       . exact⟨_,by rw[e];exact hy⟩
     obtain ⟨o,ho⟩:=hs
     exact⟨za8 ho (hfree z (by simp)),za8 ho (hfree TO (by simp)),za8 ho (hfree i1 (by simp)),za8 ho (hfree i2 (by simp))⟩
   refine zip_item D L Z (show s.heap.IsTuple l1 vx.toArray from tx.isTup) (show s.heap.IsTuple l2 vy.toArray from ty.isTup) (x:=u) (y:=v) (by simpa using hu) (by simpa using hv) fun h' Z' hp kk=>?_
   refine⟨_,rfl,wpAny_letOwnedTupleGo_zip Z'.hz fun h2 hz2 sb=>?_⟩
   have kk2:∀ c o,c∉[z,TO,i1,i2]->s.heap.get? c=some o->h2.get? c=some o:=fun c o hc e=>sb.extBut _ _ (fun q=>hc (by simp[q])) (kk c o (fun q=>hc (by simp[q])) (fun q=>hc (by simp[q])) (fun q=>hc (by simp[q])) (fun q=>hc (by simp[q])) e)
   have nb:∀ c o,H c=some o->c∉[z,TO,i1,i2]:=fun c o e hm=>by
     have:H c=none:=hfree c (by simp only[List.mem_cons,List.not_mem_nil,or_false] at hm ⊢;rcases hm with q | q | q | q<;>simp[q])
     rw[this] at e;cases e
   have zlt:z<s.heap.objs.size:=Heap.lt_size Z.hz
   have hp2:IsPair h2 s.heap.objs.size u v:=sb.extBut _ _ (Nat.ne_of_gt zlt) hp
   have fr:H s.heap.objs.size=none:=I.fresh
   have I2:Inv X pins σ (upd H s.heap.objs.size (.tup [x,y])) { s with heap:=h2 }:=by
     refine I.step (g':=s.gens) (d':=s.drawn) (t':=s.toks) (ch:=[z,TO,i1,i2]) (fun b hb=>?_) (fun b o _ _ hc e _=>kk2 b o hc e) (fun b o _ _ hc e _=>⟨o.slots,kk2 b o hc e⟩)
       (fun b o _ e n=>by rw[za7 (Nat.ne_of_lt (Heap.lt_size e))];exact n)
       (fun b o hc e=>⟨o,kk2 b o hc e⟩) (fun b zs e=>by rw[za7 (za8 e fr)];exact e) (fun b o zs e=>by rw[za7 (za8 e fr)];exact e) (fun b ps e=>⟨#[],by rw[za7 (za8 e fr),e];simp⟩) (fun m hm=>?_) (fun b o e=>?_) I.bare
     . obtain ⟨f0,f1,f2,f3,f4,f5⟩:=hf b (by simp only[List.mem_cons,List.not_mem_nil,or_false] at hb ⊢;rcases hb with q | q | q | q<;>simp[q])
       exact⟨f3,f1,f4,f5⟩
     . obtain ⟨o,es',ep,ho,r⟩:=hm
       refine⟨o,es',ep,kk2 _ o (fun hm=>?_) ho,r⟩
       exact (hf X.env.locals (by simp only[List.mem_cons,List.not_mem_nil,or_false] at hm ⊢;rcases hm with q | q | q | q<;>simp[q])).2.1 rfl
     . by_cases hb:b=s.heap.objs.size
       . subst hb
         rw[za5] at e
         cases e
         exact⟨(by show 2<=sizeLine;decide),[u,v],.cons ru (.cons rv .nil),⟨_,hp2,rfl,rfl,_,rfl⟩⟩
       . rw[za7 hb] at e
         refine (I.hok b o e).stay (fun c v hc q=>kk2 c v ?_ q) (fun c q=>by rw[za7 (za8 q fr)];exact q) fun c zs q=>by rw[za7 (za8 q fr)];exact q
         rcases hc with rfl | hc
         . exact nb _ _ e
         . exact nb _ _ hc
   exact⟨.ref s.heap.objs.size,_,I2,rfl,⟨_,xs,ys,x,y,fr,rfl,hx,hy,ex,ey,rfl⟩,⟨hz2,sb.extBut _ _ D.TIz Z'.hTI,(let ⟨a,c,q⟩:=Z'.hTO;⟨a,c,sb.extBut _ _ D.TOz q⟩),Z'.h1.extBut sb.extBut D.i1z,Z'.h2.extBut sb.extBut D.i2z⟩,fun b hb=>by
     rw[za7]
     . exact hfree b hb
     . obtain ⟨o,e,_⟩:∃ o,s.heap.get? b=some o/\True:=by
         simp only[List.mem_cons,List.not_mem_nil,or_false] at hb
         obtain ⟨hz,hTI,⟨a,c,hTO⟩,⟨o1,e1,_⟩,⟨o2,e2,_⟩⟩:=Z
         rcases hb with rfl | rfl | rfl | rfl | rfl
         . exact⟨_,hz,trivial⟩
         . exact⟨_,hTI,trivial⟩
         . exact⟨_,hTO,trivial⟩
         . exact⟨_,e1,trivial⟩
         . exact⟨_,e2,trivial⟩
       exact Nat.ne_of_lt (Heap.lt_size e)⟩
 done:=by
   intro X hP hw hK hc i pins s σ H E I hf Z hg
   subst hP hw hK
   obtain ⟨xs,ys,hx,hy,hle⟩:=hg
   obtain ⟨_,vx,rx,tx⟩:=I.hok l1 _ hx
   have hln:=rx.length
   have hfree:∀ b∈[z,TI,TO,i1,i2],H b=none:=fun b hb=>(hf b hb).1
   refine zip_end (I.ok.hd hc) D (za8 hx (hfree z (by simp))) Z (show s.heap.IsTuple l1 vx.toArray from tx.isTup) (by simp;omega) fun h' kk=>⟨rfl,?_⟩
   have kk2:∀ c o,c∉[z,TO,i1,i2]->s.heap.get? c=some o->h'.get? c=some o:=fun c o hc e=>kk c o (fun q=>hc (by simp[q])) (fun q=>hc (by simp[q])) (fun q=>hc (by simp[q])) (fun q=>hc (by simp[q])) e
   have nb:∀ c o,H c=some o->c∉[z,TO,i1,i2]:=fun c o e hm=>by
     have:H c=none:=hfree c (by simp only[List.mem_cons,List.not_mem_nil,or_false] at hm ⊢;rcases hm with q | q | q | q<;>simp[q])
     rw[this] at e;cases e
   refine I.step (g':=s.gens) (d':=s.drawn) (t':=s.toks) (ch:=[z,TO,i1,i2]) (fun b hb=>?_) (fun b o _ _ hc e _=>kk2 b o hc e) (fun b o _ _ hc e _=>⟨o.slots,kk2 b o hc e⟩) (fun _ _ _ _ n=>n)
     (fun b o hc e=>⟨o,kk2 b o hc e⟩) (fun _ _ e=>e) (fun _ _ _ e=>e) (fun b ps e=>⟨#[],by rw[e];simp⟩) (fun m hm=>?_) (fun b o e=>?_) I.bare
   . obtain ⟨f0,f1,f2,f3,f4,f5⟩:=hf b (by simp only[List.mem_cons,List.not_mem_nil,or_false] at hb ⊢;rcases hb with q | q | q | q<;>simp[q])
     exact⟨f3,f1,f4,f5⟩
   . obtain ⟨o,es',ep,ho,r⟩:=hm
     refine⟨o,es',ep,kk2 _ o (fun hm=>?_) ho,r⟩
     exact (hf X.env.locals (by simp only[List.mem_cons,List.not_mem_nil,or_false] at hm ⊢;rcases hm with q | q | q | q<;>simp[q])).2.1 rfl
   . refine (I.hok b o e).stay (fun c v hc q=>kk2 c v ?_ q) (fun _ q=>q) fun _ _ q=>q
     rcases hc with rfl | hc
     . exact nb _ _ e
     . exact nb _ _ hc
 self:=fun _ _ _ _ _ Z h=>wpAny_pyIter_zip Z.hz h
section
variable {X:Cx} {es:List Expr} {k0:Nat} {tp:Pos}
noncomputable def iZip (ta:TA):TI:=fun σ H R=>ta σ H fun vs H1=>∃ l1 l2 xs ys,vs=[.ref l1,.ref l2]/\H1 l1=some (.tup xs)/\H1 l2=some (.tup ys)/\R (Itz l1 l2) H1
theorem pi_zip {a b:Expr} {ta:TA} {p pos:Pos} (hg:Gl X "zip") (hm:X.mg "zip" = none) (ha:PA X [a,b] ta) (hs:starEach [a,b] X.env=[(false,eval a X.env),(false,eval b X.env)]:=by rfl) (hs2:starEach [b] X.env=[(false,eval b X.env)]:=by rfl) :
   PI X (.Tuple es k0 tp) (.Call (.Name "zip" p) [a,b] [] pos) (iZip ta):=by
 intro pins s σ H R I h
 refine Call_ (zF4 I hg hm boot_zip (PyProof.Rows.callWith_type1 (thn (ha pos pins s σ H _ I h) fun us s1 ⟨vs,H1,I1,r1,q1⟩=>?_) (by rw[hs,hs2]) (by rw[hs2];rfl)))
 obtain ⟨l1,l2,xs,ys,e,hx,hy,q⟩:=q1
 subst e
 obtain ⟨u1,u2,rfl,r1',r2'⟩:=zP5 r1
 cases r1'
 cases r2'
 obtain ⟨_,vx,rx,tx⟩:=I1.hok l1 _ hx
 obtain ⟨_,vy,ry,ty⟩:=I1.hok l2 _ hy
 refine zip_call (show s1.heap.IsTuple l1 vx.toArray from tx.isTup) (show s1.heap.IsTuple l2 vy.toArray from ty.isTup) fun h' Z kk=>?_
 refine wpAny_pyIter_zip Z.hz ?_
 have I2:Inv X pins σ H1 { s1 with heap:=h' }:=I1.kept (t':=s1.toks) kk
 have ne:∀ i j:Nat,i≠j->s1.heap.objs.size+i≠s1.heap.objs.size+j:=fun i j hij=>by omega
 refine⟨_,_,_,_,H1,rfl,I2,turn_zip (es:=es) (k0:=k0) (tp:=tp) (TI:=s1.heap.objs.size+2) (TO:=s1.heap.objs.size+3) (i1:=s1.heap.objs.size) (i2:=s1.heap.objs.size+1) ⟨ne 2 4 (by decide),ne 3 4 (by decide),ne 0 4 (by decide),ne 1 4 (by decide),ne 2 3 (by decide),ne 2 0 (by decide),ne 2 1 (by decide),ne 3 0 (by decide),ne 3 1 (by decide),ne 0 1 (by decide)⟩,Z,fun b hb=>?_,q⟩
 have hge:s1.heap.objs.size<=b:=by
   simp only[List.mem_cons,List.not_mem_nil,or_false] at hb
   rcases hb with rfl | rfl | rfl | rfl | rfl<;>first | exact Nat.le_add_right _ _ | exact Nat.le_refl _
 exact I1.fpOk hge (I1.hok.fresh hge)
theorem call_sum (hc:X.calm=true):zl2 X (.builtin "sum") (fun xs H Q=>∃ l ns,xs=[.ref l]/\SqL X.K H l (ns.map V.int)/\PySem.SumFits ns/\Q (.int ns.sum) H):=by
 intro pins s σ H xs us Q I r h
 obtain ⟨l,ns,rfl,hS,hfit,q⟩:=h
 obtain ⟨u,rfl,ru⟩:=zr8 r
 cases ru
 obtain ⟨its,rv,p,hz⟩:=I.list hS
 obtain ⟨ps,e1,e2⟩:=zy7 (zq0 rv)
 have ei:its.toArray=intItems ps.toArray:=by
   unfold intItems
   rw[e1]
   simp
 have hl:=p.isList
 rw[ei] at hl
 have num:∀ j,numAt ps.toArray j=ns.getD j 0:=fun j=>by
   unfold numAt
   rw[<-e2]
   simp[List.getD_eq_getElem?_getD,List.getElem?_map]
 have pre:∀ j,j<=ns.length->preSum (numAt ps.toArray) j=(ns.take j).sum:=by
   intro j
   induction j with
   | zero=>intro _;rfl
   | succ j ih =>
     intro hj
     show preSum (numAt ps.toArray) j+numAt ps.toArray j=_
     rw[ih (by omega),num,List.take_succ,List.sum_append]
     have:ns[j]?=some (ns[j]'(by omega)):=by simp
     rw[List.getD_eq_getElem?_getD,this]
     simp
 have hlen:ps.toArray.size=ns.length:=by rw[<-e2];simp
 refine sum_intList (I.ok.hd hc) hl (fun j hj=>?_) fun h' tk t' kk=>?_
 . have hj':j<ns.length:=by omega
   obtain ⟨f1,f2⟩:=hfit j hj'
   rw[num,pre (j+1) (by omega)]
   exact⟨f1,f2⟩
 . rw[hlen,pre ns.length (Nat.le_refl _),List.take_length]
   exact⟨.int ns.sum,H,I.kept kk,⟨_,rfl⟩,q⟩
theorem pg_tupK {es:List Expr} {k:Nat} {t:TGs} {n:Nat} {pos:Pos} (K:W.Frag) (hK:X.K=K) (hc:X.calm=true) (h:PGs X es t)
 (hn:(assignEach es X.env).length=n:=by rfl) (hst:(assignEach es X.env).findIdx? (·.1)=none:=by rfl):PG X (.Tuple es k pos) (gTup K n t):=hK▸zT2 hc h hn hst
end
theorem comp_zip {K:W.Frag} {H1:Hp} {l1 l2 D:Addr} {xs ys:List V} {f:V->V->V} {rest:St} {telt:TE} {Q:Hp->Prop} (hx:H1 l1=some (.tup xs)) (hy:H1 l2=some (.tup ys)) (hl:xs.length=ys.length) (hD:H1 D=none) (hn:xs.length<=sizeLine)
   (el:∀ (i:Nat) x y H' R,xs[i]?=some x->ys[i]?=some y->Same H1 H'->R (f x y) H'->telt (some x::some y::rest) H' R) (q:∀ H',Same H1 H'->H' D=some (.lst (List.zipWith f xs ys))->Q H') :
   ∃ W:Nat->Nat->St->Hp->Prop,(∃ m,W 0 m (none::none::rest) (upd H1 D (.lst []))) ∧
     ∀ i m σ' H',W i m σ' H'->((Itz l1 l2).stop i H'/\Q H')\/((Itz l1 l2).go i H'/\∃ N:St->Hp->Prop,(∀ σ2 H2,N σ2 H2->∃ m',m'<m/\W (i+1) m' σ2 H2) ∧
       ∀ v H2,(Itz l1 l2).yld i H' v H2->gTup K 2 (zT1 (zl1 0) (zT1 (zl1 1) gNil)) v σ' H2 fun σ3 H3=>zu5 σ3 H3 fun b H4=>if b=true then zn8 D telt N σ3 H4 else N σ3 H4):=by
 have hz:(List.zipWith f xs ys).length=xs.length:=by rw[List.length_zipWith,hl,Nat.min_self]
 refine⟨fun i m σ' H'=>m=xs.length-i/\i<=xs.length/\(∃ a b,σ'=a::b::rest)/\Same H1 H'/\H' D=some (.lst ((List.zipWith f xs ys).take i)),⟨xs.length,by simp,Nat.zero_le _,⟨_,_,rfl⟩,Same.upd hD,by rw[za5];rfl⟩,?_⟩
 rintro i m σ' H' ⟨rfl,hi,⟨a,b,rfl⟩,s,hd⟩
 by_cases hlt:i<xs.length
 . have ex:xs[i]?=some xs[i]:=by simp[hlt]
   have ey:ys[i]?=some (ys[i]'(by omega)):=by simp
   refine .inr ⟨⟨xs,ys,_,_,s _ _ hx,s _ _ hy,ex,ey⟩,fun σ2 H2=>(∃ a b,σ2=a::b::rest)/\Same H1 H2/\H2 D=some (.lst ((List.zipWith f xs ys).take (i+1))),fun σ2 H2 h=>⟨xs.length-(i+1),by omega,rfl,hlt,h.1,h.2.1,h.2.2⟩,?_⟩
   rintro v H2 ⟨p,xs',ys',x',y',fp,rfl,hx',hy',ex',ey',rfl⟩
   have e1:xs'=xs:=by have:=(s _ _ hx).symm.trans hx';cases this;rfl
   have e2:ys'=ys:=by have:=(s _ _ hy).symm.trans hy';cases this;rfl
   subst e1 e2
   have nDp:D≠p:=fun z=>by rw[z,fp] at hd;cases hd
   refine⟨p,_,rfl,SqT.of za5,rfl,_,_,rfl,_,_,rfl,rfl,?_⟩
   dsimp only[zu5]
   refine iteT ?_
   show zn8 D telt _ (some x'::some y'::rest) _
   refine el i x' y' _ _ ex' ey' (s.updT fp) ⟨_,by rw[za7 nDp];exact hd,?_,⟨_,_,rfl⟩,(s.updT fp).put hD,?_⟩
   . rw[List.length_take];omega
   . rw[za5,List.take_succ,List.getElem?_zipWith,ex',ey']
     rfl
 . have e:i=xs.length:=by omega
   subst e
   refine .inl ⟨⟨xs,ys,s _ _ hx,s _ _ hy,Nat.le_refl _⟩,q H' s ?_⟩
   rw[hd,<-hz,List.take_length]
end L2
namespace L2
open PySem PySem.Spec PyProof.Rows
noncomputable abbrev bmV:List Value:=[.type "ValueError",.type "Exception",.type "BaseException",.type "object"]
noncomputable def MroV (bm:List Value):Prop:=bm=bmV\/∃ D:Addr,bm = .ref D::bmV
theorem MroV.has {bm:List Value} (m:MroV bm) {T:String} {b:Bool} (h:bmV.contains (.type T)=b):bm.contains (.type T)=b:=by
 rcases m with rfl | ⟨D,rfl⟩
 . exact h
 . rw[List.contains_cons,h];rfl
theorem MroV.self {bm:List Value} (m:MroV bm) (C:Addr) {T:String} {b:Bool} (h:bmV.contains (.type T)=b):(Value.ref C::bm).contains (.type T)=b:=by
 rw[List.contains_cons,m.has h];rfl
theorem MroV.passes {bm:List Value} (m:MroV bm) (v:Value):refuseLoop v "__setattr__" bm=pure ():=by
 rcases m with rfl | ⟨D,rfl⟩
 . exact PySem.F.store_ValueError.passes v
 . rw[refuseLoop_ref];exact PySem.F.store_ValueError.passes v
section
variable {prog:Program} {w:World} {A:Around} {E:Value->Shared->Prop} {R:Result->Shared->Prop} {h:Heap} {g:Array GenState} {d:Drawn} {t:Nat} {os:OsState}
variable {nm q:Str} {C N:Addr} {bs bm:List Value} {hdct:Bool} {sn:List Str} {sub:List Value} {ab:Bool} {col:Option Bool} {dd:Option Addr} {k0 k1 k2 k3 k5:Option Value}
theorem xnew_check {M:Model} (m:MroV bm) {rest:List Value} {Q:Unit->Shared->Prop} (hC:h.get? C=some (excClassObj nm q C N bs bm hdct sn sub ab col dd k0 k1 k2 k3 k5 "ValueError.__new__"))
   (hq:Q () ⟨h,g,d,t,os⟩):wpAny M A (checkBuiltinCall "ValueError.__new__" ⟨.ref C::rest,[]⟩) Q E ⟨h,g,d,t,os⟩:=by
 have hin:=m.self C PySem.F.excBase_ValueError.hasB
 have hst:=PySem.F.excBase_ValueError.noStar
 simp only[checkBuiltinCall,PySem.F.excBase_ValueError.newKind,PySem.F.excBase_ValueError.newSplit,PySem.F.excBase_ValueError.newRow]
 repeat (first | refine wpAny_loadPart_at hC ?_ | (refine wpAny_isSubtype_exc hC ?_;rw[hin]) | refine wpAny_staticBase_exc hC ?_ | refine wpAny_madeBy_exc hC ?_ | simp only[bne_self_eq_false,Bool.false_eq_true,if_false] | wp_step)
 exact hq
theorem xnew_code (m:MroV bm) {rest:List Value} (hC:h.get? C=some (excClassObj nm q C N bs bm hdct sn sub ab col dd k0 k1 k2 k3 k5 "ValueError.__new__"))
   (hq:R (.ok (.ret (.ref (h.objs.size+1)))) ⟨(h.push { cls:=.type "tuple",data:=.seq rest.toArray }).push { cls:=.ref C,data:=.fields #[.ref h.objs.size,.none,.none,.none,.bool false,.none] },g,d,t,os⟩)
   (hrest:rest.length<=sizeLine):codeAny (model prog w) A (.builtin "ValueError.__new__" ⟨.ref C::rest,[]⟩) R ⟨h,g,d,t,os⟩:=by
 have hends:=PySem.F.excBase_ValueError.ends
 have c1:=m.self C PySem.F.excBase_ValueError.hasB
 have c2:=m.self C PySem.F.excBase_ValueError.noAttr
 have c3:=m.self C PySem.F.excBase_ValueError.noName
 refine codeAny_builtinAt PySem.F.excBase_ValueError.entry ?_;unfold Builtin.«BaseException.__new__»
 refine PySem.wpAt_bind ?_;show PySem.wpAt _ _ _ (stack >>= _) _ _ _
 refine PySem.wpAt_bind (PySem.wpAt_stack fun p below=>PySem.wpAt_of_wpAny ?_);wp_walk
 refine PySem.wpAt_of_wpAny ?_;rw[PySem.F.excBase_ValueError.owner]
 repeat (first | with_reducible refine wpAny_madeHere_exc PySem.F.excBase_ValueError.canon hC ?_ | with_reducible refine wpAny_loadPart_at hC ?_ | (with_reducible refine wpAny_isSubtype_exc hC ?_;first | rw[c1] | rw[c2] | rw[c3]) | wp_step)
 show R _ _;rw[Heap.size_push];exact hq
theorem xcall {K:W.Frag} (X:K.In h) (m:MroV bm) {rest:List Value} {fI:Addr} {Q:Value->Shared->Prop} (hC:h.get? C=some (excClassObj nm q C N bs bm hdct sn sub ab col dd k0 k1 k2 k3 k5 "ValueError.__new__"))
   (hi:W.findIn K (.ref C) "__init__" = some (some (.ref fI))) (hf:W.isFn K (.ref fI)=true) (hrest:rest.length<=sizeLine)
   (hq:wpAny (model prog w) (A.under (.builtin "type.__call__" ⟨.ref C::rest,[]⟩)) (call (.ref fI) (.ref (h.objs.size+1)::rest)) (fun r s'=>r = .none/\Q (.ref (h.objs.size+1)) s') E
     ⟨(h.push { cls:=.type "tuple",data:=.seq rest.toArray }).push { cls:=.ref C,data:=.fields #[.ref h.objs.size,.none,.none,.none,.bool false,.none] },g,d,t,os⟩) :
   wpAny (model prog w) A (call (.ref C) rest) Q E ⟨h,g,d,t,os⟩:=by
 have f1:=tc_lookup
 have f2:=tc_bind (.ref C)
 have hT:(⟨h,g,d,t,os⟩:Shared).TypeIs (.ref C) "type":=⟨_,hC,rfl⟩
 refine wpAny_call (codeAny_of_tree ?_);show wpAny _ _ (callAny (.ref C) _) _ _ _
 repeat (any_goals (first | assumption | with_reducible refine wpAny_loadPart_at hC ?_ | wp_step))
 refine⟨rfl,?_⟩
 refine codeAny_call_builtin_at (Code.quiet_builtin _ (by decide +kernel)) entry_typeCall (wpAny_check_type_call_sub hC ?_)
 repeat (first | with_reducible refine wpAny_loadPart_at hC ?_ | with_reducible refine wpAny_madeBy_exc hC ?_ | wp_step)
 refine codeAny_call_builtin_code (Code.quiet_builtin _ PySem.F.excBase_ValueError.quiet) (xnew_check m hC (xnew_code m hC ?_ hrest))
 show wpAny _ _ _ _ _ _
 have kp:∀ b o,h.get? b=some o->((h.push { cls:=.type "tuple",data:=.seq rest.toArray }).push { cls:=.ref C,data:=.fields #[.ref h.objs.size,.none,.none,.none,.bool false,.none] }).get? b=some o:=fun b o e=>Heap.get?_push_of_some _ (Heap.get?_push_of_some _ e)
 have hC1:=kp _ _ hC
 have X1:K.In ((h.push { cls:=.type "tuple",data:=.seq rest.toArray }).push { cls:=.ref C,data:=.fields #[.ref h.objs.size,.none,.none,.none,.bool false,.none] }):=X.keeps kp
 have hg:((h.push { cls:=.type "tuple",data:=.seq rest.toArray }).push { cls:=.ref C,data:=.fields #[.ref h.objs.size,.none,.none,.none,.bool false,.none] }).get? (h.objs.size+1)=some { cls:=.ref C,data:=.fields #[.ref h.objs.size,.none,.none,.none,.bool false,.none] }:=by heap_get
 have hcc:(Value.ref C::bm).contains (.ref C)=true:=by simp
 unfold isInstance
 repeat (first | with_reducible refine wpAny_loadPart_at hg ?_ | wp_step)
 refine wpAny_isSubtype_exc hC1 ?_;rw[hcc]
 repeat (first | with_reducible refine wpAny_loadPart_at hg ?_ | wp_step)
 show wpAny _ _ (typeLookup (.ref C) _) _ _ _
 refine W.looks_findIn X1 hi _ _ _ _ (fun _ _ e=>e) ?_
 refine wpAny_holding (wpAny_bind ?_);unfold bindSpecial
 refine wpAny_bind (W.looks_typeIn X1 (beq_iff_eq.mp hf) _ _ _ _ (fun _ _ e=>e) ?_)
 rw[if_pos (by decide)]
 refine wpAny_pure (wpAny_bind (wpAny_mono hq (fun r s' hr=>?_) fun _ _ x=>x))
 obtain ⟨rfl,hQ⟩:=hr
 wp_walk
 exact hQ
end
end L2
namespace L2
open PySem PySem.Spec PyProof.Rows
open PySem.Builtin PySem.Builtin.ObjectAttr
section
variable {prog:Program} {w:World} {A:Around} {E:Value->Shared->Prop} {h:Heap} {g:Array GenState} {d:Drawn} {t:Nat} {os:OsState}
variable {nm q:Str} {C N x:Addr} {bs bm:List Value} {sn:List Str} {sub:List Value} {ab:Bool} {col:Option Bool} {dd:Option Addr} {k0 k1 k2 k3 k5:Option Value} {newId:String} {mA:Str->Option Value} {name:Str} {v:Value} {K:W.Frag}
theorem xsa_check {M:Model} (m:MroV bm) {o:Obj} {nv:Value} {Q:Unit->Shared->Prop} (hC:h.get? C=some (excClassObj nm q C N bs bm true sn sub ab col dd k0 k1 k2 k3 k5 newId)) (hx:h.get? x=some o) (hc:o.cls = .ref C) (hq:Q () ⟨h,g,d,t,os⟩) :
   wpAny M A (checkBuiltinCall "object.__setattr__" ⟨[.ref x,nv,v],[]⟩) Q E ⟨h,g,d,t,os⟩:=by
 have hin:=m.self C PySem.F.store_ValueError.hasOwner
 have ha:=PySem.F.store_ValueError.args (.ref x) nv v
 simp only[checkBuiltinCall,PySem.F.store_ValueError.kind,PySem.F.store_ValueError.split]
 refine wpAny_bind ?_;unfold isInstance
 repeat (first | (with_reducible refine wpAny_loadPart_at hx ?_;rw[hc]) | (with_reducible refine wpAny_isSubtype_exc hC ?_;rw[hin]) | wp_step)
 exact hq
theorem xsa_entry (X:K.In h) (m:MroV bm) {tk:Tok} {Q:PySem.Fin->Shared->Prop} {ns:List Str} (hC:h.get? C=some (excClassObj nm q C N bs bm true sn sub ab col dd k0 k1 k2 k3 k5 newId)) (hna:W.findIn K (.ref C) name=some none) (hxC:x≠C) (I:h.Inst x C mA)
   (hq:∀ h' tk',h'.Inst x C (fun y=>if y=name then some v else mA y) →
     (∀ b o,b≠x->(∀ o0 dx,h.get? x=some o0->o0.dict=some dx->b≠dx)->h.get? b=some o->h'.get? b=some o) →
     (∀ o0,h.get? x=some o0->∃ o1,h'.get? x=some o1/\o1.cls=o0.cls/\o1.data=o0.data/\o1.slots=o0.slots/\(∀ dx,o0.dict=some dx->o1.dict=some dx)/\(o0.dict=none->o1.dict=some h.objs.size))->Q (.done (.ret .none)) ⟨h',g,d,tk',os⟩) (hw:Within mA ns) (hsz:ns.length<=sizeLine) :
   wpAny (model prog w) A (Builtin.«object.__setattr__» ⟨[.ref x,.str name tk,v],[]⟩) Q E ⟨h,g,d,t,os⟩:=by
 obtain ⟨o,hx,hc,hnc,hd⟩:=I
 have hpass:=m.passes (.ref x)
 have lk:∀ (A:Around) (Q:Option Value->Shared->Prop) (E:Value->Shared->Prop),Q none ⟨h,g,d,t,os⟩->wpAny (model prog w) A (typeLookup (.ref C) name) Q E ⟨h,g,d,t,os⟩:=fun A Q E q=>W.looks_findIn X hna A Q E _ (fun _ _ e=>e) q
 unfold Builtin.«object.__setattr__»
 repeat (first | rw[refuse_eq] | (rw[refuseLoop_ref,hpass]) | (with_reducible refine wpAny_loadPart_at hx ?_;rw[hc]) | with_reducible refine wpAny_mroOf_exc hC ?_ | with_reducible refine lk _ _ _ ?_ | wp_step)
 rcases hd with ⟨hdn,hmA⟩ | ⟨dx,hdx,hne,hns⟩
 . rw[hdn,if_neg (by simp[typeHasDict])]
   split
   . rename_i hcd
     cases hcd
   split
   . rename_i c hcd
     exact absurd hcd (hnc c)
   . have hx1:(h.push { cls:=.type "dict",data:=.dict #[] }).get? x=some o:=Heap.get?_push_of_some _ hx
     have hxs:x≠h.objs.size:=Nat.ne_of_lt (Heap.lt_size hx)
     refine wpAny_bind (wpAny_alloc' (wpAny_bind (wpAny_update' hx1 (wpAny_pure ?_))))
     have hgd:((h.push { cls:=.type "dict",data:=.dict #[] }).update x fun o=>{ cls:=o.cls,dict:=some h.objs.size,data:=o.data,slots:=o.slots }).get? h.objs.size=some { cls:=.type "dict",data:=.dict #[] }:=(Heap.get?_update_ne _ _ _ _ hxs.symm).trans (Heap.get?_push_at rfl rfl)
     have hnd:((h.push { cls:=.type "dict",data:=.dict #[] }).update x fun o=>{ cls:=o.cls,dict:=some h.objs.size,data:=o.data,slots:=o.slots }).Ns h.objs.size (fun _=>none):=⟨_,#[],_,hgd,rfl,fun e he=>absurd he (by simp),fun _=>rfl⟩
     show wpAny _ _ (storeInDict h.objs.size (.str name tk) name v) _ _ _
     unfold storeInDict newKeyGuard
     refine wpAny_bind (wpAny_pure (wpAny_bind (wpAny_nsSet1 (Heap.Ns1.of_empty hnd) fun h' hn' hs=>?_)))
     obtain ⟨oD,esD,epD,hoD,hdD,hcD⟩:=hn'.count (Within.cons name v Within.nil)
     refine wpAny_bind (wpAny_lookBehind hoD (by rw[hdD];exact pastItsLine_dict (Nat.le_trans hcD (by rw[List.length_cons,List.length_nil,sizeLine_eq];omega))) ?_)
     wp_walk
     have hx':h'.get? x=some { cls:=o.cls,dict:=some h.objs.size,data:=o.data,slots:=o.slots }:=by
       refine (hs.2 x hxs).trans (Heap.get?_update_self _ hx1 ?_)
       have hfr:=(Heap.get?_some_iff.mp hx).2
       obtain ⟨oc,od,odt,osl⟩:=o
       cases odt<;>first | rfl | exact hfr
     refine hq h' _ ⟨_,hx',hc,hnc,.inr ⟨h.objs.size,rfl,hxs.symm,?_⟩⟩ (fun b ob hbx _ hb=>?_) (fun o0 h0=>?_)
     . obtain ⟨o',es,ep,e1,e2,e3,eu,e4⟩:=hn'
       exact⟨o',es,ep,e1,e2,e3,eu,fun y=>by rw[e4 y];by_cases hy:y=name<;>simp[hy,hmA]⟩
     . exact (hs.2 b (Nat.ne_of_lt (Heap.lt_size hb))).trans ((Heap.get?_update_ne _ _ _ _ hbx).trans (Heap.get?_push_of_some _ hb))
     . obtain rfl:o=o0:=Option.some.inj (hx.symm.trans h0)
       exact⟨_,hx',rfl,rfl,rfl,fun dx e=>(by rw[hdn] at e;cases e),fun _=>rfl⟩
 . rw[hdx]
   refine wpAny_pure ?_
   show wpAny _ _ (storeInDict dx (.str name tk) name v) _ _ _
   unfold storeInDict newKeyGuard
   refine wpAny_bind (wpAny_pure (wpAny_bind (wpAny_nsSet1 hns fun h' hn' hs=>?_)))
   obtain ⟨oD,esD,epD,hoD,hdD,hcD⟩:=hn'.count (Within.cons name v hw)
   refine wpAny_bind (wpAny_lookBehind hoD (by rw[hdD];exact pastItsLine_dict (Nat.le_trans hcD (by rw[List.length_cons];omega))) ?_)
   wp_walk
   refine hq h' _ ⟨o,(hs.2 x hne.symm).trans hx,hc,hnc,.inr ⟨dx,hdx,hne,hn'⟩⟩ (fun b ob _ hbd hb=>(hs.2 b (hbd o dx hx hdx)).trans hb) (fun o0 h0=>?_)
   obtain rfl:o=o0:=Option.some.inj (hx.symm.trans h0)
   exact⟨o,(hs.2 x hne.symm).trans hx,rfl,rfl,rfl,fun _ e=>e,fun e=>(by rw[hdx] at e;cases e)⟩
theorem zT9 (X:K.In h) (m:MroV bm) {Q:Unit->Shared->Prop} {ns:List Str} (hC:h.get? C=some (excClassObj nm q C N bs bm true sn sub ab col dd k0 k1 k2 k3 k5 newId)) (hsa:W.findIn K (.ref C) "__setattr__" = some (some (.builtin "object.__setattr__")))
   (hna:W.findIn K (.ref C) name=some none) (hxC:x≠C) (I:h.Inst x C mA)
   (hq:∀ h' tk',h'.Inst x C (fun y=>if y=name then some v else mA y) →
     (∀ b o,b≠x->(∀ o0 dx,h.get? x=some o0->o0.dict=some dx->b≠dx)->h.get? b=some o->h'.get? b=some o) →
     (∀ o0,h.get? x=some o0->∃ o1,h'.get? x=some o1/\o1.cls=o0.cls/\o1.data=o0.data/\o1.slots=o0.slots/\(∀ dx,o0.dict=some dx->o1.dict=some dx)/\(o0.dict=none->o1.dict=some h.objs.size))->Q () ⟨h',g,d,tk',os⟩) (hw:Within mA ns) (hsz:ns.length<=sizeLine) :
   wpAny (model prog w) A (setAttr (.ref x) name v) Q E ⟨h,g,d,t,os⟩:=by
 obtain ⟨o,hx,hc,_⟩:=id I
 have f3:=PySem.F.store_ValueError.slot.bind (.ref x)
 have lk:∀ (A:Around) (Q:Option Value->Shared->Prop) (E:Value->Shared->Prop) (t:Nat),Q (some (.builtin "object.__setattr__")) ⟨h,g,d,t,os⟩->wpAny (model prog w) A (typeLookup (.ref C) "__setattr__") Q E ⟨h,g,d,t,os⟩:=fun A Q E t q=>W.looks_findIn X hsa A Q E _ (fun _ _ e=>e) q
 unfold setAttr callSpecial? specialOf
 repeat (any_goals (first | assumption | (with_reducible refine wpAny_loadPart_at hx ?_;rw[hc]) | refine lk _ _ _ _ ?_ | wp_step))
 refine codeAny_call_builtin PySem.F.store_ValueError.slot.plain PySem.F.store_ValueError.entry (xsa_check m hC hx hc (xsa_entry X m hC hna hxC I (fun h' tk' I' hk hsame=>?_) hw hsz))
 repeat (any_goals (first | assumption | wp_step))
 exact hq h' tk' I' hk hsame
end
end L2
namespace L2
open PySem PySem.Spec PyProof.Rows
noncomputable def ExcO (C e:Addr) (od:Option Addr):HO:=.ext fun h=>∃ t:Addr,h.get? e=some { cls:=.ref C,dict:=od,data:=.fields #[.ref t,.none,.none,.none,.bool false,.none] }
structure XCls (K:W.Frag) (C:Addr):Prop where
 ob:∃ nm q N bs bm sn sub ab col dd k0 k1 k2 k3 k5,K.lookup C=some (excClassObj nm q C N bs bm true sn sub ab col dd k0 k1 k2 k3 k5 "ValueError.__new__")/\MroV bm
 sa:W.findIn K (.ref C) "__setattr__" = some (some (.builtin "object.__setattr__"))
 kp:W.keepIn K (.ref C)=true
section
variable {X:Cx} {pins:List (Addr×Obj)} {σ:St} {H:Hp} {s:Shared} {C x:Addr} {od:Option Addr}
theorem zA6 (I:Inv X pins σ H s) (e:H x=some (ExcO C x od)):∃ t:Addr,s.heap.get? x=some { cls:=.ref C,dict:=od,data:=.fields #[.ref t,.none,.none,.none,.bool false,.none] }:=(I.hok x _ e).1
theorem zQ6 {P:Program} {w:World} {H:Hp} {h:Heap} {t:Addr} (e:h.get? x=some { cls:=.ref C,dict:=od,data:=.fields #[.ref t,.none,.none,.none,.bool false,.none] }):zi0 P w H h x (ExcO C x od) :=
 ⟨⟨t,e⟩,⟨_,e⟩,fun h1 h2 ⟨t,e1⟩ k=>⟨t,k _ e1⟩⟩
theorem cls_ne (I:Inv X pins σ H s) {o:HO} {ob:Obj} (hC:X.K.lookup C=some ob) (e:H x=some o):x≠C:=fun z=>by
 have hb:=I.ok.mod.kin _ _ hC
 have:=(I.bs _ _ hb).2
 rw[z,this] at e;cases e
noncomputable def XPut (D:St->Hp->Prop) (σ:St) (H:Hp) (a C:Addr) (od:Option Addr) (f:Str) (y:V):Prop:=match od with
 | none=>∀ dx,H dx=none->dx≠a->D σ (upd (upd H dx (.xd (putF f y []))) a (ExcO C a (some dx)))
 | some dx=>∃ fs,H dx=some (.xd fs)/\fs.length<1000/\D σ (upd H dx (.xd (putF f y fs)))
theorem zU0 {P:Program} {w:World} {H:Hp} {h:Heap} {dx:Addr} {mA:Str->Option Value} {f:Str} {y:V} {u:Value} {fs:List (Str×V)} (hl:fs.length<1000) (hn:h.Ns1 dx fun g=>if g=f then some u else mA g) (r:∀ g,RelO (fs.lookup g) (mA g)) (wi:PySem.Within mA (fs.map (·.1))) (ry:RelV y u) :
   zi0 P w H h dx (.xd (putF f y fs)):=by
 refine⟨by have:=zm9 f y fs;omega,_,hn,fun g=>?_,fun g hg=>?_⟩
 . rw[zc3]
   by_cases q:g=f
   . rw[if_pos q];simp only[q,if_true];exact ry
   . rw[if_neg q];simp only[q,if_false];exact r g
 . by_cases q:g=f
   . rw[q];exact (zr9 f y fs).1
   . refine (zr9 f y fs).2 g (wi g fun z=>hg ?_)
     simp only[q,if_false];exact z
theorem xsetattr_ok {f:Str} {y:V} {u:Value} {D:St->Hp->Prop} {A:Around} {E:Value->Shared->Prop} (I:Inv X pins σ H s) (c:XCls X.K C) (na:ze2 X.K C f) (e:H x=some (ExcO C x od)) (ry:RelV y u) (q:XPut D σ H x C od f y) :
   wpAny (model X.prog X.w) A (setAttr (.ref x) f u) (fun _ s'=>∃ H',Inv X pins σ H' s'/\D σ H') E s:=by
 obtain ⟨nm,qn,N,bs,bm,sn,sub,ab,col,dd,k0,k1,k2,k3,k5,hK,m⟩:=c.ob
 have hC:=I.kIn _ _ hK
 obtain ⟨t,hx⟩:=zA6 I e
 have hxC:=cls_ne I hK e
 cases od with
 | none =>
   have hI:s.heap.Inst x C (fun _=>none):=⟨_,hx,rfl,fun c z=>(by cases z),.inl ⟨rfl,fun _=>rfl⟩⟩
   obtain ⟨hp,g,d,tk,os⟩:=s
   refine zT9 (ns:=[]) I.kIn m hC c.sa na hxC hI (fun h' tk' I' hk hs=>?_) PySem.Within.nil (Nat.zero_le _)
   obtain ⟨o1,e1,e2,e3,e4,_,e5⟩:=hs _ hx
   have ed:=e5 rfl
   have eo:h'.get? x=some { cls:=.ref C,dict:=some hp.objs.size,data:=.fields #[.ref t,.none,.none,.none,.bool false,.none] }:=by
     rw[e1]
     obtain ⟨c1,d1,dt1,sl1⟩:=o1
     simp only at e2 e3 e4 ed
     subst e2 e3 e4 ed
     rfl
   have hkk:∀ b o,b≠x->hp.get? b=some o->h'.get? b=some o:=fun b o hb ho=>hk b o hb (fun o0 dx h0 hd=>by rw[hx] at h0;cases h0;cases hd) ho
   have fr:H hp.objs.size=none:=I.fresh
   have hxs:hp.objs.size≠x:=fun z=>by rw[<-z,fr] at e;cases e
   obtain ⟨oI,hoI,_,_,hdI⟩:=I'
   have hn1:h'.Ns1 hp.objs.size (fun g=>if g=f then some u else none):=by
     rw[eo] at hoI
     cases hoI
     rcases hdI with ⟨z,_⟩ | ⟨d',hd',_,hn⟩
     . cases z
     . cases hd';exact hn
   refine⟨_,?_,q _ fr hxs⟩
   refine I.un (t':=tk') (h':=h') ⟨fun b o ho n _ _=>?_,fun b o ho n _ _=>⟨o.slots,?_⟩,fun b o ho n _=>?_,fun b o ho _=>?_,fun b xs z=>?_,fun b o xs z=>?_,fun b ps z=>⟨#[],?_⟩⟩ fun b o z=>?_
   . exact hkk b o (fun z=>by rw[z,e] at n;cases n) ho
   . exact hkk b o (fun z=>by rw[z,e] at n;cases n) ho
   . rw[za7 (fun z=>by rw[z,e] at n;cases n),za7 (Nat.ne_of_lt (Heap.lt_size ho))];exact n
   . by_cases hb:b=x
     . subst hb;exact⟨_,eo⟩
     . exact⟨o,hkk b o hb ho⟩
   . rw[za7 (zD7 z e (by intro w;cases w)),za7 (za8 z fr)];exact z
   . rw[za7 (zD7 z e (by intro w;cases w)),za7 (za8 z fr)];exact z
   . rw[za7 (zD7 z e (by intro w;cases w)),za7 (za8 z fr),z];simp
   . by_cases hb:b=x
     . subst hb
       rw[za5] at z;cases z
       exact zQ6 eo
     . rw[za7 hb] at z
       by_cases hb2:b=hp.objs.size
       . subst hb2
         rw[za5] at z;cases z
         exact zU0 (mA:=fun _=>none) (by decide) hn1 (fun g=>True.intro) PySem.Within.nil ry
       . rw[za7 hb2] at z
         refine (I.hok b o z).stay (fun c v hc qv=>hkk c v ?_ qv) (fun c qc=>?_) fun c xs qc=>?_
         . rcases hc with rfl | hc
           . exact hb
           . exact zD7 hc e (by intro w;cases w)
         . rw[za7 (zD7 qc e (by intro w;cases w)),za7 (za8 qc fr)];exact qc
         . rw[za7 (zD7 qc e (by intro w;cases w)),za7 (za8 qc fr)];exact qc
 | some dx =>
   obtain ⟨fs,hd,hl,q⟩:=q
   obtain ⟨hl2,mA,hn,r,wi⟩:=I.hok dx _ hd
   have hdx:dx≠x:=zD7 hd e (by intro w;cases w)
   have hI:s.heap.Inst x C mA:=⟨_,hx,rfl,fun c z=>(by cases z),.inr ⟨dx,rfl,hdx,hn⟩⟩
   have hz:(fs.map (·.1)).length<=sizeLine:=by rw[List.length_map,sizeLine_eq];omega
   obtain ⟨hp,g,d,tk,os⟩:=s
   refine zT9 (ns:=fs.map (·.1)) I.kIn m hC c.sa na hxC hI (fun h' tk' I' hk hs=>?_) wi hz
   obtain ⟨o1,e1,e2,e3,e4,e5,_⟩:=hs _ hx
   have ed:=e5 dx rfl
   have eo:h'.get? x=some { cls:=.ref C,dict:=some dx,data:=.fields #[.ref t,.none,.none,.none,.bool false,.none] }:=by
     rw[e1]
     obtain ⟨c1,d1,dt1,sl1⟩:=o1
     simp only at e2 e3 e4 ed
     subst e2 e3 e4 ed
     rfl
   obtain ⟨oI,hoI,_,_,hdI⟩:=I'
   have hn1:h'.Ns1 dx (fun g=>if g=f then some u else mA g):=by
     rw[eo] at hoI
     cases hoI
     rcases hdI with ⟨z,_⟩ | ⟨d',hd',_,hn⟩
     . cases z
     . cases hd';exact hn
   refine⟨_,I.write (t':=tk') (h':=h') (x:=dx) (e:=dx) (by rw[hd];exact True.intro) (.inl rfl) (fun b o hb ho=>?_) (let ⟨o,_,_,e',_⟩:=hn1;⟨o,e'⟩) (zU0 hl hn1 r wi ry),q⟩
   by_cases hbx:b=x
   . subst hbx
     rw[show hp.get? b=_ from hx] at ho
     cases ho
     exact eo
   . exact hk b o hbx (fun o0 d0 h0 hd0=>by rw[show hp.get? x=_ from hx] at h0;cases h0;cases hd0;exact hb) ho
end
section
variable {X:Cx} {o value:Expr} {f:Str} {pos pos':Pos} {ta tv:TE}
noncomputable def sXFld (K:W.Frag) (ta tv:TE) (f:Str):TS:=fun D σ H=>tv σ H fun y H1=>ta σ H1 fun x H2=>∃ a C od,x = .ref a/\H2 a=some (ExcO C a od)/\XCls K C/\ze2 K C f/\XPut D.nx σ H2 a C od f y
theorem zQ7 (ha:PE X o ta) (hv:PE X value tv) (hs:swapsWith value (some (.Attribute o f pos')) pos.line X.env=pure false):PS X (.Assign [.Attribute o f pos'] value pos) (sXFld X.K ta tv f):=by
 intro pins s σ H D I h
 refine plainObj_wpAny_Assign_Attribute (thn (hv pins s σ H _ I h) fun u s1 ⟨y,H1,I1,ry,q⟩=>thn (ha pins s1 σ H1 _ I1 q) fun ov s2 ⟨x,H2,I2,rx,a,C,od,ex,ea,c,n,q2⟩=>?_) hs
 subst ex
 obtain rfl:ov=Value.ref a:=rx
 exact thn (xsetattr_ok I2 c n ea ry q2) fun _ s3 ⟨H3,I3,q3⟩=>⟨σ,H3,I3,q3⟩
end
structure zV8 (K:W.Frag) (C:Addr) (m:Str) (f:Addr):Prop where
 ga:W.specialIn K (.ref C) "__getattribute__" = some (some (.builtin "type.__getattribute__"))
 rd:W.readsIn K C (.type "type")=true
 fd:W.findCls K (.ref C) (.type "type") m=some (.val (.ref f))
 kp:W.keepIn K (.ref f)=true
section
variable {X:Cx} {CX:CXT} {k:Nat} {f C:Addr} {fd:FuncData} {ps:List Str} {sp:Sp} {dvs:List V} {ds:List Value} {E:XK} {x m:Str} {p pos apos:Pos} {e:Expr} {es:List Expr} {t:TA}
theorem zv5 {pl:Sem Bool} (M:zV8 X.K C m f) (hg:Gl X x) (hm:X.mg x=some (.ref C)) (F:FnOk X.prog X.w X.K X.mg X.base CX k f fd ps sp) (hr:Room k X.A) (hb:zc6 X.K fd ps ds) (hd:Vals dvs ds) (hx:zk4 CX X E) (ha:PA X (e::es) t)
   (hdb:(x == ("__debug__" : Str))=false:=by decide)
   (hst:starEach (e::es) X.env=(false,eval e X.env)::starEach es X.env:=by rfl) (hpl:(backTo pos (starEach es X.env)).any (·.1)=false:=by rfl)
   (ht:eval (.Call (.Attribute (.Name x p) m apos) (e::es) [] pos) X.env=(do
     let ov <-eval (.Name x p) X.env
     standAt apos.atName
     let (f,first) <-holding [ov] (getMethod ov m pl)
     callWith pos f first (backTo pos (starEach (e::es) X.env)) (backToKw pos (keywordEach [] X.env))):=by rfl) :
   PE X (.Call (.Attribute (.Name x p) m apos) (e::es) [] pos) (zV7 sp dvs E t):=by
 intro pins s σ H Q I h
 refine W.methodCall_KW (pl:=pl) (zo2 I hg hm ?_ hdb) ht
 refine W.method_cls I.kIn M.ga (W.cls_value I.kIn M.rd M.fd (by rfl) ?_)
 refine W.callWith_K (first:=[]) (h₀:=X.base) I.ok.mod.kin M.kp (thn (ha pos pins _ σ H _ (I.tok _) h) fun us s2 ⟨vs,H2,I2,r,q2⟩=>⟨I2.kIn,?_⟩) hst hpl
 exact zO4 F hr hb hd hx I2 r q2
end
end L2
namespace L2
open PySem PySem.Spec PyProof.Rows
noncomputable def del (H:Hp) (a:Addr):Hp:=fun b=>if b=a then none else H b
theorem zG1 (H:Hp) (a:Addr):del H a a=none:=if_pos rfl
theorem zt8 {H:Hp} {a b:Addr} (h:b≠a):del H a b=H b:=if_neg h
theorem zi0.got {P:Program} {w:World} {H:Hp} {h:Heap} {a:Addr} {o:HO} (x:zi0 P w H h a o):∃ ob,h.get? a=some ob:=by
 cases o with
 | lst xs=>obtain ⟨_,_,_,_,e⟩:=x;exact⟨_,e⟩
 | tup xs=>obtain ⟨_,_,_,_,e,_⟩:=x;exact⟨_,e⟩
 | dK kvs=>obtain ⟨_,_,_,_,o,_,_,e,_⟩:=x;exact⟨_,e⟩
 | dT kvs=>obtain ⟨_,_,_,_,o,_,_,e,_⟩:=x;exact⟨_,e⟩
 | set S n=>obtain ⟨o,_,_,_,e,_⟩:=x;exact⟨_,e⟩
 | ins C dx fs=>obtain ⟨_,_,_,e,_⟩:=x;exact⟨_,e⟩
 | own y=>obtain ⟨_,e⟩:=x;exact⟨_,e⟩
 | xd fs=>obtain ⟨_,_,⟨_,_,_,e,_⟩,_⟩:=x;exact⟨_,e⟩
 | rng lo hi=>obtain ⟨_,_,_,e⟩:=x;exact⟨_,e⟩
 | frz ob u=>obtain ⟨e,_⟩:=x;exact⟨_,e⟩
 | tbl ps=>exact⟨_,show h.get? a=some _ from x⟩
 | met f y=>exact⟨_,show h.get? a=some _ from x⟩
 | ext φ=>obtain ⟨_,⟨_,e⟩,_⟩:=x;exact⟨_,e⟩
noncomputable def Fly (h:Heap) (H:Hp) (h0:Heap) (a:Addr) (cls:Value):Prop :=
 (H a=none/\h0.get? a=none)/\∃ T a0,(H T=none/\h0.get? T=none)/\∃ oe vs oT ts,h.get? a=some oe/\(oe.cls=cls/\vs[0]?=some a0)/\oe.data = .fields vs/\vs[1]?=some (.ref T)/\T≠a/\h.get? T=some oT/\oT.data = .fields ts/\ts[3]?=some Value.none
theorem Fly.from {h:Heap} {H:Hp} {h0 h1:Heap} {a:Addr} {cls:Value} (x:Fly h H h0 a cls) (k:∀ b o,h1.get? b=some o->∃ o',h0.get? b=some o'):Fly h H h1 a cls:=by
 have g:∀ b,h0.get? b=none->h1.get? b=none:=fun b e=>by
   cases q:h1.get? b with
   | none=>rfl
   | some o=>obtain ⟨o',z⟩:=k b o q;rw[e] at z;cases z
 obtain ⟨⟨x1,x2⟩,T,a0,⟨x3,x4⟩,r⟩:=x
 exact⟨⟨x1,g _ x2⟩,T,a0,⟨x3,g _ x4⟩,r⟩
theorem Fly.flying {h:Heap} {H:Hp} {h0 B:Heap} {a:Addr} {cls:Value} {l:List Env} (x:Fly h H h0 a cls) (ff:h.FunFrames B l) :
   ∃ T a0,(H T=none/\h0.get? T=none)/\Heap.FlyingW (W.hideAll h (a::([T]++frs l))) l a cls a0 h:=by
 obtain ⟨_,T,a0,z,oe,vs,oT,ts,e1,e2,e3,e4,e5,e6,e7,e8⟩:=x
 refine⟨T,a0,z,fun b o e=>W.of_hideAll _ e,W.hideAll_none _ List.mem_cons_self,W.funFrames_hide ff fun env he b hb=>?_,oe,vs,T,oT,ts,e1,e2,e3,e4,W.hideAll_none _ (by simp),e5,e6,e7,e8⟩
 exact List.mem_cons_of_mem _ (List.mem_cons_of_mem _ (List.mem_filterMap.mpr ⟨env,he,hb⟩))
theorem zQ8 {P:Program} {w:World} {fs ts:List Addr} {l l':List Env} {H0 H:Hp} {h0 h1 h2 B:Heap} {a:Addr} {cls a0:Value} (u:Un fs [] H0 H h0 h1) (ok:HOk P w H h1) (ff:h1.FunFrames B l)
   (hl:∀ b∈frs l,(b∈fs\/h0.get? b=none)/\H b=none) (ha:H a=none/\h0.get? a=none) (hts:∀ T∈ts,H T=none/\h0.get? T=none)
   (x:Heap.FlyingW (W.hideAll h1 (a::(ts++frs l))) l' a cls a0 h2) (up:h1.UpToSlots h2):Un fs [] H0 H h0 h2/\HOk P w H h2/\Fly h2 H h0 a cls:=by
 obtain ⟨st,_,_,oe,vs,T,oT,tv,e1,e2,e3,e4,e5,e6,e7,e8,e9⟩:=x
 have keep:∀ b o,b∉a::(ts++frs l)->h1.get? b=some o->h2.get? b=some o:=fun b o hb e=>st b o (W.hideAll_get _ e hb)
 have out:∀ b,b∈a::(ts++frs l)->H b=none/\(b∈frs l\/h0.get? b=none):=fun b hb=>by
   rcases List.mem_cons.mp hb with rfl | hb
   . exact⟨ha.1,.inr ha.2⟩
   . rcases List.mem_append.mp hb with hb | hb
     . exact⟨(hts b hb).1,.inr (hts b hb).2⟩
     . exact⟨(hl b hb).2,.inl hb⟩
 have slot:∀ b o,h0.get? b≠none->h1.get? b=some o->∃ sl,h2.get? b=some { o with slots:=sl }:=fun b o n e=>by
   by_cases hb:b∈a::(ts++frs l)
   . rcases (out b hb).2 with q | q
     . obtain ⟨_,o',ho,hn⟩:=ff.mem q
       rw[e] at ho;cases ho
       exact up b o e hn
     . exact absurd q n
   . exact⟨o.slots,keep b o hb e⟩
 refine⟨⟨fun b o e n hf hx=>?_,fun b o e n hf hx=>?_,u.free,fun b o e hx=>?_,u.tups,u.frzs,u.tbls⟩,fun b o q=>?_,ha,T,a0,?_,oe,vs,oT,tv,e1,e2,e3,e4,e6,e7,e8,e9⟩
 . refine keep b o (fun hb=>?_) (u.keep b o e n hf hx)
   rcases (out b hb).2 with q | q
   . rcases (hl b q).1 with q | q
     . exact hf q
     . rw[e] at q;cases q
   . rw[e] at q;cases q
 . obtain ⟨sl,q⟩:=u.slot b o e n hf hx
   obtain ⟨sl',q'⟩:=slot b _ (by rw[e];simp) q
   exact⟨sl',q'⟩
 . obtain ⟨o',q⟩:=u.there b o e hx
   obtain ⟨sl',q'⟩:=slot b _ (by rw[e];simp) q
   exact⟨_,q'⟩
 . refine (ok b o q).stay (fun c v hc qv=>keep c v (fun hm=>?_) qv) (fun _ z=>z) fun _ _ z=>z
   have n:=(out c hm).1
   rcases hc with rfl | hc
   . rw[q] at n;cases n
   . rw[hc] at n;cases n
 . by_cases hm:T∈a::(ts++frs l)
   . rcases List.mem_cons.mp hm with z | hm
     . exact absurd z e6
     . rcases List.mem_append.mp hm with hm | hm
       . exact hts T hm
       . obtain ⟨_,o',ho,hn⟩:=ff.mem hm
         obtain ⟨sl,z⟩:=up T o' ho hn
         rw[e7] at z;cases z
         exact absurd e8 (hn tv)
   . have n1:h1.get? T=none:=by
       cases q:h1.get? T with
       | none=>rfl
       | some o=>rw[W.hideAll_get _ q hm] at e5;cases e5
     refine⟨?_,?_⟩
     . cases q:H T with
       | none=>rfl
       | some o=>obtain ⟨ob,z⟩:=(ok T o q).got;rw[n1] at z;cases z
     . cases q:h0.get? T with
       | none=>rfl
       | some o=>obtain ⟨ob,z⟩:=u.there T o q (by simp);rw[n1] at z;cases z
noncomputable def CXE (P:Program) (w:World):CXT:=fun outer H s E e s'=>∃ a cls H',e = .ref a/\s'.os=s.os/\AllBare s'.gens/\Un (frs outer) [] H H' s.heap s'.heap/\HOk P w H' s'.heap/\Fly s'.heap H' s.heap a cls/\E cls none H'
noncomputable def zU1 (X:Cx) (E:XK):Prop:=∀ (pins:List (Addr×Obj)) (σ:St) (H:Hp) (s:Shared) (x C:Addr) (od:Option Addr),Inv X pins σ H s->H x=some (ExcO C x od)->X.s₀.heap.get? x=none->E (.ref C) none (del H x)->X.xe (.ref x) s
section
variable {X:Cx} {pins:List (Addr×Obj)} {σ:St} {H H':Hp} {s s':Shared} {C x a:Addr} {od:Option Addr} {cls a0:Value}
theorem Inv.del (I:Inv X pins σ H s) (e:H x=some (ExcO C x od)):Inv X pins σ (L2.del H x) s:=by
 have ne:∀ b u,H b=some u->(∀ φ,u≠.ext φ)->b≠x:=fun b u q n z=>by rw[z,e] at q;cases q;exact n _ rfl
 have:=I.un (t':=s.toks) (h':=s.heap) (H':=L2.del H x) ⟨fun b o ho n _ _=>ho,fun b o ho n _ _=>⟨o.slots,ho⟩,fun b o ho n _=>?_,fun b o ho _=>⟨o,ho⟩,fun b xs z=>?_,fun b o xs z=>?_,fun b ps z=>⟨#[],?_⟩⟩ fun b o z=>?_
 . exact this
 . unfold L2.del;split
   . rfl
   . exact n
 . rw[zt8 (ne b _ z fun φ w=>by cases w)];exact z
 . rw[zt8 (ne b _ z fun φ w=>by cases w)];exact z
 . rw[zt8 (ne b _ z fun φ w=>by cases w),z];simp
 . have hb:b≠x:=fun q=>by rw[q,zG1] at z;cases z
   rw[zt8 hb] at z
   exact (I.hok b o z).stay (fun _ _ _ q=>q) (fun c q=>by rw[zt8 (ne c _ q fun φ w=>by cases w)];exact q) fun c xs q=>by rw[zt8 (ne c _ q fun φ w=>by cases w)];exact q
theorem Inv.left {ts:List Addr} {h2:Heap} {l':List Env} (I:Inv X pins σ H s) (hex:X.ex=[]) (ha:H a=none/\X.s₀.heap.get? a=none) (hts:∀ T∈ts,H T=none/\X.s₀.heap.get? T=none)
   (x:Heap.FlyingW (W.hideAll s.heap (a::(ts++frs X.stack))) l' a cls a0 h2) (up:s.heap.UpToSlots h2):Un X.fs [] X.H₀ H X.s₀.heap h2/\HOk X.prog X.w H h2/\Fly h2 H X.s₀.heap a cls:=by
 have u:=I.base
 rw[hex] at u
 refine zQ8 u I.hok I.stack (fun b hb=>⟨?_,I.stkFree b hb⟩) ha hts x up
 rcases List.mem_cons.mp (I.stkSub b hb) with z | z
 . right;rw[z];exact Heap.get?_none_of_le I.ok.above
 . exact .inl z
end
section
variable {P:Program} {w:World} {K:W.Frag} {mg:Str->Option Value} {base:Heap} {N:List Str} {qual:Str} {scope:Scope} {f:Addr} {cd:Value} {A:Around} {outer:List Env} {s:Shared} {H:Hp} {E:XK}
theorem zf1:zU1 (cxOf (CXE P w) P w K mg base N qual scope f cd A outer s H E) E:=by
 intro pins σ H1 s1 x C od I e n q
 obtain ⟨t,hx⟩:=zA6 I e
 have J:=I.del e
 have hd:del H1 x x=none:=zG1 _ _
 refine wpAny_leaving_firstW (base:=W.hideAll s1.heap (x::([]++frs (cxOf (CXE P w) P w K mg base N qual scope f cd A outer s H E).stack))) (outer:=outer) (L:=s.heap.objs.size) (a0:=.ref t) I.ok.frames ?_ rfl hx (fun b o z=>W.of_hideAll _ z) (W.hideAll_none _ List.mem_cons_self) rfl rfl rfl fun h' hL=>?_
 . exact W.funFrames_hide I.stack fun env he b hb=>List.mem_cons_of_mem _ (List.mem_filterMap.mpr ⟨env,he,hb⟩)
 . obtain ⟨k1,k2,k3,k4⟩:=hL
   obtain ⟨u,ok,fl⟩:=J.left (ts:=[]) rfl ⟨hd,n⟩ (fun _ z=>nomatch z) ⟨k1,W.hideAll_none _ List.mem_cons_self,k2,k3⟩ k4
   exact⟨x,.ref C,_,rfl,I.os,I.bare,u,ok,fl,q⟩
theorem zd9:zk4 (CXE P w) (cxOf (CXE P w) P w K mg base N qual scope f cd A outer s H E) E:=by
 intro pins σ H1 s1 e s2 I q
 obtain ⟨a,cls,H',rfl,os,bare,un,ok,fl,q⟩:=q
 have J:=I.call' (ch:=[]) os un ok bare fun b z=>nomatch z
 have fl':Fly s2.heap H' s.heap a cls:=fl.from fun b o z=>I.base.there b o z (fun z=>nomatch z)
 obtain ⟨T,a0,z,fw⟩:=fl'.flying J.stack
 refine wpAny_leaves_onW J.ok.frames rfl fw fun h' fw' up=>?_
 obtain ⟨u,ok',f2⟩:=J.left (ts:=[T]) rfl fl'.1 (fun b hb=>by rw[List.mem_singleton.mp hb];exact z) fw' up
 exact⟨a,cls,H',rfl,J.os,J.bare,u,ok',f2,q⟩
end
end L2
namespace L2
open PySem PySem.Spec PyProof.Rows
section
variable {M:Model} {A:Around} {E:Value->Shared->Prop} {env:Env}
variable {nm q:Str} {C N:Addr} {bs bm:List Value} {hdct:Bool} {sn:List Str} {sub:List Value} {ab:Bool} {col:Option Bool} {dd:Option Addr} {k0 k1 k2 k3 k5:Option Value} {newId:String}
theorem zU2 {s:Shared} {x:Sem Value} {Q:Flow->Shared->Prop} (m:MroV bm) (hh:A.handled=none)
   (h:wpAny M A x (fun v s₁=>∃ e od t,v = .ref e/\s₁.heap.get? C=some (excClassObj nm q C N bs bm hdct sn sub ab col dd k0 k1 k2 k3 k5 newId)/\s₁.heap.get? e=some { cls:=.ref C,dict:=od,data:=.fields #[.ref t,.none,.none,.none,.bool false,.none] }/\E (.ref e) s₁) E s) :
   wpAny M A (raiseStmt env (some x) none) Q E s:=by
 have hcB:(Value.ref C::bm).contains (.type "BaseException")=true:=m.self C (by decide)
 unfold raiseStmt
 refine wpAny_bind (wpAny_mono h (fun v s₁ h₁=>?_) fun _ _ x=>x)
 obtain ⟨e,od,t,rfl,hC,he,hE⟩:=h₁
 obtain ⟨hp,g,d,tk,os⟩:=s₁
 repeat (first | with_reducible refine wpAny_loadPart_at he ?_ | with_reducible refine wpAny_loadPart_at hC ?_ | (with_reducible refine wpAny_isSubtype_exc hC ?_;rw[hcB]) | wp_step)
 exact wpAny_raiseNew_none hh hE
end
section
variable {X:Cx} {CX:CXT} {k:Nat} {f C:Addr} {fd:FuncData} {ps:List Str} {sp:Sp} {dvs:List V} {ds:List Value} {E Ei:XK} {x m:Str} {p pos cpos apos:Pos} {e:Expr} {es:List Expr} {t:TA}
theorem zG2 {pins:List (Addr×Obj)} {σ:St} {H:Hp} {s:Shared} {Q:Addr->Hp->Prop} {us:List Value} {vs:List V} (c:XCls X.K C) (hi:W.findIn X.K (.ref C) "__init__" = some (some (.ref f))) (hf:W.isFn X.K (.ref f)=true) (F:FnOk X.prog X.w X.K X.mg X.base CX k f fd ps sp) (hr:Room (k+1) X.A) (hb:zc6 X.K fd ps ds) (hd:Vals dvs ds)
   (hx:zk4 CX X E) (I:Inv X pins σ H s) (r:Vals vs us) (hv:vs.length<=sizeLine)
   (h:∀ x,H x=none->sp (.ref x::(vs++dvs)) (upd H x (ExcO C x none)) (fun v H2=>v = .non/\Q x H2) E) :
   wpAny (model X.prog X.w) X.A (call (.ref C) us) (fun v s'=>v = .ref (s.heap.objs.size+1)/\∃ H',Inv X pins σ H' s'/\Q (s.heap.objs.size+1) H') X.xe s:=by
 obtain ⟨nm,qn,N,bs,bm,sn,sub,ab,col,dd,k0,k1,k2,k3,k5,hK,m⟩:=c.ob
 have hC:=I.kIn _ _ hK
 have hq:=h (s.heap.objs.size+1) (I.hok.fresh (Nat.le_succ _))
 have I1:Inv X pins σ H { s with heap:=s.heap.push { cls:=.type "tuple",data:=.seq us.toArray } }:=I.kept (t':=s.toks) fun b o e=>Heap.get?_push_of_some _ e
 have sz1:(s.heap.push { cls:=.type "tuple",data:=.seq us.toArray }).objs.size=s.heap.objs.size+1:=Heap.size_push ..
 have I2:Inv X pins σ (upd H (s.heap.objs.size+1) (ExcO C (s.heap.objs.size+1) none)) { s with heap:=(s.heap.push { cls:=.type "tuple",data:=.seq us.toArray }).push { cls:=.ref C,data:=.fields #[.ref s.heap.objs.size,.none,.none,.none,.bool false,.none] } }:=by
   refine I1.laid (t':=s.toks) (fun b o e=>Heap.get?_push_of_some _ e) (Nat.le_of_eq sz1) (zQ6 (t:=s.heap.objs.size) ?_)
   rw[<-sz1];exact Heap.get?_push_size _ rfl
 have r2:Vals (V.ref (s.heap.objs.size+1)::(vs++dvs)) (Value.ref (s.heap.objs.size+1)::(us++ds)):=.cons rfl (r.append hd)
 have hl:(Value.ref (s.heap.objs.size+1)::us++ds).length=ps.length:=by
   have e:=r2.length
   rw[F.len _ _ _ _ hq] at e
   exact e.symm
 obtain ⟨hp,g,d,tk,os⟩:=s
 refine xcall I.kIn m hC hi hf (by rw[<-r.length];exact hv) ?_
 refine wpAny_call (codeAny_mono (F.run _ X.stack _ _ ⟨Value.ref (hp.objs.size+1)::us,[]⟩ (Value.ref (hp.objs.size+1)::(us++ds)) _ _ E (hr.make C us []) (I2.env0.make C us []) (hb _ (Value.ref (hp.objs.size+1)::us) I2.kIn hl) r2 hq) fun r s' hq'=>?_)
 cases r with
 | error e=>exact hx pins σ _ _ e s' I2 hq'
 | ok fl =>
   cases fl with
   | ret u =>
     obtain ⟨v,H',I3,rv,ev,q3⟩:=I2.after hq'
     subst ev
     exact⟨rv,rfl,H',I3,q3⟩
   | next=>exact False.elim hq'
   | brk=>exact False.elim hq'
   | cont=>exact False.elim hq'
noncomputable def tRaise (C:Addr) (sp:Sp) (dvs:List V) (Ei E:XK) (t:TA):TS:=fun _ σ H=>t σ H fun vs H1=>vs.length<=sizeLine/\∀ x,H1 x=none →
 sp (.ref x::(vs++dvs)) (upd H1 x (ExcO C x none)) (fun v H2=>v = .non/\∃ od,H2 x=some (ExcO C x od)/\E (.ref C) none (del H2 x)) Ei
theorem zg8 (R:zU1 X E) (hc:X.calm=true) (c:XCls X.K C) (hi:W.findIn X.K (.ref C) "__init__" = some (some (.ref f))) (hf:W.isFn X.K (.ref f)=true) (F:FnOk X.prog X.w X.K X.mg X.base CX k f fd ps sp) (hr:Room (k+1) X.A) (hg:Gl X x) (hm:X.mg x=some (.ref C)) (hb:zc6 X.K fd ps ds) (hd:Vals dvs ds) (hx:zk4 CX X Ei)
   (ha:PA X (e::es) t) (hdb:(x == ("__debug__" : Str))=false:=by decide) (he:starEach (e::es) X.env=(false,eval e X.env)::starEach es X.env:=by rfl) (hpl:(backTo cpos (starEach es X.env)).any (·.1)=false:=by rfl) :
   PS X (.Raise (some (.Call (.Name x p) (e::es) [] cpos)) none pos) (tRaise C sp dvs Ei E t):=by
 intro pins s σ H D I h
 obtain ⟨nm,qn,N,bs,bm,sn,sub,ab,col,dd,k0,k1,k2,k3,k5,hK,m⟩:=c.ob
 rw[arm_exec_Raise]
 simp only[evalOpt,Option.map]
 refine wpAny_bind (wpAny_standAt (zU2 (C:=C) m (I.ok.hd hc) (hdct:=true) (nm:=nm) (q:=qn) (N:=N) (bs:=bs) (sn:=sn) (sub:=sub) (ab:=ab) (col:=col) (dd:=dd) (k0:=k0) (k1:=k1) (k2:=k2) (k3:=k3) (k5:=k5) (newId:="ValueError.__new__") ?_))
 refine wpAny_bind (wpAny_mono (wpAny_Call_Name_kw (zo2 I hg hm ?_ hdb)) (fun v s3 h3=>wpAny_bind (wpAny_standAt (wpAny_pure h3))) fun _ _ z=>z)
 refine W.callWith_K (h₀:=X.base) I.ok.mod.kin c.kp (thn (ha cpos pins s σ H _ I h) fun us s1 ⟨vs,H1,I1,r,hv,q⟩=>⟨I1.kIn,?_⟩) he hpl
 refine thn (zG2 (Q:=fun x H2=>∃ od,H2 x=some (ExcO C x od)/\E (.ref C) none (del H2 x)) c hi hf F hr hb hd hx I1 r hv q) fun v s2 ⟨ev,H2,I2,od,e2,q2⟩=>?_
 obtain ⟨t2,hx2⟩:=zA6 I2 e2
 exact⟨_,_,_,ev,I2.kIn _ _ hK,hx2,R pins σ H2 s2 _ C od I2 e2 (Heap.get?_none_of_le (Nat.le_trans I1.sz (Nat.le_succ _))) q2⟩
end
noncomputable def Cx.inTry (X:Cx) (pins:List (Addr×Obj)) (E:XK):Cx:={ X with pn:=X.pn++pins,xe:=fun e s1=>∃ σ H s,Inv X pins σ H s/\CXE X.prog X.w X.stack H s E e s1 }
noncomputable def Cx.caught (X:Cx) (e:Value):Cx:={ X with A:=X.A.mark (some e),calm:=false,xe:=fun _ _=>False }
section
variable {X:Cx} {pins pins':List (Addr×Obj)} {σ:St} {H:Hp} {s:Shared} {E:XK} {e:Value} {D:Ends} {f:Flow}
theorem Inv.inTry (I:Inv X pins σ H s) (E:XK):Inv (X.inTry pins E) [] σ H s :=
 let ok:=I.ok
 ⟨⟨ok.mod,ok.kind,ok.glob,ok.blt,ok.above,ok.inj,ok.has,ok.cab,ok.hd,ok.frames,ok.stk,ok.exf,ok.bs,ok.bsz,ok.noex,ok.exfs,ok.funs,ok.frf⟩,I.os,I.bare,I.base,I.loc,I.cell,I.free,I.freeC,fun p hp=>I.pin p (by
   rw[List.append_nil] at hp;exact hp),I.hok,I.len⟩
theorem Inv.outTry (I:Inv (X.inTry pins E) pins' σ H s):Inv X pins σ H s :=
 let ok:=I.ok
 ⟨⟨ok.mod,ok.kind,ok.glob,ok.blt,ok.above,ok.inj,ok.has,ok.cab,ok.hd,ok.frames,ok.stk,ok.exf,ok.bs,ok.bsz,ok.noex,ok.exfs,ok.funs,ok.frf⟩,I.os,I.bare,I.base,I.loc,I.cell,I.free,I.freeC,fun p hp=>I.pin p (List.mem_append_left _ hp),I.hok,I.len⟩
theorem Inv.caught (I:Inv X pins σ H s) (e:Value):Inv (X.caught e) pins σ H s :=
 let ok:=I.ok
 ⟨⟨ok.mod,ok.kind,ok.glob,ok.blt,ok.above,ok.inj,ok.has,ok.cab,(fun z=>nomatch z),ok.frames,ok.stk,ok.exf,ok.bs,ok.bsz,ok.noex,ok.exfs,ok.funs,ok.frf⟩,I.os,I.bare,I.base,I.loc,I.cell,I.free,I.freeC,I.pin,I.hok,I.len⟩
theorem Inv.uncaught (hd:X.calm=true->X.A.handled=none) (I:Inv (X.caught e) pins σ H s):Inv X pins σ H s :=
 let ok:=I.ok
 ⟨⟨ok.mod,ok.kind,ok.glob,ok.blt,ok.above,ok.inj,ok.has,ok.cab,hd,ok.frames,ok.stk,ok.exf,ok.bs,ok.bsz,ok.noex,ok.exfs,ok.funs,ok.frf⟩,I.os,I.bare,I.base,I.loc,I.cell,I.free,I.freeC,I.pin,I.hok,I.len⟩
theorem SP.outTry (h:SP (X.inTry pins E) pins' D f s):SP X pins D f s:=by
 cases f with
 | next=>obtain ⟨σ',H',I,q⟩:=h;exact⟨σ',H',I.outTry,q⟩
 | brk=>obtain ⟨σ',H',I,q⟩:=h;exact⟨σ',H',I.outTry,q⟩
 | cont=>obtain ⟨σ',H',I,q⟩:=h;exact⟨σ',H',I.outTry,q⟩
 | ret u=>obtain ⟨v,σ',H',I,r,q⟩:=h;exact⟨v,σ',H',I.outTry,r,q⟩
theorem SP.uncaught (hd:X.calm=true->X.A.handled=none) (h:SP (X.caught e) pins D f s):SP X pins D f s:=by
 cases f with
 | next=>obtain ⟨σ',H',I,q⟩:=h;exact⟨σ',H',I.uncaught hd,q⟩
 | brk=>obtain ⟨σ',H',I,q⟩:=h;exact⟨σ',H',I.uncaught hd,q⟩
 | cont=>obtain ⟨σ',H',I,q⟩:=h;exact⟨σ',H',I.uncaught hd,q⟩
 | ret u=>obtain ⟨v,σ',H',I,r,q⟩:=h;exact⟨v,σ',H',I.uncaught hd,r,q⟩
theorem passes_try:zk4 (CXE X.prog X.w) (X.inTry pins E) E:=fun pins' σ H s e s' I q=>⟨σ,H,s,I.outTry,q⟩
end
section
variable {X:Cx} {C:Addr} {E:XK} {x:Str} {p pos hpos:Pos} {body suite:List Stmt} {b₀:Stmt} {tb th:TS}
end
structure FunD (K:W.Frag) (x qual:Str) (st:Stmt) (f:Addr) (fd:FuncData):Prop where
 ex:∃ (oc:Value) (od:Option Addr) (dV kV doc pm:Value) (an:Option Addr) (cdv ct:Value) (osl:Array (Option Value)),
   fd=W.fnOf x qual (zb8 st) (za9 st) (za4 st) dV kV doc pm an cdv ct/\K.lookup f=some ⟨oc,od,.func fd,osl⟩/\W.codeIn K cdv qual=true
 kp:W.keepIn K (.ref f)=true
section
variable {P:Program} {w:World} {K:W.Frag} {mg:Str->Option Value} {base:Heap} {CX:CXT}
theorem Fun.d {x qual:Str} {st:Stmt} {f:Addr} {fd:FuncData} (F:Fun K x qual st f fd):FunD K x qual st f fd:=by
 obtain ⟨oc,od,kV,doc,pm,an,cdv,ct,osl,h⟩:=F.ex
 exact⟨⟨oc,od,.none,kV,doc,pm,an,cdv,ct,osl,h⟩,F.kp⟩
theorem FunD.ok {x qual:Str} {st:Stmt} {f:Addr} {fd:FuncData} {N ps:List Str} {k:Nat} {sp:Sp} (F:FunD K x qual st f fd) (S:zc1 N ps (za4 st)) (len:∀ vs H Q E,sp vs H Q E->vs.length=ps.length)
   (hbody:∀ (cdv:Value) (A:Around) (outer:List Env) (s:Shared) (H:Hp) (vs:List V) (Q:VK) (E:XK),Room k (A.deeper (envOfC qual (za4 st) s.heap.objs.size f cdv))->sp vs H Q E →
     ∃ t,PSs (cxOf CX0 P w K mg base N qual (za4 st) f cdv A outer s H E).nox (za9 st) t/\t { nx:=fun _ H'=>Q .non H',rt:=Q } (start N vs) H):FnOk P w K mg base CX0 (k+1) f fd ps sp:=by
 obtain ⟨oc,od,dV,kV,doc,pm,an,cdv,ct,osl,rfl,lk,hcd⟩:=F.ex
 refine zP9 lk hcd S len fun A outer s H vs Q E hr hsp=>?_
 obtain ⟨t,h,q⟩:=hbody cdv A outer s H vs Q E hr hsp
 exact⟨t,h.nox,q⟩
theorem FunD.okE {x qual:Str} {st:Stmt} {f:Addr} {fd:FuncData} {N ps:List Str} {k:Nat} {sp:Sp} (F:FunD K x qual st f fd) (S:zc1 N ps (za4 st)) (len:∀ vs H Q E,sp vs H Q E->vs.length=ps.length)
   (hbody:∀ (cdv:Value) (A:Around) (outer:List Env) (s:Shared) (H:Hp) (vs:List V) (Q:VK) (E:XK),Room k (A.deeper (envOfC qual (za4 st) s.heap.objs.size f cdv))->sp vs H Q E →
     ∃ t,PSs (cxOf (CXE P w) P w K mg base N qual (za4 st) f cdv A outer s H E) (za9 st) t/\t { nx:=fun _ H'=>Q .non H',rt:=Q } (start N vs) H):FnOk P w K mg base (CXE P w) (k+1) f fd ps sp:=by
 obtain ⟨oc,od,dV,kV,doc,pm,an,cdv,ct,osl,rfl,lk,hcd⟩:=F.ex
 refine zP9 lk hcd S len fun A outer s H vs Q E hr hsp=>?_
 obtain ⟨t,h,q⟩:=hbody cdv A outer s H vs Q E hr hsp
 exact⟨t,h,q⟩
theorem zx3 {x qual:Str} {st:Stmt} {f:Addr} {oc:Value} {od an:Option Addr} {osl:Array (Option Value)} {dV kV doc pm cdv ct:Value} (l:K.lookup f=some ⟨oc,od,.func (W.fnOf x qual (zb8 st) (za9 st) (za4 st) dV kV doc pm an cdv ct),osl⟩)
 (c:W.codeIn K cdv qual=true) (k:W.keepIn K (.ref f)=true):FunD K x qual st f (W.fnOf x qual (zb8 st) (za9 st) (za4 st) dV kV doc pm an cdv ct):=⟨⟨oc,od,dV,kV,doc,pm,an,cdv,ct,osl,rfl,l,c⟩,k⟩
noncomputable abbrev EN:XK:=fun _ _ _=>False
theorem passesN {X:Cx}:zk4 (CXE X.prog X.w) X EN:=fun _ _ _ _ _ _ _ ⟨_,_,_,_,_,_,_,_,_,z⟩=>z.elim
end
end L2
namespace L2
open PySem PySem.Spec PyProof.Rows
end L2
namespace L2
open PySem PySem.Spec PyProof.Rows
theorem zm6 {P:Program} {w:World} {K:W.Frag} {mg:Str->Option Value} {base:Heap} {N:List Str} {qual:Str} {scope:Scope} {f:Addr} {cd:Value} {A:Around} {outer:List Env} {s:Shared} {H:Hp} {E:XK} :
   PassesOwn (model (cxOf (CXE P w) P w K mg base N qual scope f cd A outer s H E).prog (cxOf (CXE P w) P w K mg base N qual scope f cd A outer s H E).w) (cxOf (CXE P w) P w K mg base N qual scope f cd A outer s H E).A (cxOf (CXE P w) P w K mg base N qual scope f cd A outer s H E).env (cxOf (CXE P w) P w K mg base N qual scope f cd A outer s H E).xe :=
 PassesOwn.leaving
end L2
namespace L2
open PySem PySem.Spec PyProof.Rows
noncomputable def zQ9 (CX:CXT) (X:Cx) (Ex:St->XK):Prop:=∀ (pins:List (Addr×Obj)) (σ:St) (H:Hp) (s:Shared) (e:Value) (s':Shared),Inv X pins σ H s->CX X.stack H s (Ex σ) e s'->X.xe e s'
noncomputable def tCallS (sp:Sp) (dvs:List V) (Ex:St->XK) (t:TA):TE:=fun σ H Q=>t σ H fun vs H1=>sp (vs++dvs) H1 Q (Ex σ)
section
variable {X:Cx} {pins pins':List (Addr×Obj)} {σ:St} {H:Hp} {s:Shared} {Ex:St->XK} {D:Ends} {fl:Flow}
end
section
variable {X:Cx} {CX:CXT} {k:Nat} {f C:Addr} {fd:FuncData} {ps:List Str} {sp:Sp} {dvs:List V} {ds:List Value} {Ex:St->XK} {x m:Str} {p pos apos:Pos} {e o:Expr} {es:List Expr} {ta:TE} {t:TA}
theorem pe_callS (F:FnOk X.prog X.w X.K X.mg X.base CX k f fd ps sp) (hr:Room k X.A) (hg:Gl X x) (hm:X.mg x=some (.ref f)) (hk:W.keepIn X.K (.ref f)=true) (hb:zc6 X.K fd ps ds) (hd:Vals dvs ds) (hx:zQ9 CX X Ex)
   (ha:PA X (e::es) t) (hdb:(x == ("__debug__" : Str))=false:=by decide) (he:starEach (e::es) X.env=(false,eval e X.env)::starEach es X.env:=by rfl) (hpl:(backTo pos (starEach es X.env)).any (·.1)=false:=by rfl) :
   PE X (.Call (.Name x p) (e::es) [] pos) (tCallS sp dvs Ex t):=by
 intro pins s σ H Q I h
 refine wpAny_Call_Name_kw (zo2 I hg hm ?_ hdb)
 refine W.callWith_K (h₀:=X.base) I.ok.mod.kin hk (thn (ha pos pins s σ H _ I h) fun us s1 ⟨vs,H1,I1,r,q⟩=>⟨I1.kIn,?_⟩) he hpl
 have r2:Vals (vs++dvs) (us++ds):=r.append hd
 have hl:(us++ds).length=ps.length:=by rw[<-r2.length];exact F.len _ _ _ _ q
 refine wpAny_call (codeAny_mono (F.run X.A X.stack s1 H1 ⟨us,[]⟩ (us++ds) (vs++dvs) Q (Ex σ) hr I1.env0 (hb s1 us I1.kIn hl) r2 q) fun r s' hq=>?_)
 cases r with
 | error e=>exact hx pins σ H1 s1 e s' I1 hq
 | ok fl =>
   cases fl with
   | ret u=>exact I1.after hq
   | next=>exact False.elim hq
   | brk=>exact False.elim hq
   | cont=>exact False.elim hq
end
section
variable {X:Cx} {D:Addr} {Ex:St->XK} {x:Str} {p pos hpos:Pos} {body suite:List Stmt} {b₀:Stmt} {tb th:TS}
end
end L2
namespace L2
open PySem PySem.Spec PyProof.Rows
section
variable {X:Cx} {pins:List (Addr×Obj)} {σ:St} {H:Hp} {s:Shared}
theorem zE8 {M:Model} {A:Around} {E:Value->Shared->Prop} {i:Nat} {x:Str} {pos:Pos} {Q:Unit->Shared->Prop} (I:Inv X pins σ H s) (hN:X.N.Nodup) (hi:X.N[i]?=some x) (hk:X.env.scope.names.lookup x=some .local)
   (h:∀ s',Inv X pins (σ.set i none) H s'->Q () s'):wpAny M A (do bindName X.env x .none;unbindBehindTheSuite X.env x pos) Q E s:=by
 obtain ⟨m,hn,hl⟩:=id I.loc
 have hcls:(X.env.scope.kind == .class || (X.env.scope.kind == .module && X.env.locals != X.env.globals))=false:=by rw[I.ok.kind];rfl
 have hiσ:i<σ.length:=by rw[I.len];exact (List.getElem?_eq_some_iff.mp hi).1
 have cne:=I.cne
 refine wpAny_nameGoes_keeps hk hn hcls fun h' v hn' hs=>?_
 refine h _ ⟨I.ok,I.os,I.bare,⟨fun b o e n hb hx=>?_,fun b o e n hb hx=>?_,I.base.free,fun b o e hx=>?_,I.base.tups,I.base.frzs,I.base.tbls⟩,⟨_,hn',fun j y v' e1 e2 e3=>?_⟩,fun y c e=>?_,I.free,I.freeC,fun p hp=>?_,fun b ob e=>?_,by simpa using I.len⟩
 . exact (hs.2 b (Nat.ne_of_lt (Nat.lt_of_lt_of_le (Heap.lt_size e) I.ok.above))).trans (I.base.keep b o e n hb hx)
 . obtain ⟨sl,e1⟩:=I.base.slot b o e n hb hx
   exact⟨sl,(hs.2 b (Nat.ne_of_lt (Nat.lt_of_lt_of_le (Heap.lt_size e) I.ok.above))).trans e1⟩
 . obtain ⟨o',e1⟩:=I.base.there b o e hx
   exact⟨o',(hs.2 b (Nat.ne_of_lt (Nat.lt_of_lt_of_le (Heap.lt_size e) I.ok.above))).trans e1⟩
 . by_cases hj:j=i
   . subst hj
     rw[List.getElem?_set_self hiσ] at e2
     cases e2
   . rw[List.getElem?_set_ne (Ne.symm hj)] at e2
     obtain ⟨u',r',q⟩:=hl j y v' e1 e2 e3
     refine⟨u',r',?_⟩
     rcases q with ⟨k,e⟩ | ⟨k,c,e,z⟩
     . refine .inl ⟨k,?_⟩
       have:y≠x:=fun e=>hj (zF2 hN e1 (e▸hi))
       simp[this,e]
     . exact .inr ⟨k,c,e,z.sameBut hs (cne y c e)⟩
 . obtain ⟨w',z⟩:=I.cell y c e
   exact⟨w',z.sameBut hs (cne y c e)⟩
 . obtain ⟨e,n,ne,nf,d⟩:=I.pin p hp
   exact⟨(hs.2 p.1 ne).trans e,n,ne,nf,d⟩
 . refine (I.hok b ob e).stay (fun c w' hc q=>(hs.2 c ?_).trans q) (fun _ q=>q) fun _ _ q=>q
   rintro rfl
   rcases hc with rfl | hc
   . rw[I.free] at e;cases e
   . rw[I.free] at hc;cases hc
end
section
variable {X:Cx} {D:Addr} {Ex:St->XK} {x n:Str} {i:Nat} {p pos hpos:Pos} {body suite:List Stmt} {b₀:Stmt} {tb th:TS}
noncomputable def Ends.forget (D:Ends) (i:Nat):Ends:={ nx:=fun σ H=>D.nx (σ.set i none) H,rt:=D.rt,bk:=fun σ H=>D.bk (σ.set i none) H,ct:=fun σ H=>D.ct (σ.set i none) H }
end
end L2
namespace L2
open PySem PySem.Spec PyProof.Rows
theorem zf5 {K:W.Frag} {c:Value} {D:Addr} {b:Bool} (h1:W.subIn K (.ref D) (.type "BaseException")=some true) (h2:(W.clsIn K D).isSome=true) (h3:W.typeIn K (.ref D)=some (.type "type")) (h4:W.subIn K c (.ref D)=some b) :
   W.exmOne K c (.ref D)=some b:=by
 unfold W.exmOne W.kitCls
 simp[h1,h2,h3,h4]
end L2
namespace L2
open PySem PySem.Spec PyProof.Rows
section
variable {X:Cx}
end
end L2
namespace L2
open PySem PySem.Spec PyProof.Rows
theorem zM4 {J:It} {H1:Hp} {D:Addr} {n:Nat} {x:Nat->V} {j:Nat} {σc:St} {tif:TT} {telt:TE} {Q:Hp->Prop} (Iv:Nat->Hp->Prop) (h0:Iv 0 (upd H1 D (.lst [])))
   (go:∀ i H',i<n->Iv i H'->J.go i H') (st:∀ H',Iv n H'->J.stop n H') (yl:∀ i v H' H2,i<n->Iv i H'->J.yld i H' v H2->H2=H'/\v=x i)
   (step:∀ i H' (N:St->Hp->Prop),i<n->Iv i H'->(∀ H2,Iv (i+1) H2->N (σc.set j (some (x i))) H2)->tif (σc.set j (some (x i))) H' fun b H4=>if b=true then zn8 D telt N (σc.set j (some (x i))) H4 else N (σc.set j (some (x i))) H4)
   (q:∀ H',Iv n H'->Q H') :
   ∃ W:Nat->Nat->St->Hp->Prop,(∃ m,W 0 m σc (upd H1 D (.lst []))) ∧
     ∀ i m σ' H',W i m σ' H'->(J.stop i H'/\Q H')\/(J.go i H'/\∃ N:St->Hp->Prop,(∀ σ2 H2,N σ2 H2->∃ m',m'<m/\W (i+1) m' σ2 H2) ∧
       ∀ v H2,J.yld i H' v H2->zl1 j v σ' H2 fun σ3 H3=>tif σ3 H3 fun b H4=>if b=true then zn8 D telt N σ3 H4 else N σ3 H4):=by
 refine⟨fun i m σ' H'=>m=n-i/\i<=n/\(∀ v,σ'.set j (some v)=σc.set j (some v))/\Iv i H',⟨n,by simp,Nat.zero_le _,fun _=>rfl,h0⟩,?_⟩
 rintro i m σ' H' ⟨rfl,hi,hσ,iv⟩
 by_cases hlt:i<n
 . refine .inr ⟨go i _ hlt iv,fun σ2 H2=>(∀ v,σ2.set j (some v)=σc.set j (some v))/\Iv (i+1) H2,fun σ2 H2 ⟨h1,h2⟩=>⟨n-(i+1),by omega,rfl,hlt,h1,h2⟩,fun v H2 y=>?_⟩
   obtain ⟨rfl,rfl⟩:=yl i v _ H2 hlt iv y
   dsimp only[zl1]
   rw[hσ]
   exact step i _ _ hlt iv fun H2 h2=>⟨fun v=>by simp,h2⟩
 . have e:i=n:=by omega
   subst e
   exact .inl ⟨st _ iv,q _ iv⟩
theorem zz8 {K:W.Frag} {H1:Hp} {D a:Addr} {xs:List V} {j:Nat} {σc:St} {tif:TT} {telt:TE} {Q:Hp->Prop} (Iv:Nat->Hp->Prop) (h0:Iv 0 (upd H1 D (.lst [])))
   (hs:∀ i H',Iv i H'->SqL K H' a xs)
   (step:∀ i x H' (N:St->Hp->Prop),xs[i]?=some x->Iv i H'->(∀ H2,Iv (i+1) H2->N (σc.set j (some x)) H2)->tif (σc.set j (some x)) H' fun b H4=>if b=true then zn8 D telt N (σc.set j (some x)) H4 else N (σc.set j (some x)) H4)
   (q:∀ H',Iv xs.length H'->Q H') :
   ∃ W:Nat->Nat->St->Hp->Prop,(∃ m,W 0 m σc (upd H1 D (.lst []))) ∧
     ∀ i m σ' H',W i m σ' H'->((Itl K a).stop i H'/\Q H')\/((Itl K a).go i H'/\∃ N:St->Hp->Prop,(∀ σ2 H2,N σ2 H2->∃ m',m'<m/\W (i+1) m' σ2 H2) ∧
       ∀ v H2,(Itl K a).yld i H' v H2->zl1 j v σ' H2 fun σ3 H3=>tif σ3 H3 fun b H4=>if b=true then zn8 D telt N σ3 H4 else N σ3 H4):=by
 refine zM4 (J:=Itl K a) (n:=xs.length) (x:=fun i=>xs.getD i .non) Iv h0 (fun i H' hi iv=>⟨xs,xs[i],hs _ _ iv,by simp[hi]⟩) (fun H' iv=>⟨xs,hs _ _ iv,Nat.le_refl _⟩) (fun i v H' H2 hi iv y=>?_) (fun i H' N hi iv hN=>?_) q
 . obtain ⟨e,y⟩:=y
   have:=y xs (hs _ _ iv)
   exact⟨e,by rw[List.getD_eq_getElem?_getD,this];rfl⟩
 . have e:xs[i]?=some (xs.getD i .non):=by rw[List.getD_eq_getElem?_getD,List.getElem?_eq_getElem hi];rfl
   exact step i _ H' N e iv hN
end L2
namespace L2
open PySem PySem.Spec PyProof.Rows
theorem dict_mapF (g:Array Value->Array Value) (o:Obj):(Obj.mapFields g o).dict=o.dict:=by
 obtain ⟨c,d,dt,sl⟩:=o
 cases dt<;>rfl
noncomputable def TrD (h base:Heap) (e:Addr) (cls:Value) (od:Option Addr) (fl:Value):Prop :=
 ∃ ob fs T ot tf,h.get? e=some ob/\(ob.cls=cls/\ob.dict=od)/\ob.data = .fields fs/\fs[1]?=some (.ref T)/\base.get? T=none/\T≠e/\h.get? T=some ot/\ot.data = .fields tf/\tf[3]?=some fl
noncomputable def FlD (base:Heap) (l:List Env) (e:Addr) (cls:Value) (od:Option Addr) (fl:Value) (h:Heap):Prop:=base.StaysIn h/\base.get? e=none/\h.FunFrames base l/\TrD h base e cls od fl
theorem FlD.there {base h:Heap} {l:List Env} {e:Addr} {cls fl:Value} {od:Option Addr} (x:FlD base l e cls od fl h):∃ ob,h.get? e=some ob/\(ob.cls=cls/\ob.dict=od)/\∃ vs,ob.data = .fields vs:=by
 obtain ⟨_,_,_,ob,fs,_,_,_,e1,e2,e3,_⟩:=x
 exact⟨ob,e1,e2,fs,e3⟩
section
variable {M:Model} {A:Around} {E:Value->Shared->Prop} {s:Shared} {base:Heap} {env:Env} {outer l:List Env} {L e:Addr} {cls fl:Value} {od:Option Addr} {Q:Unit->Shared->Prop}
theorem zA7 (x:FlD base l e cls od fl s.heap) (k:∀ h',FlD base l e cls od .none h'->s.heap.UpToSlots h'->Q () { s with heap:=h' }):wpAny M A (setFlight (.ref e) none) Q E s:=by
 obtain ⟨st,ne,ff,ob,fs,T,ot,tf,g1,gc,g2,g3,g4,g5,g6,g7,g8⟩:=x
 have sz3:3<tf.size:=(Array.getElem?_eq_some_iff.mp g8).1
 let U:Heap:=s.heap.update T (Obj.mapFields (·.setIfInBounds 3 ((none:Option Addr).elim Value.none fun f=>rawInt f)))
 have oth:∀ b,b≠T->U.get? b=s.heap.get? b:=fun b hb=>Heap.get?_update_other _ _ (Ne.symm hb)
 have noT:∀ b o,s.heap.get? b=some o->(∀ vs,o.data≠.fields vs)->b≠T:=fun b o hb hn z=>by
   rw[z,g6] at hb
   cases hb
   exact hn tf g7
 unfold setFlight
 refine wpAny_bind (wpAny_field g1 g2 g3 ?_)
 rw[if_pos (show (Value.ref T != Value.none)=true by simp)]
 refine wpAny_setField g6 g7 sz3 (k U ⟨fun b o hb=>(oth b fun z=>by rw[z,g4] at hb;cases hb).trans (st b o hb),ne,ff.of_keeps fun b o hb hn=>⟨o,(oth b (noT b o hb hn)).trans hb,rfl⟩,?_⟩ fun b o hb hn=>⟨o.slots,(oth b (noT b o hb hn)).trans hb⟩)
 exact⟨ob,fs,T,_,_,(oth e (Ne.symm g5)).trans g1,gc,g2,g3,g4,g5,Heap.get?_update_self _ g6 (Obj.isFreed_of_fields (Obj.data_mapFields g7 _)),Obj.data_mapFields g7 _,by simp[sz3]⟩
theorem zM5 {ob:Obj} {fs:Array Value} {head:Value} {nx:Bool} (fr:A.frames=some (env::outer)) (ff:s.heap.FunFrames base (env::outer)) (lf:env.frame=some L) (g1:s.heap.get? e=some ob) (st:base.StaysIn s.heap) (ne:base.get? e=none) (g2:ob.data = .fields fs) (sz:1<fs.size)
   (k:∀ h',FlD base (env::outer) e ob.cls ob.dict (rawInt L) h'->s.heap.UpToSlots h'->Q () { s with heap:=h' }) :
   wpAny M A (do let a <-frameOf env;let pl <-entryPlaceOf L nx;let b <-EntryCells.newEntry head a .none (rawInt L) .none pl;setField (.ref e) 1 b) Q E s:=by
 have nfr:e∉(env::outer).filterMap (·.frame):=fun hm=>by
   obtain ⟨_,o,ho,hn⟩:=ff.mem hm
   rw[g1] at ho
   cases ho
   exact hn fs g2
 refine wpAny_bind (wpAny_frameOf_fun fr ff lf fun h1 q1=>?_)
 refine wpAny_bind (wpAny_entryPlaceOf fun pl hpl=>?_)
 unfold EntryCells.newEntry newFields
 refine wpAny_bind (wpAny_newObj_type ?_ (hpl.sizeOk5 _ _ _ _ _))
 have e1:h1.get? e=some ob:=(q1.2.1 e nfr).trans g1
 have st1:base.StaysIn h1:=fun b o hb=>(q1.2.1 b fun hm=>by rw[(ff.mem hm).1] at hb;cases hb).trans (st b o hb)
 generalize htb:(([head,.ref L,.none,rawInt L,.none]++(if pl.isEmpty then List.replicate 6 Value.none else pl)).toArray:Array Value)=tb
 have tb3:tb[3]?=some (rawInt L):=by rw[<-htb];rcases hpl with rfl | ⟨_,_,_,_,_,_,_,rfl⟩<;>simp
 have e2:=Heap.get?_push_of_some (h:=h1) { cls:=.type "traceback",dict:=none,data:=.fields tb } e1
 refine wpAny_setField e2 g2 sz (k _ ?_ ?_)
 all_goals
   have neT:h1.objs.size≠e:=Nat.ne_of_gt (Heap.lt_size e1)
   have keep:∀ b o,b≠e->h1.get? b=some o->((h1.push { cls:=.type "traceback",dict:=none,data:=.fields tb }).update e (Obj.mapFields (·.setIfInBounds 1 (Value.ref h1.objs.size)))).get? b=some o:=fun b o hb hg=>by
     rw[Heap.get?_update_other _ _ (Ne.symm hb)]
     exact Heap.get?_push_of_some _ hg
   have noE:∀ b o,s.heap.get? b=some o->(∀ vs,o.data≠.fields vs)->b≠e:=fun b o hb hn z=>by
     rw[z,g1] at hb
     cases hb
     exact hn fs g2
 . have d3:=Obj.data_mapFields g2 (·.setIfInBounds 1 (Value.ref h1.objs.size))
   have e3:=Heap.get?_update_self (Obj.mapFields (·.setIfInBounds 1 (Value.ref h1.objs.size))) e2 (Obj.isFreed_of_fields d3)
   have t3:=(Heap.get?_update_other (h1.push { cls:=.type "traceback",dict:=none,data:=.fields tb }) (Obj.mapFields (·.setIfInBounds 1 (Value.ref h1.objs.size))) (Ne.symm neT)).trans (Heap.get?_push_size h1 rfl)
   refine⟨fun b o hb=>keep b o (fun z=>by rw[z,ne] at hb;cases hb) (st1 b o hb),ne,ff.of_keeps fun b o hb hn=>?_,?_⟩
   . obtain ⟨sl,z⟩:=q1.2.2 b o hb
     exact⟨_,keep b _ (noE b o hb hn) z,rfl⟩
   . exact⟨_,_,h1.objs.size,_,_,e3,⟨Obj.cls_mapFields _ _,dict_mapF _ _⟩,d3,by simp[sz],st1.fresh,neT,t3,rfl,tb3⟩
 . intro b o hb hn
   obtain ⟨sl,z⟩:=q1.2.2 b o hb
   exact⟨sl,keep b _ (noE b o hb hn) z⟩
theorem leave_first {ob:Obj} {fs:Array Value} (fr:A.frames=some (env::outer)) (ff:s.heap.FunFrames base (env::outer)) (lf:env.frame=some L) (g1:s.heap.get? e=some ob) (st:base.StaysIn s.heap) (ne:base.get? e=none) (g2:ob.data = .fields fs) (g3:fs[1]?=some .none)
   (k:∀ h',FlD base (env::outer) e ob.cls ob.dict .none h'->s.heap.UpToSlots h'->Q () { s with heap:=h' }):wpAny M A («leaving» env (.ref e)) Q E s:=by
 unfold «leaving» noteFrame
 simp only[lf]
 refine wpAny_bind (wpAny_bind (wpAny_field g1 g2 g3 ?_))
 rw[if_neg (by decide)]
 exact zM5 fr ff lf g1 st ne g2 (Array.getElem?_eq_some_iff.mp g3).1 fun h' x up=>zA7 (s:={ s with heap:=h' }) x fun h2 x2 up2=>k h2 x2 (up.trans up2)
theorem zR0 (fr:A.frames=some (env::outer)) (lf:env.frame=some L) (x:FlD base (env::outer) e cls od .none s.heap)
   (k:∀ h',FlD base (env::outer) e cls od (rawInt L) h'->s.heap.UpToSlots h'->Q () { s with heap:=h' }):wpAny M A (noteFrame (.ref e) env) Q E s:=by
 obtain ⟨st,ne,ff,ob,fs,T,ot,tf,g1,⟨gc,gd⟩,g2,g3,g4,g5,g6,g7,g8⟩:=x
 subst gc gd
 unfold noteFrame
 simp only[lf]
 refine wpAny_bind (wpAny_field g1 g2 g3 ?_)
 rw[if_pos (show (Value.ref T != Value.none)=true by simp)]
 refine wpAny_bind (wpAny_field g6 g7 g8 ?_)
 rw[if_neg (show ¬ ((Value.none == rawInt L)=true) by simp[rawInt])]
 refine wpAny_bind (wpAny_setField g6 g7 (Array.getElem?_eq_some_iff.mp g8).1 ?_)
 have oth:∀ b,b≠T->(s.heap.update T (Obj.mapFields (·.setIfInBounds 3 Value.none))).get? b=s.heap.get? b:=fun b hb=>Heap.get?_update_other _ _ (Ne.symm hb)
 have noT:∀ b o,s.heap.get? b=some o->(∀ vs,o.data≠.fields vs)->b≠T:=fun b o hb hn z=>by
   rw[z,g6] at hb
   cases hb
   exact hn tf g7
 refine zM5 fr (ff.of_keeps fun b o hb hn=>⟨o,(oth b (noT b o hb hn)).trans hb,rfl⟩) lf ((oth e (Ne.symm g5)).trans g1) (fun b o hb=>(oth b fun z=>by rw[z,g4] at hb;cases hb).trans (st b o hb)) ne g2 (Array.getElem?_eq_some_iff.mp g3).1 fun h' x up=>k h' x fun b o hb hn=>up b o ((oth b (noT b o hb hn)).trans hb) hn
theorem leave_on (fr:A.frames=some (env::outer)) (lf:env.frame=some L) (x:FlD base (env::outer) e cls od .none s.heap)
   (k:∀ h',FlD base outer e cls od .none h'->s.heap.UpToSlots h'->Q () { s with heap:=h' }):wpAny M A («leaving» env (.ref e)) Q E s:=by
 unfold «leaving»
 refine wpAny_bind (zR0 fr lf x fun h1 x1 up1=>zA7 (s:={ s with heap:=h1 }) x1 fun h2 x2 up2=>?_)
 obtain ⟨k1,k2,⟨_,_,k3⟩,k4⟩:=x2
 exact k h2 ⟨k1,k2,k3,k4⟩ (up1.trans up2)
end
end L2
namespace L2
open PySem PySem.Spec PyProof.Rows
noncomputable def FlyD (h:Heap) (H:Hp) (h0:Heap) (a:Addr) (cls:Value) (od:Option Addr):Prop :=
 (H a=none/\h0.get? a=none)/\∃ T,(H T=none/\h0.get? T=none)/\∃ oe vs oT ts,h.get? a=some oe/\(oe.cls=cls/\oe.dict=od)/\oe.data = .fields vs/\vs[1]?=some (.ref T)/\T≠a/\h.get? T=some oT/\oT.data = .fields ts/\ts[3]?=some Value.none
theorem FlyD.from {h:Heap} {H:Hp} {h0 h1:Heap} {a:Addr} {cls:Value} {od:Option Addr} (x:FlyD h H h0 a cls od) (k:∀ b o,h1.get? b=some o->∃ o',h0.get? b=some o'):FlyD h H h1 a cls od:=by
 have g:∀ b,h0.get? b=none->h1.get? b=none:=fun b e=>by
   cases q:h1.get? b with
   | none=>rfl
   | some o=>obtain ⟨o',z⟩:=k b o q;rw[e] at z;cases z
 obtain ⟨⟨x1,x2⟩,T,⟨x3,x4⟩,r⟩:=x
 exact⟨⟨x1,g _ x2⟩,T,⟨x3,g _ x4⟩,r⟩
theorem FlyD.flying {h:Heap} {H:Hp} {h0 B:Heap} {a:Addr} {cls:Value} {od:Option Addr} {l:List Env} (x:FlyD h H h0 a cls od) (ff:h.FunFrames B l) :
   ∃ T,(H T=none/\h0.get? T=none)/\FlD (W.hideAll h (a::([T]++frs l))) l a cls od .none h:=by
 obtain ⟨_,T,z,oe,vs,oT,ts,e1,e2,e3,e4,e5,e6,e7,e8⟩:=x
 refine⟨T,z,fun b o e=>W.of_hideAll _ e,W.hideAll_none _ List.mem_cons_self,W.funFrames_hide ff fun env he b hb=>?_,oe,vs,T,oT,ts,e1,e2,e3,e4,W.hideAll_none _ (by simp),e5,e6,e7,e8⟩
 exact List.mem_cons_of_mem _ (List.mem_cons_of_mem _ (List.mem_filterMap.mpr ⟨env,he,hb⟩))
theorem zM6 {P:Program} {w:World} {fs ts:List Addr} {l l':List Env} {H0 H:Hp} {h0 h1 h2 B:Heap} {a:Addr} {cls:Value} {od:Option Addr} (u:Un fs [] H0 H h0 h1) (ok:HOk P w H h1) (ff:h1.FunFrames B l)
   (hl:∀ b∈frs l,(b∈fs\/h0.get? b=none)/\H b=none) (ha:H a=none/\h0.get? a=none) (hts:∀ T∈ts,H T=none/\h0.get? T=none)
   (x:FlD (W.hideAll h1 (a::(ts++frs l))) l' a cls od .none h2) (up:h1.UpToSlots h2):Un fs [] H0 H h0 h2/\HOk P w H h2/\FlyD h2 H h0 a cls od:=by
 obtain ⟨st,_,_,oe,vs,T,oT,tv,e1,e2,e3,e4,e5,e6,e7,e8,e9⟩:=x
 have keep:∀ b o,b∉a::(ts++frs l)->h1.get? b=some o->h2.get? b=some o:=fun b o hb e=>st b o (W.hideAll_get _ e hb)
 have out:∀ b,b∈a::(ts++frs l)->H b=none/\(b∈frs l\/h0.get? b=none):=fun b hb=>by
   rcases List.mem_cons.mp hb with rfl | hb
   . exact⟨ha.1,.inr ha.2⟩
   . rcases List.mem_append.mp hb with hb | hb
     . exact⟨(hts b hb).1,.inr (hts b hb).2⟩
     . exact⟨(hl b hb).2,.inl hb⟩
 have slot:∀ b o,h0.get? b≠none->h1.get? b=some o->∃ sl,h2.get? b=some { o with slots:=sl }:=fun b o n e=>by
   by_cases hb:b∈a::(ts++frs l)
   . rcases (out b hb).2 with q | q
     . obtain ⟨_,o',ho,hn⟩:=ff.mem q
       rw[e] at ho;cases ho
       exact up b o e hn
     . exact absurd q n
   . exact⟨o.slots,keep b o hb e⟩
 refine⟨⟨fun b o e n hf hx=>?_,fun b o e n hf hx=>?_,u.free,fun b o e hx=>?_,u.tups,u.frzs,u.tbls⟩,fun b o q=>?_,ha,T,?_,oe,vs,oT,tv,e1,e2,e3,e4,e6,e7,e8,e9⟩
 . refine keep b o (fun hb=>?_) (u.keep b o e n hf hx)
   rcases (out b hb).2 with q | q
   . rcases (hl b q).1 with q | q
     . exact hf q
     . rw[e] at q;cases q
   . rw[e] at q;cases q
 . obtain ⟨sl,q⟩:=u.slot b o e n hf hx
   obtain ⟨sl',q'⟩:=slot b _ (by rw[e];simp) q
   exact⟨sl',q'⟩
 . obtain ⟨o',q⟩:=u.there b o e hx
   obtain ⟨sl',q'⟩:=slot b _ (by rw[e];simp) q
   exact⟨_,q'⟩
 . refine (ok b o q).stay (fun c v hc qv=>keep c v (fun hm=>?_) qv) (fun _ z=>z) fun _ _ z=>z
   have n:=(out c hm).1
   rcases hc with rfl | hc
   . rw[q] at n;cases n
   . rw[hc] at n;cases n
 . by_cases hm:T∈a::(ts++frs l)
   . rcases List.mem_cons.mp hm with z | hm
     . exact absurd z e6
     . rcases List.mem_append.mp hm with hm | hm
       . exact hts T hm
       . obtain ⟨_,o',ho,hn⟩:=ff.mem hm
         obtain ⟨sl,z⟩:=up T o' ho hn
         rw[e7] at z;cases z
         exact absurd e8 (hn tv)
   . have n1:h1.get? T=none:=by
       cases q:h1.get? T with
       | none=>rfl
       | some o=>rw[W.hideAll_get _ q hm] at e5;cases e5
     refine⟨?_,?_⟩
     . cases q:H T with
       | none=>rfl
       | some o=>obtain ⟨ob,z⟩:=(ok T o q).got;rw[n1] at z;cases z
     . cases q:h0.get? T with
       | none=>rfl
       | some o=>obtain ⟨ob,z⟩:=u.there T o q (by simp);rw[n1] at z;cases z
noncomputable def CXD (P:Program) (w:World):CXT:=fun outer H s E e s'=>∃ a cls od H',e = .ref a/\s'.os=s.os/\AllBare s'.gens/\Un (frs outer) [] H H' s.heap s'.heap/\HOk P w H' s'.heap/\FlyD s'.heap H' s.heap a cls od/\E cls od H'
noncomputable def zR1 (X:Cx) (E:XK):Prop:=∀ (pins:List (Addr×Obj)) (σ:St) (H:Hp) (s:Shared) (x C:Addr) (od:Option Addr),Inv X pins σ H s->H x=some (ExcO C x od)->X.s₀.heap.get? x=none->E (.ref C) od (del H x)->X.xe (.ref x) s
theorem Inv.leftD {X:Cx} {pins:List (Addr×Obj)} {σ:St} {H:Hp} {s:Shared} {a:Addr} {od:Option Addr} {cls:Value} {ts:List Addr} {h2:Heap} {l':List Env} (I:Inv X pins σ H s) (hex:X.ex=[]) (ha:H a=none/\X.s₀.heap.get? a=none) (hts:∀ T∈ts,H T=none/\X.s₀.heap.get? T=none)
   (x:FlD (W.hideAll s.heap (a::(ts++frs X.stack))) l' a cls od .none h2) (up:s.heap.UpToSlots h2):Un X.fs [] X.H₀ H X.s₀.heap h2/\HOk X.prog X.w H h2/\FlyD h2 H X.s₀.heap a cls od:=by
 have u:=I.base
 rw[hex] at u
 refine zM6 u I.hok I.stack (fun b hb=>⟨?_,I.stkFree b hb⟩) ha hts x up
 rcases List.mem_cons.mp (I.stkSub b hb) with z | z
 . right;rw[z];exact Heap.get?_none_of_le I.ok.above
 . exact .inl z
section
variable {P:Program} {w:World} {K:W.Frag} {mg:Str->Option Value} {base:Heap} {N:List Str} {qual:Str} {scope:Scope} {f:Addr} {cd:Value} {A:Around} {outer:List Env} {s:Shared} {H:Hp} {E:XK}
theorem raises_fnD:zR1 (cxOf (CXD P w) P w K mg base N qual scope f cd A outer s H E) E:=by
 intro pins σ H1 s1 x C od I e n q
 obtain ⟨t,hx⟩:=zA6 I e
 have J:=I.del e
 have hd:del H1 x x=none:=zG1 _ _
 refine leave_first (base:=W.hideAll s1.heap (x::([]++frs (cxOf (CXD P w) P w K mg base N qual scope f cd A outer s H E).stack))) (outer:=outer) (L:=s.heap.objs.size) I.ok.frames ?_ rfl hx (fun b o z=>W.of_hideAll _ z) (W.hideAll_none _ List.mem_cons_self) rfl rfl fun h' hL up=>?_
 . exact W.funFrames_hide I.stack fun env he b hb=>List.mem_cons_of_mem _ (List.mem_filterMap.mpr ⟨env,he,hb⟩)
 . obtain ⟨u,ok,fl⟩:=J.leftD (ts:=[]) rfl ⟨hd,n⟩ (fun _ z=>nomatch z) hL up
   exact⟨x,.ref C,od,_,rfl,I.os,I.bare,u,ok,fl,q⟩
theorem passes_fnD:zk4 (CXD P w) (cxOf (CXD P w) P w K mg base N qual scope f cd A outer s H E) E:=by
 intro pins σ H1 s1 e s2 I q
 obtain ⟨a,cls,od,H',rfl,os,bare,un,ok,fl,q⟩:=q
 have J:=I.call' (ch:=[]) os un ok bare fun b z=>nomatch z
 have fl':FlyD s2.heap H' s.heap a cls od:=fl.from fun b o z=>I.base.there b o z (fun z=>nomatch z)
 obtain ⟨T,z,fw⟩:=fl'.flying J.stack
 refine leave_on J.ok.frames rfl fw fun h' fw' up=>?_
 obtain ⟨u,ok',f2⟩:=J.leftD (ts:=[T]) rfl fl'.1 (fun b hb=>by rw[List.mem_singleton.mp hb];exact z) fw' up
 exact⟨a,cls,od,H',rfl,J.os,J.bare,u,ok',f2,q⟩
theorem FunD.okD {CX:CXT} {x qual:Str} {st:Stmt} {fd:FuncData} {N ps:List Str} {k:Nat} {sp:Sp} (F:FunD K x qual st f fd) (S:zc1 N ps (za4 st)) (len:∀ vs H Q E,sp vs H Q E->vs.length=ps.length)
   (hbody:∀ (cdv:Value) (A:Around) (outer:List Env) (s:Shared) (H:Hp) (vs:List V) (Q:VK) (E:XK),Room k (A.deeper (envOfC qual (za4 st) s.heap.objs.size f cdv))->sp vs H Q E →
     ∃ t,PSs (cxOf (CXD P w) P w K mg base N qual (za4 st) f cdv A outer s H E) (za9 st) t/\t { nx:=fun _ H'=>Q .non H',rt:=Q } (start N vs) H):FnOk P w K mg base (CXD P w) (k+1) f fd ps sp:=by
 obtain ⟨oc,od,dV,kV,doc,pm,an,cdv,ct,osl,rfl,lk,hcd⟩:=F.ex
 refine zP9 lk hcd S len fun A outer s H vs Q E hr hsp=>?_
 obtain ⟨t,h,q⟩:=hbody cdv A outer s H vs Q E hr hsp
 exact⟨t,h,q⟩
end
section
variable {X:Cx} {CX:CXT} {k:Nat} {f C:Addr} {fd:FuncData} {ps:List Str} {sp:Sp} {dvs:List V} {ds:List Value} {E Ei:XK} {x m:Str} {p pos cpos apos:Pos} {e:Expr} {es:List Expr} {t:TA}
noncomputable def tRaiseD (C:Addr) (sp:Sp) (dvs:List V) (Ei E:XK) (t:TA):TS:=fun _ σ H=>t σ H fun vs H1=>vs.length<=sizeLine/\∀ x,H1 x=none →
 sp (.ref x::(vs++dvs)) (upd H1 x (ExcO C x none)) (fun v H2=>v = .non/\∃ od,H2 x=some (ExcO C x od)/\E (.ref C) od (del H2 x)) Ei
theorem ps_raiseD (R:zR1 X E) (hc:X.calm=true) (c:XCls X.K C) (hi:W.findIn X.K (.ref C) "__init__" = some (some (.ref f))) (hf:W.isFn X.K (.ref f)=true) (F:FnOk X.prog X.w X.K X.mg X.base CX k f fd ps sp) (hr:Room (k+1) X.A) (hg:Gl X x) (hm:X.mg x=some (.ref C)) (hb:zc6 X.K fd ps ds) (hd:Vals dvs ds) (hx:zk4 CX X Ei)
   (ha:PA X (e::es) t) (hdb:(x == ("__debug__" : Str))=false:=by decide) (he:starEach (e::es) X.env=(false,eval e X.env)::starEach es X.env:=by rfl) (hpl:(backTo cpos (starEach es X.env)).any (·.1)=false:=by rfl) :
   PS X (.Raise (some (.Call (.Name x p) (e::es) [] cpos)) none pos) (tRaiseD C sp dvs Ei E t):=by
 intro pins s σ H D I h
 obtain ⟨nm,qn,N,bs,bm,sn,sub,ab,col,dd,k0,k1,k2,k3,k5,hK,m⟩:=c.ob
 rw[arm_exec_Raise]
 simp only[evalOpt,Option.map]
 refine wpAny_bind (wpAny_standAt (zU2 (C:=C) m (I.ok.hd hc) (hdct:=true) (nm:=nm) (q:=qn) (N:=N) (bs:=bs) (sn:=sn) (sub:=sub) (ab:=ab) (col:=col) (dd:=dd) (k0:=k0) (k1:=k1) (k2:=k2) (k3:=k3) (k5:=k5) (newId:="ValueError.__new__") ?_))
 refine wpAny_bind (wpAny_mono (wpAny_Call_Name_kw (zo2 I hg hm ?_ hdb)) (fun v s3 h3=>wpAny_bind (wpAny_standAt (wpAny_pure h3))) fun _ _ z=>z)
 refine W.callWith_K (h₀:=X.base) I.ok.mod.kin c.kp (thn (ha cpos pins s σ H _ I h) fun us s1 ⟨vs,H1,I1,r,hv,q⟩=>⟨I1.kIn,?_⟩) he hpl
 refine thn (zG2 (Q:=fun x H2=>∃ od,H2 x=some (ExcO C x od)/\E (.ref C) od (del H2 x)) c hi hf F hr hb hd hx I1 r hv q) fun v s2 ⟨ev,H2,I2,od,e2,q2⟩=>?_
 obtain ⟨t2,hx2⟩:=zA6 I2 e2
 exact⟨_,_,_,ev,I2.kIn _ _ hK,hx2,R pins σ H2 s2 _ C od I2 e2 (Heap.get?_none_of_le (Nat.le_trans I1.sz (Nat.le_succ _))) q2⟩
end
noncomputable def Cx.inTryD (X:Cx) (pins:List (Addr×Obj)) (Ex:St->XK):Cx:={ X with pn:=X.pn++pins,xe:=fun e s1=>∃ σ H s,Inv X pins σ H s/\CXD X.prog X.w X.stack H s (Ex σ) e s1 }
section
variable {X:Cx} {pins pins':List (Addr×Obj)} {σ:St} {H:Hp} {s:Shared} {Ex:St->XK} {D:Ends} {fl:Flow}
theorem Inv.inTryD (I:Inv X pins σ H s) (Ex:St->XK):Inv (X.inTryD pins Ex) [] σ H s :=
 let ok:=I.ok
 ⟨⟨ok.mod,ok.kind,ok.glob,ok.blt,ok.above,ok.inj,ok.has,ok.cab,ok.hd,ok.frames,ok.stk,ok.exf,ok.bs,ok.bsz,ok.noex,ok.exfs,ok.funs,ok.frf⟩,I.os,I.bare,I.base,I.loc,I.cell,I.free,I.freeC,fun p hp=>I.pin p (by
   rw[List.append_nil] at hp;exact hp),I.hok,I.len⟩
theorem Inv.outTryD (I:Inv (X.inTryD pins Ex) pins' σ H s):Inv X pins σ H s :=
 let ok:=I.ok
 ⟨⟨ok.mod,ok.kind,ok.glob,ok.blt,ok.above,ok.inj,ok.has,ok.cab,ok.hd,ok.frames,ok.stk,ok.exf,ok.bs,ok.bsz,ok.noex,ok.exfs,ok.funs,ok.frf⟩,I.os,I.bare,I.base,I.loc,I.cell,I.free,I.freeC,fun p hp=>I.pin p (List.mem_append_left _ hp),I.hok,I.len⟩
theorem SP.outTryD (h:SP (X.inTryD pins Ex) pins' D fl s):SP X pins D fl s:=by
 cases fl with
 | next=>obtain ⟨σ',H',I,q⟩:=h;exact⟨σ',H',I.outTryD,q⟩
 | brk=>obtain ⟨σ',H',I,q⟩:=h;exact⟨σ',H',I.outTryD,q⟩
 | cont=>obtain ⟨σ',H',I,q⟩:=h;exact⟨σ',H',I.outTryD,q⟩
 | ret u=>obtain ⟨v,σ',H',I,r,q⟩:=h;exact⟨v,σ',H',I.outTryD,r,q⟩
theorem passes_tryD:zQ9 (CXD X.prog X.w) (X.inTryD pins Ex) Ex:=fun pins' σ H s e s' I q=>⟨σ,H,s,I.outTryD,q⟩
end
noncomputable def zD9 (cls:Value) (a:Addr) (od:Option Addr):HO:=.ext fun h=>∃ oe,h.get? a=some oe/\(oe.cls=cls/\oe.dict=od)/\∃ vs,oe.data = .fields vs
theorem landD_ok {P:Program} {w:World} {H:Hp} {h:Heap} {a:Addr} {cls:Value} {od:Option Addr} {oe:Obj} (e:h.get? a=some oe) (hc:(oe.cls=cls/\oe.dict=od)/\∃ vs,oe.data = .fields vs):zi0 P w H h a (zD9 cls a od):=⟨⟨oe,e,hc⟩,⟨_,e⟩,fun h1 h2 ⟨t,e1,c1⟩ k=>⟨t,k _ e1,c1⟩⟩
section
variable {X:Cx} {D:Addr} {Ex:St->XK} {x n:Str} {i:Nat} {p pos hpos:Pos} {body suite:List Stmt} {b₀:Stmt} {tb th:TS}
noncomputable def tTryD (K:W.Frag) (Ex:St->XK) (D:Addr) (i:Nat) (tb th:TS):TS:=fun D' σ H=>tb D' σ H/\∀ σ' cls od H' a,Ex σ' cls od H'->H' a=none->W.exmOne K cls (.ref D)=some true/\th (D'.forget i) (σ'.set i (some (.ref a))) (upd H' a (zD9 cls a od))
theorem ps_tryD (hs:X.stack=X.env::X.outer/\X.env.frame=some X.env.locals) (hg:Gl X x) (hm:X.mg x=some (.ref D)) (hN:X.N.Nodup) (hi:X.N[i]?=some n) (hk:X.env.scope.names.lookup n=some .local) (hb:∀ pins,PSs (X.inTryD pins Ex) body tb) (hh:∀ e,PSs (X.caught e) (b₀::suite) th)
   (hdb:(x == ("__debug__" : Str))=false:=by decide) :
   PS X (.Try body [.ExceptHandler (some (.Name x p)) (some n) (b₀::suite) hpos] [] [] pos) (tTryD X.K Ex D i tb th):=by
 intro pins s σ H D' I h
 obtain ⟨h1,h2⟩:=h
 refine wpAny_Try_except (wpAny_mono (hb pins [] s σ H D' (I.inTryD Ex) h1) (fun f s1 q=>?_) fun e s1 q=>?_)
 . cases f with
   | next=>exact wpAny_execs_nil (SP.outTryD (fl:=.next) q)
   | brk=>exact SP.outTryD (fl:=.brk) q
   | cont=>exact SP.outTryD (fl:=.cont) q
   | ret u=>exact SP.outTryD (fl:=.ret u) q
 . obtain ⟨σ0,H0,s0,I0,a,cls,od,H',rfl,os,bare,un,ok,fl,q⟩:=q
   obtain ⟨ec,qh⟩:=h2 σ0 cls od H' a q fl.1.1
   have J:=I0.call' (ch:=[]) os un ok bare fun b z=>nomatch z
   have ff:=J.stack
   have ha0:=fl.1
   obtain ⟨T,z,fw⟩:=fl.flying ff
   have fr:X.A.frames=some (X.env::X.outer):=by rw[<-hs.1];exact J.ok.frames
   rw[hs.1] at fw
   refine zR0 fr hs.2 fw fun h1 held up1=>?_
   refine zA7 held fun h2 fw2 up2=>?_
   have st0:∀ (h':Heap),FlD (W.hideAll s1.heap (a::([T]++frs (X.env::X.outer)))) (X.env::X.outer) a cls od .none h'->s1.heap.UpToSlots h'->Un (frs X.stack) [] H0 H' s0.heap h'/\HOk X.prog X.w H' h':=fun h' fw' up'=>by
     obtain ⟨u,ok',_⟩:=zM6 (l:=X.env::X.outer) un ok (by rw[<-hs.1];exact ff) (fun b hb=>by rw[<-hs.1] at hb;exact⟨.inl hb,J.stkFree b hb⟩) fl.1 (ts:=[T]) (fun b hb=>by rw[List.mem_singleton.mp hb];exact z) fw' up'
     exact⟨u,ok'⟩
   have J2:Inv X pins σ0 H' { s1 with heap:=h2 }:=I0.call' (ch:=[]) (s':={ s1 with heap:=h2 }) os (st0 h2 fw2 (up1.trans up2)).1 (st0 h2 fw2 (up1.trans up2)).2 bare fun b z=>nomatch z
   refine wpAny_handleBy_cons (codeAny_handlers_test ?_) (by intro q;cases q)
   refine zo2 (X:=X.caught (.ref a)) (J2.caught _) hg hm ?_ hdb
   obtain ⟨oe,he,⟨hcls,_⟩,_⟩:=fw2.there
   have LT:W.Looks (model X.prog X.w) h2 (typeOf (.ref a)) cls:=by
     subst hcls
     exact (W.Looks.ld he).andThen .now
   refine (W.exm_one J2.kIn LT ec) _ _ _ _ (fun _ _ e=>e) ?_
   show codeAny _ _ _ _ _
   refine codeAny_handlers_suite_as (zA7 fw2 fun h3 fw3 up3=>?_)
   obtain ⟨u3,ok3⟩:=st0 h3 fw3 ((up1.trans up2).trans up3)
   obtain ⟨oe3,he3,hc3⟩:=fw3.there
   have nea:∀ b u,H' b=some u->b≠a:=fun b u e w=>by rw[w,ha0.1] at e;cases e
   have J3:Inv X pins σ0 (upd H' a (zD9 cls a od)) { s1 with heap:=h3 }:=by
     refine I0.call' (ch:=[]) (s':={ s1 with heap:=h3 }) os ⟨u3.keep,u3.slot,fun b o e n hx=>?_,u3.there,fun b xs e=>?_,fun b o u e=>?_,fun b ps e=>?_⟩ (fun b o e=>?_) bare fun b z=>nomatch z
     . rw[za7 (fun w=>by rw[w,ha0.2] at e;cases e)];exact u3.free b o e n hx
     . rw[za7 (nea b _ (u3.tups b xs e))];exact u3.tups b xs e
     . rw[za7 (nea b _ (u3.frzs b o u e))];exact u3.frzs b o u e
     . obtain ⟨more,e1⟩:=u3.tbls b ps e
       exact⟨more,by rw[za7 (nea b _ e1)];exact e1⟩
     . by_cases hb:b=a
       . subst hb
         rw[za5] at e;cases e
         exact landD_ok he3 hc3
       . rw[za7 hb] at e
         exact (ok3 b o e).stay (fun _ _ _ q=>q) (fun c q=>by rw[za7 (nea c _ q)];exact q) fun c xs q=>by rw[za7 (nea c _ q)];exact q
   refine zF3 (X:=X.caught (.ref a)) (v:=.ref a) (J3.caught _) hN hi (.inl hk) rfl (fun s4 J4=>?_) (.inr hk)
   refine wpAny_mono (hh (.ref a) pins s4 _ _ (D'.forget i) J4 qh) (fun f s' r=>?_) fun _ _ z=>False.elim z
   have r:=SP.uncaught I.ok.hd r
   cases f with
   | next=>obtain ⟨σ',H'',I',q'⟩:=r;exact zE8 I' hN hi hk fun s5 J5=>⟨_,_,J5,q'⟩
   | brk=>obtain ⟨σ',H'',I',q'⟩:=r;exact zE8 I' hN hi hk fun s5 J5=>⟨_,_,J5,q'⟩
   | cont=>obtain ⟨σ',H'',I',q'⟩:=r;exact zE8 I' hN hi hk fun s5 J5=>⟨_,_,J5,q'⟩
   | ret u=>obtain ⟨v,σ',H'',I',rr,q'⟩:=r;exact zE8 I' hN hi hk fun s5 J5=>⟨v,_,_,J5,rr,q'⟩
end
end L2
namespace L2
open PySem PySem.Spec PyProof.Rows
theorem check_gaX {M:Model} {A:Around} {E:Value->Shared->Prop} {K:W.Frag} {h:Heap} {g:Array GenState} {d:Drawn} {t:Nat} {os:OsState} {x C:Addr} {ox:Obj} {od:Option Obj} {nameV:Value} {Q:Unit->Shared->Prop}
   (X:K.In h) (I:W.InstAt h x ox C od) (hbe:W.mroIn K C (.type "BaseException")=some true) (q:Q () { heap:=h,gens:=g,drawn:=d,toks:=t,os:=os }) :
   wpAny M A (checkBuiltinCall "BaseException.__getattribute__" { pos:=[Value.ref x,nameV] }) Q E { heap:=h,gens:=g,drawn:=d,toks:=t,os:=os }:=by
 have hk:builtinKind "BaseException.__getattribute__" = some Manifest.AttrKind.slot:=by decide +kernel
 have hs:splitId "BaseException.__getattribute__" = some ("BaseException","__getattribute__"):=by decide +kernel
 have ha:=F.args_bexc_ga (Value.ref x) nameV
 have L0:=W.InstAt.type I (M:=M)
 have L4:=W.looks_mroIn (M:=M) X hbe
 unfold checkBuiltinCall
 simp only[hk,hs]
 refine wpAny_bind ?_
 unfold isInstance
 refine wpAny_bind (W.Looks.at L0 (W.Looks.at L4 ?_))
 refine wpAny_ite_false rfl ?_
 exact wpAny_of_eq ha q
theorem get_valueX {prog:Program} {w:World} {A:Around} {E:Value->Shared->Prop} {s:Shared} {K:W.Frag} {x C:Addr} {ox:Obj} {od:Option Obj} {name:Str} {expr:Bool} {Q:Value->Shared->Prop} {v:Value}
   (X:K.In s.heap) (I:W.InstAt s.heap x ox C od)
   (hga:W.findIn K (.ref C) "__getattribute__" = some (some (.builtin "BaseException.__getattribute__")))
   (hgt:W.findIn K (.ref C) "__getattr__" = some none)
   (hbe:W.mroIn K C (.type "BaseException")=some true)
   (hf:W.findObj K C od name=some (.value v)) (hh:W.handedIn v=true)
   (h:Q v { s with toks:=s.toks+1 }):wpAny (model prog w) A (getAttr (.ref x) name expr) Q E s:=by
 obtain ⟨hh',g,d,t,os⟩:=s
 have L0:=W.InstAt.type I (M:=model prog w)
 have L1:=W.looks_findIn (M:=model prog w) X hga
 have L2:=W.looks_findIn (M:=model prog w) X hgt
 have L3:=W.looks_find (M:=model prog w) X I hf
 have hx0:(expr && onTheHeap (Value.builtin "BaseException.__getattribute__"))=false:=by cases expr<;>rfl
 unfold getAttr
 refine wpAny_bind (wpAny_mkText ?_)
 unfold getAttrBy
 refine wpAny_holding (wpAny_bind (W.Looks.at L0 (wpAny_bind (W.Looks.at L1 ?_))))
 refine wpAny_ite_false rfl ?_
 unfold getAttrByItsOwn
 refine wpAny_bind ?_
 unfold hookBefore
 refine wpAny_ite_true rfl (W.Looks.at L2 ?_)
 refine wpAny_bind (wpAny_attempt (wpAny_holding ?_))
 unfold callGetattribute
 refine wpAny_ite_false (by rw[hx0];rfl) ?_
 unfold boundAndCalled
 refine wpAny_bind (wpAny_of_eq (F.attr_ValueError.ga.bind (Value.ref x)) ?_)
 refine wpAny_call (codeAny_call_builtin F.attr_ValueError.ga.plain F.entry_bexc_ga ?_)
 refine check_gaX X I hbe ?_
 unfold Builtin.«object.__getattribute__»
 refine wpAny_bind (wpAny_of_eq (a:=(Value.ref x,[Value.str name t])) rfl ?_)
 refine wpAny_bind (wpAny_pure (wpAny_bind (W.Looks.at L0 (wpAny_bind (W.Looks.at L3 (wpAny_pure ?_))))))
 show wpAny (model prog w) A (handedOut v) Q E _
 rw[W.handedOut_of hh]
 exact wpAny_pure h
structure XAsk (K:W.Frag) (C:Addr):Prop where
 ga:W.findIn K (.ref C) "__getattribute__" = some (some (.builtin "BaseException.__getattribute__"))
 gt:W.findIn K (.ref C) "__getattr__" = some none
 be:W.mroIn K C (.type "BaseException")=some true
 hd:W.hasDictIn K C=true
 kc:W.findIn K (.ref C) "__class__" = some (some (.builtin "object.__class__"))
 mo:W.mroIn K C (.type "object")=some true
structure XWay (K:W.Frag):Prop where
 gt:W.specialIn K (.builtin "object.__class__") "__get__" = some (some (.builtin "getset_descriptor.__get__"))
 tk:W.takesIn K (.builtin "object.__class__")=some true
section
variable {X:Cx} {pins:List (Addr×Obj)} {σ:St} {H:Hp} {s:Shared}
theorem land_at {C a dx:Addr} {fs:List (Str×V)} (I:Inv X pins σ H s) (e:H a=some (zD9 (.ref C) a (some dx))) (ed:H dx=some (.xd fs)) :
   ∃ ox ob,W.InstAt s.heap a ox C (some ob)/\∃ mA:Str->Option Value,(∀ n,W.lookIn n ob=some (mA n))/\∀ g,RelO (fs.lookup g) (mA g):=by
 obtain ⟨ox,g1,⟨g2,g3⟩,vs,g4⟩:=(I.hok a _ e).1
 obtain ⟨_,mA,hn,r,_⟩:=I.hok dx _ ed
 obtain ⟨ob,h1,h2⟩:=zH4 hn
 refine⟨ox,ob,⟨g1,g2,?_,?_⟩,mA,h2,r⟩
 . unfold W.notCls
   rw[g4]
 . rw[g3];exact h1
noncomputable def zV9 (K:W.Frag) (ta:TE) (f:Str):TE:=fun σ H Q=>ta σ H fun x H1=>∃ a C dx fs v,x = .ref a/\H1 a=some (zD9 (.ref C) a (some dx))/\H1 dx=some (.xd fs)/\XAsk K C/\ze2 K C f/\fs.lookup f=some v/\Q v H1
theorem pe_xget {e:Expr} {f:Str} {pos:Pos} {ta:TE} (he:PE X e ta) (hb:attributeBase e f X.env (eval e X.env)=eval e X.env):PE X (.Attribute e f pos) (zV9 X.K ta f):=by
 intro pins s σ H Q I h
 refine zP6 hb (thn (he pins s σ H _ I h) fun u s1 ⟨x,H1,I1,rx,a,C,dx,fs,v,ex,ea,ed,c,n,l,q⟩=>?_)
 subst ex
 obtain rfl:u=Value.ref a:=rx
 obtain ⟨ox,ob,J,mA,hl,r⟩:=land_at I1 ea ed
 obtain ⟨u,hu,ru⟩:=RelO.some_of (v:=v) (o:=mA f) (by rw[<-l];exact r f)
 exact get_valueX I1.kIn J c.ga c.gt c.be (W.findObj_own c.hd n rfl (by rw[hl,hu])) (zH5 ru) ⟨v,H1,I1.tok _,ru,q⟩
end
theorem pe_xgetK {X:Cx} (K:W.Frag) (h:X.K=K) {e:Expr} {f:Str} {pos:Pos} {ta:TE} (he:PE X e ta) (hb:attributeBase e f X.env (eval e X.env)=eval e X.env):PE X (.Attribute e f pos) (zV9 K ta f):=by
 subst h;exact pe_xget he hb
end L2
namespace L2
open PySem PySem.Spec PyProof.Rows
section
variable {X:Cx}
theorem strsAre_of:∀ {ys:List Str} {us:List Value},Vals (ys.map V.str) us->StrsAre us ys:=by
 intro ys
 induction ys with
 | nil=>intro us r;rw[List.map_nil] at r;cases r;exact .nil
 | cons y ys ih =>
   intro us r
   rw[List.map_cons] at r
   cases r with
   | cons r1 r2 =>
     obtain ⟨t,e⟩:=r1
     subst e
     exact .cons y t (ih r2)
theorem zI4:∀ (l:List (Str×Tok)),Vals ((l.map (·.1)).map V.str) (strValues l)
 | []=>.nil
 | (y,t)::l=>.cons ⟨t,rfl⟩ (zI4 l)
noncomputable def rStarts:V->List V->Hp->VK->Prop:=fun x vs H Q=>∃ z y,x = .str z/\vs=[.str y]/\Q (.bl (Txt.startswith z y)) H
theorem zI5:MtR X "str.startswith" rStarts:=by
 intro pins s σ H x vs v us Q I rx rv h
 obtain ⟨z,y,rfl,rfl,q⟩:=h
 obtain ⟨t,rfl⟩:=rx
 obtain ⟨u,rfl,t',rfl⟩:=rv.one
 exact SC.startswith ⟨.bl _,H,I,rfl,q⟩
noncomputable def rIsdig:V->List V->Hp->VK->Prop:=fun x vs H Q=>∃ z,x = .str z/\vs=[]/\Q (.bl (Txt.isdigit z)) H
theorem mt_isdig:MtR X "str.isdigit" rIsdig:=by
 intro pins s σ H x vs v us Q I rx rv h
 obtain ⟨z,rfl,rfl,q⟩:=h
 obtain ⟨t,rfl⟩:=rx
 have hus:=rv.zero
 subst hus
 exact SC.isdigit ⟨.bl _,H,I,rfl,q⟩
noncomputable def rJoin (K:W.Frag):V->List V->Hp->VK->Prop:=fun x vs H Q=>∃ (z:Str) (l:Addr) (ys:List Str),x = .str z/\vs=[.ref l]/\SqL K H l (ys.map V.str)/\(ys.map (·.length)).sum+ys.length*z.length<=16777216/\Q (.str (Txt.join z ys)) H
theorem zL2:MtR X "str.join" (rJoin X.K):=by
 intro pins s σ H x vs v us Q I rx rv h
 obtain ⟨z,l,ys,rfl,rfl,hS,hz,q⟩:=h
 obtain ⟨t,rfl⟩:=rx
 obtain ⟨u,rfl,ru⟩:=rv.one
 cases ru
 obtain ⟨its,r,p,_⟩:=I.list hS
 exact join_list p.isList (strsAre_of r) hz fun t' k=>⟨.str (Txt.join z ys),H,I.tok _,⟨_,rfl⟩,q⟩
noncomputable def rSplit:V->List V->Hp->VK->Prop:=fun x vs H Q=>∃ (z y:Str),x = .str z/\vs=[.str y]/\(y.length == 0)=false/\z.length<=1000000/\∀ l,H l=none->Q (.ref l) (upd H l (.lst ((Txt.split z y).map V.str)))
theorem mt_split:MtR X "str.split" rSplit:=by
 intro pins s σ H x vs v us Q I rx rv h
 obtain ⟨x,y,rfl,rfl,hy,hz,q⟩:=h
 obtain ⟨t,rfl⟩:=rx
 obtain ⟨_,rfl,u,rfl⟩:=rv.one
 have hsl:sizeLine=16777216:=by decide
 have hq:=q _ I.fresh
 have hlen:=split_le x y
 have fin:∀ (l:List (Str×Tok)) (k:Nat),l.map (·.1)=Txt.split x y->EP X pins σ Q (.ref s.heap.objs.size) { s with heap:=s.heap.push { cls:=.type "list",data:=.seq (strValues l).toArray },toks:=k }:=fun l k e=>by
   refine⟨.ref s.heap.objs.size,_,?_,rfl,hq⟩
   have hv:=zI4 l
   rw[e] at hv
   exact I.lnew hv (by rw[List.length_map];omega)
 cases h1:(decide (x.length<y.length) || decide (Builtin.Str.strKind x<Builtin.Str.strKind y))
 . cases hf:(Builtin.Str.occurrences x y 0 x.length (x.length+1)).isEmpty
   . have es:Txt.split x y=Builtin.Str.partsBetween x (Builtin.Str.occurrences x y 0 x.length (x.length+1)) y.length:=(if_neg (ne_true_of_eq_false h1)).trans (if_neg (ne_true_of_eq_false hf))
     refine call_meets F.slot_str_split (typeIs_str _ _ _) F.entry_str_split (F.args_str_split_2 _ _) (meets_str_split_sep x y t u h1 hy hf (by omega) (by rw[<-es];omega)) ?_
     show EP X pins σ Q _ { s with toks:=_,heap:=s.heap.push { cls:=.type "list",data:=.seq (strsFrom s.toks (Builtin.Str.partsBetween x (Builtin.Str.occurrences x y 0 x.length (x.length+1)) y.length)).toArray } }
     rw[strsFrom_eq]
     exact fin (numbered s.toks _) _ ((numbered_texts _ _).trans es.symm)
   . exact call_meets F.slot_str_split (typeIs_str _ _ _) F.entry_str_split (F.args_str_split_2 _ _) (meets_str_split_not_found x y t u h1 hy hf)
       (fin [(x,t)] s.toks ((if_neg (ne_true_of_eq_false h1)).trans (if_pos hf)).symm)
 . exact call_meets F.slot_str_split (typeIs_str _ _ _) F.entry_str_split (F.args_str_split_2 _ _) (meets_str_split_cannot_occur x y t u h1)
     (fin [(x,t)] s.toks (if_pos h1).symm)
noncomputable def rSlS:V->Option Int->Option Int->Hp->VK->Prop:=fun x lo hi H Q=>∃ z,x = .str z/\z.length<=sizeLine/\Q (.str (Txt.slice z lo hi)) H
theorem zR2 {v:Value} {p:Option Int} (h:IsPart v p):∃ q:Option (Int×Tok),v=partValue q/\q.map (·.1)=p:=by
 cases h with
 | none=>exact⟨none,rfl,rfl⟩
 | int i t=>exact⟨some (i,t),rfl,rfl⟩
theorem zt9:SlR X rSlS:=by
 intro pins s σ H x v vl vu lo hi sl Q I rx hs pl pu h
 obtain ⟨z,rfl,hz,q⟩:=h
 obtain ⟨t,rfl⟩:=rx
 obtain ⟨l,rfl,rfl⟩:=zR2 pl
 obtain ⟨u,rfl,rfl⟩:=zR2 pu
 refine⟨"str",_,F.slot_str_getitem.lookup,typeIs_str _ _ _,wpAny_getItem_str_slice (l:=l) (u:=u) (st:=none) hs rfl
   (post_val_or_str ⟨Nat.le_trans (Txt.slice_le z _ _) hz,fun t' k=>⟨.str _,H,I.tok _,⟨_,rfl⟩,q⟩⟩)⟩
theorem zy8:zl2 X (.type "int") (fun xs H Q=>∃ x n,xs=[.str x]/\intText? x=some n/\x.length<=640/\Q (.int n) H):=by
 intro pins s σ H xs us Q I r h
 obtain ⟨x,n,rfl,hn,hl,q⟩:=h
 obtain ⟨u,rfl,t,rfl⟩:=zr8 r
 exact W.KIN.call_text hn hl ⟨.int n,H,I.tok _,⟨_,rfl⟩,q⟩
theorem bools_at:∀ {bs:List Bool} {us:List Value},Vals (bs.map V.bl) us->us=bs.map Value.bool:=by
 intro bs
 induction bs with
 | nil=>intro us r;rw[List.map_nil] at r;cases r;rfl
 | cons b bs ih =>
   intro us r
   rw[List.map_cons] at r
   cases r with
   | cons r1 r2 =>
     cases r1
     rw[ih r2]
     rfl
theorem all_range (bs:List Bool):((List.range bs.length).all fun i=>(bs[i]?).getD true)=bs.all id:=by
 induction bs with
 | nil=>rfl
 | cons b bs ih =>
   rw[List.length_cons,List.range_succ_eq_map,List.all_cons,List.all_map,List.all_cons]
   have e:((fun i=>((b::bs)[i]?).getD true) ∘ Nat.succ)=fun i=>(bs[i]?).getD true:=by
     funext i
     simp
   rw[e,ih]
   simp
theorem call_all (hc:X.calm=true):zl2 X (.builtin "all") (fun xs H Q=>∃ (l:Addr) (bs:List Bool),xs=[.ref l]/\SqL X.K H l (bs.map V.bl)/\Q (.bl (bs.all id)) H):=by
 intro pins s σ H xs us Q I r h
 obtain ⟨l,bs,rfl,hS,q⟩:=h
 obtain ⟨u,rfl,ru⟩:=zr8 r
 cases ru
 obtain ⟨its,rv,p,hz⟩:=I.list hS
 have ei:=bools_at rv
 have hl:=p.isList
 have hlt:l<s.heap.objs.size:=by obtain ⟨_,e,_⟩:=hl;exact Heap.lt_size e
 have hh:X.A.handled=none:=I.ok.hd hc
 refine call_all_walk (wpAny_pyIter_list hl ?_)
 refine⟨s.heap.objs.size,[s.heap.objs.size,l],[s.heap.objs.size],its.toArray.size,_,_,fun i=>(bs[i]?).getD true,rfl,Walks.list (A:=X.A.in1) hh _ l (Nat.ne_of_lt hlt) its.toArray,
   ⟨⟨_,Heap.get?_push_size _ rfl,rfl,rfl⟩,hl.push _⟩,fun i v s' Q' E' hP hQ=>?_,fun h' tk hk=>?_⟩
 . have hP':its[i]?=some v:=by simpa using hP
   rw[ei,List.getElem?_map] at hP'
   cases e:bs[i]? with
   | none=>rw[e] at hP';cases hP'
   | some b =>
     rw[e] at hP'
     cases hP'
     simp only[e,Option.getD_some] at hQ
     exact wpAny_truthy_bool hQ
 . have e:((List.range its.toArray.size).all fun i=>(bs[i]?).getD true)=bs.all id:=by
     rw[List.size_toArray,ei,List.length_map];exact all_range bs
   rw[e]
   exact⟨.bl _,H,I.kept (t':=tk) fun b x e=>hk b x (fun hm=>by rw[List.mem_singleton.mp hm] at e;exact Nat.lt_irrefl _ (Heap.lt_size e)) (Heap.get?_push_of_some _ e),rfl,q⟩
noncomputable def Its (z:Str):It:=⟨fun i _=>i<z.cps.size,fun i H x H'=>H'=H/\∃ c,z.cps[i]?=some c/\x = .str ⟨#[c]⟩,fun i _=>z.cps.size<=i⟩
noncomputable def iStr (tl:TE):TI:=fun σ H R=>tl σ H fun x H1=>∃ z,x = .str z/\R (Its z) H1
theorem zM7 {P:Program} {w:World} {K:W.Frag} {tg:Expr} {z:Str} {t:Tok} {it:Addr} {ty:String} (hty:["enumerate","zip","dict_itemiterator","dict_reverseitemiterator","odict_iterator","itertools.zip_longest","itertools.pairwise"].contains ty=false)
   (W:∀ A':Around,A'.handled=none->Walks P w A' it [it] [it] z.cps.size (SignAt z) (fun i h=>h.IsStrIter it ty z t i)) (hself:∀ (A:Around) (i:Nat) (s:Shared) (Q:Value->Shared->Prop) (E:Value->Shared->Prop),s.heap.IsStrIter it ty z t i->Q (.ref it) s->wpAny (model P w) A (pyIter (.ref it)) Q E s) :
   Turn P w K tg (Its z) [it] it (fun i h=>i<=z.cps.size/\h.IsStrIter it ty z t i) where
 mem:=by simp
 obj:=fun i h st b hb=>by
   have e:b=it:=by simpa using hb
   subst e
   obtain ⟨_,o,e,c,d⟩:=st
   exact⟨o,e,fun v z=>by rw[d] at z;cases z⟩
 keep:=fun i h h' st k=>by
   obtain ⟨hi,o,e,c,d⟩:=st
   exact⟨hi,o,k it (by simp) o e,c,d⟩
 item:=by
   intro X hP hw hK hc i pins s σ H E I hf st hg
   subst hP hw hK
   obtain ⟨f0,f1,f2,f3,f4,f5⟩:=hf it (by simp)
   refine (W X.A (I.ok.hd hc)).item i s _ _ hg st.2 fun v h' tk hP st' kp=>?_
   obtain ⟨c,u,hc',rfl⟩:=hP
   have I1:Inv X pins σ H { s with heap:=h',toks:=tk }:=I.turned (t':=tk) (fun b o hb e=>kp b o (by simpa using hb) e) f0 f1 f3 f4 f5
   obtain ⟨o,e,cc,d⟩:=id st'
   exact⟨_,rfl,zP0 (s:={ s with heap:=h',toks:=tk }) e cc d hty ⟨.str ⟨#[c]⟩,H,I1,⟨_,rfl⟩,⟨rfl,c,hc',rfl⟩,⟨hg,st'⟩,fun b hb=>(hf b hb).1⟩⟩
 done:=by
   intro X hP hw hK hc i pins s σ H E I hf st hg
   subst hP hw hK
   obtain ⟨f0,f1,f2,f3,f4,f5⟩:=hf it (by simp)
   have ei:i=z.cps.size:=Nat.le_antisymm st.1 hg
   subst ei
   exact (W X.A (I.ok.hd hc)).done s _ _ st.2 fun h' tk kp=>⟨rfl,I.turned (t':=tk) (fun b o hb e=>kp b o (by simpa using hb) e) f0 f1 f3 f4 f5⟩
 self:=fun A i s Q E st h=>hself A i s Q E st.2 h
theorem pi_str {tg l:Expr} {tl:TE} (hl:PE X l tl):PI X tg l (iStr tl):=by
 intro pins s σ H R I h
 refine thn (hl pins s σ H _ I h) fun v s1 ⟨x,H1,I1,r1,q1⟩=>?_
 obtain ⟨z,e,q⟩:=q1
 subst e
 obtain ⟨t,rfl⟩:=r1
 have fin:∀ (o:Obj) (tn:Nat->Heap->Prop),Turn X.prog X.w X.K tg (Its z) [s1.heap.objs.size] s1.heap.objs.size tn->tn 0 (s1.heap.push o)->PIE X pins σ tg R (.ref s1.heap.objs.size) { s1 with heap:=s1.heap.push o }:=fun o tn T st=>by
   refine⟨s1.heap.objs.size,[s1.heap.objs.size],tn,Its z,H1,rfl,I1.kept (t':=s1.toks) fun b o e=>Heap.get?_push_of_some _ e,T,st,fun b hb=>?_,q⟩
   have e:b=s1.heap.objs.size:=by simpa using hb
   subst e
   exact I1.fpOk (Nat.le_refl _) (I1.hok.fresh (Nat.le_refl _))
 cases ha:z.cps.all (· < 128)
 . exact wpAny_pyIter_wide ha (fin _ _ (zM7 (t:=t) (ty:="str_iterator") (by decide) (fun A' hA=>Walks.strWide hA _ z t) fun A i s Q E st h=>wpAny_pyIter_striter_wide st h) ⟨Nat.zero_le _,_,Heap.get?_push_size _ rfl,rfl,rfl⟩)
 . exact wpAny_pyIter_ascii ha (fin _ _ (zM7 (t:=t) (ty:="str_ascii_iterator") (by decide) (fun A' hA=>Walks.strAscii hA _ z t) fun A i s Q E st h=>wpAny_pyIter_striter_ascii st h) ⟨Nat.zero_le _,_,Heap.get?_push_size _ rfl,rfl,rfl⟩)
theorem comp_str {H1:Hp} {D:Addr} {z:Str} {f:Nat->V} {j:Nat} {σc:St} {telt:TE} {Q:Hp->Prop} (hn:z.cps.size<=sizeLine)
   (step:∀ c acc (R:V->Hp->Prop),c∈z.cps.toList->R (f c) (upd H1 D (.lst acc))->telt (σc.set j (some (.str ⟨#[c]⟩))) (upd H1 D (.lst acc)) R)
   (q:Q (upd H1 D (.lst (z.cps.toList.map f)))) :
   ∃ W:Nat->Nat->St->Hp->Prop,(∃ m,W 0 m σc (upd H1 D (.lst []))) ∧
     ∀ i m σ' H',W i m σ' H'->((Its z).stop i H'/\Q H')\/((Its z).go i H'/\∃ N:St->Hp->Prop,(∀ σ2 H2,N σ2 H2->∃ m',m'<m/\W (i+1) m' σ2 H2) ∧
       ∀ v H2,(Its z).yld i H' v H2->zl1 j v σ' H2 fun σ3 H3=>zu5 σ3 H3 fun b H4=>if b=true then zn8 D telt N σ3 H4 else N σ3 H4):=by
 refine zM4 (J:=Its z) (n:=z.cps.size) (x:=fun i=>.str ⟨#[z.cps.toList.getD i 0]⟩) (fun i H'=>H'=upd H1 D (.lst ((z.cps.toList.take i).map f))) rfl (fun i H' hi _=>hi) (fun H' _=>Nat.le_refl _) (fun i v H' H2 hi _ y=>?_) (fun i H' N hi iv hN=>?_) (fun H' e=>?_)
 . obtain ⟨e,c,hc,rfl⟩:=y
   refine⟨e,?_⟩
   have:z.cps.toList[i]?=some c:=by simpa using hc
   rw[List.getD_eq_getElem?_getD,this]
   rfl
 . subst iv
   have hi':i<z.cps.toList.length:=by simpa using hi
   have e:z.cps.toList[i]?=some (z.cps.toList.getD i 0):=by rw[List.getD_eq_getElem?_getD,List.getElem?_eq_getElem hi'];rfl
   dsimp only[zu5]
   refine iteT (step _ _ _ (List.mem_of_getElem? e) ⟨_,za5,by rw[List.length_map,List.length_take];omega,?_⟩)
   refine hN _ ?_
   rw[zi8,List.take_succ,List.map_append,e]
   rfl
 . rw[e,List.take_of_length_le (by simp)]
   exact q
noncomputable def zv6:List Expr->Option (List Str)
 | []=>some []
 | .Constant (.str x) _ _::r=>(zv6 r).map (x::·)
 | _=>none
theorem zR3 {X:Cx}:∀ {es:List Expr} {ws:List Str},zv6 es=some ws->PA X es (fun _ H Q=>Q (ws.map V.str) H):=by
 intro es
 induction es with
 | nil=>intro ws h;cases h;exact za2
 | cons e r ih =>
   intro ws h
   unfold zv6 at h
   split at h
   . rename_i heq
     cases heq
   . rename_i heq
     injection heq with h1 h2
     subst h1 h2
     cases hr:zv6 r with
     | none=>rw[hr] at h;cases h
     | some vs =>
       rw[hr] at h
       injection h with h
       subst h
       exact za0 zb0 (ih hr)
   . cases h
theorem ps_lst_gen {X:Cx} {i:Nat} {x:Str} {es:List Expr} {ws:List Str} {pos pos' pos2:Pos} (h:zv6 es=some ws) (hN:X.N.Nodup) (hi:X.N[i]?=some x) (hx:Loc X.env.scope x) (hf:X.fn x=true\/X.env.scope.names.lookup x=some .local:=by first | exact .inl rfl | exact .inr rfl | assumption) :
 PS X (.Assign [.Name x pos'] (.List es pos) pos2) (tAsg (tLst (fun _ H Q=>Q (ws.map V.str) H)) (zl1 i)):=zb5 hN hi hx (zm1 (zR3 h)) rfl hf
theorem ps_cat_gen {X:Cx} {i:Nat} {x y:Str} {es:List Expr} {ws:List Str} {pos pos' pos2 py bp:Pos} (h:zv6 es=some ws) (hN:X.N.Nodup) (hi:X.N[i]?=some x) (hx:Loc X.env.scope x) {ty:TE} (hy:PE X (.Name y py) ty) (hf:X.fn x=true\/X.env.scope.names.lookup x=some .local:=by first | exact .inl rfl | exact .inr rfl | assumption) :
 PS X (.Assign [.Name x pos'] (.BinOp (.Name y py) .Add (.List es pos) bp) pos2) (tAsg (tOp rCat ty (tLst (fun _ H Q=>Q (ws.map V.str) H))) (zl1 i)):=zb5 hN hi hx (zb2 zT6 hy (zm1 (zR3 h))) rfl hf
noncomputable def exElt (e:Expr) (j:Nat):Expr:=match e with
 | .Tuple es _ _=>es.getD j (.Constant .none 0 ⟨0,0,0,0⟩)
 | _=>.Constant .none 0 ⟨0,0,0,0⟩
noncomputable def rEqE (K:W.Frag):R2:=fun x y H Q=>∃ a b xs,x = .ref a/\y = .ref b/\SqL K H a xs/\SqL K H b []/\Q (.bl xs.isEmpty) H
theorem op_eqE {X:Cx} (hu:X.A.units<cLine):OpR X (compareOp .Eq) (rEqE X.K):=by
 intro pins s σ H x y v u Q I rx ry h
 obtain ⟨a,b,xs,rfl,rfl,ha,hb,q⟩:=h
 cases rx
 cases ry
 obtain ⟨its,r,⟨o1,n1,g1,g2,_,g3⟩,hz⟩:=I.list ha
 obtain ⟨its2,r2,⟨o2,n2,g4,g5,_,g6⟩,hz2⟩:=I.list hb
 have ht:s.heap.IsList a its.toArray:=⟨o1,g1,g2,n1,g3⟩
 have ht2:s.heap.IsList b its2.toArray:=⟨o2,g4,g5,n2,g6⟩
 obtain rfl:its2=[]:=by cases r2;rfl
 cases xs with
 | nil =>
   obtain rfl:its=[]:=by cases r;rfl
   exact (PySem.SeqAt.RcAt.lists (e:=fun _=>true) ht ht2 rfl hu (fun i hi=>absurd hi (by simp))) _ _ _ _ ⟨.bl true,H,I,rfl,q⟩
 | cons x xs =>
   have hl:=r.length
   refine (PySem.SeqAt.RcAt.lists_lengths ht ht2 ?_ hu) _ _ _ _ ⟨.bl false,H,I,rfl,q⟩
   simp only[List.size_toArray,List.length_nil,<-hl,List.length_cons]
   simp
end
end L2
namespace L2
open PySem PySem.NumText
theorem zR4 {c:Nat}:∀ {p q A B:List Nat},c∉p->c∉q->p++c::A=q++c::B->p=q/\A=B
 | [],[],A,B,_,_,h=>⟨rfl,by injection h⟩
 | [],b::q,A,B,_,hq,h=>by
   injection h with h1 h2
   exact absurd (List.mem_cons.mpr (.inl h1)) hq
 | a::p,[],A,B,hp,_,h=>by
   injection h with h1 h2
   exact absurd (List.mem_cons.mpr (.inl h1.symm)) hp
 | a::p,b::q,A,B,hp,hq,h=>by
   injection h with h1 h2
   obtain ⟨e1,e2⟩:=zR4 (fun z=>hp (List.mem_cons_of_mem _ z)) (fun z=>hq (List.mem_cons_of_mem _ z)) h2
   exact⟨by rw[h1,e1],e2⟩
theorem zu0 {a b:Str} (h:a.cps.toList=b.cps.toList):a=b:=by
 cases a;cases b
 congr 1
 exact Array.toList_inj.mp h
theorem zo6 (a b:Str):(a++b).cps.toList=a.cps.toList++b.cps.toList:=by
 show (a.cps++b.cps).toList=_
 simp
theorem zA8 {c:Nat} (p q:Str) (r:List Str):(Str.join ⟨#[c]⟩ (p::q::r)).cps.toList=p.cps.toList++c::(Str.join ⟨#[c]⟩ (q::r)).cps.toList:=by
 show ((p++⟨#[c]⟩)++Str.join ⟨#[c]⟩ (q::r)).cps.toList=_
 rw[zo6,zo6]
 simp
theorem zU3 {c:Nat}:∀ {ps qs:List Str},ps≠[]->qs≠[]->(∀ p∈ps,c∉p.cps.toList)->(∀ q∈qs,c∉q.cps.toList)->Str.join ⟨#[c]⟩ ps=Str.join ⟨#[c]⟩ qs->ps=qs
 | [],_,h,_,_,_,_=>absurd rfl h
 | _::_,[],_,h,_,_,_=>absurd rfl h
 | [p],[q],_,_,_,_,e=>by
   have:p=q:=e
   rw[this]
 | [p],q::q2::r,_,_,hp,_,e=>by
   have h:=hp p (List.mem_singleton.mpr rfl)
   have e2:=congrArg (fun z:Str=>z.cps.toList) e
   rw[zA8] at e2
   have e3:p.cps.toList=q.cps.toList++c::(Str.join ⟨#[c]⟩ (q2::r)).cps.toList:=e2
   rw[e3] at h
   exact absurd (List.mem_append_right _ List.mem_cons_self) h
 | p::p2::r,[q],_,_,_,hq,e=>by
   have h:=hq q (List.mem_singleton.mpr rfl)
   have e2:=congrArg (fun z:Str=>z.cps.toList) e
   rw[zA8] at e2
   have e3:p.cps.toList++c::(Str.join ⟨#[c]⟩ (p2::r)).cps.toList=q.cps.toList:=e2
   rw[<-e3] at h
   exact absurd (List.mem_append_right _ List.mem_cons_self) h
 | p::p2::r,q::q2::r2,_,_,hp,hq,e=>by
   have e2:=congrArg (fun z:Str=>z.cps.toList) e
   rw[zA8,zA8] at e2
   obtain ⟨e3,e4⟩:=zR4 (hp p List.mem_cons_self) (hq q List.mem_cons_self) e2
   have:=zU3 (by simp) (by simp) (fun z hz=>hp z (List.mem_cons_of_mem _ hz)) (fun z hz=>hq z (List.mem_cons_of_mem _ hz)) (zu0 e4)
   rw[zu0 e3,this]
theorem zv7 (x y:Str):Txt.split x y≠[]:=fun e=>by
 have:=PyProof.Rows.split_pos x y
 rw[e] at this
 exact absurd this (by decide)
theorem zz9 {c:Nat} {ws:List Str} (hne:ws≠[]) (hc:∀ w∈ws,c∉w.cps.toList):Txt.split (Txt.join ⟨#[c]⟩ ws) ⟨#[c]⟩=ws:=by
 have e:Txt.join ⟨#[c]⟩ ws=Str.join ⟨#[c]⟩ ws:=StrLaws.glued_eq_join _ _
 refine zU3 (c:=c) (zv7 _ _) hne (fun p hp=>StrLaws.split_free _ c p hp) hc ?_
 rw[StrLaws.join_split,e]
theorem at_0 {α:Type} {x:α} {r:List α}:atI (x::r) 0=some x:=(zo4 (j:=0) (xs:=x::r) rfl)
theorem at_1 {α:Type} {x y:α} {r:List α}:atI (x::y::r) 1=some y:=(zo4 (j:=1) (xs:=x::y::r) rfl)
theorem at_2 {α:Type} {x y z:α} {r:List α}:atI (x::y::z::r) 2=some z:=(zo4 (j:=2) (xs:=x::y::z::r) rfl)
noncomputable def sI (n:Int):Str:=Str.ofString (toString n)
theorem zd5 (a b:Str):(a++b).length=a.length+b.length:=by
 show (a.cps++b.cps).size=_
 simp[Str.length]
theorem zv8 {n:Int} (h0:0<=n) (h:n<=1000000):(sI n).length<=10:=W.KT.len_num h0 (by omega)
theorem zU4:Str.ofString " " = ⟨#[32]⟩:=by decide
theorem feed1:Str.ofString "\n" = ⟨#[10]⟩:=by decide
theorem figures:(Str.ofString "0123456789").cps.toList=[48,49,50,51,52,53,54,55,56,57]:=by decide
theorem fig_in (c:Nat):(!(Builtin.Str.occurrences (Str.ofString "0123456789") ⟨#[c]⟩ 0 (Str.ofString "0123456789").length 1).isEmpty)=decide (48<=c/\c<=57):=by
 rw[StrLaws.found_one,figures]
 by_cases h:48<=c/\c<=57
 . rw[decide_eq_true h]
   have:c=48\/c=49\/c=50\/c=51\/c=52\/c=53\/c=54\/c=55\/c=56\/c=57:=by omega
   rcases this with rfl | rfl | rfl | rfl | rfl | rfl | rfl | rfl | rfl | rfl<;>decide
 . rw[decide_eq_false h]
   refine decide_eq_false fun hm=>h ?_
   simp at hm
   omega
noncomputable def zl3 (x:Int):Str:=if x=0 then Str.ofString "tray" else Str.ofString (toString x)
theorem split2 {f w:Str} (hf:32∉f.cps.toList) (hw:32∉w.cps.toList):Txt.split ((f++⟨#[32]⟩)++w) ⟨#[32]⟩=[f,w]:=by
 have e:(f++⟨#[32]⟩)++w=Txt.join ⟨#[32]⟩ [f,w]:=by
   show _=Builtin.Str.glued _ _
   rw[StrLaws.glued_eq_join]
   rfl
 rw[e]
 refine zz9 (by simp) fun x hx=>?_
 simp only[List.mem_cons,List.not_mem_nil,or_false] at hx
 rcases hx with rfl | rfl
 . exact hf
 . exact hw
noncomputable def zs1 (z:Str):Bool:=if Txt.startswith z (Str.ofString "0")=true then decide (z=Str.ofString "0") else if z.length=0\/4<z.length then false else z.cps.toList.all fun c=>decide (48<=c/\c<=57)
noncomputable def ze4 (z:Str):Option Int:=if zs1 z=true then some ((digitsVal z.cps.toList:Nat):Int) else none
noncomputable def zm7 (z:Str):Option Int :=
 if z=Str.ofString "tray" then some 0 else
 match ze4 (if Txt.startswith z (Str.ofString "-")=true then Txt.slice z (some 1) none else z) with
 | none=>none
 | some n=>if n=0 then none else some (if Txt.startswith z (Str.ofString "-")=true then -n else n)
theorem zu1 {z:Str} (h:zs1 z=true):AllDigits z.cps.toList/\z.cps.toList≠[]/\z.length<=4:=by
 unfold zs1 at h
 split at h
 . have e:=of_decide_eq_true h
   subst e
   exact⟨by unfold AllDigits;decide,by decide,by decide⟩
 . split at h
   . cases h
   . rename_i h1 h2
     refine⟨fun c hc=>of_decide_eq_true (List.all_eq_true.mp h c hc),fun e=>h2 (.inl ?_),by omega⟩
     have:z.cps.toList.length=z.length:=by simp[Str.length]
     rw[<-this,e]
     rfl
theorem zI6 {z:Str} (h:zs1 z=true):intText? z=some ((digitsVal z.cps.toList:Nat):Int):=by
 obtain ⟨h1,h2,h3⟩:=zu1 h
 exact intText_digits h1 h2 (by omega)
end L2
namespace L2
open PySem PySem.Spec PyProof.Rows
section
variable {prog:Program} {w:World} {A:Around} {R:Result->Shared->Prop} {s:Shared}
theorem compLoop_goE {elt target iter:Expr} {ifs:List Expr} {scope:Scope} {pos:Pos} {it acc:Value} {env:Env} {E0:Value->Shared->Prop} (hE:∀ e s',E0 e s'->notedBy (model prog w) A env (fun e s''=>R (.error e) s'') e s') (I:Nat->Shared->Prop)
   (turn:∀ n s,I n s->wpAny (model prog w) A (pyNext it) (fun r s1=>match r with
     | none=>R (.ok .next) s1
     | some v=>wpAny (model prog w) A (letOwnedTupleGo target it v) (fun _ s1'=>wpAny (model prog w) A (assign target env v) (fun _ s2 =>
         wpAny (model prog w) A (forIn ifs true fun c r=>if r=true then do let ok <-isTrue c env (eval c env);pure (ForInStep.yield ok) else pure (ForInStep.yield r)) (fun ok s3 =>
           if ok=true then wpAny (model prog w) A (eval elt env) (fun x s4 =>
             wpAny (model prog w) A (call (.builtin "list.append") [acc,x]) (fun _ s5=>∃ m,m<n/\I m s5) E0 s4) E0 s3
           else ∃ m,m<n/\I m s3) E0 s2) E0 s1') E0 s1) E0 s)
   (n:Nat) (h:I n s) :
   codeAny (model prog w) A (.compLoop (.ListComp elt [⟨target,iter,ifs,0⟩] scope pos) 0 it acc env) R s:=by
 refine codeAny_loop rfl I (fun n s hI=>?_) n h
 show wpAny _ A ((compTurn (.ListComp elt [⟨target,iter,ifs,0⟩] scope pos) 0 it acc env).onRaise (fun x=>do noteFrame x env;theTreesLotGoes x)) _ _ s
 refine wpAny_noted ?_
 rw[compTurn_list]
 refine wpAny_bind (wpAny_standAt (wpAny_bind (wpAny_mono (turn n s hI) (fun r s1 h1=>?_) hE)))
 cases r with
 | none=>exact wpAny_pure h1
 | some v =>
   refine wpAny_bind (wpAny_mono h1 (fun _ s1' h1'=>?_) hE)
   refine wpAny_bind (wpAny_mono h1' (fun _ s2 h2=>wpAny_bind (wpAny_mono h2 (fun ok s3 h3=>?_) hE)) hE)
   cases ok with
   | false=>exact wpAny_pure ⟨rfl,h3⟩
   | true=>exact wpAny_bind (wpAny_bind (wpAny_mono h3 (fun x s4 h4=>wpAny_bind (wpAny_mono h4 (fun _ s5 h5=>wpAny_pure (wpAny_pure ⟨rfl,h5⟩)) hE)) hE))
end
noncomputable def Cx.compE (X:Cx) (scope:Scope) (cl:List (Str×Addr)) (C:Addr) (N':List Str) (s0:Shared) (H0:Hp) (fp:List Addr) (Ex:XK):Cx :=
 { X.comp scope cl C N' s0 H0 fp with xe:=fun e s1=>∃ pins σ H s,Inv (X.comp scope cl C N' s0 H0 fp) pins σ H s/\CXE X.prog X.w X.stack H s Ex e s1 }
section
variable {X:Cx} {scope:Scope} {cl:List (Str×Addr)} {C:Addr} {N':List Str} {s0:Shared} {H0:Hp} {fp:List Addr} {Ex:XK} {pins:List (Addr×Obj)} {σ:St} {H:Hp} {s:Shared}
theorem Inv.toE (I:Inv (X.comp scope cl C N' s0 H0 fp) pins σ H s):Inv (X.compE scope cl C N' s0 H0 fp Ex) pins σ H s :=
 let ok:=I.ok
 ⟨⟨ok.mod,ok.kind,ok.glob,ok.blt,ok.above,ok.inj,ok.has,ok.cab,ok.hd,ok.frames,ok.stk,ok.exf,ok.bs,ok.bsz,ok.noex,ok.exfs,ok.funs,ok.frf⟩,I.os,I.bare,I.base,I.loc,I.cell,I.free,I.freeC,I.pin,I.hok,I.len⟩
theorem Inv.ofE (I:Inv (X.compE scope cl C N' s0 H0 fp Ex) pins σ H s):Inv (X.comp scope cl C N' s0 H0 fp) pins σ H s :=
 let ok:=I.ok
 ⟨⟨ok.mod,ok.kind,ok.glob,ok.blt,ok.above,ok.inj,ok.has,ok.cab,ok.hd,ok.frames,ok.stk,ok.exf,ok.bs,ok.bsz,ok.noex,ok.exfs,ok.funs,ok.frf⟩,I.os,I.bare,I.base,I.loc,I.cell,I.free,I.freeC,I.pin,I.hok,I.len⟩
theorem passes_compE:zk4 (CXE X.prog X.w) (X.compE scope cl C N' s0 H0 fp Ex) Ex:=fun pins σ H s e s' I q=>⟨pins,σ,H,s,I.ofE,q⟩
end
section
variable {X:Cx} {scope:Scope} {N':List Str} {ix:List (Option Nat)} {tg iter elt:Expr} {ifs:List Expr} {pos:Pos} {wi:TI} {g:TG} {tif:TT} {telt:TE}
theorem comp_blockE {Ex:XK} {RR:Value->Addr->Result->Shared->Prop} {pins:List (Addr×Obj)} {σ:St} {s2:Shared} {H2:Hp} {it:Addr} {fp:List Addr} {tn:Nat->Heap->Prop} {J:It} {cl:List (Str×Addr)} {Q:VK} {E:Value->Shared->Prop}
   (hc:X.calm=true) (S:ze9 X.N X.env.scope scope N' ix)
   (c1:∀ x c,cl.lookup x=some c->X.env.cells.lookup x=some c) (c2:∀ y∈scope.names,y.2 = .free->∃ c,cl.lookup y.1=some c)
   (hg:∀ cl C s0 H0 fp,PG (X.compE scope cl C N' s0 H0 fp Ex) tg g) (hif:∀ cl C s0 H0 fp,PIfs (X.compE scope cl C N' s0 H0 fp Ex) ifs tif) (he:∀ cl C s0 H0 fp,PE (X.compE scope cl C N' s0 H0 fp Ex) elt telt)
   (I2:Inv X pins σ H2 s2) (T:Turn X.prog X.w X.K tg J fp it tn) (st2:tn 0 s2.heap) (f2:∀ b∈fp,FpOk X pins H2 b)
   (body:∀ D,H2 D=none->∃ W:Nat->Nat->St->Hp->Prop,(∃ m,W 0 m (selS ix σ) (upd H2 D (.lst []))) ∧
     ∀ i m σ' H',W i m σ' H'->(J.stop i H'/\Q (.ref D) H')\/(J.go i H'/\∃ N:St->Hp->Prop,(∀ σ2 H2,N σ2 H2->∃ m',m'<m/\W (i+1) m' σ2 H2) ∧
       ∀ x H2,J.yld i H' x H2->g x σ' H2 fun σ3 H3=>tif σ3 H3 fun b H4=>if b=true then zn8 D telt N σ3 H4 else N σ3 H4))
   (hRR:∀ D C s3 s' H' m,Inv X pins σ H' s'->s2.heap.objs.size<=s3->s3<=C->s'.heap.Ns C m->FpOk X pins H' C->HOk X.prog X.w H' s'.heap->Q (.ref D) H'->RR (.ref D) C (.ok .next) s')
   (hex:X.ex=[]) (hRE:∀ D C a cls s3 s' H' m,Inv X pins σ H' s'->X.s₀.heap.objs.size<=s3->s3<=C->s'.heap.Ns C m->FpOk X pins H' C->Fly s'.heap H' X.s₀.heap a cls->Ex cls none H'->notedBy (model X.prog X.w) X.A X.env (fun e s''=>RR (.ref D) C (.error e) s'') (.ref a) s') :
   wpAny (model X.prog X.w) X.A (newList []) (fun acc s3=>wpAny (model X.prog X.w) X.A (newFunctionEnv scope X.env.globals cl [] X.env.qual none .none (some X.env)) (fun cenv s4 =>
     codeAny (model X.prog X.w) X.A (.compStart (.ListComp elt [⟨tg,iter,ifs,0⟩] scope pos) 0 (.ref it) acc { cenv with scope:=relabel scope X.env }) (RR acc cenv.locals) s4) E s3) E s2:=by
 have hlt2:∀ b∈fp,b<s2.heap.objs.size:=fun b hb=>by
   obtain ⟨o,e,_⟩:=T.obj _ _ st2 b hb
   exact Heap.lt_size e
 obtain ⟨W,⟨m0,w0⟩,turn⟩:=body s2.heap.objs.size I2.fresh
 refine wpAny_newObj_type (wpAny_newFunctionEnv S.nocell (by intro y hy;simp at hy) (fun h1 hns1 hsb1=>?_) S.kind)
 dsimp only at hns1 hsb1 ⊢
 have I3:Inv X pins σ (upd H2 s2.heap.objs.size (.lst [])) { s2 with heap:=s2.heap.push { cls:=.type "list",dict:=none,data:=.seq ([]:List Value).toArray } } :=
   Inv.lnew (its:=[]) (t':=s2.toks) I2 .nil (Nat.zero_le _)
 generalize hs3:({ s2 with heap:=s2.heap.push { cls:=.type "list",dict:=none,data:=.seq ([]:List Value).toArray } }:Shared)=s3 at I3
 have hh3:s3.heap=s2.heap.push { cls:=.type "list",dict:=none,data:=.seq ([]:List Value).toArray }:=by rw[<-hs3]
 have hsz3:s3.heap.objs.size=s2.heap.objs.size+1:=by rw[hh3,Heap.size_push]
 have hsh:({ s2 with heap:=h1,toks:=s2.toks+([]:List (Str×Value)).length }:Shared) = { s3 with heap:=h1,toks:=s2.toks+([]:List (Str×Value)).length }:=by rw[<-hs3]
 rw[<-hh3] at hns1 hsb1 ⊢
 have fpD:∀ b∈fp,b≠s2.heap.objs.size:=fun b hb=>Nat.ne_of_lt (hlt2 b hb)
 have f3:∀ b∈fp,FpOk X pins (upd H2 s2.heap.objs.size (.lst [])) b:=fun b hb=>⟨by rw[za7 (fpD b hb)];exact (f2 b hb).1,(f2 b hb).2⟩
 have old:∀ b o,s3.heap.get? b=some o->h1.get? b=some o:=fun b o e=>hsb1.extBut b o (Nat.ne_of_lt (Heap.lt_size e)) (Heap.get?_push_of_some _ e)
 have J4:Inv (X.comp scope cl s3.heap.objs.size N' s3 (upd H2 s2.heap.objs.size (.lst [])) fp) [] (selS ix σ) (upd H2 s2.heap.objs.size (.lst [])) { s3 with heap:=h1,toks:=s2.toks+([]:List (Str×Value)).length } :=
   I3.comp S f3 (fun b hb=>Nat.lt_of_lt_of_le (hlt2 b hb) (by rw[hsz3];exact Nat.le_succ _)) c1 c2 hns1 old
 have st4:tn 0 h1:=T.keep _ _ _ st2 fun b hb o e=>old b o (by rw[hh3];exact Heap.get?_push_of_some _ e)
 generalize hCC:s3.heap.objs.size=C at *
 have J4':=J4.toE (Ex:=Ex)
 generalize hX':X.compE scope cl C N' s3 (upd H2 s2.heap.objs.size (.lst [])) fp Ex=X' at J4'
 have stat:∀ {H':Hp},(∀ b∈fp,H' b=none)->∀ b∈fp,FpOk X' [] H' b:=fun {H'} hn b hb=>by
   subst hX'
   refine⟨hn b hb,(J4'.ok.exf b hb).1,J4'.ok.exfs b hb,.inl hb,(J4'.ok.exf b hb).2,fun p hp=>(by cases hp)⟩
 rw[hsh]
 have HERR:∀ e s',X'.xe e s'->notedBy (model X.prog X.w) X.A (compEnvC scope cl C X.env) (fun e s''=>RR (.ref s2.heap.objs.size) C (.error e) s'') e s':=fun e s' hxe=>by
   subst hX'
   obtain ⟨pi0,σ0,H0,s0,I0,a,cls,H',rfl,os,bare,un,ok,fl,qq⟩:=hxe
   have I00:Inv X pins σ H0 s0:=I3.uncomp f3 (Nat.le_of_eq hCC) (I0.pins_of fun p hp=>nomatch hp)
   have J0:=I0.call' (ch:=[]) os un ok bare fun b z=>nomatch z
   obtain ⟨m,hnm,_⟩:=J0.loc
   have J7:Inv X pins σ H' s':=I3.uncomp f3 (Nat.le_of_eq hCC) (J0.pins_of fun p hp=>nomatch hp)
   have fp7:FpOk X pins H' C:=I3.fpOk (H':=H') (b:=C) (by omega) J0.free
   have fl':Fly s'.heap H' X.s₀.heap a cls:=fl.from fun b o z=>I00.base.there b o z (by rw[hex];exact fun z=>nomatch z)
   exact hRE s2.heap.objs.size C a cls s3.heap.objs.size s' H' m J7 I3.sz (by omega) hnm fp7 fl' qq
 have loop:codeAny (model X.prog X.w) X.A (.compLoop (.ListComp elt [⟨tg,iter,ifs,0⟩] scope pos) 0 (.ref it) (.ref s2.heap.objs.size) (compEnvC scope cl C X.env)) (RR (.ref s2.heap.objs.size) C) { s3 with heap:=h1,toks:=s2.toks+([]:List (Str×Value)).length }:=by
   refine compLoop_goE (E0:=X'.xe) HERR (fun n s'=>∃ i σ' H',Inv X' [] σ' H' s'/\tn i s'.heap/\(∀ b∈fp,H' b=none)/\W i n σ' H') ?_ m0 ⟨0,_,_,J4',st4,fun b hb=>(f3 b hb).1,w0⟩
   rintro n s5 ⟨i,σ5,H5,I5,st5,fr5,w5⟩
   rcases turn i n σ5 H5 w5 with ⟨stop,qn⟩ | ⟨go,N,hN,step⟩
   . have td:=T.done X' (by subst hX';rfl) (by subst hX';rfl) (by subst hX';rfl) (by subst hX';exact hc) i [] s5 σ5 H5 X'.xe I5 (stat fr5) st5 stop
     have eA:X'.A=X.A:=by subst hX';rfl
     rw[eA] at td
     refine thn td fun r s6 ⟨hr,I6⟩=>?_
     subst hr
     subst hX'
     obtain ⟨m,hnm,_⟩:=I6.loc
     have I7:Inv X pins σ H5 s6:=I3.uncomp f3 (Nat.le_of_eq hCC) I6.ofE
     refine hRR s2.heap.objs.size C s3.heap.objs.size s6 H5 m I7 (by omega) (by omega) hnm ?_ I6.hok qn
     have q:=I3.fpOk (H':=H5) (b:=C) (by omega) I6.free
     exact q
   . have ti:=T.item X' (by subst hX';rfl) (by subst hX';rfl) (by subst hX';rfl) (by subst hX';exact hc) i [] s5 σ5 H5 X'.xe I5 (stat fr5) st5 go
     have eA:X'.A=X.A:=by subst hX';rfl
     rw[eA] at ti
     refine thn ti fun r s6 ⟨u,hr,h6⟩=>?_
     subst hr
     refine thn h6 fun _ s7 ⟨x,H7,I7,r7,y7,st7,fr7⟩=>?_
     have I7':=I7.pinned (stat fr7) (T.obj _ _ st7)
     have again:∀ {pl:List (Addr×Obj)} {σ8:St} {H8:Hp} {s8:Shared},Inv X' ([]++zv0 fp s7.heap) σ8 H8 s8->N σ8 H8->∃ m,m<n/\∃ i σ' H',Inv X' [] σ' H' s8/\tn i s8.heap/\(∀ b∈fp,H' b=none)/\W i m σ' H':=fun {pl σ8 H8 s8} I8 n8=>by
       obtain ⟨m',hm,w8⟩:=hN σ8 H8 n8
       refine⟨m',hm,i+1,σ8,H8,I8.unpinned,T.keep _ _ _ st7 fun b hb o e=>(I8.pin (b,o) (List.mem_append_right _ (List.mem_append_right _ (zl9 hb e)))).1,fun b hb=>?_,w8⟩
       obtain ⟨o,e,d⟩:=T.obj _ _ st7 b hb
       exact (I8.pin (b,o) (List.mem_append_right _ (List.mem_append_right _ (zl9 hb e)))).2.1
     have eE:X'.env=compEnvC scope cl C X.env:=by subst hX';rfl
     have eP:X'.prog=X.prog:=by subst hX';rfl
     have eW:X'.w=X.w:=by subst hX';rfl
     have hg':PG X' tg g:=by subst hX';exact hg _ _ _ _ _
     have hif':PIfs X' ifs tif:=by subst hX';exact hif _ _ _ _ _
     have he':PE X' elt telt:=by subst hX';exact he _ _ _ _ _
     have a1:=hg' _ s7 σ5 H7 x u _ I7' r7 (step x H7 y7)
     rw[eE,eP,eW,eA] at a1
     refine thn a1 fun _ s8 ⟨σ8,H8,I8,q8⟩=>?_
     have a2:=hif' _ s8 σ8 H8 _ I8 q8
     rw[eE,eP,eW,eA] at a2
     refine thn a2 fun ok s9 ⟨H9,I9,q9⟩=>?_
     cases ok with
     | false=>exact again (pl:=[]) I9 q9
     | true =>
       have q9':zn8 s2.heap.objs.size telt N σ8 H9:=q9
       have a3:=he' _ s9 σ8 H9 _ I9 q9'
       rw[eE,eP,eW,eA] at a3
       show wpAny _ _ _ _ _ _
       refine thn a3 fun y s10 ⟨v,H10,I10,r10,acc,hD,hl,n10⟩=>?_
       obtain ⟨hz,its,k,rv,hgD⟩:=I10.hok s2.heap.objs.size _ hD
       have hlen:=rv.length
       refine wpAny_list_append_plain (hsz:=by rw[List.size_toArray,<-hlen];exact Nat.le_of_lt hl) ⟨k,hgD⟩ fun h11 hl11 hs11=>?_
       obtain ⟨k',hk'⟩:=hl11
       have ep:(its.toArray.push y)=(its++[y]).toArray:=by simp
       rw[ep] at hk'
       have I11:Inv X' ([]++zv0 fp s7.heap) σ8 (upd H10 s2.heap.objs.size (.lst (acc++[v]))) { s10 with heap:=h11 } :=
         I10.write (x:=s2.heap.objs.size) (e:=s2.heap.objs.size) (t':=s10.toks) (by rw[hD];exact trivial) (.inl rfl) (fun b o hb e=>hs11.extBut b o hb e) ⟨_,hk'⟩ ⟨by rw[List.length_append];exact hl,its++[y],k',rv.append (.cons r10 .nil),hk'⟩
       exact again (pl:=[]) I11 n10
 exact codeAny_compStart_list loop (T.self _ 0 _ _ _ st4 loop)
end
section
variable {M:Model} {A:Around} {E:Value->Shared->Prop} {s:Shared}
theorem zj1 {h:Heap} {T b:Addr} {v:Value} (hb:b≠T):(h.update T (Obj.mapFields (·.setIfInBounds 3 v))).get? b=h.get? b:=Heap.get?_update_other _ _ (Ne.symm hb)
theorem setFlight_any {B:Heap} {l:List Env} {x:Addr} {cls a0 fl:Value} {fr:Option Addr} {Q:Unit->Shared->Prop} (hB:B.StaysIn s.heap) (hl:s.heap.FunFrames B l) (ht:s.heap.TracedAtW B x cls a0 fl)
   (h:∀ h',B.StaysIn h'->h'.FunFrames B l->h'.TracedAtW B x cls a0 (fr.elim .none fun f=>rawInt f)->(∀ b o,s.heap.get? b=some o->(∀ vs,o.data≠.fields vs)->h'.get? b=some o)->Q () { s with heap:=h' }) :
   wpAny M A (setFlight (.ref x) fr) Q E s:=by
 obtain ⟨ox,us,T,oT,ts,gx,cx,dx,u1,nT,neT,gT,dT,t3⟩:=ht
 have apart:∀ b o,s.heap.get? b=some o->(∀ vs,o.data≠.fields vs)->b≠T:=fun b o gb nf z=>by
   subst z
   rw[gT] at gb
   cases gb
   exact nf _ dT
 have lt3:3<ts.size:=(Array.getElem?_eq_some_iff.mp t3).1
 unfold setFlight
 refine wpAny_bind (wpAny_field gx dx u1 ?_)
 rw[if_pos (by simp)]
 refine wpAny_setField gT dT lt3 (h _ (fun b o gb=>?_) (hl.of_keeps fun b o gb nf=>⟨o,(zj1 (apart b o gb nf)).trans gb,rfl⟩) ?_ fun b o gb nf=>(zj1 (apart b o gb nf)).trans gb)
 . have nb:b≠T:=fun z=>by rw[z,nT] at gb;cases gb
   exact (zj1 nb).trans (hB b o gb)
 . refine⟨ox,us,T,_,_,(zj1 neT.symm).trans gx,cx,dx,u1,nT,neT,Heap.get?_update_self _ gT (Obj.isFreed_of_fields (Obj.data_mapFields dT _)),Obj.data_mapFields dT _,?_⟩
   simp[lt3]
theorem leaving_any {B:Heap} {env:Env} {outer:List Env} {L x:Addr} {cls a0 fl:Value} {Q:Unit->Shared->Prop} (hfr:A.frames=some (env::outer)) (hf:env.frame=some L)
   (hB:B.StaysIn s.heap) (hx:B.get? x=none) (hl:s.heap.FunFrames B (env::outer)) (ht:s.heap.TracedAtW B x cls a0 fl)
   (h:∀ h',Heap.FlyingW B (env::outer) x cls a0 h'->s.heap.UpToSlots h'->Q () { s with heap:=h' }):wpAny M A («leaving» env (.ref x)) Q E s:=by
 by_cases hL:fl=rawInt L
 . subst hL
   unfold «leaving»
   exact wpAny_bind (wpAny_noteFrame_againW hf ht (wpAny_landsW ⟨hB,hx,hl,ht⟩ fun h' f u=>h h' f u))
 . obtain ⟨ox,us,T,oT,ts,gx,cx,dx,u1,nT,neT,gT,dT,t3⟩:=ht
   have apart:∀ b o,s.heap.get? b=some o->(∀ vs,o.data≠.fields vs)->b≠T:=fun b o gb nf z=>by
     subst z
     rw[gT] at gb
     cases gb
     exact nf _ dT
   unfold «leaving»
   refine wpAny_bind ?_
   unfold noteFrame
   simp only[hf]
   refine wpAny_bind (wpAny_field gx dx u1 ?_)
   rw[if_pos (by simp)]
   refine wpAny_bind (wpAny_field gT dT t3 ?_)
   rw[if_neg (by simpa using hL)]
   refine wpAny_bind (wpAny_setField gT dT (Array.getElem?_eq_some_iff.mp t3).1 ?_)
   refine wpAny_entryW hfr (hl.of_keeps fun b o gb nf=>⟨o,(zj1 (apart b o gb nf)).trans gb,rfl⟩) hf ((zj1 neT.symm).trans gx)
     (fun b o gb=>(zj1 fun z=>by rw[z,nT] at gb;cases gb).trans (hB b o gb)) hx dx (Array.getElem?_eq_some_iff.mp u1).1 cx.2 fun h1 ⟨n1,n2,n3,n4⟩=>?_
   rw[cx.1] at n3
   refine wpAny_landsW ⟨n1,hx,n2,n3⟩ fun h2 f u=>h h2 f ?_
   intro b o gb nf
   obtain ⟨sl,e1⟩:=n4 b o ((zj1 (apart b o gb nf)).trans gb) nf
   exact u b { o with slots:=sl } e1 nf
end
theorem zy9 {h h' B:Heap} {C:Addr} (k:Heap.SameBut C h h'):∀ {l:List Env},C∉frs l->h.FunFrames B l->h'.FunFrames B l
 | [],_,_=>trivial
 | env::l,hC,⟨a1,⟨L,o,hf,b1,b2,b3⟩,r⟩=>by
   have hL:L≠C:=fun z=>hC (by
     unfold frs
     rw[List.filterMap_cons,hf]
     exact List.mem_cons.mpr (.inl z.symm))
   refine⟨a1,⟨L,o,hf,b1,(k.2 L hL).trans b2,b3⟩,zy9 k (fun z=>hC ?_) r⟩
   unfold frs at z ⊢
   rw[List.filterMap_cons,hf]
   exact List.mem_cons_of_mem _ z
theorem stationC {P:Program} {w:World} {fs ts:List Addr} {l l':List Env} {H0 H:Hp} {h0 h1 h2 B:Heap} {a:Addr} {cls a0:Value} (u:Un fs [] H0 H h0 h1) (ok:HOk P w H h1) (ff:h1.FunFrames B l)
   (hl:∀ b∈frs l,(b∈fs\/h0.get? b=none)/\H b=none) (ha:H a=none/\h0.get? a=none) (hts:∀ T∈ts,H T=none/\h0.get? T=none)
   (x:Heap.FlyingW (W.hideAll h1 (a::(ts++frs l))) l' a cls a0 h2) (up:∀ b o,b∈frs l->h1.get? b=some o->(∀ vs,o.data≠.fields vs)->∃ sl,h2.get? b=some { o with slots:=sl }):Un fs [] H0 H h0 h2/\HOk P w H h2/\Fly h2 H h0 a cls:=by
 obtain ⟨st,_,_,oe,vs,T,oT,tv,e1,e2,e3,e4,e5,e6,e7,e8,e9⟩:=x
 have keep:∀ b o,b∉a::(ts++frs l)->h1.get? b=some o->h2.get? b=some o:=fun b o hb e=>st b o (W.hideAll_get _ e hb)
 have out:∀ b,b∈a::(ts++frs l)->H b=none/\(b∈frs l\/h0.get? b=none):=fun b hb=>by
   rcases List.mem_cons.mp hb with rfl | hb
   . exact⟨ha.1,.inr ha.2⟩
   . rcases List.mem_append.mp hb with hb | hb
     . exact⟨(hts b hb).1,.inr (hts b hb).2⟩
     . exact⟨(hl b hb).2,.inl hb⟩
 have slot:∀ b o,h0.get? b≠none->h1.get? b=some o->∃ sl,h2.get? b=some { o with slots:=sl }:=fun b o n e=>by
   by_cases hb:b∈a::(ts++frs l)
   . rcases (out b hb).2 with q | q
     . obtain ⟨_,o',ho,hn⟩:=ff.mem q
       rw[e] at ho;cases ho
       exact up b o q e hn
     . exact absurd q n
   . exact⟨o.slots,keep b o hb e⟩
 refine⟨⟨fun b o e n hf hx=>?_,fun b o e n hf hx=>?_,u.free,fun b o e hx=>?_,u.tups,u.frzs,u.tbls⟩,fun b o q=>?_,ha,T,a0,?_,oe,vs,oT,tv,e1,e2,e3,e4,e6,e7,e8,e9⟩
 . refine keep b o (fun hb=>?_) (u.keep b o e n hf hx)
   rcases (out b hb).2 with q | q
   . rcases (hl b q).1 with q | q
     . exact hf q
     . rw[e] at q;cases q
   . rw[e] at q;cases q
 . obtain ⟨sl,q⟩:=u.slot b o e n hf hx
   obtain ⟨sl',q'⟩:=slot b _ (by rw[e];simp) q
   exact⟨sl',q'⟩
 . obtain ⟨o',q⟩:=u.there b o e hx
   obtain ⟨sl',q'⟩:=slot b _ (by rw[e];simp) q
   exact⟨_,q'⟩
 . refine (ok b o q).stay (fun c v hc qv=>keep c v (fun hm=>?_) qv) (fun _ z=>z) fun _ _ z=>z
   have n:=(out c hm).1
   rcases hc with rfl | hc
   . rw[q] at n;cases n
   . rw[hc] at n;cases n
 . by_cases hm:T∈a::(ts++frs l)
   . rcases List.mem_cons.mp hm with z | hm
     . exact absurd z e6
     . rcases List.mem_append.mp hm with hm | hm
       . exact hts T hm
       . obtain ⟨_,o',ho,hn⟩:=ff.mem hm
         obtain ⟨sl,z⟩:=up T o' hm ho hn
         rw[e7] at z;cases z
         exact absurd e8 (hn tv)
   . have n1:h1.get? T=none:=by
       cases q:h1.get? T with
       | none=>rfl
       | some o=>rw[W.hideAll_get _ q hm] at e5;cases e5
     refine⟨?_,?_⟩
     . cases q:H T with
       | none=>rfl
       | some o=>obtain ⟨ob,z⟩:=(ok T o q).got;rw[n1] at z;cases z
     . cases q:h0.get? T with
       | none=>rfl
       | some o=>obtain ⟨ob,z⟩:=u.there T o q (by simp);rw[n1] at z;cases z
section
variable {P:Program} {w:World} {K:W.Frag} {mg:Str->Option Value} {base:Heap} {N:List Str} {qual:Str} {scope:Scope} {f:Addr} {cd:Value} {A:Around} {outer:List Env} {s:Shared} {H:Hp} {E:XK}
theorem leaves_block {pins:List (Addr×Obj)} {σ:St} {Q:Value->Shared->Prop} {D C a:Addr} {cls:Value} {n3:Nat} {s':Shared} {H':Hp} {m:Str->Option Value} {us:Option (Value->Sem Unit)}
   (I:Inv (cxOf (CXE P w) P w K mg base N qual scope f cd A outer s H E) pins σ H' s') (hn:s.heap.objs.size<=n3) (hC:n3<=C) (hN:s'.heap.Ns C m) (fC:FpOk (cxOf (CXE P w) P w K mg base N qual scope f cd A outer s H E) pins H' C) (fl:Fly s'.heap H' s.heap a cls) (q:E cls none H') :
   notedBy (model P w) (A.deeper (envOfC qual scope s.heap.objs.size f cd)) (envOfC qual scope s.heap.objs.size f cd) (fun e s''=>compPost (model P w) (A.deeper (envOfC qual scope s.heap.objs.size f cd)) (cxOf (CXE P w) P w K mg base N qual scope f cd A outer s H E).xe us Q (.ref D) C (.error e) s'') (.ref a) s':=by
 obtain ⟨f0,f1,f2,f3,f4,f5⟩:=fC
 have ff:=I.stack
 obtain ⟨T,a0,z,fw⟩:=fl.flying ff
 have hC0:s.heap.get? C=none:=Heap.get?_none_of_le (Nat.le_trans hn hC)
 have hCf:C∉frs (cxOf (CXE P w) P w K mg base N qual scope f cd A outer s H E).stack:=fun hm=>by
   rcases List.mem_cons.mp (I.stkSub C hm) with e | e
   . exact f1 e
   . exact f2 e
 have kk:(W.hideAll s'.heap (a::([T,C]++frs (cxOf (CXE P w) P w K mg base N qual scope f cd A outer s H E).stack))).StaysIn (W.hideAll s'.heap (a::([T]++frs (cxOf (CXE P w) P w K mg base N qual scope f cd A outer s H E).stack))):=fun b o gb=>by
   refine W.hideAll_get _ (W.of_hideAll _ gb) fun hm=>?_
   have:b∈a::([T,C]++frs (cxOf (CXE P w) P w K mg base N qual scope f cd A outer s H E).stack):=by
     simp only[List.mem_cons,List.mem_append,List.not_mem_nil,or_false] at hm ⊢
     rcases hm with h | h | h
     . exact .inl h
     . exact .inr (.inl (.inl h))
     . exact .inr (.inr h)
   rw[W.hideAll_none _ this] at gb
   cases gb
 have fw2:=W.flyingW_base kk fw
 have bC:(W.hideAll s'.heap (a::([T,C]++frs (cxOf (CXE P w) P w K mg base N qual scope f cd A outer s H E).stack))).get? C=none:=W.hideAll_none _ (by simp)
 generalize hB:W.hideAll s'.heap (a::([T,C]++frs (cxOf (CXE P w) P w K mg base N qual scope f cd A outer s H E).stack))=B at fw2 bC
 refine wpAny_looks_onW (L:=s.heap.objs.size) I.ok.frames rfl fw2 fun h1 held up1=>?_
 have N1:h1.Ns C m:=up1.ns hN
 refine⟨m,N1,fun h2 sb cenv _=>?_⟩
 obtain ⟨k1,k2,k3,ox,us',T1,oT,ts,gx,cx,dx,u1,nT,neT,gT,dT,t3⟩:=held
 obtain ⟨oC,es,ep,gC,dC,_⟩:=N1
 have ne1:a≠C:=fun e=>by rw[e,gC] at gx;cases gx;rw[dC] at dx;cases dx
 have ne2:T1≠C:=fun e=>by rw[e,gC] at gT;cases gT;rw[dC] at dT;cases dT
 have B2:B.StaysIn h2:=fun b o gb=>by
   have nb:b≠C:=fun e=>by rw[e,bC] at gb;cases gb
   exact (sb.2 b nb).trans (k1 b o gb)
 have gx2:=(sb.2 a ne1).trans gx
 have F2:=zy9 sb hCf k3
 have T2:h2.TracedAtW B a cls a0 (rawInt s.heap.objs.size):=⟨ox,us',T1,oT,ts,gx2,cx,dx,u1,nT,neT,(sb.2 T1 ne2).trans gT,dT,t3⟩
 unfold PySem.passOn
 refine wpAny_bind (wpAny_field gx2 dx u1 ?_)
 rw[if_neg (by simp)]
 refine wpAny_bind ?_
 refine setFlight_any (s:={ s' with heap:=h2 }) B2 F2 T2 fun h3 B3 F3 T3 kp3=>wpAny_throw ?_
 show wpAny _ _ («leaving» _ (.ref a)) _ _ _
 refine leaving_any (s:={ s' with heap:=h3 }) I.ok.frames rfl B3 k2 F3 T3 fun h4 fw4 up4=>?_
 have up:∀ b o,b∈frs (cxOf (CXE P w) P w K mg base N qual scope f cd A outer s H E).stack->s'.heap.get? b=some o->(∀ vs,o.data≠.fields vs)->∃ sl,h4.get? b=some { o with slots:=sl }:=fun b o hb gb nf=>by
   obtain ⟨sl,e1⟩:=up1 b o gb nf
   have nb:b≠C:=fun e=>hCf (e▸hb)
   exact up4 b { o with slots:=sl } (kp3 b _ ((sb.2 b nb).trans e1) nf) nf
 subst hB
 obtain ⟨u,ok',fl4⟩:=stationC (ts:=[T,C]) I.base I.hok ff (fun b hb=>⟨by
     rcases List.mem_cons.mp (I.stkSub b hb) with e | e
     . right;rw[e];exact Heap.get?_none_of_le I.ok.above
     . exact .inl e,I.stkFree b hb⟩) fl.1 (fun b hb=>by
     simp only[List.mem_cons,List.not_mem_nil,or_false] at hb
     rcases hb with e | e
     . rw[e];exact z
     . rw[e];exact⟨f0,hC0⟩) fw4 up
 exact⟨a,cls,H',rfl,I.os,I.bare,u,ok',fl4,q⟩
end
section
variable {P:Program} {w:World} {K:W.Frag} {mg:Str->Option Value} {base:Heap} {N:List Str} {qual:Str} {fsc:Scope} {f:Addr} {cd:Value} {A:Around} {outer:List Env} {ss:Shared} {HH:Hp} {E:XK}
variable {scope:Scope} {N':List Str} {ix:List (Option Nat)} {tg iter elt:Expr} {ifs:List Expr} {pos:Pos} {wi:TI} {g:TG} {tif:TT} {telt:TE}
theorem ps_compE {i:Nat} {y:Str} {py spos:Pos} (hc:(cxOf (CXE P w) P w K mg base N qual fsc f cd A outer ss HH E).calm=true) (S:ze9 (cxOf (CXE P w) P w K mg base N qual fsc f cd A outer ss HH E).N (cxOf (CXE P w) P w K mg base N qual fsc f cd A outer ss HH E).env.scope scope N' ix) (hi:PI (cxOf (CXE P w) P w K mg base N qual fsc f cd A outer ss HH E) tg iter wi)
   (hg:∀ cl C s0 H0 fp,PG ((cxOf (CXE P w) P w K mg base N qual fsc f cd A outer ss HH E).compE scope cl C N' s0 H0 fp E) tg g) (hif:∀ cl C s0 H0 fp,PIfs ((cxOf (CXE P w) P w K mg base N qual fsc f cd A outer ss HH E).compE scope cl C N' s0 H0 fp E) ifs tif) (he:∀ cl C s0 H0 fp,PE ((cxOf (CXE P w) P w K mg base N qual fsc f cd A outer ss HH E).compE scope cl C N' s0 H0 fp E) elt telt)
   (hN:(cxOf (CXE P w) P w K mg base N qual fsc f cd A outer ss HH E).N.Nodup) (hy:(cxOf (CXE P w) P w K mg base N qual fsc f cd A outer ss HH E).N[i]?=some y) (hx:(cxOf (CXE P w) P w K mg base N qual fsc f cd A outer ss HH E).env.scope.names.lookup y=some .local)
   (hsw:swapsWith (.ListComp elt [⟨tg,iter,ifs,0⟩] scope pos) (some (.Name y py)) spos.line (cxOf (CXE P w) P w K mg base N qual fsc f cd A outer ss HH E).env=pure true:=by rfl)
   (hs:∀ x,foldedSetIterable iter (cxOf (CXE P w) P w K mg base N qual fsc f cd A outer ss HH E).env x=pure x:=by intro _;rfl):PS (cxOf (CXE P w) P w K mg base N qual fsc f cd A outer ss HH E) (.Assign [.Name y py] (.ListComp elt [⟨tg,iter,ifs,0⟩] scope pos) spos) (tAsg (zT7 wi ix g tif telt) (zl1 i)):=by
 intro pins s σ H D0 I h
 obtain ⟨cl,hcl,c1,c2⟩:=zz6 (scope:=scope) (env:=(cxOf (CXE P w) P w K mg base N qual fsc f cd A outer ss HH E).env) fun y hy hk=>I.ok.has y.1 (.inl (S.frees y hy hk))
 rw[exec_Assign_Name_used _ _ _ _ hsw]
 refine wpAny_bind (wpAny_standAt (wpAny_bind ?_))
 show wpAny _ _ (do let _ <-comprehension (.ListComp elt [⟨tg,iter,ifs,0⟩] scope pos) scope (cxOf (CXE P w) P w K mg base N qual fsc f cd A outer ss HH E).env _ (newList []) false (eval iter (cxOf (CXE P w) P w K mg base N qual fsc f cd A outer ss HH E).env) (some (assign (.Name y py) (cxOf (CXE P w) P w K mg base N qual fsc f cd A outer ss HH E).env))) _ _ s
 refine wpAny_bind (wpAny_mono (wpAny_comprehension_free (use:=some (assign (.Name y py) (cxOf (CXE P w) P w K mg base N qual fsc f cd A outer ss HH E).env)) (Q:=fun _ s'=>SP (cxOf (CXE P w) P w K mg base N qual fsc f cd A outer ss HH E) pins D0 .next s') rfl hs hcl S.kind S.names
   (thn (hi pins s σ H _ I h) fun xv s1 h1=>thn h1 fun itv s2 h2=>?_)) (fun _ s' hq=>wpAny_pure (wpAny_pure hq)) fun _ _ e=>e)
 obtain ⟨it,fp,tn,J,H2,e,I2,T,st2,f2,body⟩:=h2
 subst e
 refine comp_blockE (Ex:=E) (RR:=fun acc C=>compPost (model (cxOf (CXE P w) P w K mg base N qual fsc f cd A outer ss HH E).prog (cxOf (CXE P w) P w K mg base N qual fsc f cd A outer ss HH E).w) (cxOf (CXE P w) P w K mg base N qual fsc f cd A outer ss HH E).A (cxOf (CXE P w) P w K mg base N qual fsc f cd A outer ss HH E).xe (some (assign (.Name y py) (cxOf (CXE P w) P w K mg base N qual fsc f cd A outer ss HH E).env)) (fun _ s'=>SP (cxOf (CXE P w) P w K mg base N qual fsc f cd A outer ss HH E) pins D0 .next s') acc C) (Q:=fun v H1=>zl1 i v σ H1 D0.nx) hc S c1 c2 hg hif he I2 T st2 f2 body ?_ rfl fun D C a cls n3 s' H' m I' h1 h2 hm hf fl q=>leaves_block I' h1 h2 hm hf fl q
 intro D C s3 s' H' m I' h1 h2 hm hf hok q
 obtain ⟨f0,f1,f2',f3,f4,f5⟩:=hf
 show wpAny _ _ (assign (.Name y py) (cxOf (CXE P w) P w K mg base N qual fsc f cd A outer ss HH E).env (.ref D)) _ _ _
 refine wpAny_assign_Name (zC0 I' hN hy (.inl hx) (v:=.ref D) rfl (fun s4 I4 ⟨a,sb,ha⟩=>?_) (.inr hx))
 have hCa:C≠a:=by
   rcases ha with z | z
   . rw[z];exact f1
   . exact Ne.symm (f4 y a z)
 refine⟨m,hm.sameBut sb hCa,fun h' sb'=>⟨_,H',?_,q⟩⟩
 exact I4.turned (t':=s4.toks) (fun b o hb e=>sb'.extBut b o hb e) f0 f1 f3 f4 f5
end
end L2
namespace L2
open PySem PySem.Spec PyProof.Rows
section
variable {X:Cx} {C1 C2:Addr} {E:XK} {x1 x2:Str} {p1 p2 pos hp1 hp2:Pos} {body su1 su2:List Stmt} {b₁ b₂:Stmt} {tb th1 th2:TS}
end
end L2
namespace Sx
open PySem PyProof.Rows
section
variable {M:Model} {A:Around} {E:Value->Shared->Prop} {s:Shared}
end
end Sx
namespace Sx
open PySem PyProof.Rows
section
variable {α:Type} {R:α->α->Prop} {T out A B A1 A2 B1 B2:List α} {z:α}
end
section
variable {α:Type} {R:α->α->Prop} {T:List α}
end
end Sx
namespace Sx
open PySem PyProof.Rows
section
variable {M:Model} {A:Around} {E:Value->Shared->Prop} {s:Shared} {κ:SortKind} {lt:Keyed->Keyed->Bool} {T T':List Keyed}
end
end Sx
namespace Sx
inductive Aa6 (p0 p1 p2 p3 p4 p5:Prop):Prop | mk (h0:p0) (h1:p1) (h2:p2) (h3:p3) (h4:p4) (h5:p5):Aa6 p0 p1 p2 p3 p4 p5
inductive Aa8 (p0 p1 p2 p3 p4 p5 p6 p7:Prop):Prop | mk (h0:p0) (h1:p1) (h2:p2) (h3:p3) (h4:p4) (h5:p5) (h6:p6) (h7:p7):Aa8 p0 p1 p2 p3 p4 p5 p6 p7
inductive Ex4 {α β γ δ:Type} (p:α->β->γ->δ->Prop):Prop | mk (a0:α) (a1:β) (a2:γ) (a3:δ) (h:p a0 a1 a2 a3):Ex4 p
inductive Ex5 {α β γ δ ε:Type} (p:α->β->γ->δ->ε->Prop):Prop | mk (a0:α) (a1:β) (a2:γ) (a3:δ) (a4:ε) (h:p a0 a1 a2 a3 a4):Ex5 p
inductive Ex7 {α β γ δ ε ζ η:Type} (p:α->β->γ->δ->ε->ζ->η->Prop):Prop | mk (a0:α) (a1:β) (a2:γ) (a3:δ) (a4:ε) (a5:ζ) (a6:η) (h:p a0 a1 a2 a3 a4 a5 a6):Ex7 p
open PySem PyProof.Rows
section
variable {M:Model} {A:Around} {E:Value->Shared->Prop} {s:Shared} {κ:SortKind} {lt:Keyed->Keyed->Bool} {T:List Keyed}
end
end Sx
namespace Sx
open PySem PyProof.Rows
section
variable {α:Type} {R:α->α->Prop} {T:List α}
end
section
variable {M:Model} {A:Around} {E:Value->Shared->Prop} {s:Shared} {κ:SortKind} {lt:Keyed->Keyed->Bool} {T:List Keyed}
end
end Sx
namespace Sx
open PySem PyProof.Rows
section
variable {α:Type}
end
section
variable {lt:Keyed->Keyed->Bool}
end
section
variable {M:Model} {A:Around} {E:Value->Shared->Prop} {s:Shared} {κ:SortKind} {lt:Keyed->Keyed->Bool} {T:List Keyed}
end
end Sx
namespace Sx
open PySem PyProof.Rows
section
variable {M:Model} {A:Around} {E:Value->Shared->Prop} {s:Shared} {κ:SortKind} {lt:Keyed->Keyed->Bool} {T:List Keyed} {ar:Array Keyed} {pd:Array (Nat×Nat×Nat)} {g:Nat}
end
end Sx
namespace Sx
open PySem PyProof.Rows
section
variable {M:Model} {A:Around} {E:Value->Shared->Prop} {s:Shared} {κ:SortKind} {lt:Keyed->Keyed->Bool} {T:List Keyed}
end
end Sx
namespace Sx
open PySem PySem.W PySem.Calls PyProof.Rows
section
variable {prog:Program} {w:World} {A:Around} {E:Value->Shared->Prop} {s:Shared} {d it:Addr} {es:Array DictEntry} {ep i:Nat}
end
end Sx
namespace Sx
open PySem PySem.W PySem.Calls PyProof.Rows
section
variable {prog:Program} {w:World} {A:Around} {E:Value->Shared->Prop} {s:Shared}
end
end Sx
namespace L2
open PySem PySem.Spec PyProof.Rows
section
variable {κ:Type} [DecidableEq κ]
end
section
variable {P:Program} {w:World} {H:Hp} {h:Heap} {a:Addr}
end
section
variable {X:Cx} {pins:List (Addr×Obj)} {σ:St} {H:Hp} {s:Shared} {a:Addr} {y v:V} {u r:Value} {o:Option V} {A:Around} {E:Value->Shared->Prop}
end
section
variable {X:Cx} {o i e value:Expr} {pos pos' tpos:Pos} {td ty tv:TE}
end
end L2
namespace L2
open PySem PySem.Spec PyProof.Rows
noncomputable abbrev Tups (H:Hp) (ys:List V) (ks:List (List Int)):Prop:=Paired (fun y k=>∃ b,y = .ref b/\H b=some (.tup (k.map V.int))) ys ks
section
variable {X:Cx}
end
end L2
namespace Sx
open PySem PySem.W PySem.Calls PyProof.Rows
end Sx
namespace Sx
open PySem PySem.W PySem.Calls PyProof.Rows
section
variable {prog:Program} {w:World} {A:Around} {E:Value->Shared->Prop} {s:Shared} {byT:Bool} {a:Addr} {ns:List Int} {ep:Nat}
theorem pick5 {α:Type} (es:Array α) (e2:es.size=5):(#[0,1,2,3,4]:Array Nat).filterMap (es[·]?)=es:=by
 obtain ⟨L⟩:=es
 match L,e2 with
 | [_,_,_,_,_],_=>rfl
end
end Sx
namespace Sx
open PySem PySem.W PySem.Calls PyProof.Rows
section
variable {prog:Program} {w:World} {A:Around} {E:Value->Shared->Prop} {s:Shared}
end
end Sx
namespace Sx
open PySem PySem.W PySem.Calls PyProof.Rows
section
variable {prog:Program} {w:World} {A:Around} {E:Value->Shared->Prop} {s:Shared}
end
end Sx
namespace Sx
open PySem PySem.W PySem.Calls PyProof.Rows
end Sx
namespace Sx
open PySem PySem.W PySem.Calls PyProof.Rows
section
variable {prog:Program} {w:World} {A:Around} {E:Value->Shared->Prop} {s:Shared} {a it:Addr} {es:Array (Int×Value)} {ep:Nat} {t:SetTable}
end
end Sx
namespace L2
open PySem PySem.Spec PyProof.Rows
section
variable {X:Cx}
end
end L2
namespace L2
open PySem
theorem Same.tups {H H':Hp} (s:Same H H') {ys:List V} {ks:List (List Int)} (h:Tups H ys ks):Tups H' ys ks:=Paired.mapP h fun y k ⟨b,e,hb⟩=>⟨b,e,s _ _ hb⟩
theorem tups_keep {H:Hp} {l:Addr} {o u:HO} (hl:H l=some o) (ho:∀ xs,o≠.tup xs) {ys:List V} {ks:List (List Int)} (h:Tups H ys ks):Tups (upd H l u) ys ks :=
 Paired.mapP h fun y k ⟨b,e,hb⟩=>⟨b,e,by rw[za7 (fun z=>by rw[z,hl] at hb;injection hb with hb;exact ho _ hb)];exact hb⟩
theorem zj0.put {H H1:Hp} {l a:Addr} {o:HO} (s:zj0 l H H1) (h:H a=none):zj0 l H (L2.upd H1 a o):=fun b u e hb=>by rw[za7 (za8 e h)];exact s b u e hb
end L2
namespace L2
open PySem PySem.Spec PyProof.Rows
section
variable {X:Cx}
end
theorem call_maxL {X:Cx} (hc:X.calm=true):zl2 X (.builtin "max") (fun xs H Q=>∃ p zs,xs=[.ref p]/\SqL X.K H p (List.map V.int zs)/\0<zs.length/\∀ M,M∈zs->(∀ a∈zs,a<=M)->Q (.int M) H):=by
 intro pins s σ H xs us Q I r h
 obtain ⟨p,zs,rfl,hq,hne,q⟩:=h
 obtain ⟨u,rfl,rx⟩:=zr8 r
 cases rx
 obtain ⟨its,r',pl,hz⟩:=I.list hq
 have hi:IntsAre its zs:=zq0 r'
 obtain ⟨ys,e⟩:=hi.allInts.items
 have hns:zs=ys.toList.map (·.1):=by
   rw[<-hi.numsOf,<-nums_intItems,<-e]
 have hsz:0<ys.size:=by
   have h3:=hne;rw[hns,List.length_map,Array.length_toList] at h3;exact h3
 have hl:=pl.isList
 rw[e] at hl
 refine max_intList (I.ok.hd hc) hl hsz fun v h' tk hv hk=>?_
 obtain ⟨t,rfl⟩:=intItems_at hv
 obtain ⟨h1,h2⟩:=argBest_gt (numAt ys) (ys.size-1)
 refine⟨.int _,H,I.kept hk,⟨t,rfl⟩,q _ ?_ fun a ha=>?_⟩
 . have hlt:argBest (fun i j=>decide (numAt ys i>numAt ys j)) (ys.size-1)<(ys.toList.map (·.1)).length:=by rw[List.length_map,Array.length_toList];omega
   rw[hns,numAt_eq,List.getD_eq_getElem?_getD,List.getElem?_eq_getElem hlt]
   exact List.getElem_mem hlt
 . rw[hns] at ha
   obtain ⟨j,hj,rfl⟩:=mem_getD ha
   rw[List.length_map,Array.length_toList] at hj
   rw[<-numAt_eq];exact h2 j (by omega)
theorem zI7 {X:Cx} (hc:X.calm=true):zl2 X (.builtin "min") (fun xs H Q=>∃ p zs,xs=[.ref p]/\SqL X.K H p (List.map V.int zs)/\0<zs.length/\∀ M,M∈zs->(∀ a∈zs,M<=a)->Q (.int M) H):=by
 intro pins s σ H xs us Q I r h
 obtain ⟨p,zs,rfl,hq,hne,q⟩:=h
 obtain ⟨u,rfl,rx⟩:=zr8 r
 cases rx
 obtain ⟨its,r',pl,hz⟩:=I.list hq
 have hi:IntsAre its zs:=zq0 r'
 obtain ⟨ys,e⟩:=hi.allInts.items
 have hns:zs=ys.toList.map (·.1):=by
   rw[<-hi.numsOf,<-nums_intItems,<-e]
 have hsz:0<ys.size:=by
   have h3:=hne;rw[hns,List.length_map,Array.length_toList] at h3;exact h3
 have hl:=pl.isList
 rw[e] at hl
 refine min_intList (I.ok.hd hc) hl hsz fun v h' tk hv hk=>?_
 obtain ⟨t,rfl⟩:=intItems_at hv
 obtain ⟨h1,h2⟩:=argBest_lt (numAt ys) (ys.size-1)
 refine⟨.int _,H,I.kept hk,⟨t,rfl⟩,q _ ?_ fun a ha=>?_⟩
 . have hlt:argBest (fun i j=>decide (numAt ys i<numAt ys j)) (ys.size-1)<(ys.toList.map (·.1)).length:=by rw[List.length_map,Array.length_toList];omega
   rw[hns,numAt_eq,List.getD_eq_getElem?_getD,List.getElem?_eq_getElem hlt]
   exact List.getElem_mem hlt
 . rw[hns] at ha
   obtain ⟨j,hj,rfl⟩:=mem_getD ha
   rw[List.length_map,Array.length_toList] at hj
   rw[<-numAt_eq];exact h2 j (by omega)
end L2
open PySem
namespace L2
section
variable {X:Cx}
end
end L2
namespace L2
open PySem PySem.Spec PyProof.Rows
open Classical in
open Classical in
section
variable {X:Cx}
end
end L2
namespace L2
open PySem PySem.Spec PyProof.Rows
end L2
namespace L2
open PySem PySem.Spec PyProof.Rows
section
variable {X:Cx}
end
end L2
namespace L2
open PySem PySem.Spec PyProof.Rows
section
variable {X:Cx}
end
end L2
namespace L2
open PySem PySem.W PySem.Calls PyProof.Rows
section
variable {prog:Program} {w:World} {A:Around} {E:Value->Shared->Prop} {s:Shared}
end
end L2
namespace L2
open PySem PySem.W PySem.Calls PyProof.Rows
section
variable {prog:Program} {w:World} {A:Around} {E:Value->Shared->Prop} {s:Shared}
end
end L2
namespace L2
open PySem PySem.Spec PyProof.Rows
section
variable {X:Cx}
end
end L2
namespace L2
open PySem PySem.Spec PyProof.Rows
section
variable {X:Cx}
end
end L2
namespace L2
open PySem PySem.Spec PyProof.Rows
end L2
namespace L2
open PySem PySem.Spec PyProof.Rows
section
variable {X:Cx} {e k:Expr} {te:TE} {tk:TO} {pos p2:Pos}
end
end L2
namespace L2
open PySem PySem.Spec PyProof.Rows
section
variable {X:Cx}
end
end L2
namespace L2
open PySem PySem.Spec PyProof.Rows
end L2
namespace L2
open PySem PySem.Spec PyProof.Rows
section
variable {X:Cx}
end
end L2
namespace L2
open PySem PySem.Spec PyProof.Rows
section
variable {X:Cx} {tg l:Expr} {tl:TE}
end
end L2
namespace L2
open PySem PySem.Spec PyProof.Rows
section
variable {prog:Program} {w:World} {A:Around} {E:Value->Shared->Prop} {s:Shared}
end
section
variable {X:Cx} {es:List Expr} {k0:Nat} {tp:Pos}
end
end L2
namespace L2
open PySem PySem.Spec PyProof.Rows
section
variable {X:Cx} {CX:CXT} {k:Nat} {f C:Addr} {fd:FuncData} {ps:List Str} {sp:Sp} {dvs:List V} {ds:List Value} {Ex:St->XK} {x m:Str} {p pos apos:Pos} {e o:Expr} {es:List Expr} {ta:TE} {t:TA}
end
end L2
namespace L2
open PySem PySem.Spec PyProof.Rows
noncomputable abbrev Nw (H:Hp) (o:HO) (Q:VK):Prop:=∀ l H',Same H H'->H l=none->H' l=some o->Q (.ref l) H'
theorem Nw.go {H:Hp} {o:HO} {Q:VK} (q:Nw H o Q):∀ p,H p=none->Q (.ref p) (upd H p o):=fun p hp=>q p _ (Same.upd hp) hp za5
section
variable {X:Cx} {es:List Expr} {t:TA} {pos:Pos}
noncomputable def tLstS (t:TA):TE:=fun σ H Q=>t σ H fun xs H1=>xs.length<=sizeLine/\Nw H1 (.lst xs) Q
noncomputable def tTupS (t:TA):TE:=fun σ H Q=>t σ H fun xs H1=>xs.length<=sizeLine/\Nw H1 (.tup xs) Q
theorem zL3 {x1} (h:PA X es t):PE X (.Tuple es x1 pos) (tTupS t):=by
 intro pins s σ H Q I hq
 refine wpAny_Tuple_spliced (thn (h pos pins s σ H _ I hq) fun us s1 ⟨xs,H1,I1,r,z,q⟩=>⟨by rw[<-r.length];exact z,?_⟩)
 have hf:H1 s1.heap.objs.size=none:=I1.hok.fresh (Nat.le_refl _)
 refine⟨.ref s1.heap.objs.size,upd H1 s1.heap.objs.size (.tup xs),I1.laid (t':=s1.toks) (fun b u e=>Heap.get?_push_of_some _ e) (Nat.le_refl _) ?_,rfl,q.go _ hf⟩
 exact⟨z,us,r,⟨_,Heap.get?_push_size _ rfl,rfl,rfl,_,rfl⟩⟩
theorem zf2 (h:PA X es t):PE X (.List es pos) (tLstS t):=by
 intro pins s σ H Q I hq
 refine wpAny_List_spliced (thn (h pos pins s σ H _ I hq) fun us s1 ⟨xs,H1,I1,r,z,q⟩=>⟨by rw[<-r.length];exact z,?_⟩)
 have hf:H1 s1.heap.objs.size=none:=I1.hok.fresh (Nat.le_refl _)
 refine⟨.ref s1.heap.objs.size,upd H1 s1.heap.objs.size (.lst xs),I1.laid (t':=s1.toks) (fun b u e=>Heap.get?_push_of_some _ e) (Nat.le_refl _) ?_,rfl,q.go _ hf⟩
 exact⟨z,us,0,r,Heap.get?_push_size _ rfl⟩
noncomputable def rSlLS (K:W.Frag):V->Option Int->Option Int->Hp->VK->Prop:=fun x lo hi H Q=>∃ a xs,x = .ref a/\SqL K H a xs/\Nw H (.lst (cutV xs lo hi)) Q
theorem zl4:SlR X (rSlLS X.K):=fun pins s σ H x v vl vu lo hi sl Q I rx hs pl pu ⟨a,xs,e,hx,q⟩=>zQ1 pins s σ H x v vl vu lo hi sl Q I rx hs pl pu ⟨a,xs,e,hx,q.go⟩
noncomputable def rCatS:R2:=fun x y H Q=>∃ l b xs zs,x = .ref l/\y = .ref b/\H l=some (.lst xs)/\H b=some (.lst zs)/\xs.length+zs.length<=sizeLine/\Nw H (.lst (xs++zs)) Q
theorem zm8:OpR X (binaryOp .Add) rCatS:=fun pins s σ H x y v u Q I rx ry ⟨l,b,xs,zs,e1,e2,h1,h2,z,q⟩=>zT6 pins s σ H x y v u Q I rx ry ⟨l,b,xs,zs,e1,e2,h1,h2,z,q.go⟩
noncomputable def rRepS:R2:=fun x y H Q=>∃ l k xs,x = .ref l/\y = .int k/\H l=some (.lst xs)/\-(2 ^ 63)<=k/\k<2 ^ 63/\xs.length*k.toNat<=sizeLine/\Nw H (.lst (List.replicate k.toNat xs).flatten) Q
theorem op_repS:OpR X (binaryOp .Mult) rRepS:=fun pins s σ H x y v u Q I rx ry ⟨l,k,xs,e1,e2,h1,z1,z2,z,q⟩=>zO6 pins s σ H x y v u Q I rx ry ⟨l,k,xs,e1,e2,h1,z1,z2,z,q.go⟩
theorem call_list_ofS (K:W.Frag) (h:X.K=K):zl2 X (.type "list") (fun xs H Q=>∃ p ys,xs=[.ref p]/\(SqL K H p ys\/SqT K H p ys)/\Nw H (.lst ys) Q):=by
 subst h
 exact fun pins s σ H xs us Q I r ⟨p,ys,e,hq,q⟩=>call_list_of pins s σ H xs us Q I r ⟨p,ys,e,hq,q.go⟩
noncomputable def rSplitS:V->List V->Hp->VK->Prop:=fun x vs H Q=>∃ (z y:Str),x = .str z/\vs=[.str y]/\(y.length == 0)=false/\z.length<=1000000/\Nw H (.lst ((Txt.split z y).map V.str)) Q
theorem zo9:MtR X "str.split" rSplitS:=fun pins s σ H x vs v us Q I rx rv ⟨z,y,e1,e2,h1,h2,q⟩=>mt_split pins s σ H x vs v us Q I rx rv ⟨z,y,e1,e2,h1,h2,q.go⟩
end
end L2
namespace L2
open PySem PySem.Spec PyProof.Rows
noncomputable def tHs (K:W.Frag) (cls:Value):List (Addr×TS)->Ends->St->Hp->Prop
 | []=>fun _ _ _=>False
 | (C,th)::r=>fun D σ H=>(W.exmOne K cls (.ref C)=some true/\th D σ H)\/(W.exmOne K cls (.ref C)=some false/\tHs K cls r D σ H)
inductive PHs (X:Cx):List ExceptHandler->List (Addr×TS)->Prop
 | nil:PHs X [] []
 | cons {x:Str} {p hp:Pos} {b:Stmt} {su:List Stmt} {C:Addr} {th:TS} {l:List ExceptHandler} {L:List (Addr×TS)} (hg:Gl X x) (hm:X.mg x=some (.ref C)) (hd:(x == ("__debug__" : Str))=false) (hh:∀ e,PSs (X.caught e) (b::su) th) (r:PHs X l L) :
     PHs X (.ExceptHandler (some (.Name x p)) none (b::su) hp::l) ((C,th)::L)
section
variable {X:Cx} {Ex:St->XK} {pos:Pos} {body:List Stmt} {tb:TS} {h0:ExceptHandler} {l:List ExceptHandler} {L:List (Addr×TS)}
end
end L2
namespace L2
open PySem PySem.Spec PyProof.Rows
section
variable {X:Cx} {E:XK} {pos:Pos} {body:List Stmt} {tb:TS} {h0:ExceptHandler} {l:List ExceptHandler} {L:List (Addr×TS)}
noncomputable def tTryHsE (K:W.Frag) (E:XK) (L:List (Addr×TS)) (tb:TS):TS:=fun D σ H=>tb D σ H/\∀ σ' cls H',E cls none H'->tHs K cls L D σ' H'
theorem ps_tryHsE (hs:X.stack=X.env::X.outer/\X.env.frame=some X.env.locals) (hb:∀ pins,PSs (X.inTry pins E) body tb) (P:PHs X (h0::l) L):PS X (.Try body (h0::l) [] [] pos) (tTryHsE X.K E L tb):=by
 intro pins s σ H D' I h
 obtain ⟨h1,h2⟩:=h
 refine wpAny_Try_except (wpAny_mono (hb pins [] s σ H D' (I.inTry E) h1) (fun f s1 q=>?_) fun e s1 q=>?_)
 . cases f with
   | next=>exact wpAny_execs_nil (SP.outTry (f:=.next) q)
   | brk=>exact SP.outTry (f:=.brk) q
   | cont=>exact SP.outTry (f:=.cont) q
   | ret u=>exact SP.outTry (f:=.ret u) q
 . obtain ⟨σ0,H0,s0,I0,a,cls,H',rfl,os,bare,un,ok,fl,q⟩:=q
   have qh:=h2 σ0 cls H' q
   clear h1 h2
   have J:=I0.call' (ch:=[]) os un ok bare fun b z=>nomatch z
   have ff:=J.stack
   obtain ⟨T,a0,z,fw⟩:=fl.flying ff
   have fr:X.A.frames=some (X.env::X.outer):=by rw[<-hs.1];exact J.ok.frames
   rw[hs.1] at fw
   refine wpAny_looks_onW fr hs.2 fw fun h1 held up1=>?_
   refine wpAny_landsW held fun h2 fw2 up2=>?_
   have st:∀ (h':Heap),Heap.FlyingW (W.hideAll s1.heap (a::([T]++frs (X.env::X.outer)))) (X.env::X.outer) a cls a0 h'->s1.heap.UpToSlots h'->Inv X pins σ0 H' { s1 with heap:=h' }:=fun h' fw' up'=>by
     obtain ⟨u,ok',_⟩:=zQ8 (l:=X.env::X.outer) un ok (by rw[<-hs.1];exact ff) (fun b hb=>by rw[<-hs.1] at hb;exact⟨.inl hb,J.stkFree b hb⟩) fl.1 (ts:=[T]) (fun b hb=>by rw[List.mem_singleton.mp hb];exact z) fw' up'
     exact I0.call' (ch:=[]) (s':={ s1 with heap:=h' }) os u ok' bare fun b z=>nomatch z
   have J2:=st h2 fw2 (up1.trans up2)
   obtain ⟨oe,he,hcls⟩:=fw2.there
   have LT:W.Looks (model X.prog X.w) h2 (typeOf (.ref a)) cls:=by
     subst hcls
     exact (W.Looks.ld he).andThen .now
   revert qh
   clear q hb
   generalize h0::l=hl at P ⊢
   intro qh
   induction P with
   | nil=>exact qh.elim
   | cons hg hm hd hh r ih =>
     refine wpAny_handleBy_cons (codeAny_handlers_test ?_) (by intro q;cases q)
     refine zo2 (X:=X.caught (.ref a)) (J2.caught _) hg hm ?_ hd
     rcases qh with ⟨e1,qh⟩ | ⟨e1,qh⟩
     . refine (W.exm_one J2.kIn LT e1) _ _ _ _ (fun _ _ e=>e) ?_
       show codeAny _ _ _ _ _
       refine codeAny_handlers_suite (lands_againW fw2 fun h3 fw3 up3=>?_)
       have J3:=st h3 fw3 ((up1.trans up2).trans up3)
       exact wpAny_mono (hh (.ref a) pins _ σ0 H' D' (J3.caught _) qh) (fun f s' r=>SP.uncaught I.ok.hd r) fun _ _ z=>False.elim z
     . refine (W.exm_one J2.kIn LT e1) _ _ _ _ (fun _ _ e=>e) ?_
       show wpAny _ _ _ _ _ _
       exact ih qh
end
end L2
namespace L2
open PySem PySem.Spec PyProof.Rows
section
variable {X:Cx}
end
open Builtin.Str StrLaws
end L2
namespace L2
open PySem PySem.Spec PyProof.Rows
section
variable {X:Cx}
end
end L2
namespace L2
open PySem PySem.Spec PyProof.Rows
end L2
namespace Bt
open PySem L2
noncomputable def top (i:Nat):Stmt:=PySem.Challenge.pw_beamtender_k28_desk_refused.main.body.getD i (.Pass ⟨0,0,0,0⟩)
noncomputable abbrev zd6:Stmt:=zo5 (top 1) 0
noncomputable abbrev ze5:Stmt:=zo5 (top 3) 0
noncomputable abbrev zd1:Stmt:=zo5 (top 4) 0
noncomputable abbrev zd7:Stmt:=zo5 (top 11) 0
noncomputable abbrev zd2:Stmt:=zo5 (top 14) 0
noncomputable abbrev ze6:Stmt:=zo5 (top 2) 0
noncomputable abbrev zk5:Stmt:=zo5 (top 23) 0
noncomputable abbrev zp0:Stmt:=top 24
noncomputable abbrev zh2:Stmt:=top 25
noncomputable abbrev zi3:Stmt:=top 26
noncomputable abbrev zf3:Stmt:=top 27
noncomputable abbrev zi4:Stmt:=top 29
noncomputable abbrev zv9:Stmt:=top 31
noncomputable abbrev zC4:Stmt:=top 32
noncomputable abbrev zC5:Stmt:=top 33
noncomputable abbrev zx4:Stmt:=top 34
noncomputable abbrev zk6:Stmt:=zo5 (top 65) 0
noncomputable abbrev zk7:Stmt:=zo5 (top 65) 2
noncomputable abbrev zj6:Stmt:=top 71
noncomputable abbrev ze8:Stmt:=top 73
noncomputable abbrev zi5:Stmt:=top 74
noncomputable abbrev zh3:Stmt:=top 75
noncomputable abbrev zj7:Stmt:=top 78
noncomputable abbrev zi6:Stmt:=top 79
noncomputable abbrev zh5:Stmt:=top 80
noncomputable abbrev zp6:Stmt:=top 82
noncomputable abbrev zs2:Stmt:=top 83
noncomputable abbrev zj8:Stmt:=top 84
noncomputable abbrev zk8:Stmt:=top 86
noncomputable abbrev zC6:Stmt:=top 92
noncomputable abbrev zs3:Stmt:=top 93
noncomputable abbrev zk9:Stmt:=top 94
noncomputable abbrev zx5:Stmt:=top 95
noncomputable abbrev zs4:Stmt:=top 96
noncomputable abbrev zx6:Stmt:=top 97
noncomputable abbrev zs5:Stmt:=top 98
noncomputable abbrev zm2:Stmt:=top 99
noncomputable abbrev zs6:Stmt:=top 100
noncomputable abbrev zs7:Stmt:=top 101
noncomputable abbrev zn0:Stmt:=top 102
noncomputable abbrev zg2:Stmt:=top 103
noncomputable abbrev zn1:Stmt:=top 104
noncomputable abbrev zg0:Stmt:=top 105
noncomputable abbrev zm3:Stmt:=top 106
noncomputable abbrev zp7:Stmt:=top 107
noncomputable abbrev zs8:Stmt:=top 108
noncomputable abbrev zh4:Stmt:=top 109
noncomputable abbrev zI8:Stmt:=top 110
theorem sc_BeamError_init:zc1 ["self","reason","word"] ["self","reason","word"] (za4 zd6):=⟨rfl,rfl,rfl,by decide +kernel,rfl,by decide +kernel,by decide +kernel⟩
theorem sc_BadBeam_init:zc1 ["self","reason"] ["self","reason"] (za4 ze5):=⟨rfl,rfl,rfl,by decide +kernel,rfl,by decide +kernel,by decide +kernel⟩
theorem sc_BadStanding_init:zc1 ["self","reason"] ["self","reason"] (za4 zd1):=⟨rfl,rfl,rfl,by decide +kernel,rfl,by decide +kernel,by decide +kernel⟩
theorem sc_StartPast_init:zc1 ["self","reason"] ["self","reason"] (za4 zd7):=⟨rfl,rfl,rfl,by decide +kernel,rfl,by decide +kernel,by decide +kernel⟩
theorem sc_NothingBack_init:zc1 ["self","reason"] ["self","reason"] (za4 zd2):=⟨rfl,rfl,rfl,by decide +kernel,rfl,by decide +kernel,by decide +kernel⟩
theorem sc_BadText_init:zc1 ["self","reason"] ["self","reason"] (za4 ze6):=⟨rfl,rfl,rfl,by decide +kernel,rfl,by decide +kernel,by decide +kernel⟩
theorem sc_Beam_init:zc1 ["self","notches","room","hefts","limit"] ["self","notches","room","hefts","limit"] (za4 zk5):=⟨rfl,rfl,rfl,by decide +kernel,rfl,by decide +kernel,by decide +kernel⟩
theorem sc_outside:zc1 ["number","low","high"] ["number","low","high"] (za4 zp0):=⟨rfl,rfl,rfl,by decide +kernel,rfl,by decide +kernel,by decide +kernel⟩
theorem sc_check_bounds:zc1 ["notches","room","limit"] ["notches","room","limit"] (za4 zh2):=⟨rfl,rfl,rfl,by decide +kernel,rfl,by decide +kernel,by decide +kernel⟩
theorem zw0:zc1 ["hefts","heft"] ["hefts"] (za4 zi3):=⟨rfl,rfl,rfl,by decide +kernel,rfl,by decide +kernel,by decide +kernel⟩
theorem zh6:zc1 ["notches","weights","many","weight"] ["notches","weights"] (za4 zf3):=⟨rfl,rfl,rfl,by decide +kernel,rfl,by decide +kernel,by decide +kernel⟩
theorem zq3:zc1 ["beam","standing","places","place"] ["beam","standing"] (za4 zi4):=⟨rfl,rfl,rfl,by decide +kernel,rfl,by decide +kernel,by decide +kernel⟩
theorem zR5:zc1 ["beam","standing","places"] ["beam","standing"] (za4 zv9):=⟨rfl,rfl,rfl,by decide +kernel,rfl,by decide +kernel,by decide +kernel⟩
theorem zC7:ze9 ["beam","standing","places"] (za4 zv9) (zt7 (zQ3 (stE (stAt (za9 zv9) 1)) 0)) ["heft","place"] [none,none]:=⟨rfl,by decide +kernel,by decide +kernel,by decide +kernel,rfl,by decide +kernel,by decide +kernel⟩
theorem zR6:zc1 ["beam","standing","tipped"] ["beam","standing"] (za4 zC4):=⟨rfl,rfl,rfl,by decide +kernel,rfl,by decide +kernel,by decide +kernel⟩
theorem sc_past:zc1 ["beam","tipped"] ["beam","tipped"] (za4 zC5):=⟨rfl,rfl,rfl,by decide +kernel,rfl,by decide +kernel,by decide +kernel⟩
theorem sc_keeps:zc1 ["beam","standing"] ["beam","standing"] (za4 zx4):=⟨rfl,rfl,rfl,by decide +kernel,rfl,by decide +kernel,by decide +kernel⟩
theorem zA9:zc1 ["self","beam","start","first"] ["self","beam","start"] (za4 zk6):=⟨rfl,rfl,rfl,by decide +kernel,rfl,by decide +kernel,by decide +kernel⟩
theorem sc_Play_back:zc1 ["self","last"] ["self"] (za4 zk7):=⟨rfl,rfl,rfl,by decide +kernel,rfl,by decide +kernel,by decide +kernel⟩
theorem sc_write_move:zc1 ["move"] ["move"] (za4 zj6):=⟨rfl,rfl,rfl,by decide +kernel,rfl,by decide +kernel,by decide +kernel⟩
theorem zh7:zc1 ["text","rows","notches","room","limit","weights","beam"] ["text"] (za4 ze8):=⟨rfl,rfl,rfl,by decide +kernel,rfl,by decide +kernel,by decide +kernel⟩
theorem zw1:ze9 ["text","rows","notches","room","limit","weights","beam"] (za4 ze8) (zt7 (stE (stAt (za9 ze8) 5))) ["row"] [none]:=⟨rfl,by decide +kernel,by decide +kernel,by decide +kernel,rfl,by decide +kernel,by decide +kernel⟩
theorem zw2:ze9 ["text","rows","notches","room","limit","weights","beam"] (za4 ze8) (zt7 (zQ3 (stE (stAt (za9 ze8) 6)) 2)) ["weight"] [none]:=⟨rfl,by decide +kernel,by decide +kernel,by decide +kernel,rfl,by decide +kernel,by decide +kernel⟩
theorem zw3:ze9 ["text","rows","notches","room","limit","weights","beam"] (za4 ze8) (zt7 (zQ3 (exElt (stE (stAt (za9 ze8) 7)) 1) 1)) ["weight"] [none]:=⟨rfl,by decide +kernel,by decide +kernel,by decide +kernel,rfl,by decide +kernel,by decide +kernel⟩
theorem zw4:zc1 ["row","words"] ["row"] (za4 zi5):=⟨rfl,rfl,rfl,by decide +kernel,rfl,by decide +kernel,by decide +kernel⟩
theorem zu6:zc1 ["front","row","many","words"] ["front","row","many"] (za4 zh3):=⟨rfl,rfl,rfl,by decide +kernel,rfl,by decide +kernel,by decide +kernel⟩
theorem zr6:zc1 ["text","left","size"] ["text"] (za4 zj7):=⟨rfl,rfl,rfl,by decide +kernel,rfl,by decide +kernel,by decide +kernel⟩
theorem sc_read_number:zc1 ["text"] ["text"] (za4 zi6):=⟨rfl,rfl,rfl,by decide +kernel,rfl,by decide +kernel,by decide +kernel⟩
theorem sc_is_number:zc1 ["text"] ["text"] (za4 zh5):=⟨rfl,rfl,rfl,by decide +kernel,rfl,by decide +kernel,by decide +kernel⟩
theorem zw5:ze9 ["text"] (za4 zh5) (zt7 (zQ3 (stE (stAt (za9 zh5) 2)) 0)) ["sign"] [none]:=⟨rfl,by decide +kernel,by decide +kernel,by decide +kernel,rfl,by decide +kernel,by decide +kernel⟩
theorem zq4:zc1 ["text","rows","placed","play","told","row"] ["text","rows"] (za4 zp6):=⟨rfl,rfl,rfl,by decide +kernel,rfl,by decide +kernel,by decide +kernel⟩
theorem zI9:zc1 ["play","row","e"] ["play","row"] (za4 zs2):=⟨rfl,rfl,rfl,by decide +kernel,rfl,by decide +kernel,by decide +kernel⟩
theorem sc_answer_row:zc1 ["play","row","parts"] ["play","row"] (za4 zj8):=⟨rfl,rfl,rfl,by decide +kernel,rfl,by decide +kernel,by decide +kernel⟩
theorem sc_tell_tilt:zc1 ["play"] ["play"] (za4 zk8):=⟨rfl,rfl,rfl,by decide +kernel,rfl,by decide +kernel,by decide +kernel⟩
theorem sc_w_at:zc1 ["_law_script","_law_k"] ["_law_script","_law_k"] (za4 zC6):=⟨rfl,rfl,rfl,by decide +kernel,rfl,by decide +kernel,by decide +kernel⟩
theorem zm4:zc1 ["_law_cell","_law_count","_law_base","_law_mix","_law_made","_law_rest","_law_k"] ["_law_cell","_law_count","_law_base","_law_mix"] (za4 zs3):=⟨rfl,rfl,rfl,by decide +kernel,rfl,by decide +kernel,by decide +kernel⟩
theorem zh8:zc1 ["_law_script","_law_cell","_law_notches","_law_count","_law_room","_law_mode","_law_hefts"] ["_law_script"] (za4 zk9):=⟨rfl,rfl,rfl,by decide +kernel,rfl,by decide +kernel,by decide +kernel⟩
theorem zB0:ze9 ["_law_script","_law_cell","_law_notches","_law_count","_law_room","_law_mode","_law_hefts"] (za4 zk9) (zt7 (stE (stAt (za9 zk9) 5))) ["_law_x"] [none]:=⟨rfl,by decide +kernel,by decide +kernel,by decide +kernel,rfl,by decide +kernel,by decide +kernel⟩
theorem zj2:zc1 ["_law_script","_law_k","_law_more","_law_shape_here","_law_notches","_law_room","_law_hefts","_law_mix","_law_cell","_law_made","_law_x","_law_place"] ["_law_script","_law_k","_law_more","_law_shape_here"] (za4 zx5):=⟨rfl,rfl,rfl,by decide +kernel,rfl,by decide +kernel,by decide +kernel⟩
theorem zx7:zc1 ["_law_hefts","_law_spots","_law_total","_law_k"] ["_law_hefts","_law_spots"] (za4 zs4):=⟨rfl,rfl,rfl,by decide +kernel,rfl,by decide +kernel,by decide +kernel⟩
theorem sc_w_say:zc1 ["_law_place"] ["_law_place"] (za4 zx6):=⟨rfl,rfl,rfl,by decide +kernel,rfl,by decide +kernel,by decide +kernel⟩
theorem zx8:zc1 ["_law_hefts","_law_spots","_law_amount","_law_word"] ["_law_hefts","_law_spots"] (za4 zs5):=⟨rfl,rfl,rfl,by decide +kernel,rfl,by decide +kernel,by decide +kernel⟩
theorem sc_w_number:zc1 ["_law_word"] ["_law_word"] (za4 zm2):=⟨rfl,rfl,rfl,by decide +kernel,rfl,by decide +kernel,by decide +kernel⟩
theorem zC8:zc1 ["_law_word","_law_minus","_law_size"] ["_law_word"] (za4 zs6):=⟨rfl,rfl,rfl,by decide +kernel,rfl,by decide +kernel,by decide +kernel⟩
theorem zs9:zc1 ["_law_text","_law_cell","_law_signs","_law_kind","_law_there","_law_sign"] ["_law_text","_law_cell"] (za4 zs7):=⟨rfl,rfl,rfl,by decide +kernel,rfl,by decide +kernel,by decide +kernel⟩
theorem zC9:zc1 ["_law_cell","_law_words"] ["_law_cell"] (za4 zn0):=⟨rfl,rfl,rfl,by decide +kernel,rfl,by decide +kernel,by decide +kernel⟩
theorem zt0:zc1 ["_law_notches","_law_room","_law_count","_law_spots","_law_place"] ["_law_notches","_law_room","_law_count","_law_spots"] (za4 zg2):=⟨rfl,rfl,rfl,by decide +kernel,rfl,by decide +kernel,by decide +kernel⟩
theorem zl0:zc1 ["_law_script","_law_shape_here","_law_spots","_law_base","_law_figures","_law_rows_here","_law_k"] ["_law_script"] (za4 zn1):=⟨rfl,rfl,rfl,by decide +kernel,rfl,by decide +kernel,by decide +kernel⟩
theorem zE0:ze9 ["_law_script","_law_shape_here","_law_spots","_law_base","_law_figures","_law_rows_here","_law_k"] (za4 zn1) (zt7 (stE (stAt (stBody (stAt (za9 zn1) 2)) 2))) ["_law_x","_law_shape_here"] [none,some 1]:=⟨rfl,by decide +kernel,by decide +kernel,by decide +kernel,rfl,by decide +kernel,by decide +kernel⟩
theorem zd0:zc1 ["_law_rows_here","_law_cell","_law_kind","_law_more","_law_one","_law_two","_law_words"] ["_law_rows_here","_law_cell"] (za4 zg0):=⟨rfl,rfl,rfl,by decide +kernel,rfl,by decide +kernel,by decide +kernel⟩
theorem zg9:zc1 ["_law_text","_law_rows_here","_law_sizes","_law_k","_law_words","_law_hefts","_law_spots","_law_row"] ["_law_text"] (za4 zm3):=⟨rfl,rfl,rfl,by decide +kernel,rfl,by decide +kernel,by decide +kernel⟩
theorem zm5:zc1 ["_law_read","_law_notches","_law_room","_law_hefts","_law_limit","_law_spots"] ["_law_read"] (za4 zp7):=⟨rfl,rfl,rfl,by decide +kernel,rfl,by decide +kernel,by decide +kernel⟩
theorem sc_w_told:zc1 ["_law_text","_law_rows_here"] ["_law_text","_law_rows_here"] (za4 zs8):=⟨rfl,rfl,rfl,by decide +kernel,rfl,by decide +kernel,by decide +kernel⟩
theorem zn3:zc1 ["_law_rows_here","_law_cell","_law_read","_law_size"] ["_law_rows_here","_law_cell"] (za4 zh4):=⟨rfl,rfl,rfl,by decide +kernel,rfl,by decide +kernel,by decide +kernel⟩
theorem zu2:zc1 ["_law_script","_law_rows_here","_law_text","_law_asked","_law_read","_law_found","_law_due","_law_k"] ["_law_script"] (za4 zI8):=⟨rfl,rfl,rfl,by decide +kernel,rfl,by decide +kernel,by decide +kernel⟩
set_option genInjectivity false in
set_option genSizeOf false in
structure Adr where
 a_BeamError_init:Addr
 d_BeamError_init:FuncData
 a_BadBeam_init:Addr
 d_BadBeam_init:FuncData
 a_BadStanding_init:Addr
 d_BadStanding_init:FuncData
 a_StartPast_init:Addr
 d_StartPast_init:FuncData
 a_NothingBack_init:Addr
 d_NothingBack_init:FuncData
 a_BadText_init:Addr
 d_BadText_init:FuncData
 a_Beam_init:Addr
 d_Beam_init:FuncData
 a_outside:Addr
 d_outside:FuncData
 a_check_bounds:Addr
 d_check_bounds:FuncData
 a_check_hefts:Addr
 d_check_hefts:FuncData
 a_check_standings:Addr
 d_check_standings:FuncData
 a_as_standing:Addr
 d_as_standing:FuncData
 a_tilt:Addr
 d_tilt:FuncData
 a_side:Addr
 d_side:FuncData
 a_past:Addr
 d_past:FuncData
 a_keeps:Addr
 d_keeps:FuncData
 a_Play_init:Addr
 d_Play_init:FuncData
 a_Play_back:Addr
 d_Play_back:FuncData
 a_write_move:Addr
 d_write_move:FuncData
 a_read_beam:Addr
 d_read_beam:FuncData
 a_read_weight:Addr
 d_read_weight:FuncData
 a_words_behind:Addr
 d_words_behind:FuncData
 a_read_place:Addr
 d_read_place:FuncData
 a_read_number:Addr
 d_read_number:FuncData
 a_is_number:Addr
 d_is_number:FuncData
 a_answers:Addr
 d_answers:FuncData
 a_answer:Addr
 d_answer:FuncData
 a_answer_row:Addr
 d_answer_row:FuncData
 a_tell_tilt:Addr
 d_tell_tilt:FuncData
 a_w_at:Addr
 d_w_at:FuncData
 a_w_figs:Addr
 d_w_figs:FuncData
 a_w_shape:Addr
 d_w_shape:FuncData
 a_w_put:Addr
 d_w_put:FuncData
 a_w_tilt:Addr
 d_w_tilt:FuncData
 a_w_say:Addr
 d_w_say:FuncData
 a_w_lean:Addr
 d_w_lean:FuncData
 a_w_number:Addr
 d_w_number:FuncData
 a_w_spot:Addr
 d_w_spot:FuncData
 a_w_edit:Addr
 d_w_edit:FuncData
 a_w_menu:Addr
 d_w_menu:FuncData
 a_w_is_standing:Addr
 d_w_is_standing:FuncData
 a_w_rows:Addr
 d_w_rows:FuncData
 a_w_rows_changed:Addr
 d_w_rows_changed:FuncData
 a_w_parsed:Addr
 d_w_parsed:FuncData
 a_w_sized:Addr
 d_w_sized:FuncData
 a_w_told:Addr
 d_w_told:FuncData
 a_w_near_limit:Addr
 d_w_near_limit:FuncData
 a_law:Addr
 d_law:FuncData
 c_Beam:Addr
 c_Play:Addr
 c_BadBeam:Addr
 c_BadStanding:Addr
 c_StartPast:Addr
 c_NothingBack:Addr
 c_BadText:Addr
 c_BeamError:Addr
 q_MOST_NOTCHES:Tok
 q_MOST_ROOM:Tok
 q_MOST_LIMIT:Tok
 q_MOST_WEIGHTS:Tok
 q_MOST_HEFT:Tok
 q_MOST_STANDINGS:Tok
 q_MOST_FIGURES:Tok
 q_FIGURES:Tok
structure Txt (K:W.Frag) (mg:Str->Option Value) (t:Adr):Prop where
 F_BeamError_init:FunD K "__init__" "BeamError.__init__" zd6 t.a_BeamError_init t.d_BeamError_init
 b_BeamError_init:zc6 K t.d_BeamError_init ["self","reason","word"] []
 k_BeamError_init:W.keepIn K (.ref t.a_BeamError_init)=true
 F_BadBeam_init:FunD K "__init__" "BadBeam.__init__" ze5 t.a_BadBeam_init t.d_BadBeam_init
 b_BadBeam_init:zc6 K t.d_BadBeam_init ["self","reason"] []
 k_BadBeam_init:W.keepIn K (.ref t.a_BadBeam_init)=true
 F_BadStanding_init:FunD K "__init__" "BadStanding.__init__" zd1 t.a_BadStanding_init t.d_BadStanding_init
 b_BadStanding_init:zc6 K t.d_BadStanding_init ["self","reason"] []
 k_BadStanding_init:W.keepIn K (.ref t.a_BadStanding_init)=true
 F_StartPast_init:FunD K "__init__" "StartPast.__init__" zd7 t.a_StartPast_init t.d_StartPast_init
 b_StartPast_init:zc6 K t.d_StartPast_init ["self","reason"] []
 k_StartPast_init:W.keepIn K (.ref t.a_StartPast_init)=true
 F_NothingBack_init:FunD K "__init__" "NothingBack.__init__" zd2 t.a_NothingBack_init t.d_NothingBack_init
 b_NothingBack_init:zc6 K t.d_NothingBack_init ["self","reason"] []
 k_NothingBack_init:W.keepIn K (.ref t.a_NothingBack_init)=true
 F_BadText_init:FunD K "__init__" "BadText.__init__" ze6 t.a_BadText_init t.d_BadText_init
 b_BadText_init:zc6 K t.d_BadText_init ["self","reason"] []
 k_BadText_init:W.keepIn K (.ref t.a_BadText_init)=true
 F_Beam_init:Fun K "__init__" "Beam.__init__" zk5 t.a_Beam_init t.d_Beam_init
 b_Beam_init:zc6 K t.d_Beam_init ["self","notches","room","hefts","limit"] []
 k_Beam_init:W.keepIn K (.ref t.a_Beam_init)=true
 F_outside:Fun K "outside" "outside" zp0 t.a_outside t.d_outside
 b_outside:zc6 K t.d_outside ["number","low","high"] []
 m_outside:mg "outside" = some (.ref t.a_outside)
 k_outside:W.keepIn K (.ref t.a_outside)=true
 F_check_bounds:Fun K "check_bounds" "check_bounds" zh2 t.a_check_bounds t.d_check_bounds
 b_check_bounds:zc6 K t.d_check_bounds ["notches","room","limit"] []
 m_check_bounds:mg "check_bounds" = some (.ref t.a_check_bounds)
 k_check_bounds:W.keepIn K (.ref t.a_check_bounds)=true
 F_check_hefts:Fun K "check_hefts" "check_hefts" zi3 t.a_check_hefts t.d_check_hefts
 b_check_hefts:zc6 K t.d_check_hefts ["hefts"] []
 m_check_hefts:mg "check_hefts" = some (.ref t.a_check_hefts)
 k_check_hefts:W.keepIn K (.ref t.a_check_hefts)=true
 F_check_standings:Fun K "check_standings" "check_standings" zf3 t.a_check_standings t.d_check_standings
 b_check_standings:zc6 K t.d_check_standings ["notches","weights"] []
 m_check_standings:mg "check_standings" = some (.ref t.a_check_standings)
 k_check_standings:W.keepIn K (.ref t.a_check_standings)=true
 F_as_standing:Fun K "as_standing" "as_standing" zi4 t.a_as_standing t.d_as_standing
 b_as_standing:zc6 K t.d_as_standing ["beam","standing"] []
 m_as_standing:mg "as_standing" = some (.ref t.a_as_standing)
 k_as_standing:W.keepIn K (.ref t.a_as_standing)=true
 F_tilt:Fun K "tilt" "tilt" zv9 t.a_tilt t.d_tilt
 b_tilt:zc6 K t.d_tilt ["beam","standing"] []
 m_tilt:mg "tilt" = some (.ref t.a_tilt)
 k_tilt:W.keepIn K (.ref t.a_tilt)=true
 F_side:Fun K "side" "side" zC4 t.a_side t.d_side
 b_side:zc6 K t.d_side ["beam","standing"] []
 m_side:mg "side" = some (.ref t.a_side)
 k_side:W.keepIn K (.ref t.a_side)=true
 F_past:Fun K "past" "past" zC5 t.a_past t.d_past
 b_past:zc6 K t.d_past ["beam","tipped"] []
 m_past:mg "past" = some (.ref t.a_past)
 k_past:W.keepIn K (.ref t.a_past)=true
 F_keeps:Fun K "keeps" "keeps" zx4 t.a_keeps t.d_keeps
 b_keeps:zc6 K t.d_keeps ["beam","standing"] []
 m_keeps:mg "keeps" = some (.ref t.a_keeps)
 k_keeps:W.keepIn K (.ref t.a_keeps)=true
 F_Play_init:Fun K "__init__" "Play.__init__" zk6 t.a_Play_init t.d_Play_init
 b_Play_init:zc6 K t.d_Play_init ["self","beam","start"] []
 k_Play_init:W.keepIn K (.ref t.a_Play_init)=true
 F_Play_back:Fun K "back" "Play.back" zk7 t.a_Play_back t.d_Play_back
 b_Play_back:zc6 K t.d_Play_back ["self"] []
 k_Play_back:W.keepIn K (.ref t.a_Play_back)=true
 F_write_move:Fun K "write_move" "write_move" zj6 t.a_write_move t.d_write_move
 b_write_move:zc6 K t.d_write_move ["move"] []
 m_write_move:mg "write_move" = some (.ref t.a_write_move)
 k_write_move:W.keepIn K (.ref t.a_write_move)=true
 F_read_beam:Fun K "read_beam" "read_beam" ze8 t.a_read_beam t.d_read_beam
 b_read_beam:zc6 K t.d_read_beam ["text"] []
 m_read_beam:mg "read_beam" = some (.ref t.a_read_beam)
 k_read_beam:W.keepIn K (.ref t.a_read_beam)=true
 F_read_weight:Fun K "read_weight" "read_weight" zi5 t.a_read_weight t.d_read_weight
 b_read_weight:zc6 K t.d_read_weight ["row"] []
 m_read_weight:mg "read_weight" = some (.ref t.a_read_weight)
 k_read_weight:W.keepIn K (.ref t.a_read_weight)=true
 F_words_behind:Fun K "words_behind" "words_behind" zh3 t.a_words_behind t.d_words_behind
 b_words_behind:zc6 K t.d_words_behind ["front","row","many"] []
 m_words_behind:mg "words_behind" = some (.ref t.a_words_behind)
 k_words_behind:W.keepIn K (.ref t.a_words_behind)=true
 F_read_place:Fun K "read_place" "read_place" zj7 t.a_read_place t.d_read_place
 b_read_place:zc6 K t.d_read_place ["text"] []
 m_read_place:mg "read_place" = some (.ref t.a_read_place)
 k_read_place:W.keepIn K (.ref t.a_read_place)=true
 F_read_number:Fun K "read_number" "read_number" zi6 t.a_read_number t.d_read_number
 b_read_number:zc6 K t.d_read_number ["text"] []
 m_read_number:mg "read_number" = some (.ref t.a_read_number)
 k_read_number:W.keepIn K (.ref t.a_read_number)=true
 F_is_number:Fun K "is_number" "is_number" zh5 t.a_is_number t.d_is_number
 b_is_number:zc6 K t.d_is_number ["text"] []
 m_is_number:mg "is_number" = some (.ref t.a_is_number)
 k_is_number:W.keepIn K (.ref t.a_is_number)=true
 F_answers:Fun K "answers" "answers" zp6 t.a_answers t.d_answers
 b_answers:zc6 K t.d_answers ["text","rows"] []
 m_answers:mg "answers" = some (.ref t.a_answers)
 k_answers:W.keepIn K (.ref t.a_answers)=true
 F_answer:Fun K "answer" "answer" zs2 t.a_answer t.d_answer
 b_answer:zc6 K t.d_answer ["play","row"] []
 m_answer:mg "answer" = some (.ref t.a_answer)
 k_answer:W.keepIn K (.ref t.a_answer)=true
 F_answer_row:Fun K "answer_row" "answer_row" zj8 t.a_answer_row t.d_answer_row
 b_answer_row:zc6 K t.d_answer_row ["play","row"] []
 m_answer_row:mg "answer_row" = some (.ref t.a_answer_row)
 k_answer_row:W.keepIn K (.ref t.a_answer_row)=true
 F_tell_tilt:Fun K "tell_tilt" "tell_tilt" zk8 t.a_tell_tilt t.d_tell_tilt
 b_tell_tilt:zc6 K t.d_tell_tilt ["play"] []
 m_tell_tilt:mg "tell_tilt" = some (.ref t.a_tell_tilt)
 k_tell_tilt:W.keepIn K (.ref t.a_tell_tilt)=true
 F_w_at:Fun K "_law_at" "_law_at" zC6 t.a_w_at t.d_w_at
 b_w_at:zc6 K t.d_w_at ["_law_script","_law_k"] []
 m_w_at:mg "_law_at" = some (.ref t.a_w_at)
 k_w_at:W.keepIn K (.ref t.a_w_at)=true
 F_w_figs:Fun K "_law_figs" "_law_figs" zs3 t.a_w_figs t.d_w_figs
 b_w_figs:zc6 K t.d_w_figs ["_law_cell","_law_count","_law_base","_law_mix"] []
 m_w_figs:mg "_law_figs" = some (.ref t.a_w_figs)
 k_w_figs:W.keepIn K (.ref t.a_w_figs)=true
 F_w_shape:Fun K "_law_shape" "_law_shape" zk9 t.a_w_shape t.d_w_shape
 b_w_shape:zc6 K t.d_w_shape ["_law_script"] []
 m_w_shape:mg "_law_shape" = some (.ref t.a_w_shape)
 k_w_shape:W.keepIn K (.ref t.a_w_shape)=true
 F_w_put:Fun K "_law_put" "_law_put" zx5 t.a_w_put t.d_w_put
 b_w_put:zc6 K t.d_w_put ["_law_script","_law_k","_law_more","_law_shape_here"] []
 m_w_put:mg "_law_put" = some (.ref t.a_w_put)
 k_w_put:W.keepIn K (.ref t.a_w_put)=true
 F_w_tilt:Fun K "_law_tilt" "_law_tilt" zs4 t.a_w_tilt t.d_w_tilt
 b_w_tilt:zc6 K t.d_w_tilt ["_law_hefts","_law_spots"] []
 m_w_tilt:mg "_law_tilt" = some (.ref t.a_w_tilt)
 k_w_tilt:W.keepIn K (.ref t.a_w_tilt)=true
 F_w_say:Fun K "_law_say" "_law_say" zx6 t.a_w_say t.d_w_say
 b_w_say:zc6 K t.d_w_say ["_law_place"] []
 m_w_say:mg "_law_say" = some (.ref t.a_w_say)
 k_w_say:W.keepIn K (.ref t.a_w_say)=true
 F_w_lean:Fun K "_law_lean" "_law_lean" zs5 t.a_w_lean t.d_w_lean
 b_w_lean:zc6 K t.d_w_lean ["_law_hefts","_law_spots"] []
 m_w_lean:mg "_law_lean" = some (.ref t.a_w_lean)
 k_w_lean:W.keepIn K (.ref t.a_w_lean)=true
 F_w_number:Fun K "_law_number" "_law_number" zm2 t.a_w_number t.d_w_number
 b_w_number:zc6 K t.d_w_number ["_law_word"] []
 m_w_number:mg "_law_number" = some (.ref t.a_w_number)
 k_w_number:W.keepIn K (.ref t.a_w_number)=true
 F_w_spot:Fun K "_law_spot" "_law_spot" zs6 t.a_w_spot t.d_w_spot
 b_w_spot:zc6 K t.d_w_spot ["_law_word"] []
 m_w_spot:mg "_law_spot" = some (.ref t.a_w_spot)
 k_w_spot:W.keepIn K (.ref t.a_w_spot)=true
 F_w_edit:Fun K "_law_edit" "_law_edit" zs7 t.a_w_edit t.d_w_edit
 b_w_edit:zc6 K t.d_w_edit ["_law_text","_law_cell"] []
 m_w_edit:mg "_law_edit" = some (.ref t.a_w_edit)
 k_w_edit:W.keepIn K (.ref t.a_w_edit)=true
 F_w_menu:Fun K "_law_menu" "_law_menu" zn0 t.a_w_menu t.d_w_menu
 b_w_menu:zc6 K t.d_w_menu ["_law_cell"] []
 m_w_menu:mg "_law_menu" = some (.ref t.a_w_menu)
 k_w_menu:W.keepIn K (.ref t.a_w_menu)=true
 F_w_is_standing:Fun K "_law_is_standing" "_law_is_standing" zg2 t.a_w_is_standing t.d_w_is_standing
 b_w_is_standing:zc6 K t.d_w_is_standing ["_law_notches","_law_room","_law_count","_law_spots"] []
 m_w_is_standing:mg "_law_is_standing" = some (.ref t.a_w_is_standing)
 k_w_is_standing:W.keepIn K (.ref t.a_w_is_standing)=true
 F_w_rows:Fun K "_law_rows" "_law_rows" zn1 t.a_w_rows t.d_w_rows
 b_w_rows:zc6 K t.d_w_rows ["_law_script"] []
 m_w_rows:mg "_law_rows" = some (.ref t.a_w_rows)
 k_w_rows:W.keepIn K (.ref t.a_w_rows)=true
 F_w_rows_changed:Fun K "_law_rows_changed" "_law_rows_changed" zg0 t.a_w_rows_changed t.d_w_rows_changed
 b_w_rows_changed:zc6 K t.d_w_rows_changed ["_law_rows_here","_law_cell"] []
 m_w_rows_changed:mg "_law_rows_changed" = some (.ref t.a_w_rows_changed)
 k_w_rows_changed:W.keepIn K (.ref t.a_w_rows_changed)=true
 F_w_parsed:Fun K "_law_parsed" "_law_parsed" zm3 t.a_w_parsed t.d_w_parsed
 b_w_parsed:zc6 K t.d_w_parsed ["_law_text"] []
 m_w_parsed:mg "_law_parsed" = some (.ref t.a_w_parsed)
 k_w_parsed:W.keepIn K (.ref t.a_w_parsed)=true
 F_w_sized:Fun K "_law_sized" "_law_sized" zp7 t.a_w_sized t.d_w_sized
 b_w_sized:zc6 K t.d_w_sized ["_law_read"] []
 m_w_sized:mg "_law_sized" = some (.ref t.a_w_sized)
 k_w_sized:W.keepIn K (.ref t.a_w_sized)=true
 F_w_told:Fun K "_law_told" "_law_told" zs8 t.a_w_told t.d_w_told
 b_w_told:zc6 K t.d_w_told ["_law_text","_law_rows_here"] []
 m_w_told:mg "_law_told" = some (.ref t.a_w_told)
 k_w_told:W.keepIn K (.ref t.a_w_told)=true
 F_w_near_limit:Fun K "_law_near_limit" "_law_near_limit" zh4 t.a_w_near_limit t.d_w_near_limit
 b_w_near_limit:zc6 K t.d_w_near_limit ["_law_rows_here","_law_cell"] []
 m_w_near_limit:mg "_law_near_limit" = some (.ref t.a_w_near_limit)
 k_w_near_limit:W.keepIn K (.ref t.a_w_near_limit)=true
 F_law:Fun K "law" "law" zI8 t.a_law t.d_law
 b_law:zc6 K t.d_law ["_law_script"] []
 m_law:mg "law" = some (.ref t.a_law)
 k_law:W.keepIn K (.ref t.a_law)=true
 cl_Beam:Cls K t.c_Beam
 m_Beam:mg "Beam" = some (.ref t.c_Beam)
 mk_Beam:Mk K t.c_Beam t.a_Beam_init
 na_Beam_notches:ze2 K t.c_Beam "notches"
 na_Beam_room:ze2 K t.c_Beam "room"
 na_Beam_hefts:ze2 K t.c_Beam "hefts"
 na_Beam_limit:ze2 K t.c_Beam "limit"
 cl_Play:Cls K t.c_Play
 m_Play:mg "Play" = some (.ref t.c_Play)
 mk_Play:Mk K t.c_Play t.a_Play_init
 na_Play_beam:ze2 K t.c_Play "beam"
 na_Play_start:ze2 K t.c_Play "start"
 na_Play_standing:ze2 K t.c_Play "standing"
 na_Play_made:ze2 K t.c_Play "made"
 me_Play_back:Meth K t.c_Play "back" t.a_Play_back
 m_BadBeam:mg "BadBeam" = some (.ref t.c_BadBeam)
 m_BadStanding:mg "BadStanding" = some (.ref t.c_BadStanding)
 m_StartPast:mg "StartPast" = some (.ref t.c_StartPast)
 m_NothingBack:mg "NothingBack" = some (.ref t.c_NothingBack)
 m_BadText:mg "BadText" = some (.ref t.c_BadText)
 m_BeamError:mg "BeamError" = some (.ref t.c_BeamError)
 x_BadBeam:XCls K t.c_BadBeam
 x_BadStanding:XCls K t.c_BadStanding
 x_StartPast:XCls K t.c_StartPast
 x_NothingBack:XCls K t.c_NothingBack
 x_BadText:XCls K t.c_BadText
 i_BadBeam:W.findIn K (.ref t.c_BadBeam) "__init__" = some (some (.ref t.a_BadBeam_init))
 if_BadBeam:W.isFn K (.ref t.a_BadBeam_init)=true
 na_BadBeam_reason:ze2 K t.c_BadBeam "reason"
 na_BadBeam_word:ze2 K t.c_BadBeam "word"
 i_BadStanding:W.findIn K (.ref t.c_BadStanding) "__init__" = some (some (.ref t.a_BadStanding_init))
 if_BadStanding:W.isFn K (.ref t.a_BadStanding_init)=true
 na_BadStanding_reason:ze2 K t.c_BadStanding "reason"
 na_BadStanding_word:ze2 K t.c_BadStanding "word"
 i_StartPast:W.findIn K (.ref t.c_StartPast) "__init__" = some (some (.ref t.a_StartPast_init))
 if_StartPast:W.isFn K (.ref t.a_StartPast_init)=true
 na_StartPast_reason:ze2 K t.c_StartPast "reason"
 na_StartPast_word:ze2 K t.c_StartPast "word"
 i_NothingBack:W.findIn K (.ref t.c_NothingBack) "__init__" = some (some (.ref t.a_NothingBack_init))
 if_NothingBack:W.isFn K (.ref t.a_NothingBack_init)=true
 na_NothingBack_reason:ze2 K t.c_NothingBack "reason"
 na_NothingBack_word:ze2 K t.c_NothingBack "word"
 i_BadText:W.findIn K (.ref t.c_BadText) "__init__" = some (some (.ref t.a_BadText_init))
 if_BadText:W.isFn K (.ref t.a_BadText_init)=true
 na_BadText_reason:ze2 K t.c_BadText "reason"
 na_BadText_word:ze2 K t.c_BadText "word"
 xw:XWay K
 xa_BadBeam:XAsk K t.c_BadBeam
 xm_BadBeam_BeamError:W.exmOne K (.ref t.c_BadBeam) (.ref t.c_BeamError)=some true
 xm_BadBeam_BadText:W.exmOne K (.ref t.c_BadBeam) (.ref t.c_BadText)=some false
 xm_BadBeam_BadBeam:W.exmOne K (.ref t.c_BadBeam) (.ref t.c_BadBeam)=some true
 xm_BadBeam_BadStanding:W.exmOne K (.ref t.c_BadBeam) (.ref t.c_BadStanding)=some false
 xm_BadBeam_StartPast:W.exmOne K (.ref t.c_BadBeam) (.ref t.c_StartPast)=some false
 xa_BadStanding:XAsk K t.c_BadStanding
 xm_BadStanding_BeamError:W.exmOne K (.ref t.c_BadStanding) (.ref t.c_BeamError)=some true
 xm_BadStanding_BadText:W.exmOne K (.ref t.c_BadStanding) (.ref t.c_BadText)=some false
 xm_BadStanding_BadBeam:W.exmOne K (.ref t.c_BadStanding) (.ref t.c_BadBeam)=some false
 xm_BadStanding_BadStanding:W.exmOne K (.ref t.c_BadStanding) (.ref t.c_BadStanding)=some true
 xm_BadStanding_StartPast:W.exmOne K (.ref t.c_BadStanding) (.ref t.c_StartPast)=some false
 xa_StartPast:XAsk K t.c_StartPast
 xm_StartPast_BeamError:W.exmOne K (.ref t.c_StartPast) (.ref t.c_BeamError)=some true
 xm_StartPast_BadText:W.exmOne K (.ref t.c_StartPast) (.ref t.c_BadText)=some false
 xm_StartPast_BadBeam:W.exmOne K (.ref t.c_StartPast) (.ref t.c_BadBeam)=some false
 xm_StartPast_BadStanding:W.exmOne K (.ref t.c_StartPast) (.ref t.c_BadStanding)=some false
 xm_StartPast_StartPast:W.exmOne K (.ref t.c_StartPast) (.ref t.c_StartPast)=some true
 xa_NothingBack:XAsk K t.c_NothingBack
 xm_NothingBack_BeamError:W.exmOne K (.ref t.c_NothingBack) (.ref t.c_BeamError)=some true
 xm_NothingBack_BadText:W.exmOne K (.ref t.c_NothingBack) (.ref t.c_BadText)=some false
 xm_NothingBack_BadBeam:W.exmOne K (.ref t.c_NothingBack) (.ref t.c_BadBeam)=some false
 xm_NothingBack_BadStanding:W.exmOne K (.ref t.c_NothingBack) (.ref t.c_BadStanding)=some false
 xm_NothingBack_StartPast:W.exmOne K (.ref t.c_NothingBack) (.ref t.c_StartPast)=some false
 xa_BadText:XAsk K t.c_BadText
 xm_BadText_BeamError:W.exmOne K (.ref t.c_BadText) (.ref t.c_BeamError)=some true
 xm_BadText_BadText:W.exmOne K (.ref t.c_BadText) (.ref t.c_BadText)=some true
 xm_BadText_BadBeam:W.exmOne K (.ref t.c_BadText) (.ref t.c_BadBeam)=some false
 xm_BadText_BadStanding:W.exmOne K (.ref t.c_BadText) (.ref t.c_BadStanding)=some false
 xm_BadText_StartPast:W.exmOne K (.ref t.c_BadText) (.ref t.c_StartPast)=some false
 cm_BeamError:zV8 K t.c_BeamError "__init__" t.a_BeamError_init
 n_tuple:mg "tuple" = none
 n_len:mg "len" = none
 n_range:mg "range" = none
 n_sum:mg "sum" = none
 n_zip:mg "zip" = none
 n_abs:mg "abs" = none
 n_int:mg "int" = none
 n_all:mg "all" = none
 n_str:mg "str" = none
 n_min:mg "min" = none
 n_max:mg "max" = none
 n_list:mg "list" = none
 n_isinstance:mg "isinstance" = none
 g_MOST_NOTCHES:mg "MOST_NOTCHES" = some (.int 4 t.q_MOST_NOTCHES)
 g_MOST_ROOM:mg "MOST_ROOM" = some (.int 3 t.q_MOST_ROOM)
 g_MOST_LIMIT:mg "MOST_LIMIT" = some (.int 400 t.q_MOST_LIMIT)
 g_MOST_WEIGHTS:mg "MOST_WEIGHTS" = some (.int 5 t.q_MOST_WEIGHTS)
 g_MOST_HEFT:mg "MOST_HEFT" = some (.int 20 t.q_MOST_HEFT)
 g_MOST_STANDINGS:mg "MOST_STANDINGS" = some (.int 1000 t.q_MOST_STANDINGS)
 g_MOST_FIGURES:mg "MOST_FIGURES" = some (.int 4 t.q_MOST_FIGURES)
 g_FIGURES:mg "FIGURES" = some (.str (Str.ofString "0123456789") t.q_FIGURES)
end Bt
namespace Bt
open PySem L2
noncomputable def zn9 (cell base:Int) (mix:Bool):Nat->Int×List Int
 | 0=>(if mix=true then cell*48271 % 2147483647 else cell,[])
 | i+1 =>
   if mix=true then (((zn9 cell base mix i).1+(0+(i:Int))+1)*69621 % 2147483647,(zn9 cell base mix i).2++[(((zn9 cell base mix i).1+(0+(i:Int))+1)*69621 % 2147483647) / 8 % base])
   else ((zn9 cell base mix i).1 / base,(zn9 cell base mix i).2++[(zn9 cell base mix i).1 % base])
noncomputable def figs (cell:Int) (n:Nat) (base:Int) (mix:Bool):List Int:=(zn9 cell base mix n).2
theorem zw6 (cell base:Int) (mix:Bool) (n:Nat):(figs cell n base mix).length=n:=by
 unfold figs
 induction n with
 | zero=>rfl
 | succ n ih =>
   unfold zn9
   cases mix
   . rw[if_neg (by decide)];simp[ih]
   . rw[if_pos rfl];simp[ih]
theorem zE9 {cell base:Int} {mix:Bool} (hb:0<base) (n:Nat):∀ x∈figs cell n base mix,0<=x/\x<base:=by
 unfold figs
 induction n with
 | zero=>intro x hx;cases hx
 | succ n ih =>
   unfold zn9
   have key:∀ z:Int,0<=z % base/\z % base<base:=fun z=>⟨Int.emod_nonneg _ (by omega),Int.emod_lt_of_pos _ hb⟩
   intro x hx
   cases mix
   . rw[if_neg (by decide)] at hx
     rcases List.mem_append.mp hx with h | h
     . exact ih x h
     . obtain rfl:=List.mem_singleton.mp h;exact key _
   . rw[if_pos rfl] at hx
     rcases List.mem_append.mp hx with h | h
     . exact ih x h
     . obtain rfl:=List.mem_singleton.mp h;exact key _
structure zf6 (n r:Int) (hs:List Int) (lim:Int):Prop where
 n1:1<=n
 n2:n<=4
 r1:1<=r
 r2:r<=3
 l1:0<=lim
 l2:lim<=400
 w:hs.length<=5
 h:∀ x∈hs,1<=x/\x<=20
 most:(2*n+1) ^ hs.length<=1000
structure zh0 (n r:Int) (w:Nat) (xs:List Int):Prop where
 len:xs.length=w
 on:∀ x∈xs,-n<=x/\x<=n
 room:∀ x∈xs,x≠0->(xs.count x:Int)<=r
noncomputable abbrev at0 (ns:List Int) (k:Nat):Int:=ns.getD k 0
noncomputable def zl8 (ns:List Int):Bool:=decide (V.int (at0 ns 0 % 2)=V.int 1)
noncomputable def shN (ns:List Int):Int:=([2,3,1,4]:List Int).getD (at0 ns 1 % 4).toNat 0
noncomputable def shW (ns:List Int):Int :=
 if ([3,2,4,1,5,0]:List Int).getD (at0 ns 1 / 4 % 6).toNat 0<([5,4,3,3]:List Int).getD (shN ns-1).toNat 0 then ([3,2,4,1,5,0]:List Int).getD (at0 ns 1 / 4 % 6).toNat 0 else ([5,4,3,3]:List Int).getD (shN ns-1).toNat 0
noncomputable def shR (ns:List Int):Int:=1+at0 ns 1 / 24 % 3
noncomputable def shH0 (ns:List Int):List Int:=(figs (at0 ns 2) (shW ns).toNat 20 (zl8 ns)).map fun x=>1+x
noncomputable def shH (ns:List Int):List Int :=
 if at0 ns 0 / 2 % 5=1 then (List.replicate (shW ns).toNat ((shH0 ns).take 1)).flatten else if at0 ns 0 / 2 % 5=2 then (List.replicate (shW ns).toNat [20]).flatten else shH0 ns
theorem zD0 (ns:List Int):shN ns=2\/shN ns=3\/shN ns=1\/shN ns=4:=by
 unfold shN
 have h1:0<=at0 ns 1 % 4:=Int.emod_nonneg _ (by decide)
 have h2:at0 ns 1 % 4<4:=Int.emod_lt_of_pos _ (by decide)
 have:at0 ns 1 % 4=0\/at0 ns 1 % 4=1\/at0 ns 1 % 4=2\/at0 ns 1 % 4=3:=by omega
 rcases this with e | e | e | e<;>rw[e]<;>decide
theorem cap_of {n:Int}:n=2\/n=3\/n=1\/n=4->([5,4,3,3]:List Int).getD (n-1).toNat 0=(if n=1 then 5 else if n=2 then 4 else 3):=by
 rintro (rfl | rfl | rfl | rfl)<;>decide
theorem six_of (z:Int):0<=([3,2,4,1,5,0]:List Int).getD (z % 6).toNat 0/\([3,2,4,1,5,0]:List Int).getD (z % 6).toNat 0<=5:=by
 have h1:0<=z % 6:=Int.emod_nonneg _ (by decide)
 have h2:z % 6<6:=Int.emod_lt_of_pos _ (by decide)
 have:z % 6=0\/z % 6=1\/z % 6=2\/z % 6=3\/z % 6=4\/z % 6=5:=by omega
 rcases this with e | e | e | e | e | e<;>rw[e]<;>decide
theorem zU5 (ns:List Int):0<=shW ns/\shW ns<=(if shN ns=1 then 5 else if shN ns=2 then 4 else 3):=by
 unfold shW
 obtain ⟨h1,h2⟩:=six_of (at0 ns 1 / 4)
 rw[cap_of (zD0 ns)]
 have h3:(0:Int)<=(if shN ns=1 then 5 else if shN ns=2 then 4 else 3):=by repeat (first | decide | split)
 split<;>omega
theorem pow_cap {n:Int} (h:n=2\/n=3\/n=1\/n=4) {w:Nat} (hw:(w:Int)<=(if n=1 then 5 else if n=2 then 4 else 3)):(2*n+1) ^ w<=1000:=by
 have h5:(if n=1 then (5:Int) else if n=2 then 4 else 3)<=5:=by repeat (first | decide | split)
 have:w=0\/w=1\/w=2\/w=3\/w=4\/w=5:=by omega
 rcases h with rfl | rfl | rfl | rfl<;>rcases this with rfl | rfl | rfl | rfl | rfl | rfl<;>first | decide | (exfalso;revert hw;decide)
theorem zM8 (ns:List Int):(shH0 ns).length=(shW ns).toNat:=by unfold shH0;rw[List.length_map,zw6]
theorem shH_len (ns:List Int):(shH ns).length=(shW ns).toNat:=by
 unfold shH
 have h0:=zM8 ns
 split
 . rw[zL0,List.length_take,h0]
   by_cases h:(shW ns).toNat=0
   . rw[h];simp
   . rw[Nat.min_eq_left (by omega),Nat.mul_one]
 . split
   . rw[zL0];simp
   . exact h0
theorem zR7 (ns:List Int):∀ x∈shH0 ns,1<=x/\x<=20:=by
 intro x hx
 unfold shH0 at hx
 obtain ⟨y,hy,rfl⟩:=List.mem_map.mp hx
 have:=zE9 (by decide) _ y hy
 omega
theorem zL4 (ns:List Int):∀ x∈shH ns,1<=x/\x<=20:=by
 intro x hx
 unfold shH at hx
 split at hx
 . obtain ⟨l,hl,hx⟩:=List.mem_flatten.mp hx
   obtain ⟨_,rfl⟩:=List.mem_replicate.mp hl
   exact zR7 ns x (List.mem_of_mem_take hx)
 . split at hx
   . obtain ⟨l,hl,hx⟩:=List.mem_flatten.mp hx
     obtain ⟨_,rfl⟩:=List.mem_replicate.mp hl
     obtain rfl:=List.mem_singleton.mp hx
     omega
   . exact zR7 ns x hx
theorem sh_ok (ns:List Int) {lim:Int} (h1:0<=lim) (h2:lim<=400):zf6 (shN ns) (shR ns) (shH ns) lim:=by
 have hN:=zD0 ns
 have hW:=zU5 ns
 have hl:=shH_len ns
 have h5:(if shN ns=1 then (5:Int) else if shN ns=2 then 4 else 3)<=5:=by repeat (first | decide | split)
 have hR1:0<=at0 ns 1 / 24 % 3:=Int.emod_nonneg _ (by decide)
 have hR2:at0 ns 1 / 24 % 3<3:=Int.emod_lt_of_pos _ (by decide)
 exact⟨by omega,by omega,by unfold shR;omega,by unfold shR;omega,h1,h2,by omega,zL4 ns,pow_cap hN (by omega)⟩
noncomputable def zo7 (n r:Int) (last:Bool) (made:List Int) (x:Int):List Int :=
 made++[if (if last=true then n else x-n)≠0/\r<=(made.count (if last=true then n else x-n):Int) then 0 else (if last=true then n else x-n)]
noncomputable def putL (n r:Int) (last:Bool) (xs:List Int):List Int:=xs.foldl (zo7 n r last) []
noncomputable def zR8 (ns:List Int) (k:Nat) (more n r:Int) (w:Nat):List Int :=
 putL n r (decide (V.int ((at0 ns k+more) % 13)=V.int 12)) (figs (at0 ns k+more) w (2*n+1) (zl8 ns))
theorem zJ0 (n r:Int) (last:Bool) (xs:List Int) (x:Int):putL n r last (xs++[x])=zo7 n r last (putL n r last xs) x:=by
 unfold putL;rw[List.foldl_append];rfl
theorem zR9 {n r:Int} (last:Bool) (hn:0<=n) (hr:1<=r) (xs:List Int) (hx:∀ x∈xs,0<=x/\x<2*n+1) :
   (putL n r last xs).length=xs.length/\(∀ y∈putL n r last xs,-n<=y/\y<=n)/\∀ y,y≠0->((putL n r last xs).count y:Int)<=r:=by
 have main:∀ (k:Nat) (xs:List Int),xs.length=k->(∀ x∈xs,0<=x/\x<2*n+1)->(putL n r last xs).length=xs.length/\(∀ y∈putL n r last xs,-n<=y/\y<=n)/\∀ y,y≠0->((putL n r last xs).count y:Int)<=r:=by
   intro k
   induction k with
   | zero =>
     intro xs hk _
     have:xs=[]:=List.eq_nil_of_length_eq_zero hk
     subst this
     exact⟨rfl,(fun y hy=>nomatch hy),fun y _=>by show ((([]:List Int).count y:Nat):Int)<=r;simp;omega⟩
   | succ k ih =>
     intro xs hk hx
     obtain ⟨ys,x,rfl⟩:∃ ys x,xs=ys++[x]:=⟨xs.dropLast,xs.getLast (by intro e;rw[e] at hk;cases hk),(List.dropLast_concat_getLast _).symm⟩
     have hk':ys.length=k:=by rw[List.length_append,List.length_singleton] at hk;omega
     obtain ⟨h1,h2,h3⟩:=ih ys hk' fun z hz=>hx z (List.mem_append_left _ hz)
     have hx0:=hx x (List.mem_append_right _ (List.mem_singleton.mpr rfl))
     rw[zJ0]
     unfold zo7
     have hp:-n<=(if last=true then n else x-n)/\(if last=true then n else x-n)<=n:=by split<;>omega
     generalize (if last=true then n else x-n)=p at hp ⊢
     refine⟨by rw[List.length_append,List.length_append,h1];rfl,fun y hy=>?_,fun y hy=>?_⟩
     . rcases List.mem_append.mp hy with hy | hy
       . exact h2 y hy
       . obtain rfl:=List.mem_singleton.mp hy
         split<;>omega
     . rw[List.count_append,List.count_singleton]
       have h3y:=h3 y hy
       by_cases hc:p≠0/\r<=((putL n r last ys).count p:Int)
       . rw[if_pos hc]
         have:((0:Int) == y)=false:=by simpa using fun e=>hy e.symm
         rw[this]
         simpa using h3y
       . rw[if_neg hc]
         by_cases e:p=y
         . subst e
           have:¬ r<=((putL n r last ys).count p:Int):=fun z=>hc ⟨hy,z⟩
           simp
           omega
         . have:(p == y)=false:=by simpa using e
           rw[this]
           simpa using h3y
 exact main xs.length xs rfl hx
theorem put_ok (ns:List Int) (k:Nat) (more:Int) {n r:Int} (w:Nat) (hn:1<=n) (hr:1<=r):zh0 n r w (zR8 ns k more n r w):=by
 unfold zR8
 obtain ⟨h1,h2,h3⟩:=zR9 (n:=n) (r:=r) (decide (V.int ((at0 ns k+more) % 13)=V.int 12)) (by omega) hr (figs (at0 ns k+more) w (2*n+1) (zl8 ns)) (zE9 (by omega) w)
 exact⟨by rw[h1,zw6],h2,fun x _ h0=>h3 x h0⟩
noncomputable def zB1 (n r:Int) (h:Addr) (lim:Int):List (Str×V):=putF "limit" (.int lim) (putF "hefts" (.ref h) (putF "room" (.int r) (putF "notches" (.int n) [])))
theorem zJ1 (n r:Int) (h:Addr) (lim:Int):(zB1 n r h lim).lookup ("notches" : Str)=some (V.int n):=by
 unfold zB1
 rw[zc3,if_neg (by decide +kernel),zc3,if_neg (by decide +kernel),zc3,if_neg (by decide +kernel),zc3,if_pos rfl]
theorem b_room (n r:Int) (h:Addr) (lim:Int):(zB1 n r h lim).lookup ("room" : Str)=some (V.int r):=by
 unfold zB1
 rw[zc3,if_neg (by decide +kernel),zc3,if_neg (by decide +kernel),zc3,if_pos rfl]
theorem zS0 (n r:Int) (h:Addr) (lim:Int):(zB1 n r h lim).lookup ("hefts" : Str)=some (V.ref h):=by
 unfold zB1
 rw[zc3,if_neg (by decide +kernel),zc3,if_pos rfl]
theorem b_limit (n r:Int) (h:Addr) (lim:Int):(zB1 n r h lim).lookup ("limit" : Str)=some (V.int lim):=by
 unfold zB1
 rw[zc3,if_pos rfl]
noncomputable def zn4 (t:Adr) (H:Hp) (b:Addr) (n r:Int) (hs:List Int) (lim:Int):Prop :=
 zf6 n r hs lim/\∃ dx h,H b=some (.ins t.c_Beam dx (zB1 n r h lim))/\H h=some (.tup (hs.map V.int))
theorem zn4.same {t:Adr} {H H':Hp} {b:Addr} {n r:Int} {hs:List Int} {lim:Int} (B:zn4 t H b n r hs lim) (s:Same H H'):zn4 t H' b n r hs lim:=by
 obtain ⟨ok,dx,h,e1,e2⟩:=B
 exact⟨ok,dx,h,s _ _ e1,s _ _ e2⟩
noncomputable def zu3 (K:W.Frag) (t:Adr):Sp:=fun vs H Q _=>∃ a lo hi:Int,vs=[.int a,.int lo,.int hi]/\Q (.bl (decide (a<lo) || decide (hi<a))) H
noncomputable def zu7 (K:W.Frag) (t:Adr):Sp:=fun vs H Q E=>∃ n r l:Int,vs=[.int n,.int r,.int l]/\((1<=n/\n<=4/\1<=r/\r<=3/\0<=l/\l<=400)->Q .non H)/\(¬ (1<=n/\n<=4/\1<=r/\r<=3/\0<=l/\l<=400)->∀ H',Same H H'->E (.ref t.c_BadBeam) none H')
noncomputable def zw7 (K:W.Frag) (t:Adr):Sp:=fun vs H Q E=>∃ (a:Addr) (hs:List Int),vs=[.ref a]/\(SqL K H a (hs.map V.int)\/SqT K H a (hs.map V.int))/\((hs.length<=5/\∀ x∈hs,1<=x/\x<=20)->Q .non H)/\(¬ (hs.length<=5/\∀ x∈hs,1<=x/\x<=20)->∀ H',Same H H'->E (.ref t.c_BadBeam) none H')
noncomputable def zq5 (K:W.Frag) (t:Adr):Sp:=fun vs H Q E=>∃ (n:Int) (w:Nat),vs=[.int n,.int w]/\(1<=n/\n<=4/\w<=5)/\((2*n+1) ^ w<=1000->Q .non H)/\(¬ (2*n+1) ^ w<=1000->∀ H',Same H H'->E (.ref t.c_BadBeam) none H')
noncomputable def zB2 (K:W.Frag) (t:Adr):Sp:=fun vs H Q E=>∃ (p dx a:Addr) (n r lim:Int) (hs:List Int),vs=[.ref p,.int n,.int r,.ref a,.int lim]/\H p=some (.ins t.c_Beam dx []) ∧
 (SqL K H a (hs.map V.int)\/H a=some (.tup (hs.map V.int)))/\(zf6 n r hs lim->∀ H',zn4 t H' p n r hs lim->zj0 p H H'->Q .non H')/\(¬ zf6 n r hs lim->∀ H',Same H H'->E (.ref t.c_BadBeam) none H')
noncomputable def zB3 (K:W.Frag) (t:Adr):Sp:=fun vs H Q _=>∃ (a:Addr) (ns:List Int) (k:Nat),vs=[.ref a,.int k]/\SqL K H a (ns.map V.int)/\Q (.int (ns.getD k 0)) H
noncomputable def zx9 (K:W.Frag) (t:Adr):Sp:=fun vs H Q _=>∃ (cell base:Int) (n:Nat) (mix:Bool),vs=[.int cell,.int n,.int base,.bl mix]/\(n<=1000/\0<base/\base<1000) ∧
 ∀ l,H l=none->Q (.ref l) (upd H l (.lst ((figs cell n base mix).map V.int)))
noncomputable def zG3 (K:W.Frag) (t:Adr):Sp:=fun vs H Q _=>∃ (a:Addr) (ns:List Int),vs=[.ref a]/\SqL K H a (ns.map V.int) ∧
 ∀ l h H',Same H H'->H l=none->H h=none->H' h=some (.lst ((shH ns).map V.int))->H' l=some (.lst [.int (shN ns),.int (shR ns),.ref h])->Q (.ref l) H'
noncomputable def zM9 (K:W.Frag) (t:Adr):Sp:=fun vs H Q _=>∃ (a sh h:Addr) (ns:List Int) (k:Nat) (more n r:Int) (hs:List Int),vs=[.ref a,.int k,.int more,.ref sh]/\SqL K H a (ns.map V.int) ∧
 H sh=some (.lst [.int n,.int r,.ref h])/\SqL K H h (hs.map V.int)/\(1<=n/\n<=4/\1<=r/\hs.length<=5) ∧
 ∀ l H',Same H H'->H l=none->H' l=some (.lst ((zR8 ns k more n r hs.length).map V.int))->Q (.ref l) H'
noncomputable def zN0 (K:W.Frag):Sp:=fun vs H Q _=>∃ (a:Addr) (ns:List Int),vs=[.ref a]/\SqL K H a (ns.map V.int)/\ns.length<=63/\∀ H',Q (.bl true) H'
noncomputable def sp_law (K:W.Frag) (t:Adr):Sp:=zN0 K
section
variable {P:Program} {w:World} {K:W.Frag} {mg:Str->Option Value} {base:Heap} {t:Adr}
noncomputable def zf4 (K:W.Frag) (t:Adr):Sp:=fun vs H Q _=>∃ (x C:Addr) (u v:V),vs=[.ref x,u,v]/\H x=some (ExcO C x none)/\XCls K C/\ze2 K C "reason"/\ze2 K C "word" ∧
 ∀ H' dx,H' x=some (ExcO C x (some dx))->H' dx=some (.xd (putF "word" v (putF "reason" u [])))->zj0 x H H'->Q .non H'
theorem zh1 (T:Txt K mg t):FnOk P w K mg base CX0 1 t.a_BeamError_init t.d_BeamError_init ["self","reason","word"] (zf4 K t):=by
 refine T.F_BeamError_init.ok sc_BeamError_init (fun vs H Q E h=>?_) (fun cdv A outer s H vs Q E hr h=>?_)
 . obtain ⟨x,C,u,v,rfl,hx,hc,n1,n2,q⟩:=h
   rfl
 . obtain ⟨x,C,u,v,rfl,hx,hc,n1,n2,q⟩:=h
   refine⟨_,(za1 (zQ7 (pv 0) (pv 1) rfl)
     (za6 (zQ7 (pv 0) (pv 2) rfl))),?_⟩
   refine⟨_,rfl,_,rfl,x,C,none,rfl,hx,hc,n1,fun dx fdx ndx=>?_⟩
   refine⟨_,rfl,_,rfl,x,C,some dx,rfl,za5,hc,n2,putF "reason" u [],by rw[za7 ndx];exact za5,by show (1:Nat)<1000;decide,?_⟩
   refine q _ dx (by rw[za7 ndx.symm];exact za5) za5 fun b o e hb=>?_
   rw[za7 (za8 e fdx),za7 hb,za7 (za8 e fdx)]
   exact e
noncomputable def zk2 (K:W.Frag) (t:Adr):Sp:=fun vs H Q _=>∃ (x:Addr) (u:V),vs=[.ref x,u]/\H x=some (ExcO t.c_BadBeam x none) ∧
 ∀ H' dx,H' x=some (ExcO t.c_BadBeam x (some dx))->H' dx=some (.xd (putF "word" (.str "bad beam") (putF "reason" u [])))->zj0 x H H'->Q .non H'
theorem zn5 (T:Txt K mg t):FnOk P w K mg base CX0 2 t.a_BadBeam_init t.d_BadBeam_init ["self","reason"] (zk2 K t):=by
 have G_BeamError_init:FnOk P w K mg base CX0 1 t.a_BeamError_init t.d_BeamError_init ["self","reason","word"] (zf4 K t):=zh1 T
 refine T.F_BadBeam_init.ok sc_BadBeam_init (fun vs H Q E h=>?_) (fun cdv A outer s H vs Q E hr h=>?_)
 . obtain ⟨x,u,rfl,hx,q⟩:=h
   rfl
 . obtain ⟨x,u,rfl,hx,q⟩:=h
   have hr_BeamError_init:Room 1 _:=hr.mono (by decide)
   refine⟨_,(za6 (zg4 (zv5 T.cm_BeamError rfl T.m_BeamError G_BeamError_init hr_BeamError_init T.b_BeamError_init .nil zc4 (za0 (pv 0) (za0 (pv 1) (za0 zb0 za2)))))),?_⟩
   exact⟨_,rfl,_,rfl,x,t.c_BadBeam,u,_,rfl,hx,T.x_BadBeam,T.na_BadBeam_reason,T.na_BadBeam_word,fun H' dx h1 h2 h3=>q H' dx h1 h2 h3⟩
noncomputable def zo0 (K:W.Frag) (t:Adr):Sp:=fun vs H Q _=>∃ (x:Addr) (u:V),vs=[.ref x,u]/\H x=some (ExcO t.c_BadStanding x none) ∧
 ∀ H' dx,H' x=some (ExcO t.c_BadStanding x (some dx))->H' dx=some (.xd (putF "word" (.str "bad standing") (putF "reason" u [])))->zj0 x H H'->Q .non H'
theorem ok_BadStanding_init (T:Txt K mg t):FnOk P w K mg base CX0 2 t.a_BadStanding_init t.d_BadStanding_init ["self","reason"] (zo0 K t):=by
 have G_BeamError_init:FnOk P w K mg base CX0 1 t.a_BeamError_init t.d_BeamError_init ["self","reason","word"] (zf4 K t):=zh1 T
 refine T.F_BadStanding_init.ok sc_BadStanding_init (fun vs H Q E h=>?_) (fun cdv A outer s H vs Q E hr h=>?_)
 . obtain ⟨x,u,rfl,hx,q⟩:=h
   rfl
 . obtain ⟨x,u,rfl,hx,q⟩:=h
   have hr_BeamError_init:Room 1 _:=hr.mono (by decide)
   refine⟨_,(za6 (zg4 (zv5 T.cm_BeamError rfl T.m_BeamError G_BeamError_init hr_BeamError_init T.b_BeamError_init .nil zc4 (za0 (pv 0) (za0 (pv 1) (za0 zb0 za2)))))),?_⟩
   exact⟨_,rfl,_,rfl,x,t.c_BadStanding,u,_,rfl,hx,T.x_BadStanding,T.na_BadStanding_reason,T.na_BadStanding_word,fun H' dx h1 h2 h3=>q H' dx h1 h2 h3⟩
noncomputable def zr2 (K:W.Frag) (t:Adr):Sp:=fun vs H Q _=>∃ (x:Addr) (u:V),vs=[.ref x,u]/\H x=some (ExcO t.c_StartPast x none) ∧
 ∀ H' dx,H' x=some (ExcO t.c_StartPast x (some dx))->H' dx=some (.xd (putF "word" (.str "start past") (putF "reason" u [])))->zj0 x H H'->Q .non H'
theorem ok_StartPast_init (T:Txt K mg t):FnOk P w K mg base CX0 2 t.a_StartPast_init t.d_StartPast_init ["self","reason"] (zr2 K t):=by
 have G_BeamError_init:FnOk P w K mg base CX0 1 t.a_BeamError_init t.d_BeamError_init ["self","reason","word"] (zf4 K t):=zh1 T
 refine T.F_StartPast_init.ok sc_StartPast_init (fun vs H Q E h=>?_) (fun cdv A outer s H vs Q E hr h=>?_)
 . obtain ⟨x,u,rfl,hx,q⟩:=h
   rfl
 . obtain ⟨x,u,rfl,hx,q⟩:=h
   have hr_BeamError_init:Room 1 _:=hr.mono (by decide)
   refine⟨_,(za6 (zg4 (zv5 T.cm_BeamError rfl T.m_BeamError G_BeamError_init hr_BeamError_init T.b_BeamError_init .nil zc4 (za0 (pv 0) (za0 (pv 1) (za0 zb0 za2)))))),?_⟩
   exact⟨_,rfl,_,rfl,x,t.c_StartPast,u,_,rfl,hx,T.x_StartPast,T.na_StartPast_reason,T.na_StartPast_word,fun H' dx h1 h2 h3=>q H' dx h1 h2 h3⟩
noncomputable def zo1 (K:W.Frag) (t:Adr):Sp:=fun vs H Q _=>∃ (x:Addr) (u:V),vs=[.ref x,u]/\H x=some (ExcO t.c_NothingBack x none) ∧
 ∀ H' dx,H' x=some (ExcO t.c_NothingBack x (some dx))->H' dx=some (.xd (putF "word" (.str "nothing back") (putF "reason" u [])))->zj0 x H H'->Q .non H'
theorem ok_NothingBack_init (T:Txt K mg t):FnOk P w K mg base CX0 2 t.a_NothingBack_init t.d_NothingBack_init ["self","reason"] (zo1 K t):=by
 have G_BeamError_init:FnOk P w K mg base CX0 1 t.a_BeamError_init t.d_BeamError_init ["self","reason","word"] (zf4 K t):=zh1 T
 refine T.F_NothingBack_init.ok sc_NothingBack_init (fun vs H Q E h=>?_) (fun cdv A outer s H vs Q E hr h=>?_)
 . obtain ⟨x,u,rfl,hx,q⟩:=h
   rfl
 . obtain ⟨x,u,rfl,hx,q⟩:=h
   have hr_BeamError_init:Room 1 _:=hr.mono (by decide)
   refine⟨_,(za6 (zg4 (zv5 T.cm_BeamError rfl T.m_BeamError G_BeamError_init hr_BeamError_init T.b_BeamError_init .nil zc4 (za0 (pv 0) (za0 (pv 1) (za0 zb0 za2)))))),?_⟩
   exact⟨_,rfl,_,rfl,x,t.c_NothingBack,u,_,rfl,hx,T.x_NothingBack,T.na_NothingBack_reason,T.na_NothingBack_word,fun H' dx h1 h2 h3=>q H' dx h1 h2 h3⟩
noncomputable def zi2 (K:W.Frag) (t:Adr):Sp:=fun vs H Q _=>∃ (x:Addr) (u:V),vs=[.ref x,u]/\H x=some (ExcO t.c_BadText x none) ∧
 ∀ H' dx,H' x=some (ExcO t.c_BadText x (some dx))->H' dx=some (.xd (putF "word" (.str "bad text") (putF "reason" u [])))->zj0 x H H'->Q .non H'
theorem zk3 (T:Txt K mg t):FnOk P w K mg base CX0 2 t.a_BadText_init t.d_BadText_init ["self","reason"] (zi2 K t):=by
 have G_BeamError_init:FnOk P w K mg base CX0 1 t.a_BeamError_init t.d_BeamError_init ["self","reason","word"] (zf4 K t):=zh1 T
 refine T.F_BadText_init.ok sc_BadText_init (fun vs H Q E h=>?_) (fun cdv A outer s H vs Q E hr h=>?_)
 . obtain ⟨x,u,rfl,hx,q⟩:=h
   rfl
 . obtain ⟨x,u,rfl,hx,q⟩:=h
   have hr_BeamError_init:Room 1 _:=hr.mono (by decide)
   refine⟨_,(za6 (zg4 (zv5 T.cm_BeamError rfl T.m_BeamError G_BeamError_init hr_BeamError_init T.b_BeamError_init .nil zc4 (za0 (pv 0) (za0 (pv 1) (za0 zb0 za2)))))),?_⟩
   exact⟨_,rfl,_,rfl,x,t.c_BadText,u,_,rfl,hx,T.x_BadText,T.na_BadText_reason,T.na_BadText_word,fun H' dx h1 h2 h3=>q H' dx h1 h2 h3⟩
theorem Same.raised {H H1 H':Hp} {x:Addr} {o:HO} (s:Same H H1) (fx:H1 x=none) (sx:zj0 x (upd H1 x o) H'):Same H (del H' x):=fun b u e=>by
 have e1:=s b u e
 have hb:b≠x:=za8 e1 fx
 rw[zt8 hb]
 exact sx b u (by rw[za7 hb];exact e1) hb
theorem zj9 {xs:List Int} {i:Nat} {z:Int} {φ:Int->Prop} (hz:xs[i]?=some z) (h:∀ y∈xs.take i,φ y) (h2:φ z):∀ y∈xs.take (i+1),φ y:=fun y hy=>by
 rw[List.take_succ,hz] at hy
 rcases List.mem_append.mp hy with hy | hy
 . exact h y hy
 . obtain rfl:y=z:=by simpa using hy
   exact h2
theorem zA0 (T:Txt K mg t):FnOk P w K mg base CX0 1 t.a_outside t.d_outside ["number","low","high"] (zu3 K t):=by
 refine T.F_outside.ok sc_outside (fun vs H Q E h=>?_) (fun cdv A outer s H vs Q E hr h=>?_)
 . obtain ⟨a,lo,hi,rfl,q⟩:=h
   rfl
 . obtain ⟨a,lo,hi,rfl,q⟩:=h
   refine⟨_,(za6 (zb9 (zV3 (zg6 zy5 (pv 0) (pv 1) (zb4 _)) (zO3 (zg6 zl7 (pv 0) (pv 2) (zb4 _)))))),?_⟩
   refine⟨_,rfl,_,rfl,_,_,rfl,rfl,_,rfl,?_⟩
   refine ite2 (fun h1=>?_) (fun h1=>?_)
   . rw[h1] at q
     exact q
   . rw[Bool.eq_false_iff.mpr h1] at q
     exact⟨_,rfl,_,rfl,_,_,rfl,rfl,q⟩
theorem ok_check_bounds (T:Txt K mg t):FnOk P w K mg base (CXE P w) 4 t.a_check_bounds t.d_check_bounds ["notches","room","limit"] (zu7 K t):=by
 have G_outside:FnOk P w K mg base CX0 1 t.a_outside t.d_outside ["number","low","high"] (zu3 K t):=zA0 T
 have G_BadBeam_init:FnOk P w K mg base CX0 2 t.a_BadBeam_init t.d_BadBeam_init ["self","reason"] (zk2 K t):=zn5 T
 refine T.F_check_bounds.d.okE sc_check_bounds (fun vs H Q E h=>?_) (fun cdv A outer s H vs Q E hr h=>?_)
 . obtain ⟨n,r,l,rfl,q,qe⟩:=h
   rfl
 . obtain ⟨n,r,l,rfl,q,qe⟩:=h
   have hr_outside:Room 1 _:=hr.mono (by decide)
   have hr_BadBeam:Room 3 _:=hr.mono (by decide)
   refine⟨_,(za1 (zc8 (zi9 (zb1 G_outside hr_outside rfl T.m_outside T.k_outside T.b_outside .nil zc4 (za0 (pv 0) (za0 za3 (za0 (zq9 (v:=.int 4) rfl T.g_MOST_NOTCHES ⟨_,rfl⟩) za2))))) (za6 (zg8 zf1 rfl T.x_BadBeam T.i_BadBeam T.if_BadBeam G_BadBeam_init hr_BadBeam rfl T.m_BadBeam T.b_BadBeam_init .nil zc4 (za0 zb0 za2))) zb6)
     (za1 (zc8 (zi9 (zb1 G_outside hr_outside rfl T.m_outside T.k_outside T.b_outside .nil zc4 (za0 (pv 1) (za0 za3 (za0 (zq9 (v:=.int 3) rfl T.g_MOST_ROOM ⟨_,rfl⟩) za2))))) (za6 (zg8 zf1 rfl T.x_BadBeam T.i_BadBeam T.if_BadBeam G_BadBeam_init hr_BadBeam rfl T.m_BadBeam T.b_BadBeam_init .nil zc4 (za0 zb0 za2))) zb6)
     (za6 (zc8 (zi9 (zb1 G_outside hr_outside rfl T.m_outside T.k_outside T.b_outside .nil zc4 (za0 (pv 2) (za0 za3 (za0 (zq9 (v:=.int 400) rfl T.g_MOST_LIMIT ⟨_,rfl⟩) za2))))) (za6 (zg8 zf1 rfl T.x_BadBeam T.i_BadBeam T.if_BadBeam G_BadBeam_init hr_BadBeam rfl T.m_BadBeam T.b_BadBeam_init .nil zc4 (za0 zb0 za2))) zb6)))),?_⟩
   refine⟨_,rfl,_,_,_,rfl,_,rfl,?_⟩
   refine ite2 (fun h1=>?_) (fun h1=>?_)
   . have hb:¬ (1<=n/\n<=4/\1<=r/\r<=3/\0<=l/\l<=400):=fun z=>by simp at h1;omega
     exact⟨(by show 1<=sizeLine;decide),fun x fx=>⟨x,_,rfl,za5,fun H' dy hx hd sx=>⟨rfl,some dy,hx,qe hb _ (Same.raised (Same.refl _) fx sx)⟩⟩⟩
   refine⟨_,rfl,_,_,_,rfl,_,rfl,?_⟩
   refine ite2 (fun h2=>?_) (fun h2=>?_)
   . have hb:¬ (1<=n/\n<=4/\1<=r/\r<=3/\0<=l/\l<=400):=fun z=>by simp at h2;omega
     exact⟨(by show 1<=sizeLine;decide),fun x fx=>⟨x,_,rfl,za5,fun H' dy hx hd sx=>⟨rfl,some dy,hx,qe hb _ (Same.raised (Same.refl _) fx sx)⟩⟩⟩
   refine⟨_,rfl,_,_,_,rfl,_,rfl,?_⟩
   refine ite2 (fun h3=>?_) (fun h3=>?_)
   . have hb:¬ (1<=n/\n<=4/\1<=r/\r<=3/\0<=l/\l<=400):=fun z=>by simp at h3;omega
     exact⟨(by show 1<=sizeLine;decide),fun x fx=>⟨x,_,rfl,za5,fun H' dy hx hd sx=>⟨rfl,some dy,hx,qe hb _ (Same.raised (Same.refl _) fx sx)⟩⟩⟩
   exact q (by simp at h1 h2 h3;omega)
theorem ok_check_hefts (T:Txt K mg t):FnOk P w K mg base (CXE P w) 4 t.a_check_hefts t.d_check_hefts ["hefts"] (zw7 K t):=by
 have G_BadBeam_init:FnOk P w K mg base CX0 2 t.a_BadBeam_init t.d_BadBeam_init ["self","reason"] (zk2 K t):=zn5 T
 have G_outside:FnOk P w K mg base CX0 1 t.a_outside t.d_outside ["number","low","high"] (zu3 K t):=zA0 T
 refine T.F_check_hefts.d.okE zw0 (fun vs H Q E h=>?_) (fun cdv A outer s H vs Q E hr h=>?_)
 . obtain ⟨a,hs,rfl,hS,q,qe⟩:=h
   rfl
 . obtain ⟨a,hs,rfl,hS,q,qe⟩:=h
   have hr_BadBeam:Room 3 _:=hr.mono (by decide)
   have hr_outside:Room 1 _:=hr.mono (by decide)
   refine⟨_,(za1 (zc8 (zb3 zl7 (zc0 zc2 rfl T.n_len PySem.boot_len (za0 (pv 0) za2)) (zq9 (v:=.int 5) rfl T.g_MOST_WEIGHTS ⟨_,rfl⟩) (zb4 _)) (za6 (zg8 zf1 rfl T.x_BadBeam T.i_BadBeam T.if_BadBeam G_BadBeam_init hr_BadBeam rfl T.m_BadBeam T.b_BadBeam_init .nil zc4 (za0 zb0 za2))) zb6)
     (za6 (zn2 zm6 rfl (pi_seq (pv 0)) (zd4 (i:=1) zw0.nd rfl (Or.inl rfl)) (za6 (zc8 (zi9 (zb1 G_outside hr_outside rfl T.m_outside T.k_outside T.b_outside .nil zc4 (za0 (pv 1) (za0 za3 (za0 (zq9 (v:=.int 20) rfl T.g_MOST_HEFT ⟨_,rfl⟩) za2))))) (za6 (zg8 zf1 rfl T.x_BadBeam T.i_BadBeam T.if_BadBeam G_BadBeam_init hr_BadBeam rfl T.m_BadBeam T.b_BadBeam_init .nil zc4 (za0 zb0 za2))) zb6))))),?_⟩
   refine⟨_,rfl,a,hs.map V.int,rfl,hS,_,_,rfl,rfl,_,rfl,?_⟩
   rw[List.length_map]
   refine ite2 (fun h1=>?_) (fun h1=>?_)
   . have hb:¬ (hs.length<=5/\∀ x∈hs,1<=x/\x<=20):=fun z=>by simp at h1;omega
     exact⟨(by show 1<=sizeLine;decide),fun x fx=>⟨x,_,rfl,za5,fun H' dy hx hd sx=>⟨rfl,some dy,hx,qe hb _ (Same.raised (Same.refl _) fx sx)⟩⟩⟩
   have hl5:hs.length<=5:=by simp at h1;omega
   refine⟨_,rfl,a,rfl,?_⟩
   have turn:∀ (i:Nat) x,(hs.map V.int)[i]?=some x->∃ z,x = .int z/\hs[i]?=some z:=fun i x e=>by
     obtain ⟨z,rfl,hz⟩:=zz7 e
     exact⟨z,rfl,hz⟩
   rcases hS with hS | hS
   . refine .inl ⟨⟨_,hS⟩,zv1 (K:=K) (a:=a) (xs:=hs.map V.int) (fun i σ H'=>∃ v,σ=[some (.ref a),v]/\H'=H/\∀ y∈hs.take i,1<=y/\y<=20) ⟨_,rfl,rfl,by simp⟩ (fun i σ H' _ ⟨_,_,e,_⟩=>e▸hS) ?_ ?_⟩
     . rintro i x σ H' hi ⟨v,rfl,rfl,hok⟩
       obtain ⟨z,rfl,hz⟩:=turn i x hi
       refine⟨_,rfl,_,_,_,rfl,_,rfl,?_⟩
       refine ite2 (fun h2=>?_) (fun h2=>?_)
       . have hb:¬ (hs.length<=5/\∀ x∈hs,1<=x/\x<=20):=fun w=>by have:=w.2 z (List.mem_of_getElem? hz);simp at h2;omega
         exact⟨(by show 1<=sizeLine;decide),fun x fx=>⟨x,_,rfl,za5,fun H' dy hx hd sx=>⟨rfl,some dy,hx,qe hb _ (Same.raised (Same.refl _) fx sx)⟩⟩⟩
       . exact⟨_,rfl,rfl,zj9 hz hok (by simp at h2;omega)⟩
     . rintro σ H' ⟨v,rfl,rfl,hok⟩
       exact q ⟨hl5,fun y hy=>hok y (by rw[List.length_map,List.take_length];exact hy)⟩
   . refine .inr ⟨⟨_,hS⟩,zP1 (K:=K) (a:=a) (xs:=hs.map V.int) (fun i σ H'=>∃ v,σ=[some (.ref a),v]/\H'=H/\∀ y∈hs.take i,1<=y/\y<=20) ⟨_,rfl,rfl,by simp⟩ (fun i σ H' _ ⟨_,_,e,_⟩=>e▸hS) ?_ ?_⟩
     . rintro i x σ H' hi ⟨v,rfl,rfl,hok⟩
       obtain ⟨z,rfl,hz⟩:=turn i x hi
       refine⟨_,rfl,_,_,_,rfl,_,rfl,?_⟩
       refine ite2 (fun h2=>?_) (fun h2=>?_)
       . have hb:¬ (hs.length<=5/\∀ x∈hs,1<=x/\x<=20):=fun w=>by have:=w.2 z (List.mem_of_getElem? hz);simp at h2;omega
         exact⟨(by show 1<=sizeLine;decide),fun x fx=>⟨x,_,rfl,za5,fun H' dy hx hd sx=>⟨rfl,some dy,hx,qe hb _ (Same.raised (Same.refl _) fx sx)⟩⟩⟩
       . exact⟨_,rfl,rfl,zj9 hz hok (by simp at h2;omega)⟩
     . rintro σ H' ⟨v,rfl,rfl,hok⟩
       exact q ⟨hl5,fun y hy=>hok y (by rw[List.length_map,List.take_length];exact hy)⟩
theorem ok_check_standings (T:Txt K mg t):FnOk P w K mg base (CXE P w) 4 t.a_check_standings t.d_check_standings ["notches","weights"] (zq5 K t):=by
 have G_BadBeam_init:FnOk P w K mg base CX0 2 t.a_BadBeam_init t.d_BadBeam_init ["self","reason"] (zk2 K t):=zn5 T
 refine T.F_check_standings.d.okE zh6 (fun vs H Q E h=>?_) (fun cdv A outer s H vs Q E hr h=>?_)
 . obtain ⟨n,w,rfl,⟨h1,h2,h3⟩,q,qe⟩:=h
   rfl
 . obtain ⟨n,w,rfl,⟨h1,h2,h3⟩,q,qe⟩:=h
   have hr_BadBeam:Room 3 _:=hr.mono (by decide)
   refine⟨_,(za1 (zb5 (i:=2) zh6.nd rfl (Or.inl rfl) za3)
     (za1 (zn2 zm6 rfl (zo8 rfl T.n_range (za0 (pv 1) za2)) (zd4 (i:=3) zh6.nd rfl (Or.inl rfl)) (za6 (zb5 (i:=2) zh6.nd rfl (Or.inl rfl) (zb2 zv2 (pv 2) (zb2 zi7 (zb2 zv2 za3 (pv 0)) za3)))))
     (za6 (zc8 (zb3 zl7 (pv 2) (zq9 (v:=.int 1000) rfl T.g_MOST_STANDINGS ⟨_,rfl⟩) (zb4 _)) (za6 (zg8 zf1 rfl T.x_BadBeam T.i_BadBeam T.if_BadBeam G_BadBeam_init hr_BadBeam rfl T.m_BadBeam T.b_BadBeam_init .nil zc4 (za0 zb0 za2))) zb6)))),?_⟩
   refine⟨_,rfl,_,rfl,by omega,by omega,zm0 (n:=(w:Int).toNat) (fun i σ H'=>∃ v,σ=[some (.int n),some (.int w),some (.int ((2*n+1) ^ i)),v]/\H'=H) ⟨none,by rw[Int.pow_zero];rfl,rfl⟩ ?_ ?_⟩
   . rintro i σ H' hi ⟨v,rfl,rfl⟩
     exact⟨_,rfl,_,rfl,_,_,rfl,rfl,.inl ⟨by decide,by decide⟩,_,_,rfl,rfl,_,_,rfl,rfl,.inr ⟨by omega,by omega⟩,_,by rw[Int.pow_succ];rfl,rfl⟩
   . rintro σ H' ⟨v,rfl,rfl⟩
     refine⟨_,rfl,_,_,rfl,rfl,_,rfl,?_⟩
     rw[Int.toNat_natCast]
     refine ite2 (fun h4=>?_) (fun h4=>?_)
     . have hb:¬ (2*n+1) ^ w<=1000:=fun z=>by have:=of_decide_eq_true h4;omega
       exact⟨(by show 1<=sizeLine;decide),fun x fx=>⟨x,_,rfl,za5,fun H' dy hx hd sx=>⟨rfl,some dy,hx,qe hb _ (Same.raised (Same.refl _) fx sx)⟩⟩⟩
     . exact q (by have:¬ (2*n+1) ^ w>1000:=fun e=>h4 (decide_eq_true e);omega)
theorem ok_Beam_init (T:Txt K mg t):FnOk P w K mg base (CXE P w) 5 t.a_Beam_init t.d_Beam_init ["self","notches","room","hefts","limit"] (zB2 K t):=by
 have G_check_bounds:FnOk P w K mg base (CXE P w) 4 t.a_check_bounds t.d_check_bounds ["notches","room","limit"] (zu7 K t):=ok_check_bounds T
 have G_check_hefts:FnOk P w K mg base (CXE P w) 4 t.a_check_hefts t.d_check_hefts ["hefts"] (zw7 K t):=ok_check_hefts T
 have G_check_standings:FnOk P w K mg base (CXE P w) 4 t.a_check_standings t.d_check_standings ["notches","weights"] (zq5 K t):=ok_check_standings T
 refine T.F_Beam_init.d.okE sc_Beam_init (fun vs H Q E h=>?_) (fun cdv A outer s H vs Q E hr h=>?_)
 . obtain ⟨p,dx,a,n,r,lim,hs,rfl,hp,hS,q,qe⟩:=h
   rfl
 . obtain ⟨p,dx,a,n,r,lim,hs,rfl,hp,hS,q,qe⟩:=h
   have hr_check_bounds:Room 4 _:=hr.mono (by decide)
   have hr_check_hefts:Room 4 _:=hr.mono (by decide)
   have hr_check_standings:Room 4 _:=hr.mono (by decide)
   refine⟨_,(za1 (zg4 (zb1 G_check_bounds hr_check_bounds rfl T.m_check_bounds T.k_check_bounds T.b_check_bounds .nil zd9 (za0 (pv 1) (za0 (pv 2) (za0 (pv 4) za2)))))
     (za1 (zg4 (zb1 G_check_hefts hr_check_hefts rfl T.m_check_hefts T.k_check_hefts T.b_check_hefts .nil zd9 (za0 (pv 3) za2)))
     (za1 (zg4 (zb1 G_check_standings hr_check_standings rfl T.m_check_standings T.k_check_standings T.b_check_standings .nil zd9 (za0 (pv 1) (za0 (zc0 zc2 rfl T.n_len PySem.boot_len (za0 (pv 3) za2)) za2))))
     (za1 (zv3 (pv 0) (pv 1) rfl)
     (za1 (zv3 (pv 0) (pv 2) rfl)
     (za1 (zv3 (pv 0) (ze7 zy6 rfl T.n_tuple PyProof.Rows.boot_tuple (za0 (pv 3) za2)) rfl)
     (za6 (zv3 (pv 0) (pv 4) rfl)))))))),?_⟩
   have hS':SqL K H a (hs.map V.int)\/SqT K H a (hs.map V.int):=hS.imp id SqT.of
   refine⟨_,rfl,_,rfl,_,rfl,n,r,lim,rfl,fun b1=>?_,fun nb=>qe fun B=>nb ⟨B.n1,B.n2,B.r1,B.r2,B.l1,B.l2⟩⟩
   refine⟨_,rfl,a,hs,rfl,hS',fun b2=>?_,fun nb=>qe fun B=>nb ⟨B.w,B.h⟩⟩
   refine⟨_,rfl,_,rfl,a,_,rfl,hS',n,hs.length,by rw[List.length_map];rfl,⟨b1.1,b1.2.1,b2.1⟩,fun b3=>?_,fun nb=>qe fun B=>nb B.most⟩
   have B:zf6 n r hs lim:=⟨b1.1,b1.2.1,b1.2.2.1,b1.2.2.2.1,b1.2.2.2.2.1,b1.2.2.2.2.2,b2.1,b2.2,b3⟩
   replace q:=q B
   refine⟨_,rfl,_,rfl,p,_,dx,_,rfl,hp,T.cl_Beam,T.na_Beam_notches,by decide,?_⟩
   refine⟨_,rfl,_,rfl,p,_,dx,_,rfl,za5,T.cl_Beam,T.na_Beam_room,zv4 fl0,?_⟩
   have hne:∀ {b:Addr} {o:HO},H b=some o->o≠.ins t.c_Beam dx []->b≠p:=fun e ne=>zD7 e hp ne
   refine⟨_,rfl,a,hs.map V.int,rfl,?_⟩
   rcases hS with hS | hS
   . have nap:∀ o,SqL K (upd (upd H p o) p o) a (hs.map V.int)->True:=fun _ _=>trivial
     refine .inl ⟨?_,fun l hl=>?_⟩
     . rcases hS with (hS | ⟨ob,hS⟩) | hS
       . exact .inl (.inl (by rw[za7 (hne hS (by intro z;cases z)),za7 (hne hS (by intro z;cases z))];exact hS))
       . exact .inl (.inr ⟨ob,by rw[za7 (hne hS (by intro z;cases z)),za7 (hne hS (by intro z;cases z))];exact hS⟩)
       . exact .inr hS
     . have hlp:l≠p:=fun z=>by rw[z,za5] at hl;cases hl
       have hl0:H l=none:=by rw[za7 hlp,za7 hlp] at hl;exact hl
       refine⟨_,rfl,p,_,dx,_,rfl,(by rw[za7 hlp.symm];exact za5),T.cl_Beam,T.na_Beam_hefts,zv4 (flS fl0),?_⟩
       refine⟨_,rfl,_,rfl,p,_,dx,_,rfl,za5,T.cl_Beam,T.na_Beam_limit,zv4 (flS (flS fl0)),?_⟩
       refine q _ ⟨B,dx,l,za5,by rw[za7 hlp,za7 hlp,za5]⟩ fun b o e hb=>?_
       rw[za7 hb,za7 hb,za7 (za8 e hl0),za7 hb,za7 hb]
       exact e
   . have hap:a≠p:=hne hS (by intro z;cases z)
     refine .inr ⟨SqT.of (by rw[za7 hap,za7 hap];exact hS),?_⟩
     refine⟨_,rfl,p,_,dx,_,rfl,za5,T.cl_Beam,T.na_Beam_hefts,zv4 (flS fl0),?_⟩
     refine⟨_,rfl,_,rfl,p,_,dx,_,rfl,za5,T.cl_Beam,T.na_Beam_limit,zv4 (flS (flS fl0)),?_⟩
     refine q _ ⟨B,dx,a,za5,by rw[za7 hap,za7 hap,za7 hap,za7 hap];exact hS⟩ fun b o e hb=>?_
     rw[za7 hb,za7 hb,za7 hb,za7 hb]
     exact e
theorem zN1 {R:Hp->Prop} {S:Hp->Prop} {G:Prop} (main:(∀ o,S o->R o)->G) (fin:∀ o,S o->R o):G:=main fin
noncomputable def SeqA (K:W.Frag) (H:Hp) (a:Addr) (xs:List Int):Prop:=SqL K H a (xs.map V.int)\/H a=some (.tup (xs.map V.int))
theorem use_finLH {R:Addr->Hp->Prop} {S:Addr->Hp->Prop} {G:Prop} (main:(∀ o H',S o H'->R o H')->G) (fin:∀ o H',S o H'->R o H'):G:=main fin
noncomputable def okP (n r:Int) (xs:List Int) (y:Int):Prop:=(-n<=y/\y<=n)/\(y≠0->(xs.count y:Int)<=r)
theorem zN2 {n r:Int} {w:Nat} {xs:List Int} (h:xs.length=w) (k:∀ y∈xs,okP n r xs y):zh0 n r w xs:=⟨h,fun x hx=>(k x hx).1,fun x hx=>(k x hx).2⟩
noncomputable def zl5 (K:W.Frag) (t:Adr):Sp:=fun vs H Q E=>∃ (b a:Addr) (n r lim:Int) (hs xs:List Int),vs=[.ref b,.ref a]/\zn4 t H b n r hs lim/\SeqA K H a xs ∧
 (zh0 n r hs.length xs->∀ l H',Same H H'->H' l=some (.tup (xs.map V.int))->Q (.ref l) H')/\(¬ zh0 n r hs.length xs->∀ H',Same H H'->E (.ref t.c_BadStanding) none H')
theorem zq6 (T:Txt K mg t):FnOk P w K mg base (CXE P w) 4 t.a_as_standing t.d_as_standing ["beam","standing"] (zl5 K t):=by
 have G_BadStanding_init:FnOk P w K mg base CX0 2 t.a_BadStanding_init t.d_BadStanding_init ["self","reason"] (zo0 K t):=ok_BadStanding_init T
 have G_outside:FnOk P w K mg base CX0 1 t.a_outside t.d_outside ["number","low","high"] (zu3 K t):=zA0 T
 refine T.F_as_standing.d.okE zq3 (fun vs H Q E h=>?_) (fun cdv A outer s H vs Q E hr h=>?_)
 . obtain ⟨b,a,n,r,lim,hs,xs,rfl,B,hS,q,qe⟩:=h
   rfl
 . obtain ⟨b,a,n,r,lim,hs,xs,rfl,B,hS,q,qe⟩:=h
   have hr_BadStanding:Room 3 _:=hr.mono (by decide)
   have hr_outside:Room 1 _:=hr.mono (by decide)
   refine⟨_,(za1 (zb5 (i:=2) zq3.nd rfl (Or.inl rfl) (ze7 zy6 rfl T.n_tuple PyProof.Rows.boot_tuple (za0 (pv 1) za2)))
     (za1 (zc8 (zb3 zr1 (zc0 zc2 rfl T.n_len PySem.boot_len (za0 (pv 2) za2)) (zc0 zc2 rfl T.n_len PySem.boot_len (za0 (zp9 (pv 0) rfl) za2)) (zb4 _)) (za6 (zg8 zf1 rfl T.x_BadStanding T.i_BadStanding T.if_BadStanding G_BadStanding_init hr_BadStanding rfl T.m_BadStanding T.b_BadStanding_init .nil zc4 (za0 zb0 za2))) zb6)
     (za1 (zn2 zm6 rfl (pi_tup (pv 2)) (zd4 (i:=3) zq3.nd rfl (Or.inl rfl)) (za1 (zc8 (zi9 (zb1 G_outside hr_outside rfl T.m_outside T.k_outside T.b_outside .nil zc4 (za0 (pv 3) (za0 (zM1 zF6 (zp9 (pv 0) rfl)) (za0 (zp9 (pv 0) rfl) za2))))) (za6 (zg8 zf1 rfl T.x_BadStanding T.i_BadStanding T.if_BadStanding G_BadStanding_init hr_BadStanding rfl T.m_BadStanding T.b_BadStanding_init .nil zc4 (za0 zb0 za2))) zb6)
     (za6 (zc8 (PW.pt (zK6 (zb3 zr1 (pv 3) za3 (zb4 _)) (zE4 (zb3 zl7 (pe_tm PySem.F.slot_tuple_count PySem.F.type_tuple_count mt_countT (pv 2) (za0 (pv 3) za2)) (zp9 (pv 0) rfl) (zb4 _))))) (za6 (zg8 zf1 rfl T.x_BadStanding T.i_BadStanding T.if_BadStanding G_BadStanding_init hr_BadStanding rfl T.m_BadStanding T.b_BadStanding_init .nil zc4 (za0 zb0 za2))) zb6))))
     (za6 (zb9 (pv 2)))))),?_⟩
   refine⟨_,rfl,a,xs.map V.int,rfl,?_⟩
   refine use_finLH (R:=?R) (S:=fun l H1=>Same H H1/\H1 l=some (.tup (xs.map V.int))) (fun fin=>?main) ?fin
   case main =>
     rcases hS with hS | hT
     . refine .inl ⟨hS,fun l hl=>?_⟩
       have s1:Same H (upd H l (.tup (xs.map V.int))):=Same.upd hl
       have hT:(upd H l (.tup (xs.map V.int))) l=some (.tup (xs.map V.int)):=za5
       revert s1 hT
       generalize upd H l (.tup (xs.map V.int))=H1
       intro s1 hT
       exact fin l H1 ⟨s1,hT⟩
     . exact .inr ⟨SqT.of hT,fin a H ⟨Same.refl _,hT⟩⟩
   rintro l H1 ⟨s1,hT⟩
   have bad:¬ zh0 n r hs.length xs->∀ x,H1 x=none->∀ H',zj0 x (upd H1 x (ExcO t.c_BadStanding x none)) H'->E (.ref t.c_BadStanding) none (del H' x):=fun v x fx H' sx=>qe v _ (Same.raised s1 fx sx)
   replace q:=fun v=>q v l _ s1 hT
   obtain ⟨ok,dx,h,hb,hh⟩:=B.same s1
   refine⟨_,rfl,_,_,rfl,.inr (SqT.of hT),_,rfl,b,_,dx,_,_,rfl,hb,T.cl_Beam,T.na_Beam_hefts,zS0 _ _ _ _,h,_,rfl,.inr (SqT.of hh),rfl,_,rfl,?_⟩
   rw[List.length_map,List.length_map,zk1]
   refine ite2 (fun h1=>?_) (fun h1=>?_)
   . have hne:xs.length≠hs.length:=fun e=>by rw[e] at h1;simp at h1
     exact⟨(by show 1<=sizeLine;decide),fun x fx=>⟨x,_,rfl,za5,fun H' dy hx hd sx=>⟨rfl,some dy,hx,bad (fun v=>hne v.len) x fx H' sx⟩⟩⟩
   have hle:xs.length=hs.length:=by simp at h1;omega
   refine⟨_,rfl,_,rfl,⟨_,SqT.of hT⟩,zP1 (K:=K) (xs:=xs.map V.int) (fun i σ H'=>∃ v,σ=[some (.ref b),some (.ref a),some (.ref l),v]/\H'=H1/\∀ y∈xs.take i,okP n r xs y) ⟨none,rfl,rfl,by simp⟩ (fun i σ H' _ ⟨_,_,e,_⟩=>e▸SqT.of hT) ?_ ?_⟩
   . rintro i x σ H' hi ⟨v,rfl,rfl,hok⟩
     obtain ⟨z,rfl,hz⟩:=zz7 hi
     have hm:=List.mem_of_getElem? hz
     refine⟨_,rfl,_,rfl,b,_,dx,_,_,rfl,hb,T.cl_Beam,T.na_Beam_notches,zJ1 _ _ _ _,_,rfl,_,rfl,b,_,dx,_,_,rfl,hb,T.cl_Beam,T.na_Beam_notches,zJ1 _ _ _ _,z,-n,n,rfl,_,rfl,?_⟩
     refine ite2 (fun h2=>?_) (fun h2=>?_)
     . have hbad:¬ zh0 n r hs.length xs:=fun v=>by have:=v.on z hm;simp at h2;omega
       exact⟨(by show 1<=sizeLine;decide),fun x fx=>⟨x,_,rfl,za5,fun H' dy hx hd sx=>⟨rfl,some dy,hx,bad hbad x fx H' sx⟩⟩⟩
     . have hzn:-n<=z/\z<=n:=by simp at h2;omega
       refine⟨_,rfl,rfl,_,rfl,?_⟩
       rw[zk1]
       refine ite2 (fun h3=>?_) (fun h3=>?_)
       . have hz0:z≠0:=fun e=>by subst e;simp at h3
         refine⟨_,rfl,⟨_,_,rfl,hT⟩,_,rfl,_,xs,z,rfl,rfl,SqT.of hT,_,rfl,b,_,dx,_,_,rfl,hb,T.cl_Beam,T.na_Beam_room,b_room _ _ _ _,_,_,rfl,rfl,_,rfl,?_⟩
         refine ite2 (fun h4=>?_) (fun h4=>?_)
         . have hbad:¬ zh0 n r hs.length xs:=fun v=>by have:=v.room z hm hz0;simp at h4;omega
           exact⟨(by show 1<=sizeLine;decide),fun x fx=>⟨x,_,rfl,za5,fun H' dy hx hd sx=>⟨rfl,some dy,hx,bad hbad x fx H' sx⟩⟩⟩
         . exact⟨_,rfl,rfl,zj9 hz hok ⟨hzn,fun _=>by simp at h4;omega⟩⟩
       . exact iteF ⟨_,rfl,rfl,zj9 hz hok ⟨hzn,fun e=>absurd (by simpa using e) h3⟩⟩
   . rintro σ H' ⟨v,rfl,rfl,hok⟩
     exact⟨_,rfl,q (zN2 hle fun y hy=>hok y (by rw[List.length_map,List.take_length];exact hy))⟩
noncomputable def zd8 (hs xs:List Int):Int:=(List.zipWith (fun h x=>h*x) hs xs).sum
noncomputable def absI (i:Int):Int:=if i<0 then -i else i
noncomputable def zq7 (z:Int):Str:=if z<0 then "left" else if 0<z then "right" else "level"
noncomputable def mulV (x y:V):V:=match x,y with
 | .int a,.int b=>.int (a*b)
 | _,_=>.non
theorem zN3:∀ (hs xs:List Int),List.zipWith mulV (hs.map V.int) (xs.map V.int)=(List.zipWith (fun h x=>h*x) hs xs).map V.int
 | [],_=>rfl
 | _::_,[]=>rfl
 | h::hs,x::xs=>by
   show V.int (h*x)::List.zipWith mulV (hs.map V.int) (xs.map V.int)=_
   rw[zN3 hs xs]
   rfl
theorem zD1:∀ {hs xs:List Int} {B:Int},(∀ h∈hs,1<=h/\h<=20)->(∀ x∈xs,-B<=x/\x<=B)->0<=B->∀ z∈List.zipWith (fun h x=>h*x) hs xs,-(20*B)<=z/\z<=20*B
 | [],_,_,_,_,_=>(fun z hz=>by simp at hz)
 | _::_,[],_,_,_,_=>(fun z hz=>by simp at hz)
 | h::hs,x::xs,B,h1,h2,hB=>fun z hz=>by
   rw[List.zipWith_cons_cons] at hz
   rcases List.mem_cons.mp hz with rfl | hz
   . obtain ⟨a1,a2⟩:=h1 h List.mem_cons_self
     obtain ⟨b1,b2⟩:=h2 x List.mem_cons_self
     have c1:h*x<=h*B:=Int.mul_le_mul_of_nonneg_left b2 (by omega)
     have c2:h*B<=20*B:=Int.mul_le_mul_of_nonneg_right a2 hB
     have c3:h * -B<=h*x:=Int.mul_le_mul_of_nonneg_left b1 (by omega)
     have c4:h * -B = -(h*B):=Int.mul_neg h B
     omega
   . exact zD1 (fun y hy=>h1 y (List.mem_cons_of_mem _ hy)) (fun y hy=>h2 y (List.mem_cons_of_mem _ hy)) hB z hz
theorem tilt_fits {n r lim:Int} {hs xs:List Int} (ok:zf6 n r hs lim) (V0:zh0 n r hs.length xs):PySem.SumFits (List.zipWith (fun h x=>h*x) hs xs):=by
 refine PyProof.Rows.sumFits_of_bound (B:=80) (n:=5) (by decide) (fun z hz=>?_) ?_ (by decide)
 . have:=zD1 (B:=4) ok.h (fun x hx=>by have:=V0.on x hx;have:=ok.n2;omega) (by decide) z hz
   omega
 . rw[List.length_zipWith]
   have:=ok.w
   omega
noncomputable def zF0 (K:W.Frag) (t:Adr):Sp:=fun vs H Q _=>∃ (b a:Addr) (n r lim:Int) (hs xs:List Int),vs=[.ref b,.ref a]/\zn4 t H b n r hs lim/\zh0 n r hs.length xs ∧
 (SqL K H a (xs.map V.int)\/H a=some (.tup (xs.map V.int)))/\∀ H',Same H H'->Q (.int (zd8 hs xs)) H'
noncomputable def zS1 (K:W.Frag) (t:Adr):Sp:=fun vs H Q _=>∃ (b a:Addr) (n r lim:Int) (hs xs:List Int),vs=[.ref b,.ref a]/\zn4 t H b n r hs lim/\zh0 n r hs.length xs ∧
 (SqL K H a (xs.map V.int)\/H a=some (.tup (xs.map V.int)))/\∀ H',Same H H'->Q (.str (zq7 (zd8 hs xs))) H'
noncomputable def zN4 (K:W.Frag) (t:Adr):Sp:=fun vs H Q _=>∃ (b a:Addr) (n r lim:Int) (hs xs:List Int),vs=[.ref b,.ref a]/\zn4 t H b n r hs lim/\zh0 n r hs.length xs ∧
 (SqL K H a (xs.map V.int)\/H a=some (.tup (xs.map V.int)))/\∀ H',Same H H'->Q (.bl (decide (absI (zd8 hs xs)<=lim))) H'
theorem zL5 (T:Txt K mg t):FnOk P w K mg base CX0 5 t.a_tilt t.d_tilt ["beam","standing"] (zF0 K t):=by
 have G_as_standing:FnOk P w K mg base (CXE P w) 4 t.a_as_standing t.d_as_standing ["beam","standing"] (zl5 K t):=zq6 T
 refine T.F_tilt.ok zR5 (fun vs H Q E h=>?_) (fun cdv A outer s H vs Q E hr h=>?_)
 . obtain ⟨b,a,n,r,lim,hs,xs,rfl,B,V0,hS,q⟩:=h
   rfl
 . obtain ⟨b,a,n,r,lim,hs,xs,rfl,B,V0,hS,q⟩:=h
   have hr_as_standing:Room 4 _:=hr.mono (by decide)
   refine⟨_,(za1 (zb5 (i:=2) zR5.nd rfl (Or.inl rfl) (zb1 G_as_standing hr_as_standing rfl T.m_as_standing T.k_as_standing T.b_as_standing .nil passesN (za0 (pv 0) (za0 (pv 1) za2))))
     (za6 (zb9 (zc0 (call_sum rfl) rfl T.n_sum PyProof.Rows.boot_sum (za0 (zE7 rfl zC7 (pi_zip rfl T.n_zip (za0 (zp9 (pv 0) rfl) (za0 (pv 2) za2))) (fun _ _ _ _ _=>(pg_tupK (n:=2) K rfl rfl (zi1 (zd4 (i:=0) zC7.nd rfl (Or.inl rfl)) (zi1 (zd4 (i:=1) zC7.nd rfl (Or.inl rfl)) zE5)))) (fun _ _ _ _ _=>zq1) (fun _ _ _ _ _=>(zb2 zv2 (pv 0) (pv 1)))) za2))))),?_⟩
   refine⟨_,rfl,_,rfl,b,a,n,r,lim,hs,xs,rfl,B,hS,fun _ l H1 s1 hl=>?_,fun z=>absurd V0 z⟩
   have ok:=B.1
   obtain ⟨_,dx,h,hb,hh⟩:=B.same s1
   refine⟨_,rfl,b,_,dx,_,_,rfl,hb,T.cl_Beam,T.na_Beam_hefts,zS0 _ _ _ _,_,rfl,h,l,_,_,rfl,hh,hl,fun D hD=>?_⟩
   refine comp_zip (f:=mulV) (rest:=[]) hh hl (by rw[List.length_map,List.length_map,V0.len]) hD (Nat.le_of_lt (zg1 (by rw[List.length_map];have:=ok.w;omega))) (fun i x y H' R hx hy s2 h=>?_) (fun H' s2 hd=>?_)
   . obtain ⟨u,rfl,hu⟩:=zz7 hx
     obtain ⟨v,rfl,hv⟩:=zz7 hy
     have:=ok.h u (List.mem_of_getElem? hu)
     exact⟨_,rfl,_,rfl,_,_,rfl,rfl,.inl ⟨by omega,by omega⟩,h⟩
   . rw[zN3] at hd
     exact⟨D,_,rfl,SqL.of hd,tilt_fits ok V0,q H' (s1.trans s2)⟩
theorem not_past (a lim:Int):(!decide (lim<a))=decide (a<=lim):=by
 by_cases h:lim<a
 . rw[decide_eq_true h,decide_eq_false (by omega)];rfl
 . rw[decide_eq_false h,decide_eq_true (by omega)];rfl
noncomputable def zS2 (K:W.Frag) (t:Adr):Sp:=fun vs H Q _=>∃ (b:Addr) (n r lim:Int) (hs:List Int) (z:Int),vs=[.ref b,.int z]/\zn4 t H b n r hs lim/\Q (.bl (decide (lim<absI z))) H
theorem ok_past (T:Txt K mg t):FnOk P w K mg base CX0 1 t.a_past t.d_past ["beam","tipped"] (zS2 K t):=by
 refine T.F_past.ok sc_past (fun vs H Q E h=>?_) (fun cdv A outer s H vs Q E hr h=>?_)
 . obtain ⟨b,n,r,lim,hs,z,rfl,B,q⟩:=h
   rfl
 . obtain ⟨b,n,r,lim,hs,z,rfl,B,q⟩:=h
   refine⟨_,(za6 (zb9 (zg6 zl7 (zc0 zF7 rfl T.n_abs PyProof.Rows.boot_abs (za0 (pv 1) za2)) (zp9 (pv 0) rfl) (zb4 _)))),?_⟩
   obtain ⟨_,dx,h,hb,hh⟩:=B
   exact⟨_,rfl,_,rfl,_,rfl,b,_,dx,_,_,rfl,hb,T.cl_Beam,T.na_Beam_limit,b_limit _ _ _ _,_,_,rfl,rfl,q⟩
theorem ok_side (T:Txt K mg t):FnOk P w K mg base CX0 6 t.a_side t.d_side ["beam","standing"] (zS1 K t):=by
 have G_tilt:FnOk P w K mg base CX0 5 t.a_tilt t.d_tilt ["beam","standing"] (zF0 K t):=zL5 T
 refine T.F_side.ok zR6 (fun vs H Q E h=>?_) (fun cdv A outer s H vs Q E hr h=>?_)
 . obtain ⟨b,a,n,r,lim,hs,xs,rfl,B,V0,hS,q⟩:=h
   rfl
 . obtain ⟨b,a,n,r,lim,hs,xs,rfl,B,V0,hS,q⟩:=h
   have hr_tilt:Room 5 _:=hr.mono (by decide)
   refine⟨_,(za1 (zb5 (i:=2) zR6.nd rfl (Or.inl rfl) (zb1 G_tilt hr_tilt rfl T.m_tilt T.k_tilt T.b_tilt .nil zc4 (za0 (pv 0) (za0 (pv 1) za2))))
     (za1 (zc8 (zb3 zy5 (pv 2) za3 (zb4 _)) (za6 (zb9 zb0)) zb6)
     (za1 (zc8 (zb3 zl7 (pv 2) za3 (zb4 _)) (za6 (zb9 zb0)) zb6)
     (za6 (zb9 zb0))))),?_⟩
   refine⟨_,rfl,_,rfl,b,a,n,r,lim,hs,xs,rfl,B,V0,hS,fun H1 s1=>?_⟩
   have q1:=q H1 s1
   unfold zq7 at q1
   refine⟨_,rfl,_,_,rfl,rfl,_,rfl,?_⟩
   refine ite2 (fun h1=>?_) (fun h1=>?_)
   . rw[if_pos (of_decide_eq_true h1)] at q1
     exact q1
   . rw[if_neg (fun z=>h1 (decide_eq_true z))] at q1
     refine⟨_,rfl,_,_,rfl,rfl,_,rfl,?_⟩
     refine ite2 (fun h2=>?_) (fun h2=>?_)
     . rw[if_pos (of_decide_eq_true h2)] at q1
       exact q1
     . rw[if_neg (fun z=>h2 (decide_eq_true z))] at q1
       exact q1
theorem ok_keeps (T:Txt K mg t):FnOk P w K mg base CX0 6 t.a_keeps t.d_keeps ["beam","standing"] (zN4 K t):=by
 have G_past:FnOk P w K mg base CX0 1 t.a_past t.d_past ["beam","tipped"] (zS2 K t):=ok_past T
 have G_tilt:FnOk P w K mg base CX0 5 t.a_tilt t.d_tilt ["beam","standing"] (zF0 K t):=zL5 T
 refine T.F_keeps.ok sc_keeps (fun vs H Q E h=>?_) (fun cdv A outer s H vs Q E hr h=>?_)
 . obtain ⟨b,a,n,r,lim,hs,xs,rfl,B,V0,hS,q⟩:=h
   rfl
 . obtain ⟨b,a,n,r,lim,hs,xs,rfl,B,V0,hS,q⟩:=h
   have hr_past:Room 1 _:=hr.mono (by decide)
   have hr_tilt:Room 5 _:=hr.mono (by decide)
   refine⟨_,(za6 (zb9 (pe_not (zb1 G_past hr_past rfl T.m_past T.k_past T.b_past .nil zc4 (za0 (pv 0) (za0 (zb1 G_tilt hr_tilt rfl T.m_tilt T.k_tilt T.b_tilt .nil zc4 (za0 (pv 0) (za0 (pv 1) za2))) za2)))))),?_⟩
   refine⟨_,rfl,_,rfl,_,rfl,b,a,n,r,lim,hs,xs,rfl,B,V0,hS,fun H1 s1=>⟨b,n,r,lim,hs,_,rfl,B.same s1,_,rfl,?_⟩⟩
   rw[not_past]
   exact q H1 s1
open NumText in
noncomputable def Asc (z:Str):Prop:=∀ c∈z.cps.toList,c<128
theorem Asc.app {a b:Str} (ha:Asc a) (hb:Asc b):Asc (a++b):=fun c hc=>by
 rw[zo6] at hc
 rcases List.mem_append.mp hc with h | h
 . exact ha c h
 . exact hb c h
theorem sl_mem {x:Str} {l u:Option Int} {c:Nat} (h:c∈(Txt.slice x l u).cps.toList):c∈x.cps.toList:=by
 unfold Txt.slice at h
 split at h
 . exact h
 . rw[List.toList_toArray] at h
   obtain ⟨i,_,hi⟩:=List.mem_filterMap.mp h
   have:x.cps.toList[i]?=some c:=by simpa using hi
   exact List.mem_of_getElem? this
theorem Asc.sl {x:Str} {l u:Option Int} (h:Asc x):Asc (Txt.slice x l u):=fun c hc=>h c (sl_mem hc)
theorem sl_from {x:Str} {i:Int} (h0:0<=i):(Txt.slice x (some i) none).cps.toList=x.cps.toList.drop i.toNat:=by
 have hl:x.cps.toList.length=x.length:=by simp[Str.length]
 by_cases h:i<=x.length
 . rw[PyProof.Rows.slice_from_eq (b:=(x.length:Int)) h0 h rfl,List.toList_toArray]
   exact List.take_of_length_le (by rw[List.length_drop];omega)
 . rw[PyProof.Rows.slice_beyond (by omega),List.drop_eq_nil_of_le (by omega)]
   rfl
theorem zU6 (x:Str):(Txt.slice x none (some 1)).cps.toList=x.cps.toList.take 1:=by
 have hl:x.cps.toList.length=x.length:=by simp[Str.length]
 by_cases h:1<=x.length
 . have e:=beq_iff_eq.mp (PyProof.Rows.slice_closes_to (x:=x) (j:=1) ⟨by decide,by omega⟩)
   rw[e]
   simp
 . have h1:=Txt.slice_le x none (some 1)
   have h2:(Txt.slice x none (some 1)).cps.toList.length=(Txt.slice x none (some 1)).length:=by simp[Str.length]
   rw[List.eq_nil_of_length_eq_zero (show (Txt.slice x none (some 1)).cps.toList.length=0 by omega),List.eq_nil_of_length_eq_zero (show x.cps.toList.length=0 by omega)]
   rfl
theorem zL6 (z:Str) (c:Nat):Txt.startswith z ⟨#[c]⟩=decide (z.cps.toList[0]?=some c):=by
 have h:=StrLaws.subAt_one z c 0
 unfold Txt.startswith
 by_cases e:z.cps.toList[0]?=some c
 . obtain ⟨h1,h2⟩:=h.mpr e
   rw[decide_eq_true e,decide_eq_true h1,h2]
   rfl
 . rw[decide_eq_false e]
   cases h3:(decide (0+(⟨#[c]⟩:Str).length<=z.length) && Builtin.Str.subAt z ⟨#[c]⟩ 0) with
   | false=>rfl
   | true =>
     rw[Bool.and_eq_true] at h3
     exact absurd (h.mp ⟨of_decide_eq_true h3.1,h3.2⟩) e
theorem zS3:Str.ofString "0" = ⟨#[48]⟩:=by decide
theorem minus1:Str.ofString "-" = ⟨#[45]⟩:=by decide
theorem zL7 {z:Str} {c:Nat}:z=⟨#[c]⟩↔z.cps.toList=[c]:=⟨fun e=>by rw[e],fun e=>zu0 (by rw[e])⟩
theorem zJ2 {z:Str} (h:Asc z):Txt.isdigit z=true↔(z.cps.toList≠[]/\NumText.AllDigits z.cps.toList):=by
 unfold Txt.isdigit
 have hl:z.cps.toList.length=z.length:=by simp[Str.length]
 have key:∀ c,c<128->(Unicode.isDigit c=true↔48<=c/\c<=57):=by decide +kernel
 rw[Bool.and_eq_true,decide_eq_true_iff,<-Array.all_toList,List.all_eq_true]
 constructor
 . rintro⟨h1,h2⟩
   exact⟨fun e=>by rw[e] at hl;simp at hl;omega,fun c hc=>(key c (h c hc)).mp (h2 c hc)⟩
 . rintro⟨h1,h2⟩
   refine⟨?_,fun c hc=>(key c (h c hc)).mpr (h2 c hc)⟩
   rcases Nat.eq_zero_or_pos z.length with e | e
   . exact absurd (List.eq_nil_of_length_eq_zero (by omega)) h1
   . exact e
theorem zp8 {z:Str}:zs1 z=true↔(1<=z.length/\z.length<=4/\NumText.AllDigits z.cps.toList/\(1<z.length->z.cps.toList[0]?≠some 48)):=by
 have hl:z.cps.toList.length=z.length:=by simp[Str.length]
 constructor
 . intro h
   obtain ⟨h1,h2,h3⟩:=zu1 h
   refine⟨?_,h3,h1,fun h4 h5=>?_⟩
   . rcases Nat.eq_zero_or_pos z.length with e | e
     . exact absurd (List.eq_nil_of_length_eq_zero (by omega)) h2
     . exact e
   . unfold zs1 at h
     rw[zS3,zL6,decide_eq_true h5,if_pos rfl] at h
     have:=of_decide_eq_true h
     rw[this] at h4
     exact absurd h4 (by decide)
 . rintro⟨h1,h2,h3,h4⟩
   unfold zs1
   rw[zS3,zL6]
   by_cases e:z.cps.toList[0]?=some 48
   . rw[decide_eq_true e,if_pos rfl]
     refine decide_eq_true (zL7.mpr ?_)
     have hl1:z.cps.toList.length=1:=by
       rcases Nat.lt_or_ge 1 z.length with h | h
       . exact absurd e (h4 h)
       . omega
     match hz:z.cps.toList,hl1,e with
     | [a],_,e=>simpa using e
   . rw[decide_eq_false e,if_neg Bool.false_ne_true,if_neg (by omega),List.all_eq_true]
     exact fun c hc=>decide_eq_true (h3 c hc)
theorem zG4 {z:Str} {n:Int} (h:ze4 z=some n):0<=n/\zs1 z=true/\n=((NumText.digitsVal z.cps.toList:Nat):Int):=by
 unfold ze4 at h
 split at h
 . rename_i h1
   injection h with h
   exact⟨by omega,h1,h.symm⟩
 . cases h
theorem zN5 {y:Str} {c:Nat}:∀ {ws:List Str} {p:Str},p∈ws->c∈p.cps.toList->c∈(Str.join y ws).cps.toList
 | [],_,h,_=>nomatch h
 | [a],p,h,hc=>by
   obtain rfl:=List.mem_singleton.mp h
   exact hc
 | a::b::r,p,h,hc=>by
   show c∈((a++y)++Str.join y (b::r)).cps.toList
   rw[zo6,zo6]
   rcases List.mem_cons.mp h with rfl | h
   . exact List.mem_append_left _ (List.mem_append_left _ hc)
   . exact List.mem_append_right _ (zN5 h hc)
theorem Asc.part {z y p:Str} (h:Asc z) (hp:p∈Txt.split z y):Asc p:=fun c hc=>by
 have:=zN5 (y:=y) hp hc
 rw[StrLaws.join_split] at this
 exact h c this
theorem zN6 {y:Str} (hy:Asc y):∀ {ws:List Str},(∀ w∈ws,Asc w)->Asc (Str.join y ws)
 | [],_=>fun c hc=>by cases hc
 | [a],h=>h a (List.mem_singleton.mpr rfl)
 | a::b::r,h=>by
   show Asc ((a++y)++Str.join y (b::r))
   exact ((h a List.mem_cons_self).app hy).app (zN6 hy fun w hw=>h w (List.mem_cons_of_mem _ hw))
theorem zS4 (z:Str):Txt.slice z (some 0) none=z:=zu0 (by rw[sl_from (by decide)];rfl)
theorem one_minus (z:Str):decide (V.str (Txt.slice z none (some 1))=V.str (Str.ofString "-"))=Txt.startswith z (Str.ofString "-"):=by
 rw[minus1,zL6]
 have e:(V.str (Txt.slice z none (some 1))=V.str ⟨#[45]⟩)↔z.cps.toList[0]?=some 45:=by
   constructor
   . intro h
     injection h with h
     rw[zL7,zU6] at h
     cases hz:z.cps.toList with
     | nil=>rw[hz] at h;cases h
     | cons a r=>rw[hz] at h;simpa using h
   . intro h
     congr 1
     rw[zL7,zU6]
     cases hz:z.cps.toList with
     | nil=>rw[hz] at h;cases h
     | cons a r=>rw[hz] at h;simpa using h
 by_cases h:z.cps.toList[0]?=some 45
 . rw[decide_eq_true h,decide_eq_true (e.mpr h)]
 . rw[decide_eq_false h,decide_eq_false fun z=>h (e.mp z)]
noncomputable def zN7 (K:W.Frag) (t:Adr):Sp:=fun vs H Q _=>∃ i:Int,vs=[.int i]/\i.natAbs<=100000/\Q (.str (zl3 i)) H
noncomputable def zB4 (K:W.Frag) (t:Adr):Sp:=fun vs H Q _=>∃ z:Str,vs=[.str z]/\z.length<=1000000/\∀ H',Same H H'->Q (.bl (zs1 z)) H'
noncomputable def zl6 (K:W.Frag) (t:Adr):Sp:=fun vs H Q E=>∃ z:Str,vs=[.str z]/\z.length<=1000000/\(∀ n,ze4 z=some n->∀ H',Same H H'->Q (.int n) H')/\(ze4 z=none->∀ H',Same H H'->E (.ref t.c_BadText) none H')
noncomputable def zz0 (K:W.Frag) (t:Adr):Sp:=fun vs H Q E=>∃ z:Str,vs=[.str z]/\z.length<=1000000/\(∀ n,zm7 z=some n->∀ H',Same H H'->Q (.int n) H')/\(zm7 z=none->∀ H',Same H H'->E (.ref t.c_BadText) none H')
theorem zh9 {i:Int} (h:i.natAbs<=100000):i.natAbs.log2<1920:=by
 by_cases h0:i.natAbs=0
 . rw[h0];decide
 . have:i.natAbs.log2<17:=(Nat.log2_lt h0).mpr (by omega)
   omega
theorem zj3 {n:Nat} (h:n<=1000000):n<=sizeLine:=Nat.le_trans h (by decide)
theorem ok_w_say (T:Txt K mg t):FnOk P w K mg base CX0 1 t.a_w_say t.d_w_say ["_law_place"] (zN7 K t):=by
 refine T.F_w_say.ok sc_w_say (fun vs H Q E h=>?_) (fun cdv A outer s H vs Q E hr h=>?_)
 . obtain ⟨i,rfl,hi,q⟩:=h
   rfl
 . obtain ⟨i,rfl,hi,q⟩:=h
   refine⟨_,(za1 (zc8 (zb3 zf0 (pv 0) za3 (zb4 _)) (za6 (zb9 zb0)) zb6)
     (za6 (zb9 (ze7 zf7 rfl T.n_str PyProof.Rows.boot_str (za0 (pv 0) za2))))),?_⟩
   refine⟨_,rfl,rfl,_,rfl,?_⟩
   unfold zl3 at q
   refine ite2 (fun h1=>?_) (fun h1=>?_)
   . have e:i=0:=by simpa using h1
     rw[if_pos e] at q
     exact q
   . have e:i≠0:=by simpa using h1
     rw[if_neg e] at q
     exact⟨_,rfl,i,rfl,zh9 hi,q⟩
theorem ok_is_number (T:Txt K mg t):FnOk P w K mg base CX0 1 t.a_is_number t.d_is_number ["text"] (zB4 K t):=by
 refine T.F_is_number.ok sc_is_number (fun vs H Q E h=>?_) (fun cdv A outer s H vs Q E hr h=>?_)
 . obtain ⟨z,rfl,hz,q⟩:=h
   rfl
 . obtain ⟨z,rfl,hz,q⟩:=h
   refine⟨_,(za1 (zc8 (zi9 (zk0 PySem.F.plainAttrs_str PySem.F.slot_str_startswith PySem.F.type_str_startswith zI5 (pv 0) (za0 zb0 za2))) (za6 (zb9 (zg6 zf0 (pv 0) zb0 (zb4 _)))) zb6)
     (za1 (zc8 (PW.pt (zr0 (zb3 zf0 (zc0 zg7 rfl T.n_len PySem.boot_len (za0 (pv 0) za2)) za3 (zb4 _)) (zr5 (zb3 zl7 (zc0 zg7 rfl T.n_len PySem.boot_len (za0 (pv 0) za2)) (zq9 (v:=.int 4) rfl T.g_MOST_FIGURES ⟨_,rfl⟩) (zb4 _))))) (za6 (zb9 zy4)) zb6)
     (za6 (zb9 (zc0 (call_all rfl) rfl T.n_all PyProof.Rows.boot_all (za0 (zE7 rfl zw5 (pi_str (pv 0)) (fun _ _ _ _ _=>(zd4 (i:=0) zw5.nd rfl (Or.inl rfl))) (fun _ _ _ _ _=>zq1) (fun _ _ _ _ _=>(zg6 op_in_str (pv 0) (zq9 (v:=.str (Str.ofString "0123456789")) rfl T.g_FIGURES ⟨_,rfl⟩) rfl))) za2)))))),?_⟩
   refine⟨_,rfl,rfl,_,_,rfl,rfl,_,rfl,?_⟩
   unfold zs1 at q
   refine ite2 (fun h1=>?_) (fun h1=>?_)
   . simp only[h1,if_true] at q
     refine⟨_,rfl,rfl,?_⟩
     have:=q H (Same.refl _)
     have e:decide (V.str z=V.str (Str.ofString "0"))=decide (z=Str.ofString "0"):=by
       by_cases h:z=Str.ofString "0"
       . rw[decide_eq_true h,decide_eq_true (by rw[h])]
       . rw[decide_eq_false h,decide_eq_false (fun z=>h (by injection z))]
     rw[e]
     exact this
   . have e1:Txt.startswith z (Str.ofString "0")=false:=Bool.eq_false_iff.mpr h1
     simp only[e1,Bool.false_eq_true,if_false] at q
     refine⟨_,rfl,_,rfl,zj3 hz,rfl,_,rfl,?_⟩
     refine ite2 (fun h2=>?_) (fun h2=>?_)
     . have e2:z.length=0\/4<z.length:=.inl (by simpa using h2)
       rw[if_pos e2] at q
       exact iteT (q H (Same.refl _))
     . have n0:¬ z.length=0:=by simpa using h2
       refine⟨_,rfl,_,rfl,zj3 hz,_,_,rfl,rfl,_,rfl,?_⟩
       refine ite2 (fun h3=>?_) (fun h3=>?_)
       . have e2:z.length=0\/4<z.length:=.inr (by have:=of_decide_eq_true h3;omega)
         rw[if_pos e2] at q
         exact q H (Same.refl _)
       . have n4:¬ 4<z.length:=fun h=>h3 (decide_eq_true (by omega))
         rw[if_neg (by omega)] at q
         refine⟨_,rfl,_,rfl,fun D hD=>?_⟩
         refine comp_str (f:=fun c=>V.bl (decide (48<=c/\c<=57))) (zj3 hz) (fun c acc R hc h=>?_) ?_
         . refine⟨_,rfl,_,_,rfl,rfl,?_⟩
           rw[fig_in]
           exact h
         . refine⟨D,z.cps.toList.map fun c=>decide (48<=c/\c<=57),rfl,SqL.of (by rw[za5,List.map_map];rfl),?_⟩
           have:=q _ (Same.upd (o:=.lst (z.cps.toList.map fun c=>V.bl (decide (48<=c/\c<=57)))) hD)
           rw[List.all_map]
           exact this
theorem zq8 (T:Txt K mg t):FnOk P w K mg base (CXE P w) 4 t.a_read_number t.d_read_number ["text"] (zl6 K t):=by
 have G_is_number:FnOk P w K mg base CX0 1 t.a_is_number t.d_is_number ["text"] (zB4 K t):=ok_is_number T
 have G_BadText_init:FnOk P w K mg base CX0 2 t.a_BadText_init t.d_BadText_init ["self","reason"] (zi2 K t):=zk3 T
 refine T.F_read_number.d.okE sc_read_number (fun vs H Q E h=>?_) (fun cdv A outer s H vs Q E hr h=>?_)
 . obtain ⟨z,rfl,hz,q,qe⟩:=h
   rfl
 . obtain ⟨z,rfl,hz,q,qe⟩:=h
   have hr_is_number:Room 1 _:=hr.mono (by decide)
   have hr_BadText:Room 3 _:=hr.mono (by decide)
   refine⟨_,(za1 (zc8 (zz3 (zi9 (zb1 G_is_number hr_is_number rfl T.m_is_number T.k_is_number T.b_is_number .nil zc4 (za0 (pv 0) za2)))) (za6 (zg8 zf1 rfl T.x_BadText T.i_BadText T.if_BadText G_BadText_init hr_BadText rfl T.m_BadText T.b_BadText_init .nil zc4 (za0 zb0 za2))) zb6)
     (za6 (zb9 (ze7 zy8 rfl T.n_int PyProof.Rows.boot_int (za0 (pv 0) za2))))),?_⟩
   refine⟨_,rfl,_,rfl,hz,fun H1 s1=>⟨_,rfl,?_⟩⟩
   refine ite2 (fun h1=>?_) (fun h1=>?_)
   . have hn:ze4 z=none:=by
       unfold ze4
       rw[if_neg (by simpa using h1)]
     exact⟨(by show 1<=sizeLine;decide),fun x fx=>⟨x,_,rfl,za5,fun H' dy hx hd sx=>⟨rfl,some dy,hx,qe hn _ (Same.raised s1 fx sx)⟩⟩⟩
   . have h2:zs1 z=true:=by simpa using h1
     have hn:ze4 z=some ((NumText.digitsVal z.cps.toList:Nat):Int):=by
       unfold ze4
       rw[if_pos h2]
     exact⟨_,rfl,_,_,rfl,zI6 h2,by have:=(zu1 h2).2.2;omega,q _ hn _ s1⟩
theorem ok_read_place (T:Txt K mg t):FnOk P w K mg base (CXE P w) 5 t.a_read_place t.d_read_place ["text"] (zz0 K t):=by
 have G_read_number:FnOk P w K mg base (CXE P w) 4 t.a_read_number t.d_read_number ["text"] (zl6 K t):=zq8 T
 have G_BadText_init:FnOk P w K mg base CX0 2 t.a_BadText_init t.d_BadText_init ["self","reason"] (zi2 K t):=zk3 T
 refine T.F_read_place.d.okE zr6 (fun vs H Q E h=>?_) (fun cdv A outer s H vs Q E hr h=>?_)
 . obtain ⟨z,rfl,hz,q,qe⟩:=h
   rfl
 . obtain ⟨z,rfl,hz,q,qe⟩:=h
   have hr_read_number:Room 4 _:=hr.mono (by decide)
   have hr_BadText:Room 3 _:=hr.mono (by decide)
   refine⟨_,(za1 (zc8 (zb3 zf0 (pv 0) zb0 (zb4 _)) (za6 (zb9 za3)) zb6)
     (za1 (zb5 (i:=1) zr6.nd rfl (Or.inl rfl) (zk0 PySem.F.plainAttrs_str PySem.F.slot_str_startswith PySem.F.type_str_startswith zI5 (pv 0) (za0 zb0 za2)))
     (za1 (zb5 (i:=2) zr6.nd rfl (Or.inl rfl) (zb1 G_read_number hr_read_number rfl T.m_read_number T.k_read_number T.b_read_number .nil zd9 (za0 (zM0 (zi9 (pv 1)) (ze3 zt9 (pv 0) (zf9 za3) zf8) (pv 0)) za2)))
     (za1 (zc8 (zb3 zf0 (pv 2) za3 (zb4 _)) (za6 (zg8 zf1 rfl T.x_BadText T.i_BadText T.if_BadText G_BadText_init hr_BadText rfl T.m_BadText T.b_BadText_init .nil zc4 (za0 zb0 za2))) zb6)
     (za6 (zb9 (zM0 (zi9 (pv 1)) (zM1 zF6 (pv 2)) (pv 2)))))))),?_⟩
   refine⟨_,rfl,rfl,_,rfl,?_⟩
   unfold zm7 at q qe
   refine ite2 (fun h1=>?_) (fun h1=>?_)
   . have e:z=Str.ofString "tray":=by simpa using h1
     exact q 0 (by rw[if_pos e]) _ (Same.refl _)
   . have e:¬ z=Str.ofString "tray":=by simpa using h1
     rw[if_neg e] at qe
     have q':=fun n h=>q n (by rw[if_neg e];exact h)
     clear q
     refine⟨_,rfl,rfl,_,_,rfl,rfl,_,rfl,_,rfl,?_⟩
     refine ite2 (fun h2=>?_) (fun h2=>?_)
     . simp only[h2,if_true] at q' qe
       refine⟨_,rfl,_,rfl,z,rfl,zj3 hz,_,rfl,Nat.le_trans (Txt.slice_le z _ _) hz,fun m hm H1 s1=>?_,fun hm H1 s1=>qe (by rw[hm]) H1 s1⟩
       rw[hm] at qe
       refine⟨_,rfl,rfl,_,rfl,?_⟩
       refine ite2 (fun h3=>?_) (fun h3=>?_)
       . have e0:m=0:=by simpa using h3
         exact⟨(by show 1<=sizeLine;decide),fun x fx=>⟨x,_,rfl,za5,fun H' dy hx hd sx=>⟨rfl,some dy,hx,qe (by simp[e0]) _ (Same.raised s1 fx sx)⟩⟩⟩
       . have e0:m≠0:=by simpa using h3
         exact⟨_,rfl,_,rfl,iteA h2 ⟨_,rfl,_,rfl,q' (-m) (by rw[hm];simp[e0]) _ s1⟩⟩
     . have e2:Txt.startswith z (Str.ofString "-")=false:=Bool.eq_false_iff.mpr h2
       simp only[e2,Bool.false_eq_true,if_false] at q' qe
       refine⟨_,rfl,_,rfl,hz,fun m hm H1 s1=>?_,fun hm H1 s1=>qe (by rw[hm]) H1 s1⟩
       rw[hm] at qe
       refine⟨_,rfl,rfl,_,rfl,?_⟩
       refine ite2 (fun h3=>?_) (fun h3=>?_)
       . have e0:m=0:=by simpa using h3
         exact⟨(by show 1<=sizeLine;decide),fun x fx=>⟨x,_,rfl,za5,fun H' dy hx hd sx=>⟨rfl,some dy,hx,qe (by simp[e0]) _ (Same.raised s1 fx sx)⟩⟩⟩
       . have e0:m≠0:=by simpa using h3
         exact⟨_,rfl,_,rfl,iteB e2 ⟨_,rfl,q' m (by rw[hm];simp[e0]) _ s1⟩⟩
end
end Bt
namespace Bt
open PySem L2
section
variable {P:Program} {w:World} {K:W.Frag} {mg:Str->Option Value} {base:Heap} {t:Adr}
noncomputable def wb (front:Str) (k:Nat) (row:Str):Option (List Str):=match Txt.split row (Str.ofString " ") with
 | w::ws=>if w=front/\ws.length=k then some ws else none
 | []=>none
noncomputable def fldN (front row:Str):Option Int:=match wb front 1 row with
 | some [a]=>ze4 a
 | _=>none
noncomputable def rdW (row:Str):Option (Int×Int):=match wb (Str.ofString "weight") 2 row with
 | some [a,b]=>match ze4 a,zm7 b with
   | some h,some x=>some (h,x)
   | _,_=>none
 | _=>none
noncomputable def allW:List Str->Option (List (Int×Int))
 | []=>some []
 | w::ws=>match rdW w,allW ws with
   | some x,some xs=>some (x::xs)
   | _,_=>none
noncomputable def zj4:List Str->Option (Int×Int×Int×List (Int×Int))
 | z0::z1::z2::zs=>(fldN (Str.ofString "notches") z0).bind fun n=>(fldN (Str.ofString "room") z1).bind fun r=>(fldN (Str.ofString "limit") z2).bind fun l=>(allW zs).bind fun ws=>some (n,r,l,ws)
 | _=>none
noncomputable def rdB (z:Str):Option (Int×Int×Int×List (Int×Int)):=zj4 (Txt.split z (Str.ofString "\n"))
theorem rdRows_short:∀ {rows:List Str},rows.length<3->zj4 rows=none
 | [],_=>rfl
 | [_],_=>rfl
 | [_,_],_=>rfl
 | _::_::_::_,h=>by simp only[List.length_cons] at h;omega
theorem zU7 {front row:Str} {k:Nat} {ws:List Str} (h:wb front k row=some ws):ws.length=k/\Txt.split row (Str.ofString " ")=front::ws:=by
 unfold wb at h
 split at h
 . rename_i w r e
   split at h
   . rename_i c
     injection h with h
     subst h
     exact⟨c.2,by rw[e,c.1]⟩
   . cases h
 . cases h
theorem zL8 {front row:Str} {ws:List Str} (h:wb front 1 row=some ws):∃ a,ws=[a]/\fldN front row=ze4 a/\a∈Txt.split row (Str.ofString " "):=by
 obtain ⟨hl,hsp⟩:=zU7 h
 match ws,hl with
 | [a],_=>exact⟨a,rfl,by unfold fldN;rw[h],by rw[hsp];simp⟩
theorem zy0 {front row:Str} (h:wb front 1 row=none):fldN front row=none:=by unfold fldN;rw[h]
theorem zJ3 {ws:List Str} {i:Nat} {w:Str} (h:ws[i]?=some w) (e:rdW w=none):allW ws=none:=by
 induction ws generalizing i with
 | nil=>simp at h
 | cons x r ih =>
   cases i with
   | zero =>
     obtain rfl:x=w:=by simpa using h
     simp[allW,e]
   | succ i=>simp[allW,ih (i:=i) (by simpa using h)]
theorem zJ4:∀ {ws:List Str} {xs:List (Int×Int)},ws.map rdW=xs.map some->allW ws=some xs
 | [],[],_=>rfl
 | [],_::_,h=>by simp at h
 | _::_,[],h=>by simp at h
 | w::ws,x::xs,h=>by
   injection h with h1 h2
   simp[allW,h1,zJ4 h2]
noncomputable def BT (t:Adr) (H:Hp) (E:XK):Prop:=∀ H',Same H H'->E (.ref t.c_BadText) none H'
noncomputable def zn6 (K:W.Frag) (t:Adr):Sp:=fun vs H Q E=>∃ (front row:Str) (k:Nat),vs=[.str front,.str row,.int k]/\row.length<=1000000 ∧
 (∀ ws,wb front k row=some ws->∀ l H',Same H H'->H' l=some (.lst (ws.map V.str))->Q (.ref l) H')/\(wb front k row=none->BT t H E)
noncomputable def zw8 (K:W.Frag) (t:Adr):Sp:=fun vs H Q E=>∃ row:Str,vs=[.str row]/\row.length<=1000000 ∧
 (∀ h x,rdW row=some (h,x)->∀ l H',Same H H'->H l=none->H' l=some (.tup [.int h,.int x])->Q (.ref l) H')/\(rdW row=none->BT t H E)
noncomputable def zB5 (K:W.Frag) (t:Adr):Sp:=fun vs H Q E=>∃ z:Str,vs=[.str z]/\z.length<=1000000/\(rdB z=none->BT t H E) ∧
 ∀ n r lim ws,rdB z=some (n,r,lim,ws)->(¬ zf6 n r (ws.map (·.1)) lim->∀ H',Same H H'->E (.ref t.c_BadBeam) none H')/\(zf6 n r (ws.map (·.1)) lim->¬ zh0 n r (ws.map (·.1)).length (ws.map (·.2))->∀ H',Same H H'->E (.ref t.c_BadStanding) none H') ∧
   (zf6 n r (ws.map (·.1)) lim->zh0 n r (ws.map (·.1)).length (ws.map (·.2))->∀ l b p H',Same H H'->zn4 t H' b n r (ws.map (·.1)) lim->H' p=some (.tup ((ws.map (·.2)).map V.int))->H' l=some (.tup [.ref b,.ref p])->Q (.ref l) H')
theorem cutS {α:Type} (xs:List V) (k:Nat) (hk:k<=xs.length):cutV xs (some (k:Int)) none=xs.drop k:=by
 unfold cutV
 rw[HT.sIx_nat,HT.sIx_none,Nat.min_eq_left hk,List.take_of_length_le (by rw[List.length_drop];omega)]
theorem zu8 (T:Txt K mg t):FnOk P w K mg base (CXE P w) 4 t.a_words_behind t.d_words_behind ["front","row","many"] (zn6 K t):=by
 have G_BadText_init:FnOk P w K mg base CX0 2 t.a_BadText_init t.d_BadText_init ["self","reason"] (zi2 K t):=zk3 T
 refine T.F_words_behind.d.okE zu6 (fun vs H Q E h=>?_) (fun cdv A outer s H vs Q E hr h=>?_)
 . obtain ⟨front,row,k,rfl,hz,q,qe⟩:=h
   rfl
 . obtain ⟨front,row,k,rfl,hz,q,qe⟩:=h
   have hr_BadText:Room 3 _:=hr.mono (by decide)
   refine⟨_,(za1 (zb5 (i:=3) zu6.nd rfl (Or.inl rfl) (zk0 PySem.F.plainAttrs_str PySem.F.slot_str_split PySem.F.type_str_split zo9 (pv 1) (za0 zb0 za2)))
     (za1 (zc8 (PW.pt (zr0 (zb3 zr1 (zc7 zb7 (pv 3) za3 (fun _ _=>rfl)) (pv 0) (zb4 _)) (zr5 (zb3 zr1 (zc0 zc2 rfl T.n_len PySem.boot_len (za0 (pv 3) za2)) (zb2 zi7 (pv 2) za3) (zb4 _))))) (za6 (zg8 zf1 rfl T.x_BadText T.i_BadText T.if_BadText G_BadText_init hr_BadText rfl T.m_BadText T.b_BadText_init .nil zc4 (za0 zb0 za2))) zb6)
     (za6 (zb9 (ze3 zl4 (pv 3) (zf9 za3) zf8))))),?_⟩
   refine⟨_,rfl,rfl,_,_,rfl,rfl,by decide,hz,fun l H1 s1 f1 h1=>?_⟩
   have hle:=PyProof.Rows.split_le row (Str.ofString " ")
   unfold wb at q qe
   cases hsp:Txt.split row (Str.ofString " ") with
   | nil=>exact absurd hsp (zv7 _ _)
   | cons w ws =>
     rw[hsp] at h1 q qe hle
     have bad:¬ (w=front/\ws.length=k)->BT t H E:=fun h=>qe (if_neg h)
     refine⟨_,rfl,l,_,_,V.str w,rfl,rfl,SqL.of h1,at_0,_,rfl,rfl,_,rfl,?_⟩
     have raise:¬ (w=front/\ws.length=k)->∀ y,H1 y=none->∀ H' od,H' y=some (ExcO t.c_BadText y od)->zj0 y (upd H1 y (ExcO t.c_BadText y none)) H'->E (.ref t.c_BadText) none (del H' y):=fun h y fy H' od hy sx=>bad h _ (Same.raised s1 fy sx)
     refine zN1 (R:=?R) (S:=fun H'=>H'=H1/\¬ (w=front/\ws.length=k)) (fun fin=>?main) ?fin
     case main =>
       refine ite2 (fun g1=>?ca) (fun g1=>?cb)
       case cb =>
         have g1':w=front:=by simpa using g1
         refine⟨_,rfl,l,_,rfl,.inl (SqL.of h1),_,rfl,_,_,rfl,rfl,rfl,_,rfl,?_⟩
         refine ite2 (fun g2=>?cc) (fun g2=>?cd)
         case cc =>
           refine fin H1 ⟨rfl,fun z=>?_⟩
           rw[List.length_map,List.length_cons,z.2] at g2
           simp at g2
         case cd =>
           rw[List.length_map,List.length_cons] at g2
           have g2':ws.length=k:=by simp at g2;omega
           refine⟨_,rfl,_,rfl,l,_,rfl,SqL.of h1,fun l2 H2 s2 f2 h2=>?_⟩
           have e:cutV ((w::ws).map V.str) (some 1) none=ws.map V.str:=by
             have:=cutS (α:=V) ((w::ws).map V.str) 1 (by simp)
             exact this
           rw[e] at h2
           exact q ws (if_pos ⟨g1',g2'⟩) l2 H2 (s1.trans s2) h2
       case ca =>
         refine fin H1 ⟨rfl,fun z=>?_⟩
         rw[z.1] at g1
         simp at g1
     case fin =>
       rintro H9 ⟨rfl,hb⟩
       exact⟨(by show 1<=sizeLine;decide),fun y fy=>⟨y,_,rfl,za5,fun H' dy hx hd sx=>⟨rfl,some dy,hx,raise hb y fy H' (some dy) hx sx⟩⟩⟩
theorem ok_read_weight (T:Txt K mg t):FnOk P w K mg base (CXE P w) 6 t.a_read_weight t.d_read_weight ["row"] (zw8 K t):=by
 have G_words_behind:FnOk P w K mg base (CXE P w) 4 t.a_words_behind t.d_words_behind ["front","row","many"] (zn6 K t):=zu8 T
 have G_read_number:FnOk P w K mg base (CXE P w) 4 t.a_read_number t.d_read_number ["text"] (zl6 K t):=zq8 T
 have G_read_place:FnOk P w K mg base (CXE P w) 5 t.a_read_place t.d_read_place ["text"] (zz0 K t):=ok_read_place T
 refine T.F_read_weight.d.okE zw4 (fun vs H Q E h=>?_) (fun cdv A outer s H vs Q E hr h=>?_)
 . obtain ⟨row,rfl,hz,q,qe⟩:=h
   rfl
 . obtain ⟨row,rfl,hz,q,qe⟩:=h
   have hr_words_behind:Room 4 _:=hr.mono (by decide)
   have hr_read_number:Room 4 _:=hr.mono (by decide)
   have hr_read_place:Room 5 _:=hr.mono (by decide)
   refine⟨_,(za1 (zb5 (i:=1) zw4.nd rfl (Or.inl rfl) (zb1 G_words_behind hr_words_behind rfl T.m_words_behind T.k_words_behind T.b_words_behind .nil zd9 (za0 zb0 (za0 (pv 0) (za0 za3 za2)))))
     (za6 (zb9 (zL3 (za0 (zb1 G_read_number hr_read_number rfl T.m_read_number T.k_read_number T.b_read_number .nil zd9 (za0 (zc7 zb7 (pv 1) za3 (fun _ _=>rfl)) za2)) (za0 (zb1 G_read_place hr_read_place rfl T.m_read_place T.k_read_place T.b_read_place .nil zd9 (za0 (zc7 zb7 (pv 1) za3 (fun _ _=>rfl)) za2)) za2)))))),?_⟩
   unfold rdW at q qe
   refine⟨_,rfl,_,row,2,rfl,hz,fun ws hws l H1 s1 h1=>?_,fun hn=>qe (by rw[hn])⟩
   obtain ⟨hl,hsp⟩:=zU7 hws
   obtain ⟨a,b,rfl⟩:∃ a b,ws=[a,b]:=by
     match ws,hl with
     | [a,b],_=>exact⟨a,b,rfl⟩
   rw[hws] at q qe
   have hal:a.length<=1000000:=Nat.le_trans (PyProof.Rows.part_short (x:=row) (y:=Str.ofString " ") (by rw[hsp];simp)) hz
   have hbl:b.length<=1000000:=Nat.le_trans (PyProof.Rows.part_short (x:=row) (y:=Str.ofString " ") (by rw[hsp];simp)) hz
   dsimp only at q qe
   refine⟨_,rfl,l,_,_,_,rfl,rfl,SqL.of h1,rfl,a,rfl,hal,fun h hh H2 s2=>?_,fun hn H' s'=>qe (by rw[hn]) H' (s1.trans s')⟩
   refine⟨_,rfl,l,_,_,_,rfl,rfl,SqL.of (s2 _ _ h1),rfl,b,rfl,hbl,fun x hx H3 s3=>?_,fun hn H' s'=>qe (by rw[hh,hn]) H' ((s1.trans s2).trans s')⟩
   have s13:=(s1.trans s2).trans s3
   exact⟨(by show 2<=sizeLine;decide),fun p H4 s4 f4 h4=>q h x (by rw[hh,hx]) p H4 (s13.trans s4) (s13.free f4) h4⟩
theorem ok_read_beam (T:Txt K mg t):FnOk P w K mg base (CXE P w) 7 t.a_read_beam t.d_read_beam ["text"] (zB5 K t):=by
 have G_read_number:FnOk P w K mg base (CXE P w) 4 t.a_read_number t.d_read_number ["text"] (zl6 K t):=zq8 T
 have G_Beam_init:FnOk P w K mg base (CXE P w) 5 t.a_Beam_init t.d_Beam_init ["self","notches","room","hefts","limit"] (zB2 K t):=ok_Beam_init T
 have G_BadText_init:FnOk P w K mg base CX0 2 t.a_BadText_init t.d_BadText_init ["self","reason"] (zi2 K t):=zk3 T
 have G_read_weight:FnOk P w K mg base (CXE P w) 6 t.a_read_weight t.d_read_weight ["row"] (zw8 K t):=ok_read_weight T
 have G_as_standing:FnOk P w K mg base (CXE P w) 4 t.a_as_standing t.d_as_standing ["beam","standing"] (zl5 K t):=zq6 T
 have G_words_behind:FnOk P w K mg base (CXE P w) 4 t.a_words_behind t.d_words_behind ["front","row","many"] (zn6 K t):=zu8 T
 refine T.F_read_beam.d.okE zh7 (fun vs H Q E h=>?_) (fun cdv A outer s H vs Q E hr h=>?_)
 . obtain ⟨z,rfl,hz,qe,q⟩:=h
   rfl
 . obtain ⟨z,rfl,hz,qe,q⟩:=h
   have hr_read_number:Room 4 _:=hr.mono (by decide)
   have hr_Beam:Room 6 _:=hr.mono (by decide)
   have hr_BadText:Room 3 _:=hr.mono (by decide)
   have hr_read_weight:Room 6 _:=hr.mono (by decide)
   have hr_as_standing:Room 4 _:=hr.mono (by decide)
   have hr_words_behind:Room 4 _:=hr.mono (by decide)
   refine⟨_,(za1 (zb5 (i:=1) zh7.nd rfl (Or.inl rfl) (zk0 PySem.F.plainAttrs_str PySem.F.slot_str_split PySem.F.type_str_split zo9 (pv 0) (za0 zb0 za2)))
     (za1 (zc8 (zb3 zy5 (zc0 zc2 rfl T.n_len PySem.boot_len (za0 (pv 1) za2)) za3 (zb4 _)) (za6 (zg8 zf1 rfl T.x_BadText T.i_BadText T.if_BadText G_BadText_init hr_BadText rfl T.m_BadText T.b_BadText_init .nil zc4 (za0 zb0 za2))) zb6)
     (za1 (zb5 (i:=2) zh7.nd rfl (Or.inl rfl) (zb1 G_read_number hr_read_number rfl T.m_read_number T.k_read_number T.b_read_number .nil zd9 (za0 (zc7 zb7 (zb1 G_words_behind hr_words_behind rfl T.m_words_behind T.k_words_behind T.b_words_behind .nil zd9 (za0 zb0 (za0 (zc7 zb7 (pv 1) za3 (fun _ _=>rfl)) (za0 za3 za2)))) za3 (fun _ _=>rfl)) za2)))
     (za1 (zb5 (i:=3) zh7.nd rfl (Or.inl rfl) (zb1 G_read_number hr_read_number rfl T.m_read_number T.k_read_number T.b_read_number .nil zd9 (za0 (zc7 zb7 (zb1 G_words_behind hr_words_behind rfl T.m_words_behind T.k_words_behind T.b_words_behind .nil zd9 (za0 zb0 (za0 (zc7 zb7 (pv 1) za3 (fun _ _=>rfl)) (za0 za3 za2)))) za3 (fun _ _=>rfl)) za2)))
     (za1 (zb5 (i:=4) zh7.nd rfl (Or.inl rfl) (zb1 G_read_number hr_read_number rfl T.m_read_number T.k_read_number T.b_read_number .nil zd9 (za0 (zc7 zb7 (zb1 G_words_behind hr_words_behind rfl T.m_words_behind T.k_words_behind T.b_words_behind .nil zd9 (za0 zb0 (za0 (zc7 zb7 (pv 1) za3 (fun _ _=>rfl)) (za0 za3 za2)))) za3 (fun _ _=>rfl)) za2)))
     (za1 (ps_compE (i:=5) rfl zw1 (zo3 (ze3 zl4 (pv 1) (zf9 za3) zf8)) (fun _ _ _ _ _=>(zd4 (i:=0) zw1.nd rfl (Or.inl rfl))) (fun _ _ _ _ _=>zq1) (fun _ _ _ _ _=>(zb1 G_read_weight hr_read_weight rfl T.m_read_weight T.k_read_weight T.b_read_weight .nil passes_compE (za0 (pv 0) za2))) zh7.nd rfl rfl)
     (za1 (zb5 (i:=6) zh7.nd rfl (Or.inl rfl) (zP8 T.mk_Beam G_Beam_init hr_Beam rfl T.m_Beam T.b_Beam_init .nil zd9 (za0 (pv 2) (za0 (pv 3) (za0 (zE7 rfl zw2 (zo3 (pv 5)) (fun _ _ _ _ _=>(zd4 (i:=0) zw2.nd rfl (Or.inl rfl))) (fun _ _ _ _ _=>zq1) (fun _ _ _ _ _=>(zc7 (zQ4 K rfl) (pv 0) za3 (fun _ _=>rfl)))) (za0 (pv 4) za2))))))
     (za6 (zb9 (zL3 (za0 (pv 6) (za0 (zb1 G_as_standing hr_as_standing rfl T.m_as_standing T.k_as_standing T.b_as_standing .nil zd9 (za0 (pv 6) (za0 (zE7 rfl zw3 (zo3 (pv 5)) (fun _ _ _ _ _=>(zd4 (i:=0) zw3.nd rfl (Or.inl rfl))) (fun _ _ _ _ _=>zq1) (fun _ _ _ _ _=>(zc7 (zQ4 K rfl) (pv 0) za3 (fun _ _=>rfl)))) za2))) za2)))))))))))),?_⟩
   have short:∀ w∈Txt.split z (Str.ofString "\n"),w.length<=1000000:=fun w hw=>Nat.le_trans (PyProof.Rows.part_short hw) hz
   have hle:=PyProof.Rows.split_le z (Str.ofString "\n")
   refine⟨_,rfl,rfl,_,_,rfl,rfl,by decide,hz,fun l H1 s1 f1 h1=>?_⟩
   refine⟨_,rfl,l,_,rfl,.inl (SqL.of h1),_,_,rfl,rfl,_,rfl,?_⟩
   rw[List.length_map]
   unfold rdB at q qe
   generalize Txt.split z (Str.ofString "\n")=rows at *
   refine ite2 (fun g1=>?_) (fun g1=>?_)
   . exact⟨(by show 1<=sizeLine;decide),fun y fy=>⟨y,_,rfl,za5,fun H' dy hx hd sx=>⟨rfl,some dy,hx,qe (rdRows_short (by have:=of_decide_eq_true g1;omega)) _ (Same.raised s1 fy sx)⟩⟩⟩
   have g1':3<=rows.length:=by have:¬ (rows.length:Int)<3:=fun e=>g1 (decide_eq_true e);omega
   match rows,g1' with
   | z0::z1::z2::zs,_ =>
   have m0:=short z0 (by simp)
   have m1:=short z1 (by simp)
   have m2:=short z2 (by simp)
   have mz:∀ w∈zs,w.length<=1000000:=fun w hw=>short w (by simp[hw])
   clear g1 g1'
   refine⟨_,rfl,l,_,_,V.str z0,rfl,rfl,SqL.of h1,at_0,_,z0,1,rfl,m0,fun ws hws l2 H2 s2 h2=>?_,fun hn H' s'=>qe (by simp[zj4,zy0 hn]) H' (s1.trans s')⟩
   obtain ⟨a0,rfl,e0,ma0⟩:=zL8 hws
   refine⟨l2,_,_,V.str a0,rfl,rfl,SqL.of h2,rfl,a0,rfl,Nat.le_trans (PyProof.Rows.part_short ma0) m0,fun n hn H3 s3=>?_,fun hn H' s'=>qe (by simp[zj4,e0,hn]) H' ((s1.trans s2).trans s')⟩
   have s13:=s2.trans s3
   refine⟨_,rfl,l,_,_,V.str z1,rfl,rfl,SqL.of (s13 _ _ h1),at_1,_,z1,1,rfl,m1,fun ws hws1 l4 H4 s4 h4=>?_,fun hn1 H' s'=>qe (by simp[zj4,e0,hn,zy0 hn1]) H' ((s1.trans s13).trans s')⟩
   obtain ⟨a1,rfl,e1,ma1⟩:=zL8 hws1
   refine⟨l4,_,_,V.str a1,rfl,rfl,SqL.of h4,rfl,a1,rfl,Nat.le_trans (PyProof.Rows.part_short ma1) m1,fun r hr1 H5 s5=>?_,fun hn1 H' s'=>qe (by simp[zj4,e0,hn,e1,hn1]) H' (((s1.trans s13).trans s4).trans s')⟩
   have s15:=(s13.trans s4).trans s5
   refine⟨_,rfl,l,_,_,V.str z2,rfl,rfl,SqL.of (s15 _ _ h1),at_2,_,z2,1,rfl,m2,fun ws hws2 l6 H6 s6 h6=>?_,fun hn2 H' s'=>qe (by simp[zj4,e0,hn,e1,hr1,zy0 hn2]) H' ((s1.trans s15).trans s')⟩
   obtain ⟨a2,rfl,e2,ma2⟩:=zL8 hws2
   refine⟨l6,_,_,V.str a2,rfl,rfl,SqL.of h6,rfl,a2,rfl,Nat.le_trans (PyProof.Rows.part_short ma2) m2,fun lim hlim H7 s7=>?_,fun hn2 H' s'=>qe (by simp[zj4,e0,hn,e1,hr1,e2,hn2]) H' (((s1.trans s15).trans s6).trans s')⟩
   have s17:=(s15.trans s6).trans s7
   have s07:=s1.trans s17
   have h17:=s17 _ _ h1
   have ek:zj4 (z0::z1::z2::zs)=(allW zs).bind fun ws=>some (n,r,lim,ws):=by simp[zj4,e0,hn,e1,hr1,e2,hlim]
   rw[ek] at qe
   have q':=fun ws (h:allW zs=some ws)=>q n r lim ws (by rw[ek,h];rfl)
   clear q ek hws hws1 hws2 e0 e1 e2 ma0 ma1 ma2 s2 s3 s4 s5 s6 s7 h2 h4 h6 s13 s15 m0 m1 m2 short
   have hzs:zs.length<=1000001:=by simp only[List.length_cons] at hle;omega
   refine⟨_,rfl,_,rfl,l,_,rfl,SqL.of h17,fun p H8 s8 fp h8=>?_⟩
   have ec:cutV ((z0::z1::z2::zs).map V.str) (some 3) none=zs.map V.str:=cutS (α:=V) ((z0::z1::z2::zs).map V.str) 3 (by simp)
   rw[ec] at h8
   have s08:=s07.trans s8
   refine⟨p,rfl,⟨_,SqL.of h8⟩,fun D hD=>?_⟩
   have hsl:sizeLine=16777216:=by decide
   refine zz8 (K:=K) (a:=p) (xs:=zs.map V.str) (fun i H'=>Same H8 H'/\∃ (rs:List Addr) (ys:List (Int×Int)),(zs.take i).map rdW=ys.map some/\rs.length=ys.length/\H' D=some (.lst (rs.map V.ref))/\∀ (j:Nat) c y,rs[j]?=some c->ys[j]?=some y->H' c=some (.tup [.int y.1,.int y.2]))
     ⟨Same.upd hD,[],[],rfl,rfl,za5,fun j c y e=>by simp at e⟩ (fun i H' iv=>SqL.of (iv.1 _ _ h8)) (fun i x H' N hi iv hN=>?_) (fun H' iv=>?_)
   . dsimp only[zu5]
     rw[List.getElem?_map] at hi
     cases hw:zs[i]? with
     | none=>rw[hw] at hi;cases hi
     | some wd =>
       rw[hw] at hi
       cases hi
       obtain ⟨s9,rs,ys,hys,hlr,hDr,hrs⟩:=iv
       have hil:i<zs.length:=(List.getElem?_eq_some_iff.mp hw).1
       have hyl:ys.length=i:=by
         have:=congrArg List.length hys
         rw[List.length_map,List.length_map,List.length_take] at this
         omega
       refine iteT ⟨_,rfl,wd,rfl,mz _ (List.mem_of_getElem? hw),fun h x hrd c H2 s2 fc hc=>⟨_,s2 _ _ hDr,?_,hN _ ⟨(s9.trans s2).put hD,rs++[c],ys++[(h,x)],?_,?_,?_,?_⟩⟩,fun hrd H2 s2=>qe (by rw[zJ3 hw hrd];rfl) H2 ((s08.trans s9).trans s2)⟩
       . rw[List.length_map];omega
       . rw[List.take_succ,hw,List.map_append,hys,List.map_append]
         simp[hrd]
       . rw[List.length_append,List.length_append,hlr];rfl
       . rw[za5,List.map_append];rfl
       . intro j c' y e1 e2
         have cD:c≠D:=fun e=>by rw[e,hDr] at fc;cases fc
         rcases Nat.lt_or_ge j rs.length with hj | hj
         . rw[List.getElem?_append_left hj] at e1
           rw[List.getElem?_append_left (by omega)] at e2
           have h0:=hrs j c' y e1 e2
           have c'D:c'≠D:=fun e=>by rw[e,hDr] at h0;cases h0
           rw[za7 c'D]
           exact s2 _ _ h0
         . rw[List.getElem?_append_right hj] at e1
           rw[List.getElem?_append_right (by omega)] at e2
           have ej:j-rs.length=0:=by
             rcases Nat.eq_zero_or_pos (j-rs.length) with h | h
             . exact h
             . rw[List.getElem?_eq_none (by simp;omega)] at e1;cases e1
           rw[ej] at e1
           rw[show j-ys.length=0 by omega] at e2
           cases e1
           cases e2
           rw[za7 cD]
           exact hc
   . obtain ⟨s9,rs,ys,hys,hlr,hDr,hrs⟩:=iv
     rw[List.length_map,List.take_length] at hys
     have hyz:ys.length=zs.length:=by
       have:=congrArg List.length hys
       rw[List.length_map,List.length_map] at this
       omega
     obtain ⟨qb,qs,q⟩:=q' ys (zJ4 hys)
     have s09:=s08.trans s9
     clear qe q' s17 h17 h1 h8 s1 s07 s8 s9 s08 hys
     have pick:∀ (H9:Hp) (D2:Addr),Same H' H9->H9 D2=none->∀ (k:Int) (vs:List Int),vs.length=rs.length->(∀ (j:Nat) c,rs[j]?=some c->∃ y,vs[j]?=some y/\∃ xs,H' c=some (.tup xs)/\atI xs k=some (.int y))->vs.length<=sizeLine →
         ∀ Q2:Hp->Prop,Q2 (upd H9 D2 (.lst (vs.map V.int)))->∃ W:Nat->Nat->St->Hp->Prop,(∃ m,W 0 m [none] (upd H9 D2 (.lst [])))/\∀ i m σ' H',W i m σ' H'->((Itl K D).stop i H'/\Q2 H')\/((Itl K D).go i H'/\∃ N:St->Hp->Prop,(∀ σ2 H2,N σ2 H2->∃ m',m'<m/\W (i+1) m' σ2 H2) ∧
           ∀ v H2,(Itl K D).yld i H' v H2->zl1 0 v σ' H2 fun σ3 H3=>zu5 σ3 H3 fun b H4=>if b=true then zn8 D2 (tOp (rIxT K) (tVar 0) (tC (V.int k))) N σ3 H4 else N σ3 H4):=fun H9 D2 sm hD2 k vs hvl hv hvs Q2 q2=>by
       have nD:D≠D2:=fun e=>by rw[<-e] at hD2;rw[sm _ _ hDr] at hD2;cases hD2
       refine zz8 (K:=K) (a:=D) (xs:=rs.map V.ref) (fun i H''=>H''=upd H9 D2 (.lst ((vs.take i).map V.int))) rfl (fun i H'' iv=>by rw[iv];exact SqL.of (by rw[za7 nD];exact sm _ _ hDr)) (fun i x H'' N hi iv hN=>?_) (fun H'' iv=>?_)
       . subst iv
         dsimp only[zu5]
         rw[List.getElem?_map] at hi
         cases hc:rs[i]? with
         | none=>rw[hc] at hi;cases hi
         | some c =>
           rw[hc] at hi
           cases hi
           obtain ⟨y,ey,tx,htx,hat⟩:=hv i c hc
           have hil:i<vs.length:=(List.getElem?_eq_some_iff.mp ey).1
           have nc:c≠D2:=fun e=>by rw[<-e] at hD2;rw[sm _ _ htx] at hD2;cases hD2
           refine iteT ⟨_,rfl,c,tx,_,_,rfl,rfl,SqT.of (by rw[za7 nc];exact sm _ _ htx),hat,_,za5,?_,hN _ ?_⟩
           . rw[List.length_map,List.length_take];omega
           . rw[zi8,List.take_succ,List.map_append,ey]
             rfl
       . rw[List.length_map,<-hvl,List.take_length] at iv
         rw[iv]
         exact q2
     have hrl:rs.length<=sizeLine:=by omega
     refine⟨_,rfl,_,rfl,_,rfl,D,rfl,⟨_,SqL.of hDr⟩,fun D2 hD2=>?_⟩
     refine pick H' D2 (Same.refl _) hD2 0 (ys.map (·.1)) (by rw[List.length_map];omega) (fun j c hj=>?_) (by rw[List.length_map];omega) _ ?_
     . have hjl:j<ys.length:=by have:=(List.getElem?_eq_some_iff.mp hj).1;omega
       exact⟨(ys[j]).1,by simp[hjl],_,hrs j c _ hj (List.getElem?_eq_getElem hjl),at_0⟩
     have s2:=Same.upd (o:=.lst ((ys.map (·.1)).map V.int)) hD2
     have h2:(upd H' D2 (.lst ((ys.map (·.1)).map V.int))) D2=some (.lst ((ys.map (·.1)).map V.int)):=za5
     revert s2 h2
     generalize upd H' D2 (.lst ((ys.map (·.1)).map V.int))=H10
     intro s2 h2
     refine⟨_,rfl,fun b dx fb fdx ndx=>?_⟩
     have s4:Same H10 (upd (upd H10 dx (.own b)) b (.ins t.c_Beam dx [])):=(Same.upd fdx).updT (by rw[za7 (Ne.symm ndx)];exact fb)
     have e3b:D2≠b:=fun e=>by rw[<-e,h2] at fb;cases fb
     have e3d:D2≠dx:=fun e=>by rw[<-e,h2] at fdx;cases fdx
     refine⟨b,dx,D2,n,r,lim,ys.map (·.1),rfl,za5,.inl (SqL.of (by rw[za7 e3b,za7 e3d];exact h2)),fun ok H5 B5 s5=>⟨rfl,?_⟩,fun nb H9 s9=>qb nb H9 (((s09.trans s2).trans s4).trans s9)⟩
     have s25:Same H10 H5:=fun c o e=>s5 c o (s4 c o e) (za8 e fb)
     have s9:=s2.trans s25
     refine⟨_,rfl,_,rfl,_,rfl,D,rfl,⟨_,SqL.of (s9 _ _ hDr)⟩,fun D3 hD3=>?_⟩
     refine pick H5 D3 s9 hD3 1 (ys.map (·.2)) (by rw[List.length_map];omega) (fun j c hj=>?_) (by rw[List.length_map];omega) _ ?_
     . have hjl:j<ys.length:=by have:=(List.getElem?_eq_some_iff.mp hj).1;omega
       exact⟨(ys[j]).2,by simp[hjl],_,hrs j c _ hj (List.getElem?_eq_getElem hjl),at_1⟩
     have s6:=Same.upd (o:=.lst ((ys.map (·.2)).map V.int)) hD3
     refine⟨b,D3,n,r,lim,ys.map (·.1),ys.map (·.2),rfl,B5.same s6,.inl (SqL.of za5),fun V0 l7 H7 s7 h7=>?_,fun nv H7 s7=>qs ok nv H7 (((s09.trans s9).trans s6).trans s7)⟩
     refine⟨(by show 2<=sizeLine;decide),fun l8 H8' s8 f8 h8=>?_⟩
     have s68:=(s6.trans s7).trans s8
     exact q ok V0 l8 b l7 _ ((s09.trans s9).trans s68) (B5.same s68) (s8 _ _ h7) h8
end
end Bt
namespace Bt
open PySem L2
section
variable {P:Program} {w:World} {K:W.Frag} {mg:Str->Option Value} {base:Heap} {t:Adr}
noncomputable def Told (H H':Hp) (od:Option Addr) (w:Str):Prop:=Same H H'/\∃ dx fs,od=some dx/\H' dx=some (.xd fs)/\fs.lookup ("word" : Str)=some (V.str w)
theorem told_of {H H1 H':Hp} {x dx C:Addr} {o:HO} {u:V} {w:Str} (s:Same H H1) (fx:H1 x=none) (hx:H' x=some (ExcO C x (some dx))) (hd:H' dx=some (.xd (putF "word" (.str w) (putF "reason" u [])))) (sx:zj0 x (upd H1 x o) H'):Told H (del H' x) (some dx) w:=by
 refine⟨fun b v e=>?_,dx,putF "word" (.str w) (putF "reason" u []),rfl,?_,?_⟩
 . have e1:=s b v e
   have hb:b≠x:=za8 e1 fx
   rw[zt8 hb]
   exact sx b v (by rw[za7 hb];exact e1) hb
 . rw[zt8 (fun z=>by rw[z,hx] at hd;cases hd)];exact hd
 . rw[zc3,if_pos rfl]
noncomputable def zB6 (b s x m:Addr):List (Str×V):=[("beam",.ref b),("start",.ref s),("standing",.ref x),("made",.ref m)]
theorem zU8:¬ ("beam" : Str) = "start":=by decide +kernel
theorem zU9:¬ ("beam" : Str) = "standing":=by decide +kernel
theorem pf_ne3:¬ ("start" : Str) = "standing":=by decide +kernel
theorem zV0:¬ ("beam" : Str) = "made":=by decide +kernel
theorem pf_ne5:¬ ("start" : Str) = "made":=by decide +kernel
theorem zV1:¬ ("standing" : Str) = "made":=by decide +kernel
theorem pfN {f:Str} {v:V}:putF f v []=[(f,v)]:=rfl
theorem pfC {f g:Str} {v x:V} {l:List (Str×V)} (h:¬ g=f):putF f v ((g,x)::l)=(g,x)::putF f v l:=if_neg h
theorem zN8 (b s x m:Addr):putF "made" (.ref m) (putF "standing" (.ref x) (putF "start" (.ref s) (putF "beam" (.ref b) [])))=zB6 b s x m:=by
 rw[pfN,pfC zU8,pfN,pfC zU9,pfC pf_ne3,pfN,pfC zV0,pfC pf_ne5,pfC zV1,pfN]
 rfl
theorem zS5 (b s x m:Addr):(zB6 b s x m).lookup ("beam" : Str)=some (.ref b):=by rw[<-zN8,zc3,if_neg zV0,zc3,if_neg zU9,zc3,if_neg zU8,zc3,if_pos rfl]
theorem zE1 (b s x m:Addr):(zB6 b s x m).lookup ("standing" : Str)=some (.ref x):=by rw[<-zN8,zc3,if_neg zV1,zc3,if_pos rfl]
theorem pf_made (b s x m:Addr):(zB6 b s x m).lookup ("made" : Str)=some (.ref m):=by rw[<-zN8,zc3,if_pos rfl]
theorem pf_no (b s x m:Addr) (f:Str) (h1:¬ f = "made") (h2:¬ f = "standing") (h3:¬ f = "start") (h4:¬ f = "beam"):(zB6 b s x m).lookup f=none:=by rw[<-zN8,zc3,if_neg h1,zc3,if_neg h2,zc3,if_neg h3,zc3,if_neg h4];rfl
theorem pf_back (b s x m:Addr):(zB6 b s x m).lookup ("back" : Str)=none:=pf_no _ _ _ _ _ (by decide +kernel) (by decide +kernel) (by decide +kernel) (by decide +kernel)
structure zn7 (t:Adr) (H:Hp) (p b s x m:Addr) (n r:Int) (hs:List Int) (lim:Int) (a c:List Int) (ys:List V) (ms:List (List Int)):Prop where
 bm:zn4 t H b n r hs lim
 nb:b≠p
 hp:∃ dx,H p=some (.ins t.c_Play dx (zB6 b s x m))
 hs:H s=some (.tup (a.map V.int))
 hx:H x=some (.tup (c.map V.int))
 hm:H m=some (.lst ys)
 tm:Tups H ys ms
theorem zn7.same {t:Adr} {H H':Hp} {p b s x m:Addr} {n r lim:Int} {hs a c:List Int} {ys:List V} {ms:List (List Int)} (h:zn7 t H p b s x m n r hs lim a c ys ms) (e:Same H H'):zn7 t H' p b s x m n r hs lim a c ys ms :=
 ⟨h.bm.same e,h.nb,let ⟨dx,z⟩:=h.hp;⟨dx,e _ _ z⟩,e _ _ h.hs,e _ _ h.hx,e _ _ h.hm,e.tups h.tm⟩
noncomputable def zB7 (K:W.Frag) (t:Adr):Sp:=fun vs H Q E=>∃ (p b a dx:Addr) (n r lim:Int) (hs xs:List Int),vs=[.ref p,.ref b,.ref a]/\H p=some (.ins t.c_Play dx [])/\b≠p/\zn4 t H b n r hs lim/\zh0 n r hs.length xs/\SeqA K H a xs ∧
 (absI (zd8 hs xs)<=lim->∀ H' s m,zj0 p H H'->H m=none->zn7 t H' p b s s m n r hs lim xs xs [] []->Q .non H')/\(¬ absI (zd8 hs xs)<=lim->∀ H',Same H H'->E (.ref t.c_StartPast) none H')
theorem ok_Play_init (T:Txt K mg t):FnOk P w K mg base (CXE P w) 7 t.a_Play_init t.d_Play_init ["self","beam","start"] (zB7 K t):=by
 have G_as_standing:FnOk P w K mg base (CXE P w) 4 t.a_as_standing t.d_as_standing ["beam","standing"] (zl5 K t):=zq6 T
 have G_keeps:FnOk P w K mg base CX0 6 t.a_keeps t.d_keeps ["beam","standing"] (zN4 K t):=ok_keeps T
 have G_StartPast_init:FnOk P w K mg base CX0 2 t.a_StartPast_init t.d_StartPast_init ["self","reason"] (zr2 K t):=ok_StartPast_init T
 refine T.F_Play_init.d.okE zA9 (fun vs H Q E h=>?_) (fun cdv A outer s H vs Q E hr h=>?_)
 . obtain ⟨p,b,a,dx,n,r,lim,hs,xs,rfl,hp,nb,B,V0,hS,q,qe⟩:=h
   rfl
 . obtain ⟨p,b,a,dx,n,r,lim,hs,xs,rfl,hp,nb,B,V0,hS,q,qe⟩:=h
   have hr_as_standing:Room 4 _:=hr.mono (by decide)
   have hr_keeps:Room 6 _:=hr.mono (by decide)
   have hr_StartPast:Room 3 _:=hr.mono (by decide)
   refine⟨_,(za1 (zb5 (i:=3) zA9.nd rfl (Or.inl rfl) (zb1 G_as_standing hr_as_standing rfl T.m_as_standing T.k_as_standing T.b_as_standing .nil zd9 (za0 (pv 1) (za0 (pv 2) za2))))
     (za1 (zc8 (zz3 (zi9 (zb1 G_keeps hr_keeps rfl T.m_keeps T.k_keeps T.b_keeps .nil zc4 (za0 (pv 1) (za0 (pv 3) za2))))) (za6 (zg8 zf1 rfl T.x_StartPast T.i_StartPast T.if_StartPast G_StartPast_init hr_StartPast rfl T.m_StartPast T.b_StartPast_init .nil zc4 (za0 zb0 za2))) zb6)
     (za1 (zv3 (pv 0) (pv 1) rfl)
     (za1 (zv3 (pv 0) (pv 3) rfl)
     (za1 (zv3 (pv 0) (pv 3) rfl)
     (za6 (zv3 (pv 0) (zm1 za2) rfl))))))),?_⟩
   refine⟨_,rfl,_,rfl,b,a,n,r,lim,hs,xs,rfl,B,hS,fun _ l H1 s1 hl=>?_,fun z=>absurd V0 z⟩
   refine⟨_,rfl,_,rfl,b,l,n,r,lim,hs,xs,rfl,B.same s1,V0,.inr hl,fun H2 s2=>⟨_,rfl,?_⟩⟩
   have s02:=s1.trans s2
   refine ite2 (fun h1=>?_) (fun h1=>?_)
   . have nk:¬ absI (zd8 hs xs)<=lim:=fun z=>by rw[decide_eq_true z] at h1;cases h1
     exact⟨(by show 1<=sizeLine;decide),fun x fx=>⟨x,_,rfl,za5,fun H' dy hx hd sx=>⟨rfl,some dy,hx,qe nk _ (Same.raised s02 fx sx)⟩⟩⟩
   have k0:absI (zd8 hs xs)<=lim:=Decidable.byContradiction fun z=>h1 (by rw[decide_eq_false z];rfl)
   replace q:=q k0
   have hl2:=s2 _ _ hl
   have nl:l≠p:=fun z=>by rw[z,s02 _ _ hp] at hl2;cases hl2
   refine⟨_,rfl,_,rfl,p,_,dx,_,rfl,s02 _ _ hp,T.cl_Play,T.na_Play_beam,by decide,?_⟩
   refine⟨_,rfl,_,rfl,p,_,dx,_,rfl,za5,T.cl_Play,T.na_Play_start,zv4 fl0,?_⟩
   refine⟨_,rfl,_,rfl,p,_,dx,_,rfl,za5,T.cl_Play,T.na_Play_standing,zv4 (flS fl0),?_⟩
   rw[zi8,zi8]
   refine⟨Nat.zero_le _,fun m fm=>?_⟩
   have nm:m≠p:=fun z=>by rw[z,za5] at fm;cases fm
   refine⟨_,rfl,p,_,dx,_,rfl,by rw[za7 nm.symm];exact za5,T.cl_Play,T.na_Play_made,zv4 (flS (flS fl0)),?_⟩
   rw[zN8]
   rw[za7 nm] at fm
   have s3:zj0 p H (upd (upd (upd H2 p (.ins t.c_Play dx (putF "standing" (.ref l) (putF "start" (.ref l) (putF "beam" (.ref b) []))))) m (.lst [])) p (.ins t.c_Play dx (zB6 b l l m))):=fun c o e hc=>by
     rw[za7 hc,za7 (za8 (s02 _ _ e) fm),za7 hc]
     exact s02 _ _ e
   have hl3:(upd (upd (upd H2 p (.ins t.c_Play dx (putF "standing" (.ref l) (putF "start" (.ref l) (putF "beam" (.ref b) []))))) m (.lst [])) p (.ins t.c_Play dx (zB6 b l l m))) l=some (.tup (xs.map V.int)):=by
     rw[za7 nl,za7 (za8 hl2 fm),za7 nl]
     exact hl2
   refine q _ l m s3 (s02.free fm) ⟨?_,nb,⟨dx,za5⟩,hl3,hl3,by rw[za7 nm];exact za5,.nil⟩
   obtain ⟨ok,dx',h,hb,hh⟩:=B
   exact⟨ok,dx',h,s3 _ _ hb nb,s3 _ _ hh (fun z=>by rw[z,hp] at hh;cases hh)⟩
noncomputable def zB8 (K:W.Frag) (t:Adr):Sp:=fun vs H Q E=>∃ (p b s x m:Addr) (n r lim:Int) (hs a c:List Int),vs=[.ref p]/\zn7 t H p b s x m n r hs lim a c [] []/\∀ od H',Told H H' od "nothing back"->E (.ref t.c_NothingBack) od H'
theorem ok_Play_back (T:Txt K mg t):FnOk P w K mg base (CXD P w) 4 t.a_Play_back t.d_Play_back ["self"] (zB8 K t):=by
 have G_NothingBack_init:FnOk P w K mg base CX0 2 t.a_NothingBack_init t.d_NothingBack_init ["self","reason"] (zo1 K t):=ok_NothingBack_init T
 refine T.F_Play_back.d.okD (CX:=CX0) sc_Play_back (fun vs H Q E h=>?_) (fun cdv A outer s H vs Q E hr h=>?_)
 . obtain ⟨p,b,s,x,m,n,r,lim,hs,a,c,rfl,P0,qe⟩:=h
   rfl
 . obtain ⟨p,b,s,x,m,n,r,lim,hs,a,c,rfl,P0,qe⟩:=h
   have hr_NothingBack:Room 3 _:=hr.mono (by decide)
   refine⟨_,(za1 (zc8 (zb3 zf0 (zc0 zc2 rfl T.n_len PySem.boot_len (za0 (zp9 (pv 0) rfl) za2)) za3 (zb4 _)) (za6 (ps_raiseD raises_fnD rfl T.x_NothingBack T.i_NothingBack T.if_NothingBack G_NothingBack_init hr_NothingBack rfl T.m_NothingBack T.b_NothingBack_init .nil zc4 (za0 zb0 za2))) zb6)
     zr7),?_⟩
   obtain ⟨dx,hp⟩:=P0.hp
   exact⟨_,rfl,p,_,dx,_,_,rfl,hp,T.cl_Play,T.na_Play_made,pf_made _ _ _ _,m,_,rfl,.inl (SqL.of P0.hm),rfl,_,rfl,iteT ⟨(by show 1<=sizeLine;decide),fun y fy=>⟨y,_,rfl,za5,fun H' dx hx hd sx=>⟨rfl,some dx,hx,qe _ _ (told_of (Same.refl _) fy hx hd sx)⟩⟩⟩⟩
end
end Bt
namespace Bt
open PySem L2
section
variable {P:Program} {w:World} {K:W.Frag} {mg:Str->Option Value} {base:Heap} {t:Adr}
theorem zS6 {n:Int} (h0:-9999<=n) (h:n<=9999):(sI n).length<=20:=by
 by_cases h1:0<=n
 . have:=zv8 (n:=n) h1 (by omega)
   omega
 . obtain ⟨k,rfl⟩:∃ k:Nat,n = -(((k+1:Nat)):Int):=⟨(-n).toNat-1,by omega⟩
   have e:toString (-(((k+1:Nat)):Int)) = "-"++toString (k+1):=rfl
   have h2:=zv8 (n:=((k+1:Nat):Int)) (by omega) (by omega)
   have e2:sI (-(((k+1:Nat)):Int))=Str.ofString "-"++sI (((k+1:Nat)):Int):=by
     have e5:toString (((k+1:Nat)):Int)=toString (k+1):=rfl
     unfold sI
     rw[e,e5]
     refine zu0 ?_
     rw[zo6,PySem.Str.ofString_eq_toList,PySem.Str.ofString_eq_toList,PySem.Str.ofString_eq_toList]
     simp
   rw[e2,zd5]
   have e3:(Str.ofString "-").length=1:=by decide
   omega
theorem zJ5:∀ {zs:List Int} {B:Int},(∀ z∈zs,-B<=z/\z<=B)->-(B*zs.length)<=zs.sum/\zs.sum<=B*zs.length
 | [],B,_=>by simp
 | z::zs,B,h=>by
   have h1:=h z List.mem_cons_self
   have h2:=zJ5 (zs:=zs) (B:=B) fun y hy=>h y (List.mem_cons_of_mem _ hy)
   rw[List.sum_cons,List.length_cons,Int.natCast_add,Int.mul_add]
   omega
theorem zS7 {n r lim:Int} {hs xs:List Int} (ok:zf6 n r hs lim) (V0:zh0 n r hs.length xs):absI (zd8 hs xs)<=240/\0<=absI (zd8 hs xs):=by
 have h1:=zJ5 (zD1 (B:=n) ok.h V0.on (by have:=ok.n1;omega))
 rw[List.length_zipWith,V0.len,Nat.min_self] at h1
 have hw:=ok.w
 have hm:=ok.most
 have n1:=ok.n1
 have n2:=ok.n2
 have key:20*n*(hs.length:Int)<=240:=by
   have:n=1\/n=2\/n=3\/n=4:=by omega
   have h5:hs.length=0\/hs.length=1\/hs.length=2\/hs.length=3\/hs.length=4\/hs.length=5:=by omega
   rcases this with rfl | rfl | rfl | rfl<;>rcases h5 with e | e | e | e | e | e<;>rw[e] at hm ⊢<;>first | decide | (exfalso;revert hm;decide)
 unfold zd8
 unfold absI
 split<;>omega
noncomputable def zz1 (K:W.Frag) (t:Adr):Sp:=fun vs H Q _=>∃ x:V,vs=[x]/\False
theorem ok_write_move (T:Txt K mg t):FnOk P w K mg base CX0 1 t.a_write_move t.d_write_move ["move"] (zz1 K t):=by
 refine T.F_write_move.ok sc_write_move (fun vs H Q E h=>?_) (fun cdv A outer s H vs Q E hr h=>?_)
 . obtain ⟨x,rfl,h⟩:=h
   rfl
 . obtain ⟨x,rfl,h⟩:=h
   refine⟨_,zr7,?_⟩
   exact h.elim
noncomputable def zJ6 (hs c:List Int):Str:=((Str.ofString "tilt "++sI (zd8 hs c))++Str.ofString " ")++zq7 (zd8 hs c)
theorem zN9 (z:Int):(zq7 z).length<=5:=by
 unfold zq7
 split
 . decide
 . split<;>decide
noncomputable def zG5 (k:Bool):Str:=if k then Str.ofString "back" else Str.ofString "look"
noncomputable def zG6 (hs c:List Int) (k:Bool):Str:=if k then Str.ofString "refused: nothing back" else zJ6 hs c
noncomputable def zB9 (K:W.Frag) (t:Adr):Sp:=fun vs H Q _=>∃ (p b s0 x m:Addr) (n r lim:Int) (hs s c:List Int),vs=[.ref p]/\zn7 t H p b s0 x m n r hs lim s c [] []/\zh0 n r hs.length c/\∀ H',Same H H'->Q (.str (zJ6 hs c)) H'
noncomputable def zz2 (K:W.Frag) (t:Adr):Sp:=fun vs H Q E=>∃ (k:Bool) (p b s0 x m:Addr) (n r lim:Int) (hs s c:List Int),vs=[.ref p,.str (zG5 k)]/\zn7 t H p b s0 x m n r hs lim s c [] []/\zh0 n r hs.length c/\(k=false->∀ H',Same H H'->Q (.str (zJ6 hs c)) H')/\(k=true->∀ od H',Told H H' od "nothing back"->E (.ref t.c_NothingBack) od H')
noncomputable def zJ7 (K:W.Frag) (t:Adr):Sp:=fun vs H Q _=>∃ (k:Bool) (p b s0 x m:Addr) (n r lim:Int) (hs s c:List Int),vs=[.ref p,.str (zG5 k)]/\zn7 t H p b s0 x m n r hs lim s c [] []/\zh0 n r hs.length c/\∀ H',Same H H'->Q (.str (zG6 hs c k)) H'
theorem ok_tell_tilt (T:Txt K mg t):FnOk P w K mg base CX0 7 t.a_tell_tilt t.d_tell_tilt ["play"] (zB9 K t):=by
 have G_side:FnOk P w K mg base CX0 6 t.a_side t.d_side ["beam","standing"] (zS1 K t):=ok_side T
 have G_tilt:FnOk P w K mg base CX0 5 t.a_tilt t.d_tilt ["beam","standing"] (zF0 K t):=zL5 T
 refine T.F_tell_tilt.ok sc_tell_tilt (fun vs H Q E h=>?_) (fun cdv A outer s H vs Q E hr h=>?_)
 . obtain ⟨p,b,s0,x,m,n,r,lim,hs,s,c,rfl,A,Vc,q⟩:=h
   rfl
 . obtain ⟨p,b,s0,x,m,n,r,lim,hs,s,c,rfl,A,Vc,q⟩:=h
   have hr_side:Room 6 _:=hr.mono (by decide)
   have hr_tilt:Room 5 _:=hr.mono (by decide)
   refine⟨_,(za6 (zb9 (zb2 zc5 (zb2 zc5 (zb2 zc5 zb0 (ze7 zf7 rfl T.n_str PyProof.Rows.boot_str (za0 (zb1 G_tilt hr_tilt rfl T.m_tilt T.k_tilt T.b_tilt .nil zc4 (za0 (zp9 (pv 0) rfl) (za0 (zp9 (pv 0) rfl) za2))) za2))) zb0) (zb1 G_side hr_side rfl T.m_side T.k_side T.b_side .nil zc4 (za0 (zp9 (pv 0) rfl) (za0 (zp9 (pv 0) rfl) za2)))))),?_⟩
   obtain ⟨dx,hp⟩:=A.hp
   have ok:=A.bm.1
   have tb:=(zS7 ok Vc).1
   have t9:-9999<=zd8 hs c/\zd8 hs c<=9999:=by unfold absI at tb;split at tb<;>omega
   have l1:=zS6 t9.1 t9.2
   have l2:=zN9 (zd8 hs c)
   have e1:(Str.ofString "tilt ").length=5:=by decide
   have e2:(Str.ofString " ").length=1:=by decide
   have hsl:sizeLine=16777216:=by decide
   refine⟨_,rfl,p,_,dx,_,_,rfl,hp,T.cl_Play,T.na_Play_beam,zS5 _ _ _ _,_,rfl,p,_,dx,_,_,rfl,hp,T.cl_Play,T.na_Play_standing,zE1 _ _ _ _,b,x,n,r,lim,hs,c,rfl,A.bm,Vc,.inr A.hx,fun H1 s1=>?_⟩
   have hp1:=s1 _ _ hp
   have A1:=A.same s1
   refine⟨zd8 hs c,rfl,zh9 (by omega),_,_,rfl,rfl,(by show (Str.ofString "tilt ").length+(sI (zd8 hs c)).length<=sizeLine;omega),_,_,rfl,rfl,(by show (Str.ofString "tilt "++sI (zd8 hs c)).length+(Str.ofString " ").length<=sizeLine;rw[zd5];omega),?_⟩
   refine⟨_,rfl,p,_,dx,_,_,rfl,hp1,T.cl_Play,T.na_Play_beam,zS5 _ _ _ _,_,rfl,p,_,dx,_,_,rfl,hp1,T.cl_Play,T.na_Play_standing,zE1 _ _ _ _,b,x,n,r,lim,hs,c,rfl,A1.bm,Vc,.inr A1.hx,fun H2 s2=>?_⟩
   exact⟨_,_,rfl,rfl,(by show ((Str.ofString "tilt "++sI (zd8 hs c))++Str.ofString " ").length+(zq7 (zd8 hs c)).length<=sizeLine;rw[zd5,zd5];omega),q H2 (s1.trans s2)⟩
theorem ok_answer_row (T:Txt K mg t):FnOk P w K mg base (CXD P w) 8 t.a_answer_row t.d_answer_row ["play","row"] (zz2 K t):=by
 have G_tell_tilt:FnOk P w K mg base CX0 7 t.a_tell_tilt t.d_tell_tilt ["play"] (zB9 K t):=ok_tell_tilt T
 have G_write_move:FnOk P w K mg base CX0 1 t.a_write_move t.d_write_move ["move"] (zz1 K t):=ok_write_move T
 have G_Play_back:FnOk P w K mg base (CXD P w) 4 t.a_Play_back t.d_Play_back ["self"] (zB8 K t):=ok_Play_back T
 refine T.F_answer_row.d.okD (CX:=CX0) sc_answer_row (fun vs H Q E h=>?_) (fun cdv A outer s H vs Q E hr h=>?_)
 . obtain ⟨k,p,b,s0,x,m,n,r,lim,hs,s,c,rfl,A,Vc,q,qe⟩:=h
   rfl
 . obtain ⟨k,p,b,s0,x,m,n,r,lim,hs,s,c,rfl,A,Vc,q,qe⟩:=h
   have hr_tell_tilt:Room 7 _:=hr.mono (by decide)
   have hr_write_move:Room 1 _:=hr.mono (by decide)
   have hr_Play_back:Room 4 _:=hr.mono (by decide)
   refine⟨_,(za1 (zc8 (zb3 zf0 (pv 1) zb0 (zb4 _)) (za6 (zb9 (zb1 G_tell_tilt hr_tell_tilt rfl T.m_tell_tilt T.k_tell_tilt T.b_tell_tilt .nil zc4 (za0 (pv 0) za2)))) zb6)
     (za1 (zc8 (zb3 zf0 (pv 1) zb0 (zb4 _)) zr7 zb6)
     (za1 (zc8 (zb3 zf0 (pv 1) zb0 (zb4 _)) zr7 zb6)
     (za1 (zc8 (zb3 zf0 (pv 1) zb0 (zb4 _)) (za6 (zb9 (zb1 G_write_move hr_write_move rfl T.m_write_move T.k_write_move T.b_write_move .nil zc4 (za0 (pe_meth0 (pv 0) T.cl_Play T.me_Play_back G_Play_back hr_Play_back T.b_Play_back .nil passes_fnD) za2)))) zb6)
     zr7)))),?_⟩
   cases k with
   | false=>exact⟨_,rfl,rfl,_,rfl,iteT ⟨_,rfl,p,b,s0,x,m,n,r,lim,hs,s,c,rfl,A,Vc,fun H1 s1=>q rfl H1 s1⟩⟩
   | true =>
     obtain ⟨dx,hp⟩:=A.hp
     exact⟨_,rfl,rfl,_,rfl,iteF ⟨_,rfl,rfl,_,rfl,iteF ⟨_,rfl,rfl,_,rfl,iteF ⟨_,rfl,rfl,_,rfl,iteT ⟨_,rfl,p,dx,_,rfl,hp,pf_back _ _ _ _,p,b,s0,x,m,n,r,lim,hs,s,c,rfl,A,fun od H' tl=>qe rfl od H' tl⟩⟩⟩⟩⟩
theorem ok_answer (T:Txt K mg t):FnOk P w K mg base CX0 9 t.a_answer t.d_answer ["play","row"] (zJ7 K t):=by
 have G_answer_row:FnOk P w K mg base (CXD P w) 8 t.a_answer_row t.d_answer_row ["play","row"] (zz2 K t):=ok_answer_row T
 refine T.F_answer.ok zI9 (fun vs H Q E h=>?_) (fun cdv A outer s H vs Q E hr h=>?_)
 . obtain ⟨k,p,b,s0,x,m,n,r,lim,hs,s,c,rfl,A,Vc,q⟩:=h
   rfl
 . obtain ⟨k,p,b,s0,x,m,n,r,lim,hs,s,c,rfl,A,Vc,q⟩:=h
   have hr_answer_row:Room 8 _:=hr.mono (by decide)
   refine⟨_,(za6 (ps_tryD (Ex:=fun σ9 cls od H9=>k=true/\σ9=[some (.ref p),some (.str (zG5 k)),none]/\cls = .ref t.c_NothingBack/\Told H H9 od "nothing back") (i:=2) ⟨rfl,rfl⟩ rfl T.m_BeamError zI9.nd rfl rfl (fun _=>(za6 (zb9 (pe_callS G_answer_row hr_answer_row rfl T.m_answer_row T.k_answer_row T.b_answer_row .nil passes_tryD (za0 (pv 0) (za0 (pv 1) za2)))))) (fun _=>(za6 (zb9 (zb2 zc5 zb0 (pe_xgetK K rfl (pv 2) rfl))))))),?_⟩
   refine⟨⟨_,rfl,_,rfl,k,p,b,s0,x,m,n,r,lim,hs,s,c,rfl,A,Vc,fun e H' s'=>?_,fun e od H' tl=>⟨e,rfl,rfl,tl⟩⟩,fun σ' cls od H' a' hE fa=>?_⟩
   . subst e
     exact q H' s'
   . obtain ⟨rfl,rfl,rfl,tl⟩:=hE
     obtain ⟨sH,dx,fs,rfl,hdx,hw⟩:=tl
     have hsl:sizeLine=16777216:=by decide
     have ne:dx≠a':=fun z=>by rw[z,fa] at hdx;cases hdx
     refine⟨T.xm_NothingBack_BeamError,?_⟩
     have s5:=sH.updT (o:=zD9 (.ref t.c_NothingBack) a' (some dx)) fa
     have HA:(upd H' a' (zD9 (.ref t.c_NothingBack) a' (some dx))) a'=_:=za5
     have HD:(upd H' a' (zD9 (.ref t.c_NothingBack) a' (some dx))) dx=_:=(za7 ne).trans hdx
     exact⟨_,rfl,a',_,dx,fs,_,rfl,HA,HD,T.xa_NothingBack,T.na_NothingBack_word,hw,_,_,rfl,rfl,(by show (Str.ofString "refused: ").length+(Str.ofString "nothing back").length<=sizeLine;decide),by have:=q _ s5;exact this⟩
end
end Bt
namespace Bt
open PySem L2
section
variable {P:Program} {w:World} {K:W.Frag} {mg:Str->Option Value} {base:Heap} {t:Adr}
theorem zn7.updL {t:Adr} {H:Hp} {p b s x m l:Addr} {n r lim:Int} {hs a c:List Int} {ys:List V} {ms:List (List Int)} {vs:List V} {o:HO} (P:zn7 t H p b s x m n r hs lim a c ys ms) (hl:H l=some (.lst vs)) (nl:l≠m):zn7 t (upd H l o) p b s x m n r hs lim a c ys ms:=by
 obtain ⟨ok,dx,h',hb,hh⟩:=P.bm
 have k:∀ {c:Addr} {o':HO},H c=some o'->(∀ vs,o'≠.lst vs)->upd H l o c=some o':=fun e ne=>by
   rw[za7 (fun z=>by rw[z,hl] at e;injection e with e;exact ne _ e.symm)]
   exact e
 exact⟨⟨ok,dx,h',k hb (fun _ z=>nomatch z),k hh (fun _ z=>nomatch z)⟩,P.nb,let ⟨dx,z⟩:=P.hp;⟨dx,k z (fun _ z=>nomatch z)⟩,k P.hs (fun _ z=>nomatch z),k P.hx (fun _ z=>nomatch z),by rw[za7 nl.symm];exact P.hm,tups_keep hl (fun _ z=>nomatch z) P.tm⟩
noncomputable def zG7 (K:W.Frag) (t:Adr):Sp:=fun vs H Q E=>∃ (z:Str) (l:Addr) (ks:List Bool),vs=[.str z,.ref l]/\H l=some (.lst (ks.map fun k=>.str (zG5 k)))/\ks.length<=10/\z.length<=1000000/\(rdB z=none->BT t H E) ∧
 ∀ n r lim ws,rdB z=some (n,r,lim,ws)->(¬ zf6 n r (ws.map (·.1)) lim->∀ H',Same H H'->E (.ref t.c_BadBeam) none H')/\(zf6 n r (ws.map (·.1)) lim->¬ zh0 n r (ws.map (·.1)).length (ws.map (·.2))->∀ H',Same H H'->E (.ref t.c_BadStanding) none H') ∧
   (zf6 n r (ws.map (·.1)) lim->zh0 n r (ws.map (·.1)).length (ws.map (·.2))->¬ absI (zd8 (ws.map (·.1)) (ws.map (·.2)))<=lim->∀ H',Same H H'->E (.ref t.c_StartPast) none H') ∧
   (zf6 n r (ws.map (·.1)) lim->zh0 n r (ws.map (·.1)).length (ws.map (·.2))->absI (zd8 (ws.map (·.1)) (ws.map (·.2)))<=lim->∀ o H',Same H H'->H' o=some (.lst (ks.map fun k=>.str (zG6 (ws.map (·.1)) (ws.map (·.2)) k)))->Q (.ref o) H')
theorem ok_answers (T:Txt K mg t):FnOk P w K mg base (CXE P w) 10 t.a_answers t.d_answers ["text","rows"] (zG7 K t):=by
 have G_read_beam:FnOk P w K mg base (CXE P w) 7 t.a_read_beam t.d_read_beam ["text"] (zB5 K t):=ok_read_beam T
 have G_Play_init:FnOk P w K mg base (CXE P w) 7 t.a_Play_init t.d_Play_init ["self","beam","start"] (zB7 K t):=ok_Play_init T
 have G_answer:FnOk P w K mg base CX0 9 t.a_answer t.d_answer ["play","row"] (zJ7 K t):=ok_answer T
 refine T.F_answers.d.okE zq4 (fun vs H Q E h=>?_) (fun cdv A outer s H vs Q E hr h=>?_)
 . obtain ⟨z,l,ks,rfl,hl,hkl,hz,qn,q⟩:=h
   rfl
 . obtain ⟨z,l,ks,rfl,hl,hkl,hz,qn,q⟩:=h
   have hr_read_beam:Room 7 _:=hr.mono (by decide)
   have hr_Play:Room 8 _:=hr.mono (by decide)
   have hr_answer:Room 9 _:=hr.mono (by decide)
   refine⟨_,(za1 (zb5 (i:=2) zq4.nd rfl (Or.inl rfl) (zb1 G_read_beam hr_read_beam rfl T.m_read_beam T.k_read_beam T.b_read_beam .nil zd9 (za0 (pv 0) za2)))
     (za1 (zb5 (i:=3) zq4.nd rfl (Or.inl rfl) (zP8 T.mk_Play G_Play_init hr_Play rfl T.m_Play T.b_Play_init .nil zd9 (za0 (zc7 zK8 (pv 2) za3 (fun _ _=>rfl)) (za0 (zc7 zK8 (pv 2) za3 (fun _ _=>rfl)) za2))))
     (za1 (zb5 (i:=4) zq4.nd rfl (Or.inl rfl) (zm1 za2))
     (za1 (zn2 zm6 rfl (zo3 (pv 1)) (zd4 (i:=5) zq4.nd rfl (Or.inl rfl)) (za6 (zg4 (zk0 PySem.F.plainAttrs_list PySem.F.slot_list_append PySem.F.type_list_append zj5 (pv 4) (za0 (zb1 G_answer hr_answer rfl T.m_answer T.k_answer T.b_answer .nil zc4 (za0 (pv 3) (za0 (pv 5) za2))) za2)))))
     (za6 (zb9 (pv 4))))))),?_⟩
   refine⟨_,rfl,z,rfl,hz,qn,fun n r lim ws he=>?_⟩
   obtain ⟨q1,q2,q3,q⟩:=q n r lim ws he
   refine⟨q1,q2,fun ok V0 l1 b pl H1 s1 B hp hl1=>?_⟩
   generalize ws.map (·.1)=hs at *
   generalize ws.map (·.2)=s at *
   refine⟨_,rfl,l1,_,_,_,rfl,rfl,SqT.of hl1,at_0,_,rfl,l1,_,_,_,rfl,rfl,SqT.of hl1,at_1,fun p dx fp fdx ndx=>?_⟩
   have sp3:Same H1 (upd (upd H1 dx (.own p)) p (.ins t.c_Play dx [])):=(Same.upd fdx).updT (by rw[za7 (Ne.symm ndx)];exact fp)
   have hp3:(upd (upd H1 dx (.own p)) p (.ins t.c_Play dx [])) p=some (.ins t.c_Play dx []):=za5
   revert sp3 hp3
   generalize upd (upd H1 dx (.own p)) p (.ins t.c_Play dx [])=H3
   intro sp3 hp3
   have nbp:b≠p:=fun z=>by obtain ⟨_,_,_,hb,_⟩:=B;rw[z,fp] at hb;cases hb
   refine⟨p,b,pl,dx,n,r,lim,hs,s,rfl,hp3,nbp,B.same sp3,V0,.inr (sp3 _ _ hp),fun k0 H4 s0 m x4 fm4 P4=>⟨rfl,?_⟩,fun nk H' s'=>q3 ok V0 nk H' ((s1.trans sp3).trans s')⟩
   have fp0:H p=none:=s1.free fp
   have s04:Same H H4:=fun c o e=>x4 c o (sp3 _ _ (s1 _ _ e)) (za8 e fp0)
   refine⟨Nat.zero_le _,fun td ftd=>?_⟩
   have ntm:td≠m:=(za8 P4.hm ftd).symm
   have ftd0:H td=none:=s04.free ftd
   have s5:Same H4 (upd H4 td (.lst [])):=Same.upd ftd
   have htd5:(upd H4 td (.lst [])) td=some (.lst []):=za5
   dsimp only
   revert s5 htd5
   generalize upd H4 td (.lst [])=H5
   intro s5 htd5
   have s05:=s04.trans s5
   refine⟨_,rfl,l,rfl,⟨_,SqL.of (s05 _ _ hl)⟩,zv1 (K:=K) (a:=l) (xs:=ks.map fun k=>V.str (zG5 k)) (fun i σ H'=>∃ v5,σ=[some (.str z),some (.ref l),some (.ref l1),some (.ref p),some (.ref td),v5]/\Same H H'/\zn7 t H' p b s0 s0 m n r hs lim s s [] []/\H' td=some (.lst ((ks.take i).map fun k=>V.str (zG6 hs s k)))) ⟨none,rfl,s05,P4.same s5,htd5⟩ (fun i σ H' _ ⟨_,_,sm,_⟩=>SqL.of (sm _ _ hl)) ?_ ?_⟩
   . rintro i v σ H6 hk ⟨v5,rfl,sm,P6,htd⟩
     rw[List.getElem?_map] at hk
     cases e:ks[i]? with
     | none=>rw[e] at hk;cases hk
     | some k =>
       rw[e] at hk
       cases hk
       have hk2:i<ks.length:=(List.getElem?_eq_some_iff.mp e).1
       refine⟨_,rfl,.inl ⟨rfl,_,SqL.of htd⟩,_,rfl,_,rfl,k,p,b,s0,s0,m,n,r,lim,hs,s,s,rfl,P6,V0,fun H7 s7=>?_⟩
       have htd7:=s7 _ _ htd
       refine⟨td,_,_,rfl,rfl,htd7,zg1 (by rw[List.length_map,List.length_take];omega),?_⟩
       refine⟨_,rfl,fun a o e'=>?_,(P6.same s7).updL htd7 ntm,?_⟩
       . rw[za7 (za8 e' ftd0)]
         exact s7 _ _ (sm _ _ e')
       . rw[za5,List.take_succ,e,List.map_append]
         rfl
   . rintro σ H6 ⟨v5,rfl,sm,P6,htd⟩
     rw[List.length_map,List.take_length] at htd
     exact⟨_,rfl,q ok V0 k0 td H6 sm htd⟩
end
end Bt
namespace Bt
open PySem L2
section
variable {P:Program} {w:World} {K:W.Frag} {mg:Str->Option Value} {base:Heap} {t:Adr}
noncomputable def zd3 (z:Str):Int:=match ze4 z with
 | some n=>n
 | none=>-1
noncomputable def optV:Option Int->V
 | some n=>.int n
 | none=>.non
noncomputable def zw9 (K:W.Frag) (t:Adr):Sp:=fun vs H Q _=>∃ z:Str,vs=[.str z]/\z.length<=1000000/\Asc z/\Q (.int (zd3 z)) H
noncomputable def zJ8 (K:W.Frag) (t:Adr):Sp:=fun vs H Q _=>∃ z:Str,vs=[.str z]/\z.length<=1000000/\Asc z/\∀ H',Same H H'->Q (optV (zm7 z)) H'
theorem zy1 {z:Str} (h:¬ zs1 z=true):zd3 z = -1:=by
 unfold zd3 ze4
 rw[if_neg h]
theorem zE2 (T:Txt K mg t):FnOk P w K mg base CX0 1 t.a_w_number t.d_w_number ["_law_word"] (zw9 K t):=by
 refine T.F_w_number.ok sc_w_number (fun vs H Q E h=>?_) (fun cdv A outer s H vs Q E hr h=>?_)
 . obtain ⟨z,rfl,hz,ha,q⟩:=h
   rfl
 . obtain ⟨z,rfl,hz,ha,q⟩:=h
   refine⟨_,(za1 (zc8 (PW.pt (zr0 (zb3 zy5 (zc0 zg7 rfl T.n_len PySem.boot_len (za0 (pv 0) za2)) za3 (zb4 _)) (zr0 (zb3 zl7 (zc0 zg7 rfl T.n_len PySem.boot_len (za0 (pv 0) za2)) za3 (zb4 _)) (zr5 (zz3 (zi9 (pe_bm0 PySem.F.plainAttrs_str PySem.F.slot_str_isdigit PySem.F.type_str_isdigit mt_isdig (pv 0)))))))) (za6 (zb9 (zM1 zF6 za3))) zb6)
     (za1 (zc8 (PW.pt (zK6 (zb3 zl7 (zc0 zg7 rfl T.n_len PySem.boot_len (za0 (pv 0) za2)) za3 (zb4 _)) (zE4 (zb3 zf0 (zc7 zO5 (pv 0) za3 (fun _ _=>rfl)) zb0 (zb4 _))))) (za6 (zb9 (zM1 zF6 za3))) zb6)
     (za6 (zb9 (ze7 zy8 rfl T.n_int PyProof.Rows.boot_int (za0 (pv 0) za2)))))),?_⟩
   have hl:z.cps.toList.length=z.length:=by simp[Str.length]
   refine⟨_,rfl,_,rfl,zj3 hz,_,_,rfl,rfl,_,rfl,?_⟩
   refine ite2 (fun h1=>?_) (fun h1=>?_)
   . have h1':(z.length:Int)<1:=of_decide_eq_true h1
     rw[zy1 fun e=>by have:=zp8.mp e;omega] at q
     exact iteT ⟨_,rfl,q⟩
   . have g1:¬ (z.length:Int)<1:=fun e=>h1 (decide_eq_true e)
     refine⟨_,rfl,_,rfl,zj3 hz,_,_,rfl,rfl,_,rfl,?_⟩
     refine ite2 (fun h2=>?_) (fun h2=>?_)
     . have h2':(4:Int)<z.length:=of_decide_eq_true h2
       rw[zy1 fun e=>by have:=zp8.mp e;omega] at q
       exact iteT ⟨_,rfl,q⟩
     . have g2:¬ (4:Int)<z.length:=fun e=>h2 (decide_eq_true e)
       refine⟨_,rfl,rfl,_,rfl,rfl,_,rfl,?_⟩
       refine ite2 (fun h3=>?_) (fun h3=>?_)
       . have h3':Txt.isdigit z=false:=by simpa using h3
         rw[zy1 fun e=>by
           obtain ⟨a1,a2,a3,a4⟩:=zp8.mp e
           have:=(zJ2 ha).mpr ⟨fun e0=>by rw[e0] at hl;simp at hl;omega,a3⟩
           rw[h3'] at this
           cases this] at q
         exact⟨_,rfl,q⟩
       . have h3':Txt.isdigit z=true:=by simpa using h3
         obtain ⟨d1,d2⟩:=(zJ2 ha).mp h3'
         obtain ⟨c,r,hc⟩:∃ c r,z.cps.toList=c::r:=by
           cases hz0:z.cps.toList with
           | nil=>exact absurd hz0 d1
           | cons c r=>exact⟨c,r,rfl⟩
         refine⟨_,rfl,_,rfl,zj3 hz,_,_,rfl,rfl,_,rfl,?_⟩
         have done:zs1 z=true->tRet (tCB (fun xs H Q=>∃ x n,xs=[.str x]/\intText? x=some n/\x.length<=640/\Q (.int n) H) (zP7 (tVar 0) tNil)) { nx:=fun _ H'=>Q V.non H',rt:=Q } [some (.str z)] H:=fun e=>by
           have hr0:ze4 z=some ((NumText.digitsVal z.cps.toList:Nat):Int):=by unfold ze4;rw[if_pos e]
           unfold zd3 at q
           rw[hr0] at q
           exact⟨_,rfl,z,_,rfl,zI6 e,by omega,q⟩
         refine ite2 (fun h4=>?_) (fun h4=>?_)
         . have g4:(1:Int)<z.length:=of_decide_eq_true h4
           refine⟨_,rfl,z,0,c,rfl,rfl,zj3 hz,by rw[hc];exact at_0,rfl,_,rfl,?_⟩
           refine ite2 (fun h5=>?_) (fun h5=>?_)
           . have h5':c=48:=by
               have:=of_decide_eq_true h5
               injection this with this
               rw[zS3,zL7] at this
               simpa using this
             rw[zy1 fun e=>by
               obtain ⟨a1,a2,a3,a4⟩:=zp8.mp e
               exact a4 (by omega) (by rw[hc,h5'];rfl)] at q
             exact⟨_,rfl,q⟩
           . refine done (zp8.mpr ⟨by omega,by omega,d2,fun _ e=>h5 (decide_eq_true ?_)⟩)
             rw[hc] at e
             have e':c=48:=by simpa using e
             rw[e',zS3]
         . have g4:¬ (1:Int)<z.length:=fun e=>h4 (decide_eq_true e)
           refine iteF (done (zp8.mpr ⟨by omega,by omega,d2,fun e=>?_⟩))
           omega
theorem ok_w_spot (T:Txt K mg t):FnOk P w K mg base CX0 2 t.a_w_spot t.d_w_spot ["_law_word"] (zJ8 K t):=by
 have G_w_number:FnOk P w K mg base CX0 1 t.a_w_number t.d_w_number ["_law_word"] (zw9 K t):=zE2 T
 refine T.F_w_spot.ok zC8 (fun vs H Q E h=>?_) (fun cdv A outer s H vs Q E hr h=>?_)
 . obtain ⟨z,rfl,hz,ha,q⟩:=h
   rfl
 . obtain ⟨z,rfl,hz,ha,q⟩:=h
   have hr_w_number:Room 1 _:=hr.mono (by decide)
   refine⟨_,(za1 (zc8 (zb3 zf0 (pv 0) zb0 (zb4 _)) (za6 (zb9 za3)) zb6)
     (za1 (zb5 (i:=1) zC8.nd rfl (Or.inl rfl) (ze7 zH3 rfl T.n_int PyProof.Rows.boot_int (za0 (zg6 zf0 (ze3 zt9 (pv 0) zf8 (zf9 za3)) zb0 (zb4 _)) za2)))
     (za1 (zb5 (i:=2) zC8.nd rfl (Or.inl rfl) (zb1 G_w_number hr_w_number rfl T.m_w_number T.k_w_number T.b_w_number .nil zc4 (za0 (ze3 zt9 (pv 0) (zf9 (pv 1)) zf8) za2)))
     (za1 (zc8 (zb3 zy5 (pv 2) za3 (zb4 _)) (za6 (zb9 zC1)) zb6)
     (za6 (zb9 (zc7 zb7 (zm1 (za0 (pv 2) (za0 (zb2 zz5 za3 (pv 2)) za2))) (pv 1) (fun _ _=>rfl)))))))),?_⟩
   refine⟨_,rfl,rfl,_,rfl,?_⟩
   unfold zm7 at q
   refine ite2 (fun h1=>?_) (fun h1=>?_)
   . have e:z=Str.ofString "tray":=by simpa using h1
     rw[if_pos e] at q
     exact q _ (Same.refl _)
   . have e:¬ z=Str.ofString "tray":=by simpa using h1
     rw[if_neg e] at q
     refine⟨_,rfl,_,rfl,z,rfl,zj3 hz,rfl,.inr ⟨_,rfl,?_⟩⟩
     rw[one_minus]
     have fin:∀ (z':Str) (m:Int) (i:Int),(m=1/\i=1\/m=0/\i=0)->(zd3 z'<1->∀ H',Same H H'->Q .non H')->(¬ zd3 z'<1->∀ H',Same H H'->Q (.int (if m=1 then 0-zd3 z' else zd3 z')) H') →
         (tSeq (tIfS (zV6 (tOp (rI0 fun i j=>V.bl (decide (i<j))) (tVar 2) (tC (V.int 1)))) (tRet (tC V.non)) zV4)
           (tRet (tOp (rIxL K) (tLst (zP7 (tVar 2) (zP7 (tOp (rI0 fun i j=>V.int (i-j)) (tC (V.int 0)) (tVar 2)) tNil))) (tVar 1)))) { nx:=fun x H'=>Q V.non H',rt:=Q } [some (.str z),some (.int m),some (.int (zd3 z'))] H:=fun z' m i hm q1 q2=>by
       refine⟨_,rfl,_,_,rfl,rfl,_,rfl,?_⟩
       refine ite2 (fun h3=>?_) (fun h3=>?_)
       . exact q1 (of_decide_eq_true h3) _ (Same.refl _)
       . have h3':¬ zd3 z'<1:=fun e=>h3 (decide_eq_true e)
         refine⟨_,rfl,_,rfl,_,_,rfl,rfl,(by show 2<=sizeLine;decide),fun l hl=>?_⟩
         refine⟨_,rfl,l,_,_,_,rfl,rfl,SqL.of za5,?_,q2 h3' _ (Same.upd hl)⟩
         rcases hm with ⟨rfl,_⟩ | ⟨rfl,_⟩
         . rw[if_pos rfl];exact at_1
         . rw[if_neg (by decide)];exact at_0
     cases h2:Txt.startswith z (Str.ofString "-") with
     | true =>
       rw[h2] at q
       simp only[if_true] at q ⊢
       refine⟨_,rfl,_,rfl,_,rfl,z,rfl,zj3 hz,_,rfl,Nat.le_trans (Txt.slice_le z _ _) hz,ha.sl,?_⟩
       refine fin _ 1 1 (.inl ⟨rfl,rfl⟩) (fun h3 H' s'=>?_) (fun h3 H' s'=>?_)
       . have:=q H' s'
         unfold zd3 at h3
         cases hn:ze4 (Txt.slice z (some 1) none) with
         | none=>rw[hn] at this;exact this
         | some n =>
           rw[hn] at this h3
           have hp:=(zG4 hn).1
           have e0:n=0:=by dsimp only at h3;omega
           subst e0
           exact this
       . have:=q H' s'
         unfold zd3 at h3 ⊢
         cases hn:ze4 (Txt.slice z (some 1) none) with
         | none=>rw[hn] at h3;exact absurd h3 (by decide)
         | some n =>
           rw[hn] at this h3
           dsimp only at this h3 ⊢
           rw[if_neg (by omega)] at this
           rw[if_pos rfl]
           have e1:(0:Int)-n = -n:=by omega
           rw[e1]
           exact this
     | false =>
       rw[h2] at q
       simp only[Bool.false_eq_true,if_false] at q ⊢
       refine⟨_,rfl,_,rfl,_,rfl,z,rfl,zj3 hz,_,rfl,Nat.le_trans (Txt.slice_le z _ _) hz,ha.sl,?_⟩
       refine fin _ 0 0 (.inr ⟨rfl,rfl⟩) (fun h3 H' s'=>?_) (fun h3 H' s'=>?_)
       . rw[zS4] at h3
         have:=q H' s'
         unfold zd3 at h3
         cases hn:ze4 z with
         | none=>rw[hn] at this;exact this
         | some n =>
           rw[hn] at this h3
           have hp:=(zG4 hn).1
           have e0:n=0:=by dsimp only at h3;omega
           subst e0
           exact this
       . rw[zS4] at h3 ⊢
         have:=q H' s'
         unfold zd3 at h3 ⊢
         cases hn:ze4 z with
         | none=>rw[hn] at h3;exact absurd h3 (by decide)
         | some n =>
           rw[hn] at this h3
           dsimp only at this h3 ⊢
           rw[if_neg (by omega)] at this
           rw[if_neg (by decide)]
           exact this
end
end Bt
namespace Bt
open PySem L2
section
variable {P:Program} {w:World} {K:W.Frag} {mg:Str->Option Value} {base:Heap} {t:Adr}
noncomputable def zJ9 (K:W.Frag) (t:Adr):Sp:=fun vs H Q _=>∃ (z:Str) (c:Int),vs=[.str z,.int c]/\z.length<=100000/\Asc z/\∀ z':Str,Asc z'->z'.length<=2*z.length+1->Q (.str z') H
noncomputable def zK0 (K:W.Frag) (t:Adr):Sp:=fun vs H Q _=>∃ c:Int,vs=[.int c]/\∀ (z':Str) H',Same H H'->Asc z'->z'.length<=10->Q (.str z') H'
noncomputable instance (z:Str):Decidable (Asc z):=inferInstanceAs (Decidable (∀ c∈z.cps.toList,c<128))
theorem zS8 {α:Type} {xs:List α} {i:Int} (h0:0<=i) (h1:i<xs.length):∃ x,x∈xs/\atI xs i=some x:=by
 obtain ⟨j,rfl⟩:∃ j:Nat,i=j:=⟨i.toNat,by omega⟩
 have hj:j<xs.length:=by omega
 exact⟨xs[j],List.getElem_mem _,zo4 (by simp[hj])⟩
theorem pick_sign {z:Str} (ha:Asc z) {i:Int} (h0:0<=i) (h1:i<z.length):∃ c,c<128/\atI z.cps.toList i=some c:=by
 have hl:z.cps.toList.length=z.length:=by simp[Str.length]
 obtain ⟨c,hc,e⟩:=zS8 (xs:=z.cps.toList) h0 (by omega)
 exact⟨c,ha c hc,e⟩
theorem asc1 {c:Nat} (h:c<128):Asc ⟨#[c]⟩:=fun d hd=>by
 have:d=c:=by simpa using hd
 omega
noncomputable def zx0:Str:=Str.ofString "0123456789- tray\nnoe+~.wlST"
theorem signs1_ok:Asc zx0/\zx0.length=27:=by decide +kernel
theorem ok_w_edit (T:Txt K mg t):FnOk P w K mg base CX0 1 t.a_w_edit t.d_w_edit ["_law_text","_law_cell"] (zJ9 K t):=by
 refine T.F_w_edit.ok zs9 (fun vs H Q E h=>?_) (fun cdv A outer s H vs Q E hr h=>?_)
 . obtain ⟨z,c,rfl,hz,ha,q⟩:=h
   rfl
 . obtain ⟨z,c,rfl,hz,ha,q⟩:=h
   refine⟨_,(za1 (zb5 (i:=2) zs9.nd rfl (Or.inl rfl) zb0)
     (za1 (zb5 (i:=3) zs9.nd rfl (Or.inl rfl) (zb2 ze1 (pv 1) za3))
     (za1 (zb5 (i:=4) zs9.nd rfl (Or.inl rfl) (zb2 ze1 (zb2 zg5 (pv 1) za3) (zb2 zi7 (zc0 zg7 rfl T.n_len PySem.boot_len (za0 (pv 0) za2)) za3)))
     (za1 (zb5 (i:=5) zs9.nd rfl (Or.inl rfl) (zc7 zO5 (pv 2) (zb2 ze1 (zb2 zg5 (zb2 zg5 (pv 1) za3) (zb2 zi7 (zc0 zg7 rfl T.n_len PySem.boot_len (za0 (pv 0) za2)) za3)) (zc0 zg7 rfl T.n_len PySem.boot_len (za0 (pv 2) za2))) (fun _ _=>rfl)))
     (za1 (zc8 (zb3 zf0 (pv 3) za3 (zb4 _)) (za6 (zb9 (zb2 zc5 (zb2 zc5 (ze3 zt9 (pv 0) zf8 (zf9 (pv 4))) (pv 5)) (ze3 zt9 (pv 0) (zf9 (pv 4)) zf8)))) zb6)
     (za1 (zc8 (zb3 zf0 (pv 3) za3 (zb4 _)) (za6 (zb9 (zb2 zc5 (ze3 zt9 (pv 0) zf8 (zf9 (pv 4))) (ze3 zt9 (pv 0) (zf9 (zb2 zi7 (pv 4) za3)) zf8)))) zb6)
     (za1 (zc8 (zb3 zf0 (pv 3) za3 (zb4 _)) (za6 (zb9 (zb2 zc5 (zb2 zc5 (ze3 zt9 (pv 0) zf8 (zf9 (pv 4))) (pv 5)) (ze3 zt9 (pv 0) (zf9 (zb2 zi7 (pv 4) za3)) zf8)))) zb6)
     (za6 (zb9 (pv 0)))))))))),?_⟩
   have hsl:sizeLine=16777216:=by decide
   have hs2:=signs1_ok
   have l27:=hs2.2
   have hpos:(0:Int)<(z.length:Int)+1:=by omega
   refine⟨_,rfl,_,_,rfl,rfl,(by show (0:Int)<9;decide),?_⟩
   refine⟨_,rfl,_,_,rfl,rfl,⟨by decide,by decide⟩,_,rfl,_,rfl,by omega,_,_,rfl,rfl,_,_,rfl,rfl,hpos,?_⟩
   have t0:0<=c / 9 % ((z.length:Int)+1):=Int.emod_nonneg _ (by omega)
   refine⟨_,rfl,_,rfl,_,_,rfl,rfl,⟨by decide,by decide⟩,_,rfl,_,rfl,by omega,_,_,rfl,rfl,_,_,rfl,rfl,⟨hpos,by omega⟩,_,rfl,_,rfl,(by show zx0.length<=sizeLine;omega),_,_,rfl,rfl,(by show (0:Int)<((zx0.length:Nat):Int);omega),?_⟩
   have w0:0<=c / 9 / ((z.length:Int)+1) % ((zx0.length:Nat):Int):=Int.emod_nonneg _ (by omega)
   have w1:c / 9 / ((z.length:Int)+1) % ((zx0.length:Nat):Int)<((zx0.length:Nat):Int):=Int.emod_lt_of_pos _ (by omega)
   obtain ⟨d,hd,ed⟩:=pick_sign hs2.1 w0 w1
   refine⟨_,_,d,rfl,rfl,(by show zx0.length<=sizeLine;omega),ed,?_⟩
   have q1:∀ a b:Option Int,∀ x y:Option Int,Q (.str ((Txt.slice z a b++⟨#[d]⟩)++Txt.slice z x y)) H:=fun a b x y=>q _ ((ha.sl.app (asc1 hd)).app ha.sl) (by
     rw[zd5,zd5]
     have:=Txt.slice_le z a b
     have:=Txt.slice_le z x y
     have e1:(⟨#[d]⟩:Str).length=1:=rfl
     omega)
   have q2:∀ a b:Option Int,∀ x y:Option Int,Q (.str (Txt.slice z a b++Txt.slice z x y)) H:=fun a b x y=>q _ (ha.sl.app ha.sl) (by
     rw[zd5]
     have:=Txt.slice_le z a b
     have:=Txt.slice_le z x y
     omega)
   have sl1:∀ a b,(Txt.slice z a b).length<=100000:=fun a b=>Nat.le_trans (Txt.slice_le z a b) hz
   have e1:(⟨#[d]⟩:Str).length=1:=rfl
   have hz6:z.length<=sizeLine:=by omega
   have b1:∀ a b,(Txt.slice z a b).length+(⟨#[d]⟩:Str).length<=sizeLine:=fun a b=>by have:=sl1 a b;omega
   have b2:∀ a b x y,(Txt.slice z a b++⟨#[d]⟩).length+(Txt.slice z x y).length<=sizeLine:=fun a b x y=>by rw[zd5];have:=sl1 a b;have:=sl1 x y;omega
   have b3:∀ a b x y,(Txt.slice z a b).length+(Txt.slice z x y).length<=sizeLine:=fun a b x y=>by have:=sl1 a b;have:=sl1 x y;omega
   refine⟨_,rfl,rfl,_,rfl,?_⟩
   refine ite2 (fun _=>?_) (fun _=>?_)
   . exact⟨_,rfl,_,rfl,_,rfl,z,rfl,hz6,_,rfl,_,_,rfl,rfl,b1 _ _,_,rfl,_,rfl,_,rfl,z,rfl,hz6,_,_,rfl,rfl,b2 _ _ _ _,q1 _ _ _ _⟩
   refine⟨_,rfl,rfl,_,rfl,?_⟩
   refine ite2 (fun _=>?_) (fun _=>?_)
   . exact⟨_,rfl,_,rfl,_,rfl,z,rfl,hz6,_,rfl,_,rfl,_,_,rfl,rfl,_,rfl,z,rfl,hz6,_,_,rfl,rfl,b3 _ _ _ _,q2 _ _ _ _⟩
   refine⟨_,rfl,rfl,_,rfl,?_⟩
   refine ite2 (fun _=>?_) (fun _=>?_)
   . exact⟨_,rfl,_,rfl,_,rfl,z,rfl,hz6,_,rfl,_,_,rfl,rfl,b1 _ _,_,rfl,_,rfl,_,_,rfl,rfl,_,rfl,z,rfl,hz6,_,_,rfl,rfl,b2 _ _ _ _,q1 _ _ _ _⟩
   . exact⟨_,rfl,q z ha (by omega)⟩
noncomputable def zt1:List Str:=[Str.ofString "0",Str.ofString "-0",Str.ofString "00",Str.ofString "01",Str.ofString "-01",Str.ofString "+1",Str.ofString "1",Str.ofString "-1",Str.ofString "tray",Str.ofString "none",Str.ofString "-",Str.ofString "",Str.ofString "--1",Str.ofString "12345",Str.ofString "-9999"]
noncomputable def zt2:List Str:=[Str.ofString "9999",Str.ofString "Tray",Str.ofString "trays",Str.ofString "1.",Str.ofString "-12345",Str.ofString "tray\n",Str.ofString "2",Str.ofString "-2",Str.ofString "5",Str.ofString "1_0",Str.ofString "400",Str.ofString "21"]
theorem menu_ok:∀ w∈zt1++zt2,Asc w/\w.length<=10:=by decide +kernel
theorem menu_body:∃ (es0 es1:List Expr) (p1 q1 r1 p2 p3 q2 b2 r2:Pos),za9 zn0=[.Assign [.Name (Str.ofString "_law_words") p1] (.List es0 q1) r1,.Assign [.Name (Str.ofString "_law_words") p2] (.BinOp (.Name (Str.ofString "_law_words") p3) .Add (.List es1 q2) b2) r2,stAt (za9 zn0) 2]/\zv6 es0=some zt1/\zv6 es1=some zt2 :=
 ⟨_,_,_,_,_,_,_,_,_,_,rfl,by decide +kernel,by decide +kernel⟩
theorem ok_w_menu (T:Txt K mg t):FnOk P w K mg base CX0 1 t.a_w_menu t.d_w_menu ["_law_cell"] (zK0 K t):=by
 refine T.F_w_menu.ok zC9 (fun vs H Q E h=>?_) (fun cdv A outer s H vs Q E hr h=>?_)
 . obtain ⟨c,rfl,q⟩:=h
   rfl
 . obtain ⟨c,rfl,q⟩:=h
   obtain ⟨es0,es1,p1,q1,r1,p2,p3,q2,b2,r2,hb,hm1,hm2⟩:=menu_body
   rw[hb]
   refine⟨_,(za1 (ps_lst_gen (i:=1) hm1 zC9.nd rfl (Or.inl rfl)) (za1 (ps_cat_gen (i:=1) hm2 zC9.nd rfl (Or.inl rfl) (pv 1))
     (za6 (zb9 (zc7 zb7 (pv 1) (zb2 ze1 (pv 0) (zc0 zc2 rfl T.n_len PySem.boot_len (za0 (pv 1) za2))) (fun _ _=>rfl)))))),?_⟩
   have hsl:sizeLine=16777216:=by decide
   refine⟨(by show 15<=sizeLine;omega),fun l1 f1=>?_⟩
   refine⟨_,rfl,(by show 12<=sizeLine;omega),fun l2 f2=>?_⟩
   have s1:Same H (upd H l1 (.lst (zt1.map V.str))):=Same.upd f1
   have s2:=Same.upd (o:=.lst (zt2.map V.str)) f2
   refine⟨l1,l2,zt1.map V.str,zt2.map V.str,rfl,rfl,s2 _ _ za5,za5,(by show 15+12<=sizeLine;omega),fun l3 f3=>?_⟩
   rw[<-List.map_append]
   have s3:=Same.upd (o:=.lst ((zt1++zt2).map V.str)) f3
   have h3:upd (upd (upd H l1 (.lst (zt1.map V.str))) l2 (.lst (zt2.map V.str))) l3 (.lst ((zt1++zt2).map V.str)) l3=some (.lst ((zt1++zt2).map V.str)):=za5
   have ln:((zt1++zt2).map V.str).length=27:=rfl
   have w0:0<=c % (((((zt1++zt2).map V.str).length:Nat)):Int):=Int.emod_nonneg _ (by omega)
   have w1:c % (((((zt1++zt2).map V.str).length:Nat)):Int)<(((((zt1++zt2).map V.str).length:Nat)):Int):=Int.emod_lt_of_pos _ (by omega)
   obtain ⟨x,hx,ex⟩:=zS8 w0 w1
   obtain ⟨y,hy,rfl⟩:=List.mem_map.mp hx
   obtain ⟨y1,y2⟩:=menu_ok y hy
   exact⟨_,rfl,_,rfl,_,rfl,l3,_,rfl,.inl (SqL.of h3),_,_,rfl,rfl,(by show (0:Int)<((((zt1++zt2).map V.str).length:Nat):Int);rw[ln];decide),l3,_,_,_,rfl,rfl,SqL.of h3,ex,q y _ ((s1.trans s2).trans s3) y1 y2⟩
theorem zF1 (T:Txt K mg t):FnOk P w K mg base CX0 1 t.a_w_at t.d_w_at ["_law_script","_law_k"] (zB3 K t):=by
 refine T.F_w_at.ok sc_w_at (fun vs H Q E h=>?_) (fun cdv A outer s H vs Q E hr h=>?_)
 . obtain ⟨a,ns,k,rfl,hS,q⟩:=h
   rfl
 . obtain ⟨a,ns,k,rfl,hS,q⟩:=h
   refine⟨_,(za1 (zc8 (zb3 zy5 (pv 1) (zc0 zc2 rfl T.n_len PySem.boot_len (za0 (pv 0) za2)) (zb4 _)) (za6 (zb9 (zc7 zb7 (pv 0) (pv 1) (fun _ _=>rfl)))) zb6)
     (za6 (zb9 za3))),?_⟩
   refine⟨_,rfl,_,rfl,a,_,rfl,.inl hS,_,_,rfl,rfl,_,rfl,?_⟩
   rw[List.length_map]
   refine ite2 (fun h1=>?_) (fun h1=>?_)
   . have hk:k<ns.length:=by have:=of_decide_eq_true h1;omega
     have e:ns.getD k 0=ns[k]:=by simp[hk]
     rw[e] at q
     exact⟨_,rfl,_,rfl,a,_,_,_,rfl,rfl,hS,zQ5 (by simp[hk]),q⟩
   . have hk:¬ k<ns.length:=fun z=>h1 (decide_eq_true (by omega))
     have e:ns.getD k 0=0:=by simp[hk]
     rw[e] at q
     exact q
theorem zD2 (T:Txt K mg t):FnOk P w K mg base CX0 1 t.a_w_figs t.d_w_figs ["_law_cell","_law_count","_law_base","_law_mix"] (zx9 K t):=by
 refine T.F_w_figs.ok zm4 (fun vs H Q E h=>?_) (fun cdv A outer s H vs Q E hr h=>?_)
 . obtain ⟨cell,base0,n,mix,rfl,⟨hn,hb,hb2⟩,q⟩:=h
   rfl
 . obtain ⟨cell,base0,n,mix,rfl,⟨hn,hb,hb2⟩,q⟩:=h
   refine⟨_,(za1 (zb5 (i:=4) zm4.nd rfl (Or.inl rfl) (zm1 za2))
     (za1 (zb5 (i:=5) zm4.nd rfl (Or.inl rfl) (pv 0))
     (za1 (zc8 (zi9 (pv 3)) (za6 (zb5 (i:=5) zm4.nd rfl (Or.inl rfl) (zb2 ze1 (zb2 zv2 (pv 0) za3) za3))) zb6)
     (za1 (zn2 PassesOwn.never rfl (zo8 rfl T.n_range (za0 (pv 1) za2)) (zd4 (i:=6) zm4.nd rfl (Or.inl rfl)) (za6 (zc8 (zi9 (pv 3)) (za1 (zb5 (i:=5) zm4.nd rfl (Or.inl rfl) (zb2 ze1 (zb2 zv2 (zb2 zi7 (zb2 zi7 (pv 5) (pv 6)) za3) za3) za3))
     (za6 (zg4 (zk0 PySem.F.plainAttrs_list PySem.F.slot_list_append PySem.F.type_list_append zj5 (pv 4) (za0 (zb2 ze1 (zb2 zg5 (pv 5) za3) (pv 2)) za2))))) (za1 (zg4 (zk0 PySem.F.plainAttrs_list PySem.F.slot_list_append PySem.F.type_list_append zj5 (pv 4) (za0 (zb2 ze1 (pv 5) (pv 2)) za2)))
     (za6 (zb5 (i:=5) zm4.nd rfl (Or.inl rfl) (zb2 zg5 (pv 5) (pv 2))))))))
     (za6 (zb9 (pv 4))))))),?_⟩
   refine⟨Nat.zero_le _,fun l hl=>?_⟩
   refine⟨_,rfl,_,rfl,_,rfl,?_⟩
   have e0:(zn9 cell base0 mix 0).2=[]:=rfl
   cases mix
   . refine iteF ?_
     refine⟨_,rfl,_,rfl,by omega,by omega,zm0 (n:=(n:Int).toNat) (fun i σ H'=>∃ v,σ=[some (.int cell),some (.int n),some (.int base0),some (.bl false),some (.ref l),some (.int (zn9 cell base0 false i).1),v]/\H'=upd H l (.lst ((zn9 cell base0 false i).2.map V.int))/\(zn9 cell base0 false i).2.length=i) ⟨none,rfl,rfl,rfl⟩ ?_ ?_⟩
     . rintro i σ H' hi ⟨v,rfl,rfl,hlen⟩
       refine⟨_,rfl,_,rfl,iteF ?_⟩
       refine⟨_,rfl,.inl ⟨rfl,_,SqL.of za5⟩,_,rfl,_,rfl,_,_,rfl,rfl,hb,l,_,_,rfl,rfl,za5,zg1 (by rw[List.length_map];omega),?_⟩
       refine⟨_,rfl,_,rfl,_,_,rfl,rfl,⟨hb,by omega⟩,_,rfl,?_,?_⟩
       . rw[zi8]
         show upd H l (.lst (_++[V.int _]))=upd H l (.lst ((_++[_]).map V.int))
         rw[List.map_append]
         rfl
       . show (_++[_]).length=i+1
         rw[List.length_append,hlen]
         rfl
     . rintro σ H' ⟨v,rfl,rfl,hlen⟩
       exact⟨_,rfl,q l hl⟩
   . refine iteT ?_
     refine⟨_,rfl,_,_,rfl,rfl,.inr ⟨by decide,by decide⟩,_,_,rfl,rfl,(by show (0:Int)<2147483647;decide),?_⟩
     refine⟨_,rfl,_,rfl,by omega,by omega,zm0 (n:=(n:Int).toNat) (fun i σ H'=>∃ v,σ=[some (.int cell),some (.int n),some (.int base0),some (.bl true),some (.ref l),some (.int (zn9 cell base0 true i).1),v]/\H'=upd H l (.lst ((zn9 cell base0 true i).2.map V.int))/\(zn9 cell base0 true i).2.length=i) ⟨none,rfl,rfl,rfl⟩ ?_ ?_⟩
     . rintro i σ H' hi ⟨v,rfl,rfl,hlen⟩
       refine⟨_,rfl,_,rfl,iteT ?_⟩
       refine⟨_,rfl,_,rfl,_,_,rfl,rfl,_,_,rfl,rfl,_,_,rfl,rfl,.inr ⟨by decide,by decide⟩,_,_,rfl,rfl,(by show (0:Int)<2147483647;decide),?_⟩
       refine⟨_,rfl,.inl ⟨rfl,_,SqL.of za5⟩,_,rfl,_,_,rfl,rfl,⟨by decide,by decide⟩,_,rfl,_,_,rfl,rfl,hb,l,_,_,rfl,rfl,za5,zg1 (by rw[List.length_map];omega),?_⟩
       refine⟨_,rfl,?_,?_⟩
       . rw[zi8]
         show upd H l (.lst (_++[V.int _]))=upd H l (.lst ((_++[_]).map V.int))
         rw[List.map_append]
         rfl
       . show (_++[_]).length=i+1
         rw[List.length_append,hlen]
         rfl
     . rintro σ H' ⟨v,rfl,rfl,hlen⟩
       exact⟨_,rfl,q l hl⟩
theorem ok_w_shape (T:Txt K mg t):FnOk P w K mg base CX0 2 t.a_w_shape t.d_w_shape ["_law_script"] (zG3 K t):=by
 have G_w_at:FnOk P w K mg base CX0 1 t.a_w_at t.d_w_at ["_law_script","_law_k"] (zB3 K t):=zF1 T
 have G_w_figs:FnOk P w K mg base CX0 1 t.a_w_figs t.d_w_figs ["_law_cell","_law_count","_law_base","_law_mix"] (zx9 K t):=zD2 T
 refine T.F_w_shape.ok zh8 (fun vs H Q E h=>?_) (fun cdv A outer s H vs Q E hr h=>?_)
 . obtain ⟨a,ns,rfl,hS,q⟩:=h
   rfl
 . obtain ⟨a,ns,rfl,hS,q⟩:=h
   have hr_w_at:Room 1 _:=hr.mono (by decide)
   have hr_w_figs:Room 1 _:=hr.mono (by decide)
   refine⟨_,(za1 (zb5 (i:=1) zh8.nd rfl (Or.inl rfl) (zb1 G_w_at hr_w_at rfl T.m_w_at T.k_w_at T.b_w_at .nil zc4 (za0 (pv 0) (za0 za3 za2))))
     (za1 (zb5 (i:=2) zh8.nd rfl (Or.inl rfl) (zc7 zb7 (zm1 (za0 za3 (za0 za3 (za0 za3 (za0 za3 za2))))) (zb2 ze1 (pv 1) za3) (fun _ _=>rfl)))
     (za1 (zb5 (i:=3) zh8.nd rfl (Or.inl rfl) (zc0 (zH2 rfl) rfl T.n_min PyProof.Rows.boot_min (za0 (zc7 zb7 (zm1 (za0 za3 (za0 za3 (za0 za3 (za0 za3 za2))))) (zb2 zz5 (pv 2) za3) (fun _ _=>rfl)) (za0 (zc7 zb7 (zm1 (za0 za3 (za0 za3 (za0 za3 (za0 za3 (za0 za3 (za0 za3 za2))))))) (zb2 ze1 (zb2 zg5 (pv 1) za3) za3) (fun _ _=>rfl)) za2))))
     (za1 (zb5 (i:=4) zh8.nd rfl (Or.inl rfl) (zb2 zi7 za3 (zb2 ze1 (zb2 zg5 (pv 1) za3) za3)))
     (za1 (zb5 (i:=5) zh8.nd rfl (Or.inl rfl) (zb1 G_w_at hr_w_at rfl T.m_w_at T.k_w_at T.b_w_at .nil zc4 (za0 (pv 0) (za0 za3 za2))))
     (za1 (zQ2 (i:=6) rfl zB0 (zo3 (zb1 G_w_figs hr_w_figs rfl T.m_w_figs T.k_w_figs T.b_w_figs .nil zc4 (za0 (zb1 G_w_at hr_w_at rfl T.m_w_at T.k_w_at T.b_w_at .nil zc4 (za0 (pv 0) (za0 za3 za2))) (za0 (pv 3) (za0 za3 (za0 (zg6 zf0 (zb2 ze1 (pv 5) za3) za3 (zb4 _)) za2)))))) (fun _ _ _ _ _=>(zd4 (i:=0) zB0.nd rfl (Or.inl rfl))) (fun _ _ _ _ _=>zq1) (fun _ _ _ _ _=>(zb2 zi7 za3 (pv 0))) zh8.nd rfl rfl)
     (za1 (zc8 (zb3 zf0 (zb2 ze1 (zb2 zg5 (pv 5) za3) za3) za3 (zb4 _)) (za6 (zb5 (i:=6) zh8.nd rfl (Or.inl rfl) (zb2 zO6 (ze3 zQ1 (pv 6) zf8 (zf9 za3)) (pv 3)))) zb6)
     (za1 (zc8 (zb3 zf0 (zb2 ze1 (zb2 zg5 (pv 5) za3) za3) za3 (zb4 _)) (za6 (zb5 (i:=6) zh8.nd rfl (Or.inl rfl) (zb2 zO6 (zm1 (za0 za3 za2)) (pv 3)))) zb6)
     (za6 (zb9 (zm1 (za0 (pv 2) (za0 (pv 4) (za0 (pv 6) za2)))))))))))))),?_⟩
   have hm1:0<=at0 ns 1 % 4:=Int.emod_nonneg _ (by decide)
   have hm2:at0 ns 1 % 4<4:=Int.emod_lt_of_pos _ (by decide)
   have hm3:0<=at0 ns 1 / 4 % 6:=Int.emod_nonneg _ (by decide)
   have hm4:at0 ns 1 / 4 % 6<6:=Int.emod_lt_of_pos _ (by decide)
   have hN:=zD0 ns
   obtain ⟨hW0,hW5⟩:=zU5 ns
   have h5:(if shN ns=1 then (5:Int) else if shN ns=2 then 4 else 3)<=5:=by repeat (first | decide | split)
   refine⟨_,rfl,a,ns,1,rfl,hS,?_⟩
   refine⟨by decide,fun l1 f1=>⟨_,rfl,_,_,rfl,rfl,(by show (0:Int)<4;decide),l1,_,_,_,rfl,rfl,SqL.of za5,zq2 (xs:=[2,3,1,4]) hm1 hm2,?_⟩⟩
   have s1:Same H (upd H l1 (.lst [.int 2,.int 3,.int 1,.int 4])):=Same.upd f1
   generalize upd H l1 (.lst [.int 2,.int 3,.int 1,.int 4])=H1 at s1 ⊢
   refine⟨by decide,fun l2 f2=>⟨_,rfl,_,_,rfl,rfl,l2,_,_,_,rfl,rfl,SqL.of za5,zq2 (xs:=[5,4,3,3]) (by show 0<=shN ns-1;omega) (by show shN ns-1<4;omega),?_⟩⟩
   have s2:Same H (upd H1 l2 (.lst [.int 5,.int 4,.int 3,.int 3])):=s1.updT f2
   generalize upd H1 l2 (.lst [.int 5,.int 4,.int 3,.int 3])=H2 at s2 ⊢
   refine⟨by decide,fun l3 f3=>⟨_,rfl,_,_,rfl,rfl,⟨by decide,by decide⟩,_,_,rfl,rfl,(by show (0:Int)<6;decide),l3,_,_,_,rfl,rfl,SqL.of za5,zq2 (xs:=[3,2,4,1,5,0]) hm3 hm4,_,_,rfl,?_⟩⟩
   have s3:Same H (upd H2 l3 (.lst [.int 3,.int 2,.int 4,.int 1,.int 5,.int 0])):=s2.updT f3
   generalize upd H2 l3 (.lst [.int 3,.int 2,.int 4,.int 1,.int 5,.int 0])=H3 at s3 ⊢
   refine⟨_,rfl,_,_,rfl,rfl,⟨by decide,by decide⟩,_,_,rfl,rfl,(by show (0:Int)<3;decide),_,_,rfl,rfl,?_⟩
   refine⟨_,rfl,a,ns,0,rfl,s3.seq hS,?_⟩
   have eW:(((shW ns).toNat:Nat):Int)=shW ns:=by omega
   refine⟨_,rfl,a,ns,2,rfl,s3.seq hS,_,rfl,_,rfl,_,_,rfl,rfl,(by show (0:Int)<2;decide),rfl,at0 ns 2,20,(shW ns).toNat,zl8 ns,?_,⟨by omega,by decide,by decide⟩,fun l4 f4=>⟨l4,rfl,⟨_,SqL.of za5⟩,fun D hD=>?_⟩⟩
   . rw[eW];rfl
   have s4:Same H (upd H3 l4 (.lst ((figs (at0 ns 2) (shW ns).toNat 20 (zl8 ns)).map V.int))):=s3.updT f4
   refine comp_list (f:=fun v=>match v with | .int z=>V.int (1+z) | v=>v) (SqL.of za5) hD (Nat.le_of_lt (zg1 (by rw[List.length_map,zw6];omega))) (fun x acc R hx h=>?_) ?_
   . obtain ⟨z,hz,rfl⟩:=List.mem_map.mp hx
     exact⟨_,rfl,_,_,rfl,rfl,h⟩
   have em:((figs (at0 ns 2) (shW ns).toNat 20 (zl8 ns)).map V.int).map (fun v=>match v with | .int z=>V.int (1+z) | v=>v)=(shH0 ns).map V.int:=by
     unfold shH0
     rw[List.map_map,List.map_map];rfl
   rw[em]
   have s5:=s4.updT (o:=.lst ((shH0 ns).map V.int)) hD
   have fD:H D=none:=s4.free hD
   have hHD:(upd (upd H3 l4 (.lst ((figs (at0 ns 2) (shW ns).toNat 20 (zl8 ns)).map V.int))) D (.lst ((shH0 ns).map V.int))) D=some (.lst ((shH0 ns).map V.int)):=za5
   clear em
   revert s5 hHD
   generalize upd (upd H3 l4 (.lst ((figs (at0 ns 2) (shW ns).toNat 20 (zl8 ns)).map V.int))) D (.lst ((shH0 ns).map V.int))=H5
   intro s5 hHD
   have hl0:=zM8 ns
   refine⟨_,rfl,_,_,rfl,rfl,⟨by decide,by decide⟩,_,_,rfl,rfl,(by show (0:Int)<5;decide),rfl,_,rfl,?_⟩
   show (if decide (V.int (at0 ns 0 / 2 % 5)=V.int 1)=true then _ else _)
   rw[zk1]
   by_cases m1:at0 ns 0 / 2 % 5=1
   . rw[decide_eq_true m1]
     refine iteT ?_
     refine⟨_,rfl,1,rfl,D,_,rfl,SqL.of hHD,fun l6 f6=>⟨_,rfl,l6,_,_,rfl,rfl,za5,(by show -(2 ^ 63)<=shW ns;omega),(by show shW ns<2 ^ 63;omega),?_,fun l7 f7=>?_⟩⟩
     . refine Nat.le_of_lt (zg1 ?_)
       have h1:(cutV ((shH0 ns).map V.int) none (some 1)).length<=(shW ns).toNat:=by rw[<-hl0,<-List.length_map (f:=V.int)];exact zD8 _ _ _
       have h2:(shW ns).toNat<=5:=by omega
       exact Nat.le_trans (Nat.mul_le_mul (Nat.le_trans h1 h2) h2) (by decide)
     have s6:=(s5.updT (o:=.lst (cutV ((shH0 ns).map V.int) none (some 1))) f6).updT (o:=.lst (List.replicate (shW ns).toNat (cutV ((shH0 ns).map V.int) none (some 1))).flatten) f7
     have f7':H l7=none:=(s5.updT (o:=.lst (cutV ((shH0 ns).map V.int) none (some 1))) f6).free f7
     refine⟨_,rfl,_,_,rfl,rfl,⟨by decide,by decide⟩,_,_,rfl,rfl,(by show (0:Int)<5;decide),rfl,_,rfl,?_⟩
     show (if decide (V.int (at0 ns 0 / 2 % 5)=V.int 2)=true then _ else _)
     rw[zk1,decide_eq_false (by omega)]
     refine iteF ?_
     refine⟨_,rfl,_,rfl,_,rfl,(by show 3<=sizeLine;decide),fun l8 f8=>?_⟩
     refine q l8 l7 _ (s6.updT f8) (s6.free f8) f7' ?_ za5
     rw[za7 (fun e=>by rw[<-e] at f8;rw[za5] at f8;cases f8),za5]
     have ec:cutV ((shH0 ns).map V.int) none (some 1)=((shH0 ns).take 1).map V.int:=by
       unfold cutV
       rw[HT.sIx_none,show (some (1:Int))=some ((1:Nat):Int) from rfl,HT.sIx_nat,List.drop_zero,Nat.sub_zero,List.map_take,List.length_map]
       by_cases h:1<=(shH0 ns).length
       . rw[Nat.min_eq_left h]
       . have:shH0 ns=[]:=List.eq_nil_of_length_eq_zero (by omega)
         rw[this];rfl
     have ef:(List.replicate (shW ns).toNat (((shH0 ns).take 1).map V.int)).flatten=(shH ns).map V.int:=by
       unfold shH
       rw[if_pos m1,List.map_flatten,List.map_replicate]
     show some (HO.lst (List.replicate (shW ns).toNat (cutV ((shH0 ns).map V.int) none (some 1))).flatten)=_
     rw[ec,ef]
   . rw[decide_eq_false m1]
     refine iteF ?_
     refine⟨_,rfl,_,_,rfl,rfl,⟨by decide,by decide⟩,_,_,rfl,rfl,(by show (0:Int)<5;decide),rfl,_,rfl,?_⟩
     show (if decide (V.int (at0 ns 0 / 2 % 5)=V.int 2)=true then _ else _)
     rw[zk1]
     by_cases m2:at0 ns 0 / 2 % 5=2
     . rw[decide_eq_true m2]
       refine iteT ?_
       refine⟨by decide,fun l6 f6=>⟨_,rfl,l6,_,_,rfl,rfl,za5,(by show -(2 ^ 63)<=shW ns;omega),(by show shW ns<2 ^ 63;omega),?_,fun l7 f7=>?_⟩⟩
       . refine Nat.le_of_lt (zg1 ?_)
         show 1*(shW ns).toNat<=1000
         omega
       have s6:=(s5.updT (o:=.lst [.int 20]) f6).updT (o:=.lst (List.replicate (shW ns).toNat [V.int 20]).flatten) f7
       have f7':H l7=none:=(s5.updT (o:=.lst [.int 20]) f6).free f7
       refine⟨_,rfl,_,rfl,_,rfl,(by show 3<=sizeLine;decide),fun l8 f8=>?_⟩
       refine q l8 l7 _ (s6.updT f8) (s6.free f8) f7' ?_ za5
       rw[za7 (fun e=>by rw[<-e] at f8;rw[za5] at f8;cases f8),za5]
       have ef:(List.replicate (shW ns).toNat [V.int 20]).flatten=(shH ns).map V.int:=by
         unfold shH
         rw[if_neg m1,if_pos m2,List.map_flatten,List.map_replicate]
         rfl
       show some (HO.lst (List.replicate (shW ns).toNat [V.int 20]).flatten)=_
       rw[ef]
     . rw[decide_eq_false m2]
       refine iteF ?_
       refine⟨_,rfl,_,rfl,_,rfl,(by show 3<=sizeLine;decide),fun l8 f8=>?_⟩
       refine q l8 D _ (s5.updT f8) (s5.free f8) fD ?_ za5
       rw[za7 (fun e=>by rw[<-e] at f8;rw[hHD] at f8;cases f8),hHD]
       have ef:shH ns=shH0 ns:=by
         unfold shH
         rw[if_neg m1,if_neg m2]
       rw[ef]
theorem ok_w_put (T:Txt K mg t):FnOk P w K mg base CX0 2 t.a_w_put t.d_w_put ["_law_script","_law_k","_law_more","_law_shape_here"] (zM9 K t):=by
 have G_w_figs:FnOk P w K mg base CX0 1 t.a_w_figs t.d_w_figs ["_law_cell","_law_count","_law_base","_law_mix"] (zx9 K t):=zD2 T
 have G_w_at:FnOk P w K mg base CX0 1 t.a_w_at t.d_w_at ["_law_script","_law_k"] (zB3 K t):=zF1 T
 refine T.F_w_put.ok zj2 (fun vs H Q E h=>?_) (fun cdv A outer s H vs Q E hr h=>?_)
 . obtain ⟨a,sh,h,ns,k,more,n,r,hs,rfl,hS,hsh,hh,⟨n1,n2,r1,hw⟩,q⟩:=h
   rfl
 . obtain ⟨a,sh,h,ns,k,more,n,r,hs,rfl,hS,hsh,hh,⟨n1,n2,r1,hw⟩,q⟩:=h
   have hr_w_figs:Room 1 _:=hr.mono (by decide)
   have hr_w_at:Room 1 _:=hr.mono (by decide)
   refine⟨_,(za1 (zz4 (pv 3) (zT8 rfl (zi1 (zd4 (i:=4) zj2.nd rfl (Or.inl rfl)) (zi1 (zd4 (i:=5) zj2.nd rfl (Or.inl rfl)) (zi1 (zd4 (i:=6) zj2.nd rfl (Or.inl rfl)) zE5)))))
     (za1 (zb5 (i:=7) zj2.nd rfl (Or.inl rfl) (zg6 zf0 (zb2 ze1 (zb1 G_w_at hr_w_at rfl T.m_w_at T.k_w_at T.b_w_at .nil zc4 (za0 (pv 0) (za0 za3 za2))) za3) za3 (zb4 _)))
     (za1 (zb5 (i:=8) zj2.nd rfl (Or.inl rfl) (zb2 zi7 (zb1 G_w_at hr_w_at rfl T.m_w_at T.k_w_at T.b_w_at .nil zc4 (za0 (pv 0) (za0 (pv 1) za2))) (pv 2)))
     (za1 (zb5 (i:=9) zj2.nd rfl (Or.inl rfl) (zm1 za2))
     (za1 (zn2 PassesOwn.never rfl (zo3 (zb1 G_w_figs hr_w_figs rfl T.m_w_figs T.k_w_figs T.b_w_figs .nil zc4 (za0 (pv 8) (za0 (zc0 zc2 rfl T.n_len PySem.boot_len (za0 (pv 6) za2)) (za0 (zb2 zi7 (zb2 zv2 za3 (pv 4)) za3) (za0 (pv 7) za2)))))) (zd4 (i:=10) zj2.nd rfl (Or.inl rfl)) (za1 (zb5 (i:=11) zj2.nd rfl (Or.inl rfl) (zb2 zz5 (pv 10) (pv 4)))
     (za1 (zc8 (zb3 zf0 (zb2 ze1 (pv 8) za3) za3 (zb4 _)) (za6 (zb5 (i:=11) zj2.nd rfl (Or.inl rfl) (pv 4))) zb6)
     (za1 (zc8 (PW.pt (zK6 (zb3 zr1 (pv 11) za3 (zb4 _)) (zE4 (zb3 zV5 (zk0 PySem.F.plainAttrs_list PySem.F.slot_list_count PySem.F.type_list_count zI2 (pv 9) (za0 (pv 11) za2)) (pv 5) (zb4 _))))) (za6 (zb5 (i:=11) zj2.nd rfl (Or.inl rfl) za3)) zb6)
     (za6 (zg4 (zk0 PySem.F.plainAttrs_list PySem.F.slot_list_append PySem.F.type_list_append zj5 (pv 9) (za0 (pv 11) za2))))))))
     (za6 (zb9 (pv 9)))))))),?_⟩
   refine⟨_,rfl,sh,_,rfl,SqL.of hsh,rfl,_,_,rfl,_,_,rfl,_,_,rfl,rfl,?_⟩
   refine⟨_,rfl,a,ns,0,rfl,hS,_,_,rfl,rfl,(by show (0:Int)<2;decide),rfl,?_⟩
   refine⟨_,rfl,_,rfl,a,ns,k,rfl,hS,_,rfl,_,_,rfl,rfl,?_⟩
   refine⟨Nat.zero_le _,fun m fm=>?_⟩
   have s1:Same H (upd H m (.lst [])):=Same.upd fm
   refine⟨_,rfl,_,rfl,h,_,rfl,.inl (s1.seq hh),_,rfl,_,_,rfl,rfl,.inl ⟨by decide,by decide⟩,_,_,rfl,rfl,_,rfl,at0 ns k+more,2*n+1,hs.length,zl8 ns,?_,⟨by omega,by omega,by omega⟩,fun f ff=>⟨f,rfl,⟨_,SqL.of za5⟩,?_⟩⟩
   . rw[List.length_map];rfl
   have hfm:f≠m:=fun e=>by rw[e,za5] at ff;cases ff
   have ff0:H f=none:=s1.free ff
   have hlen:(figs (at0 ns k+more) hs.length (2*n+1) (zl8 ns)).length=hs.length:=zw6 _ _ _ _
   have hin:=zE9 (cell:=at0 ns k+more) (mix:=zl8 ns) (show (0:Int)<2*n+1 by omega) hs.length
   have hq:∀ H',Same H H'->H' m=some (.lst ((putL n r (decide (V.int ((at0 ns k+more) % 13)=V.int 12)) (figs (at0 ns k+more) hs.length (2*n+1) (zl8 ns))).map V.int))->Q (.ref m) H':=fun H' s' e=>q m H' s' fm e
   generalize figs (at0 ns k+more) hs.length (2*n+1) (zl8 ns)=fs at hlen hin hq ⊢
   have hput:∀ i,(putL n r (decide (V.int ((at0 ns k+more) % 13)=V.int 12)) (fs.take i)).length<=5:=fun i=>by
     rw[(zR9 _ (by omega) r1 (fs.take i) fun x hx=>hin x (List.mem_of_mem_take hx)).1,List.length_take];omega
   refine zv1 (K:=K) (a:=f) (xs:=fs.map V.int) (fun i σ H'=>∃ v10 v11,σ=[some (.ref a),some (.int k),some (.int more),some (.ref sh),some (.int n),some (.int r),some (.ref h),some (.bl (zl8 ns)),some (.int (at0 ns k+more)),some (.ref m),v10,v11] ∧
     H'=upd (upd (upd H m (.lst [])) f (.lst (fs.map V.int))) m (.lst ((putL n r (decide (V.int ((at0 ns k+more) % 13)=V.int 12)) (fs.take i)).map V.int))) ⟨none,none,rfl,?_⟩ ?_ ?_ ?_
   . exact (upd_id (by rw[za7 (Ne.symm hfm),za5];rfl)).symm
   . rintro i σ H' _ ⟨_,_,_,rfl⟩
     exact SqL.of (by rw[za7 hfm,za5])
   . rintro i x σ H' hi ⟨v10,v11,rfl,rfl⟩
     obtain ⟨z,rfl,hz⟩:=zz7 hi
     have etk:fs.take (i+1)=fs.take i++[z]:=by rw[List.take_succ,hz];rfl
     have hpi:=hput i
     generalize hlast:decide (V.int ((at0 ns k+more) % 13)=V.int 12)=last at hput hpi hq ⊢
     generalize hmade:putL n r last (fs.take i)=made at hpi
     have enext:putL n r last (fs.take (i+1))=zo7 n r last made z:=by rw[etk,zJ0,hmade]
     have tail:∀ (p:Int),p=(if last=true then n else z-n)->True:=fun _ _=>trivial
     refine⟨_,rfl,_,rfl,_,_,rfl,rfl,?_⟩
     refine⟨_,rfl,_,_,rfl,rfl,(by show (0:Int)<13;decide),rfl,_,rfl,?_⟩
     show (if decide (V.int ((at0 ns k+more) % 13)=V.int 12)=true then _ else _)
     rw[hlast]
     cases last
     . refine iteF ?_
       refine⟨_,rfl,rfl,_,rfl,?_⟩
       refine ite2 (fun h1=>?_) (fun h1=>?_)
       . have hp0:z-n≠0:=fun e=>by
           have h1':(!decide (V.int (z-n)=V.int 0))=true:=h1
           rw[e] at h1';simp at h1'
         refine⟨_,rfl,.inl ⟨rfl,_,SqL.of za5⟩,_,rfl,m,made,z-n,rfl,rfl,SqL.of za5,_,rfl,_,_,rfl,rfl,_,rfl,?_⟩
         refine ite2 (fun h2=>?_) (fun h2=>?_)
         . have h2':r<=(made.count (z-n):Int):=of_decide_eq_true h2
           refine⟨_,rfl,.inl ⟨rfl,_,SqL.of za5⟩,_,rfl,m,_,_,rfl,rfl,za5,zg1 (by rw[List.length_map];omega),_,_,rfl,?_⟩
           rw[zi8,enext]
           unfold zo7
           rw[if_neg (show ¬ (false=true) by decide),if_pos ⟨hp0,h2'⟩,List.map_append]
           rfl
         . have h2':¬ r<=(made.count (z-n):Int):=fun e=>h2 (decide_eq_true e)
           refine⟨_,rfl,.inl ⟨rfl,_,SqL.of za5⟩,_,rfl,m,_,_,rfl,rfl,za5,zg1 (by rw[List.length_map];omega),_,_,rfl,?_⟩
           rw[zi8,enext]
           unfold zo7
           rw[if_neg (show ¬ (false=true) by decide),if_neg (fun e=>h2' e.2),List.map_append]
           rfl
       . have hp0:z-n=0:=by
           have h1':¬ (!decide (V.int (z-n)=V.int 0))=true:=h1
           rw[zk1] at h1'
           simpa using h1'
         refine iteF ?_
         refine⟨_,rfl,.inl ⟨rfl,_,SqL.of za5⟩,_,rfl,m,_,_,rfl,rfl,za5,zg1 (by rw[List.length_map];omega),_,_,rfl,?_⟩
         rw[zi8,enext]
         unfold zo7
         rw[if_neg (show ¬ (false=true) by decide),if_neg (fun e=>e.1 hp0),List.map_append]
         rfl
     . refine iteT ?_
       refine⟨_,rfl,?_⟩
       refine⟨_,rfl,rfl,_,rfl,?_⟩
       have hn0:n≠0:=by omega
       refine iteA (by show (!decide (V.int n=V.int 0))=true;rw[zk1];simpa using hn0) ?_
       refine⟨_,rfl,.inl ⟨rfl,_,SqL.of za5⟩,_,rfl,m,made,n,rfl,rfl,SqL.of za5,_,rfl,_,_,rfl,rfl,_,rfl,?_⟩
       refine ite2 (fun h2=>?_) (fun h2=>?_)
       . have h2':r<=(made.count n:Int):=of_decide_eq_true h2
         refine⟨_,rfl,.inl ⟨rfl,_,SqL.of za5⟩,_,rfl,m,_,_,rfl,rfl,za5,zg1 (by rw[List.length_map];omega),_,_,rfl,?_⟩
         rw[zi8,enext]
         unfold zo7
         rw[if_pos rfl,if_pos ⟨hn0,h2'⟩,List.map_append]
         rfl
       . have h2':¬ r<=(made.count n:Int):=fun e=>h2 (decide_eq_true e)
         refine⟨_,rfl,.inl ⟨rfl,_,SqL.of za5⟩,_,rfl,m,_,_,rfl,rfl,za5,zg1 (by rw[List.length_map];omega),_,_,rfl,?_⟩
         rw[zi8,enext]
         unfold zo7
         rw[if_pos rfl,if_neg (fun e=>h2' e.2),List.map_append]
         rfl
   . rintro σ H' ⟨v10,v11,rfl,rfl⟩
     rw[List.length_map,List.take_length]
     refine⟨_,rfl,hq _ ?_ za5⟩
     exact ((s1.updT ff).put fm)
theorem sum_zip:∀ (hs xs:List Int),hs.length=xs.length->((List.range hs.length).map fun i=>hs.getD i 0*xs.getD i 0).sum=(List.zipWith (fun h x=>h*x) hs xs).sum:=by
 intro hs xs hl
 congr 1
 apply List.ext_getElem
 . simp;omega
 . intro i h1 h2
   have hi:i<hs.length:=by simpa using h1
   have hi2:i<xs.length:=by omega
   simp[hi,hi2]
noncomputable def zO0 (hs xs:List Int):Nat->Int
 | 0=>0
 | j+1=>zO0 hs xs j+hs.getD j 0*xs.getD j 0
theorem zO1 (hs xs:List Int):∀ w,zO0 hs xs w=((List.range w).map fun i=>hs.getD i 0*xs.getD i 0).sum
 | 0=>rfl
 | w+1=>by
   unfold zO0
   rw[zO1 hs xs w,List.range_succ,List.map_append,List.sum_append]
   simp
theorem sumTo_tilt {hs xs:List Int} (hl:hs.length=xs.length):zO0 hs xs hs.length=zd8 hs xs:=by
 rw[zO1,sum_zip hs xs hl];rfl
noncomputable def zy2 (K:W.Frag) (t:Adr):Sp:=fun vs H Q _=>∃ (h a:Addr) (hs xs:List Int),vs=[.ref h,.ref a]/\SqL K H h (hs.map V.int)/\(SqL K H a (xs.map V.int)\/SqT K H a (xs.map V.int))/\(hs.length=xs.length/\xs.length<=5/\∀ x∈hs,1<=x/\x<=20)/\Q (.int (zd8 hs xs)) H
theorem zD3 (T:Txt K mg t):FnOk P w K mg base CX0 1 t.a_w_tilt t.d_w_tilt ["_law_hefts","_law_spots"] (zy2 K t):=by
 refine T.F_w_tilt.ok zx7 (fun vs H Q E h=>?_) (fun cdv A outer s H vs Q E hr h=>?_)
 . obtain ⟨h,a,hs,xs,rfl,hh,hS,⟨hl,h5,hhs⟩,q⟩:=h
   rfl
 . obtain ⟨h,a,hs,xs,rfl,hh,hS,⟨hl,h5,hhs⟩,q⟩:=h
   refine⟨_,(za1 (zb5 (i:=2) zx7.nd rfl (Or.inl rfl) za3)
     (za1 (zn2 PassesOwn.never rfl (zo8 rfl T.n_range (za0 (zc0 zc2 rfl T.n_len PySem.boot_len (za0 (pv 0) za2)) za2)) (zd4 (i:=3) zx7.nd rfl (Or.inl rfl)) (za6 (zb5 (i:=2) zx7.nd rfl (Or.inl rfl) (zb2 zi7 (pv 2) (zb2 zv2 (zc7 zb7 (pv 0) (pv 3) (fun _ _=>rfl)) (zc7 ix_seq (pv 1) (pv 3) (fun _ _=>rfl)))))))
     (za6 (zb9 (pv 2))))),?_⟩
   refine⟨_,rfl,h,_,rfl,.inl hh,?_⟩
   rw[List.length_map]
   refine⟨_,rfl,by omega,by omega,zm0 (n:=((hs.length:Nat):Int).toNat) (fun i σ H'=>∃ v,σ=[some (.ref h),some (.ref a),some (.int (zO0 hs xs i)),v]/\H'=H) ⟨none,rfl,rfl⟩ ?_ ?_⟩
   . rintro j σ H' hj ⟨v,rfl,rfl⟩
     have hjh:j<hs.length:=by simpa using hj
     have e0:(0:Int)+(j:Int)=(j:Int):=by omega
     have ax:atI (xs.map V.int) (0+(j:Int))=some (.int (xs.getD j 0)):=by rw[e0];exact zq2 (by omega) (by omega)
     have ah:atI (hs.map V.int) (0+(j:Int))=some (.int (hs.getD j 0)):=by rw[e0];exact zq2 (by omega) (by omega)
     have hm:=hhs (hs.getD j 0) (getD_mem hjh)
     have ixA:∀ (Q':VK),Q' (.int (xs.getD j 0)) H'->rIx K (.ref a) (.int (0+(j:Int))) H' Q':=fun Q' h=>by
       rcases hS with hS | hS
       . exact .inl ⟨a,_,_,_,rfl,rfl,hS,ax,h⟩
       . exact .inr (.inl ⟨a,_,_,_,rfl,rfl,hS,ax,h⟩)
     exact⟨_,rfl,_,rfl,_,rfl,h,_,_,_,rfl,rfl,hh,ah,_,rfl,_,rfl,ixA _ ⟨_,_,rfl,rfl,.inl ⟨by omega,by omega⟩,_,_,rfl,rfl,_,rfl,rfl⟩⟩
   . rintro σ H' ⟨v,rfl,rfl⟩
     rw[Int.toNat_natCast,sumTo_tilt hl]
     exact⟨_,rfl,q⟩
end
end Bt
namespace Bt
open PySem L2
section
variable {P:Program} {w:World} {K:W.Frag} {mg:Str->Option Value} {base:Heap} {t:Adr}
noncomputable def zt3 (K:W.Frag) (t:Adr):Sp:=fun vs H Q _=>∃ (a:Addr) (n r:Int) (w:Nat) (xs:List Int),vs=[.int n,.int r,.int w,.ref a]/\SqL K H a (xs.map V.int)/\(zh0 n r w xs->Q (.bl true) H)/\(¬ zh0 n r w xs->Q (.bl false) H)
theorem ok_w_is_standing (T:Txt K mg t):FnOk P w K mg base CX0 1 t.a_w_is_standing t.d_w_is_standing ["_law_notches","_law_room","_law_count","_law_spots"] (zt3 K t):=by
 refine T.F_w_is_standing.ok zt0 (fun vs H Q E h=>?_) (fun cdv A outer s H vs Q E hr h=>?_)
 . obtain ⟨a,n,r,w,xs,rfl,hS,qt,qf⟩:=h
   rfl
 . obtain ⟨a,n,r,w,xs,rfl,hS,qt,qf⟩:=h
   refine⟨_,(za1 (zc8 (zb3 zr1 (zc0 zc2 rfl T.n_len PySem.boot_len (za0 (pv 3) za2)) (pv 2) (zb4 _)) (za6 (zb9 zy4)) zb6)
     (za1 (zn2 PassesOwn.never rfl (zo3 (pv 3)) (zd4 (i:=4) zt0.nd rfl (Or.inl rfl)) (za1 (zc8 (PW.pt (zr0 (zb3 zy5 (pv 4) (zM1 zF6 (pv 0)) (zb4 _)) (zr5 (zb3 zl7 (pv 4) (pv 0) (zb4 _))))) (za6 (zb9 zy4)) zb6)
     (za6 (zc8 (PW.pt (zK6 (zb3 zr1 (pv 4) za3 (zb4 _)) (zE4 (zb3 zl7 (zk0 PySem.F.plainAttrs_list PySem.F.slot_list_count PySem.F.type_list_count zI2 (pv 3) (za0 (pv 4) za2)) (pv 1) (zb4 _))))) (za6 (zb9 zy4)) zb6))))
     (za6 (zb9 zy4)))),?_⟩
   refine⟨_,rfl,a,_,rfl,.inl hS,_,rfl,rfl,_,rfl,?_⟩
   rw[List.length_map,zk1]
   refine ite2 (fun h1=>?_) (fun h1=>?_)
   . exact qf fun v=>by rw[v.len] at h1;simp at h1
   have hle:xs.length=w:=by simp at h1;omega
   refine⟨_,rfl,a,rfl,⟨_,hS⟩,zv1 (K:=K) (a:=a) (xs:=xs.map V.int) (fun i σ H'=>∃ v,σ=[some (.int n),some (.int r),some (.int w),some (.ref a),v]/\H'=H/\∀ y∈xs.take i,okP n r xs y) ⟨none,rfl,rfl,by simp⟩ (fun i σ H' _ ⟨_,_,e,_⟩=>e▸hS) ?_ ?_⟩
   . rintro i x σ H' hi ⟨v,rfl,rfl,hok⟩
     obtain ⟨z,rfl,hz⟩:=zz7 hi
     have hm:=List.mem_of_getElem? hz
     refine⟨_,rfl,_,rfl,_,rfl,_,_,rfl,rfl,_,rfl,?_⟩
     refine ite2 (fun h2=>?_) (fun h2=>?_)
     . exact iteT (qf fun v=>by have:=v.on z hm;simp at h2;omega)
     . refine⟨_,rfl,_,rfl,_,_,rfl,rfl,_,rfl,?_⟩
       refine ite2 (fun h3=>?_) (fun h3=>?_)
       . exact qf fun v=>by have:=v.on z hm;simp at h3;omega
       . have hzn:-n<=z/\z<=n:=by simp at h2 h3;omega
         refine⟨_,rfl,rfl,_,rfl,?_⟩
         rw[zk1]
         refine ite2 (fun h4=>?_) (fun h4=>?_)
         . have hz0:z≠0:=fun e=>by subst e;simp at h4
           refine⟨_,rfl,.inl ⟨rfl,_,hS⟩,_,rfl,a,xs,z,rfl,rfl,hS,_,rfl,_,_,rfl,rfl,_,rfl,?_⟩
           refine ite2 (fun h5=>?_) (fun h5=>?_)
           . exact qf fun v=>by have:=v.room z hm hz0;simp at h5;omega
           . exact⟨_,rfl,rfl,zj9 hz hok ⟨hzn,fun _=>by simp at h5;omega⟩⟩
         . exact iteF ⟨_,rfl,rfl,zj9 hz hok ⟨hzn,fun e=>absurd (by simpa using e) h4⟩⟩
   . rintro σ H' ⟨v,rfl,rfl,hok⟩
     exact qt (zN2 hle fun y hy=>hok y (by rw[List.length_map,List.take_length];exact hy))
theorem zO2 {m:Nat}:∀ c∈(sI (m:Int)).cps.toList,c<128:=by
 intro c hc
 unfold sI at hc
 rw[W.KIN.signs_num] at hc
 obtain ⟨ch,hch,e⟩:=List.mem_map.mp hc
 have r:=PyProof.Rows.digit_range (Nat.isDigit_of_mem_toDigits (by decide) (by decide) hch)
 omega
theorem sI_neg (k:Nat):sI (-(((k+1:Nat)):Int))=Str.ofString "-"++sI (((k+1:Nat)):Int):=by
 have e:toString (-(((k+1:Nat)):Int)) = "-"++toString (k+1):=rfl
 have e5:toString (((k+1:Nat)):Int)=toString (k+1):=rfl
 unfold sI
 rw[e,e5]
 refine zu0 ?_
 rw[zo6,PySem.Str.ofString_eq_toList,PySem.Str.ofString_eq_toList,PySem.Str.ofString_eq_toList]
 simp
theorem zA1 (n:Int):Asc (sI n):=by
 by_cases h:0<=n
 . obtain ⟨m,rfl⟩:=Int.eq_ofNat_of_zero_le h
   exact zO2
 . obtain ⟨k,rfl⟩:∃ k:Nat,n = -(((k+1:Nat)):Int):=⟨(-n).toNat-1,by omega⟩
   rw[sI_neg]
   exact Asc.app (by decide) zO2
theorem wPlace_asc (x:Int):Asc (zl3 x):=by
 unfold zl3
 split
 . decide
 . exact zA1 x
noncomputable def GL (L:Nat) (w:Str):Prop:=Asc w/\w.length<=L
theorem GL.mono {L M:Nat} {w:Str} (h:GL L w) (k:L<=M):GL M w:=⟨h.1,Nat.le_trans h.2 k⟩
theorem cutA (rows:List Str) (i:Nat):cutV (rows.map V.str) none (some (i:Int))=(rows.take i).map V.str:=by
 unfold cutV
 rw[HT.sIx_nat,HT.sIx_none,List.drop_zero,Nat.sub_zero,List.map_take,List.length_map]
 by_cases h:i<=rows.length
 . rw[Nat.min_eq_left h]
 . rw[Nat.min_eq_right (by omega),List.take_of_length_le (by rw[List.length_map];exact Nat.le_refl _),List.take_of_length_le (by rw[List.length_map];omega)]
theorem cutB (rows:List Str) (i:Nat):cutV (rows.map V.str) (some (i:Int)) none=(rows.drop i).map V.str:=by
 unfold cutV
 rw[HT.sIx_nat,HT.sIx_none,List.take_of_length_le (by rw[List.length_drop];omega),List.map_drop,List.length_map]
 by_cases h:i<=rows.length
 . rw[Nat.min_eq_left h]
 . rw[Nat.min_eq_right (by omega),List.drop_of_length_le (by rw[List.length_map];exact Nat.le_refl _),List.drop_of_length_le (by rw[List.length_map];omega)]
theorem zD4 {y:Str} (hy:Asc y) {ws:List Str} (h:∀ w∈ws,Asc w):Asc (Txt.join y ws):=by
 show Asc (Builtin.Str.glued y ws)
 rw[StrLaws.glued_eq_join]
 exact zN6 hy h
theorem zt4 (y:Str) (ws:List Str):(Txt.join y ws).length=(ws.map (·.length)).sum+(ws.length-1)*y.length:=size_glued y ws
theorem len_split (y z:Str):((Txt.split z y).map (·.length)).sum+((Txt.split z y).length-1)*y.length=z.length:=by
 rw[<-zt4]
 show (Builtin.Str.glued y (Txt.split z y)).length=z.length
 rw[StrLaws.glued_eq_join,StrLaws.join_split]
theorem zL9:∀ (ws:List Str) (i:Nat) (v:Str),((ws.set i v).map (·.length)).sum<=(ws.map (·.length)).sum+v.length
 | [],_,_=>by simp
 | w::ws,0,v=>by simp only[List.set_cons_zero,List.map_cons,List.sum_cons];omega
 | w::ws,i+1,v=>by
   have:=zL9 ws i v
   simp only[List.set_cons_succ,List.map_cons,List.sum_cons]
   omega
theorem zt5 {α:Type} {xs:List α} {i:Nat} {v y:α} (h:y∈xs.set i v):y∈xs\/y=v:=List.mem_or_eq_of_mem_set h
theorem use_fin4 {R:Addr->Option V->Option V->Hp->Prop} {S:Addr->Hp->Prop} {G:Prop} (main:(∀ o u v H',S o H'->R o u v H')->G) (fin:∀ o u v H',S o H'->R o u v H'):G:=main fin
theorem zK1 {xs:List Int} {i:Nat} (hi:i<xs.length):xs.getD i 0∈xs:=by
 rw[List.getD_eq_getElem?_getD,List.getElem?_eq_getElem hi]
 exact List.getElem_mem hi
theorem wPlace_len5 {x:Int} (h1:-5<=x) (h2:x<=5):(zl3 x).length<=4:=by
 have:x = -5\/x = -4\/x = -3\/x = -2\/x = -1\/x=0\/x=1\/x=2\/x=3\/x=4\/x=5:=by omega
 rcases this with rfl | rfl | rfl | rfl | rfl | rfl | rfl | rfl | rfl | rfl | rfl<;>decide +kernel
end
end Bt
namespace Bt
open PySem L2
section
variable {P:Program} {w:World} {K:W.Frag} {mg:Str->Option Value} {base:Heap} {t:Adr}
noncomputable def zr3 (K:W.Frag) (t:Adr):Sp:=fun vs H Q _=>∃ (l:Addr) (cell:Int) (rows:List Str) (M:Nat),vs=[.ref l,.int cell]/\H l=some (.lst (rows.map V.str))/\(1<=rows.length/\rows.length<=20/\40<=M/\M<=100)/\(∀ w∈rows,GL M w) ∧
 ∀ (l':Addr) (rows':List Str) H',(l'=l\/H l'=none)->zj0 l H H'->H' l'=some (.lst (rows'.map V.str))->rows.length<=rows'.length+1->rows'.length<=rows.length+3->(∀ w∈rows',GL (M+10) w)->Q (.ref l') H'
theorem zx1 {H H1:Hp} (s:Same H H1) (p:Addr):zj0 p H H1:=fun b u e _=>s b u e
theorem zj0.put {H H1:Hp} {p:Addr} {o:HO} (s:Same H H1):zj0 p H (upd H1 p o):=fun b u e hb=>by rw[za7 hb];exact s b u e
theorem ixS {rows:List Str} {i:Nat} (h:i<rows.length):ixN (rows.map V.str).length (i:Int)=some i:=by
 unfold ixN
 rw[List.length_map,if_pos (by omega),if_pos (by omega),Int.toNat_natCast]
theorem ixS' {rows:List Str} {i:Nat} {k:Nat} {v:V} (h:i<rows.length):ixN ((rows.map V.str).set k v).length (i:Int)=some i:=by
 rw[List.length_set]
 exact ixS h
theorem ok_w_rows_changed (T:Txt K mg t):FnOk P w K mg base CX0 2 t.a_w_rows_changed t.d_w_rows_changed ["_law_rows_here","_law_cell"] (zr3 K t):=by
 have G_w_menu:FnOk P w K mg base CX0 1 t.a_w_menu t.d_w_menu ["_law_cell"] (zK0 K t):=ok_w_menu T
 refine T.F_w_rows_changed.ok zd0 (fun vs H Q E h=>?_) (fun cdv A outer s H vs Q E hr h=>?_)
 . obtain ⟨l,cell,rows,M,rfl,h0,⟨hr1,hr2,hM1,hM2⟩,gR,q⟩:=h
   rfl
 . obtain ⟨l,cell,rows,M,rfl,h0,⟨hr1,hr2,hM1,hM2⟩,gR,q⟩:=h
   have hr_w_menu:Room 1 _:=hr.mono (by decide)
   refine⟨_,(za1 (zb5 (i:=2) zd0.nd rfl (Or.inl rfl) (zb2 ze1 (pv 1) za3))
     (za1 (zb5 (i:=3) zd0.nd rfl (Or.inl rfl) (zb2 zg5 (pv 1) za3))
     (za1 (zb5 (i:=4) zd0.nd rfl (Or.inl rfl) (zb2 ze1 (pv 3) (zc0 zc2 rfl T.n_len PySem.boot_len (za0 (pv 0) za2))))
     (za1 (zb5 (i:=5) zd0.nd rfl (Or.inl rfl) (zb2 ze1 (zb2 zg5 (pv 3) za3) (zc0 zc2 rfl T.n_len PySem.boot_len (za0 (pv 0) za2))))
     (za1 (zb5 (i:=6) zd0.nd rfl (Or.inl rfl) (zk0 PySem.F.plainAttrs_str PySem.F.slot_str_split PySem.F.type_str_split zo9 (zc7 zb7 (pv 0) (pv 4) (fun _ _=>rfl)) (za0 zb0 za2)))
     (za1 (zc8 (zb3 zf0 (pv 2) za3 (zb4 _)) (za6 (zz4 (zL3 (za0 (zc7 zb7 (pv 0) (pv 5) (fun _ _=>rfl)) (za0 (zc7 zb7 (pv 0) (pv 4) (fun _ _=>rfl)) za2))) (zT2 rfl (zi1 (zC2 (pv 0) (pv 4) zs0) (zi1 (zC2 (pv 0) (pv 5) zs0) zE5))))) zb6)
     (za1 (zc8 (zb3 zf0 (pv 2) za3 (zb4 _)) (za6 (zb5 (i:=0) zd0.nd rfl (Or.inl rfl) (zb2 zm8 (ze3 zl4 (pv 0) zf8 (zf9 (pv 4))) (ze3 zl4 (pv 0) (zf9 (zb2 zi7 (pv 4) za3)) zf8)))) zb6)
     (za1 (zc8 (zb3 zf0 (pv 2) za3 (zb4 _)) (za6 (zb5 (i:=0) zd0.nd rfl (Or.inl rfl) (zb2 zm8 (zb2 zm8 (ze3 zl4 (pv 0) zf8 (zf9 (pv 5))) (zf2 (za0 (zc7 zb7 (pv 0) (pv 4) (fun _ _=>rfl)) za2))) (ze3 zl4 (pv 0) (zf9 (pv 5)) zf8)))) zb6)
     (za1 (zc8 (zb3 zl7 (pv 2) za3 (zb4 _)) (za1 (zz4 (zb1 G_w_menu hr_w_menu rfl T.m_w_menu T.k_w_menu T.b_w_menu .nil zc4 (za0 (zb2 zg5 (pv 3) za3) za2)) (zC2 (pv 6) (zb2 ze1 (zb2 zg5 (pv 3) za3) (zc0 zc2 rfl T.n_len PySem.boot_len (za0 (pv 6) za2))) zs0))
     (za6 (zz4 (zk0 PySem.F.plainAttrs_str PySem.F.slot_str_join PySem.F.type_str_join zL2 zb0 (za0 (pv 6) za2)) (zC2 (pv 0) (pv 4) zs0)))) zb6)
     (za1 (zc8 (zb3 zf0 (pv 2) za3 (zb4 _)) (za6 (zb5 (i:=0) zd0.nd rfl (Or.inl rfl) (zb2 zm8 (pv 0) (zb2 op_repS (zf2 (za0 (zb2 zc5 (zb2 zc5 zb0 (ze7 zf7 rfl T.n_str PyProof.Rows.boot_str (za0 (zb2 zi7 za3 (zb2 ze1 (pv 3) za3)) za2))) zb0) za2)) (zb2 zi7 za3 (zb2 ze1 (zb2 zg5 (pv 3) za3) za3)))))) zb6)
     (za1 (zc8 (zb3 zf0 (pv 2) za3 (zb4 _)) (za6 (zb5 (i:=0) zd0.nd rfl (Or.inl rfl) (zc7 zb7 (zf2 (za0 (zb2 zm8 (zb2 zm8 (ze3 zl4 (pv 0) zf8 (zf9 (pv 4))) (zf2 (za0 zb0 za2))) (ze3 zl4 (pv 0) (zf9 (pv 4)) zf8)) (za0 (zb2 zm8 (pv 0) (zf2 (za0 zb0 za2))) (za0 (zb2 zm8 (zf2 (za0 zb0 za2)) (pv 0)) za2)))) (zb2 ze1 (zb2 zg5 (pv 3) za3) za3) (fun _ _=>rfl)))) zb6)
     (za1 (zc8 (zb3 zf0 (pv 2) za3 (zb4 _)) (za6 (zz4 (zc7 zb7 (zf2 (za0 (zb2 zc5 (zc7 zb7 (pv 0) (pv 4) (fun _ _=>rfl)) zb0) (za0 (zb2 zc5 zb0 (zc7 zb7 (pv 0) (pv 4) (fun _ _=>rfl))) (za0 (zb2 zc5 (zc7 zb7 (pv 0) (pv 4) (fun _ _=>rfl)) zb0) (za0 (zb2 zc5 (zc7 zb7 (pv 0) (pv 4) (fun _ _=>rfl)) zb0) za2))))) (zb2 ze1 (zb2 zg5 (pv 3) za3) za3) (fun _ _=>rfl)) (zC2 (pv 0) (pv 4) zs0))) zb6)
     (za6 (zb9 (pv 0))))))))))))))),?_⟩
   have hsl:sizeLine=16777216:=by decide
   have gM:∀ w∈rows,GL (M+10) w:=fun w hw=>(gR w hw).mono (by omega)
   have hpos:(0:Int)<((rows.map V.str).length:Int):=by rw[List.length_map];omega
   refine⟨_,rfl,_,_,rfl,rfl,(by show (0:Int)<16;decide),?_⟩
   refine⟨_,rfl,_,_,rfl,rfl,⟨by decide,by decide⟩,?_⟩
   refine⟨_,rfl,_,rfl,l,_,rfl,.inl (SqL.of h0),_,_,rfl,rfl,hpos,?_⟩
   refine⟨_,rfl,_,_,rfl,rfl,⟨by decide,by decide⟩,_,rfl,l,_,rfl,.inl (SqL.of h0),_,_,rfl,rfl,hpos,?_⟩
   dsimp only
   rw[List.length_map] at hpos ⊢
   have a0:0<=cell / 16 % (rows.length:Int):=Int.emod_nonneg _ (by omega)
   have a1:cell / 16 % (rows.length:Int)<rows.length:=Int.emod_lt_of_pos _ hpos
   have b0:0<=cell / 16 / 9 % (rows.length:Int):=Int.emod_nonneg _ (by omega)
   have b1:cell / 16 / 9 % (rows.length:Int)<rows.length:=Int.emod_lt_of_pos _ hpos
   obtain ⟨i,ei⟩:∃ i:Nat,cell / 16 % (rows.length:Int)=(i:Int):=⟨_,(Int.toNat_of_nonneg a0).symm⟩
   obtain ⟨j,ej⟩:∃ j:Nat,cell / 16 / 9 % (rows.length:Int)=(j:Int):=⟨_,(Int.toNat_of_nonneg b0).symm⟩
   rw[ei,ej]
   have hi:i<rows.length:=by omega
   have hj:j<rows.length:=by omega
   have at1:atI (rows.map V.str) (i:Int)=some (.str rows[i]):=zo4 (by simp[hi])
   have at2:atI (rows.map V.str) (j:Int)=some (.str rows[j]):=zo4 (by simp[hj])
   have li:=(gR _ (List.getElem_mem hi)).2
   refine⟨_,rfl,_,rfl,l,_,_,_,rfl,rfl,SqL.of h0,at1,rfl,_,_,rfl,rfl,by decide,by omega,fun wl H1 s1 fw hw1=>?_⟩
   have h1:=s1 _ _ h0
   have nlw:l≠wl:=za8 h0 fw
   have wsA:∀ w∈Txt.split rows[i] (Str.ofString " "),GL M w:=fun w hw=>⟨(gR _ (List.getElem_mem hi)).1.part hw,Nat.le_trans (PyProof.Rows.part_short hw) li⟩
   have wsL:=len_split (Str.ofString " ") rows[i]
   rw[show (Str.ofString " ").length=1 by decide] at wsL
   have wsP:1<=(Txt.split rows[i] (Str.ofString " ")).length:=Nat.pos_of_ne_zero fun z=>zv7 _ _ (List.eq_nil_of_length_eq_zero z)
   generalize Txt.split rows[i] (Str.ofString " ")=ws at hw1 wsA wsL wsP
   have e4:(Str.ofString "weight ").length=7:=by decide
   have e9:(Str.ofString " tray").length=5:=by decide
   have ne:∀ k:Int,cell % 16≠k->decide (V.int (cell % 16)=V.int k)=false:=fun k h=>decide_eq_false fun z=>h (by injection z)
   have hk:cell % 16=1\/cell % 16=2\/cell % 16=3\/11<cell % 16\/cell % 16=4\/cell % 16=5\/cell % 16=6\/(cell % 16≠1/\cell % 16≠2/\cell % 16≠3/\cell % 16<=11/\cell % 16≠4/\cell % 16≠5/\cell % 16≠6):=by omega
   rcases hk with hc | hc | hc | hc | hc | hc | hc | hc
   . refine⟨_,rfl,rfl,_,rfl,iteA (decide_eq_true (by rw[hc])) ?_⟩
     refine⟨_,rfl,_,rfl,l,_,_,_,rfl,rfl,SqL.of h1,at2,_,rfl,_,rfl,l,_,_,_,rfl,rfl,SqL.of h1,at1,(by show 2<=sizeLine;omega),fun tp H2 s2 f2 h2=>?_⟩
     refine⟨tp,_,rfl,SqT.of h2,rfl,_,_,rfl,_,rfl,_,rfl,l,_,_,i,rfl,rfl,s2 _ _ h1,ixS hi,_,_,rfl,_,rfl,_,rfl,l,_,_,j,rfl,rfl,za5,ixS' hj,rfl,?_⟩
     rw[zi8,<-List.map_set,<-List.map_set]
     refine⟨_,rfl,rfl,_,rfl,iteB (ne 2 (by omega)) ?_⟩
     refine⟨_,rfl,rfl,_,rfl,iteB (ne 3 (by omega)) ?_⟩
     refine⟨_,rfl,_,_,rfl,rfl,_,rfl,iteB (decide_eq_false (by omega)) ?_⟩
     refine⟨_,rfl,rfl,_,rfl,iteB (ne 4 (by omega)) ?_⟩
     refine⟨_,rfl,rfl,_,rfl,iteB (ne 5 (by omega)) ?_⟩
     refine⟨_,rfl,rfl,_,rfl,iteB (ne 6 (by omega)) ?_⟩
     exact⟨_,rfl,q l ((rows.set i (rows[j])).set j (rows[i])) _ (.inl rfl) (zj0.put (s1.trans s2)) za5 (by rw[List.length_set,List.length_set];omega) (by rw[List.length_set,List.length_set];omega) fun w hw=>by
       rcases zt5 hw with hw | rfl
       . rcases zt5 hw with hw | rfl
         . exact gM w hw
         . exact gM _ (List.getElem_mem _)
       . exact gM _ (List.getElem_mem _)⟩
   . refine⟨_,rfl,rfl,_,rfl,iteB (ne 1 (by omega)) ?_⟩
     refine⟨_,rfl,rfl,_,rfl,iteA (decide_eq_true (by rw[hc])) ?_⟩
     refine⟨_,rfl,_,rfl,_,rfl,l,_,rfl,SqL.of h1,fun l2 H2 s2 f2 h2=>?_⟩
     rw[show cutV (rows.map V.str) none (some (i:Int))=(rows.take i).map V.str from cutA rows i] at h2
     refine⟨_,rfl,_,rfl,_,_,rfl,rfl,_,rfl,l,_,rfl,SqL.of (s2 _ _ h1),fun l3 H3 s3 f3 h3=>?_⟩
     rw[show cutV (rows.map V.str) (some ((i:Int)+1)) none=(rows.drop (i+1)).map V.str from cutB rows (i+1)] at h3
     refine⟨l2,l3,_,_,rfl,rfl,s3 _ _ h2,h3,by rw[List.length_map,List.length_map,List.length_take,List.length_drop];omega,fun l4 H4 s4 f4 h4=>?_⟩
     rw[<-List.map_append] at h4
     refine⟨_,rfl,rfl,_,rfl,iteB (ne 3 (by omega)) ?_⟩
     refine⟨_,rfl,_,_,rfl,rfl,_,rfl,iteB (decide_eq_false (by omega)) ?_⟩
     refine⟨_,rfl,rfl,_,rfl,iteB (ne 4 (by omega)) ?_⟩
     refine⟨_,rfl,rfl,_,rfl,iteB (ne 5 (by omega)) ?_⟩
     refine⟨_,rfl,rfl,_,rfl,iteB (ne 6 (by omega)) ?_⟩
     exact⟨_,rfl,q l4 (rows.take i++rows.drop (i+1)) H4 (.inr (((s1.trans s2).trans s3).free f4)) (zx1 (((s1.trans s2).trans s3).trans s4) l) h4 (by rw[List.length_append,List.length_take,List.length_drop];omega) (by rw[List.length_append,List.length_take,List.length_drop];omega) fun w hw=>(List.mem_append.mp hw).elim (fun z=>gM w (List.mem_of_mem_take z)) fun z=>gM w (List.mem_of_mem_drop z)⟩
   . refine⟨_,rfl,rfl,_,rfl,iteB (ne 1 (by omega)) ?_⟩
     refine⟨_,rfl,rfl,_,rfl,iteB (ne 2 (by omega)) ?_⟩
     refine⟨_,rfl,rfl,_,rfl,iteA (decide_eq_true (by rw[hc])) ?_⟩
     refine⟨_,rfl,_,rfl,_,rfl,l,_,rfl,SqL.of h1,fun l2 H2 s2 f2 h2=>?_⟩
     rw[show cutV (rows.map V.str) none (some (j:Int))=(rows.take j).map V.str from cutA rows j] at h2
     refine⟨_,rfl,_,rfl,l,_,_,_,rfl,rfl,SqL.of (s2 _ _ h1),at1,(by show 1<=sizeLine;omega),fun l3 H3 s3 f3 h3=>?_⟩
     refine⟨l2,l3,_,_,rfl,rfl,s3 _ _ h2,h3,by rw[List.length_map,List.length_take];show _+1<=_;omega,fun l4 H4 s4 f4 h4=>?_⟩
     refine⟨_,rfl,_,rfl,_,rfl,l,_,rfl,SqL.of (s4 _ _ (s3 _ _ (s2 _ _ h1))),fun l5 H5 s5 f5 h5=>?_⟩
     rw[show cutV (rows.map V.str) (some (j:Int)) none=(rows.drop j).map V.str from cutB rows j] at h5
     refine⟨l4,l5,_,_,rfl,rfl,s5 _ _ h4,h5,by rw[List.length_append,List.length_map,List.length_map,List.length_take,List.length_drop];show _+1+_<=_;omega,fun l6 H6 s6 f6 h6=>?_⟩
     have e6:(rows.take j).map V.str++[V.str rows[i]]++(rows.drop j).map V.str=(rows.take j++[rows[i]]++rows.drop j).map V.str:=by rw[List.map_append,List.map_append];rfl
     rw[e6] at h6
     refine⟨_,rfl,_,_,rfl,rfl,_,rfl,iteB (decide_eq_false (by omega)) ?_⟩
     refine⟨_,rfl,rfl,_,rfl,iteB (ne 4 (by omega)) ?_⟩
     refine⟨_,rfl,rfl,_,rfl,iteB (ne 5 (by omega)) ?_⟩
     refine⟨_,rfl,rfl,_,rfl,iteB (ne 6 (by omega)) ?_⟩
     exact⟨_,rfl,q l6 (rows.take j++[rows[i]]++rows.drop j) H6 (.inr (((((s1.trans s2).trans s3).trans s4).trans s5).free f6)) (zx1 (((((s1.trans s2).trans s3).trans s4).trans s5).trans s6) l) h6 (by rw[List.length_append,List.length_append,List.length_take,List.length_drop];show _<=_+1+_+1;omega) (by rw[List.length_append,List.length_append,List.length_take,List.length_drop];show _+1+_<=_;omega) fun w hw=>by
       rcases List.mem_append.mp hw with hw | hw
       . rcases List.mem_append.mp hw with hw | hw
         . exact gM w (List.mem_of_mem_take hw)
         . obtain rfl:=List.mem_singleton.mp hw
           exact gM _ (List.getElem_mem _)
       . exact gM w (List.mem_of_mem_drop hw)⟩
   . refine⟨_,rfl,rfl,_,rfl,iteB (ne 1 (by omega)) ?_⟩
     refine⟨_,rfl,rfl,_,rfl,iteB (ne 2 (by omega)) ?_⟩
     refine⟨_,rfl,rfl,_,rfl,iteB (ne 3 (by omega)) ?_⟩
     refine⟨_,rfl,_,_,rfl,rfl,_,rfl,iteA (decide_eq_true (by omega)) ?_⟩
     refine⟨_,rfl,_,_,rfl,rfl,⟨by decide,by decide⟩,_,rfl,fun v H2 s2 av lv=>?_⟩
     refine⟨_,rfl,_,rfl,_,_,rfl,rfl,⟨by decide,by decide⟩,_,rfl,wl,_,rfl,.inl (SqL.of (s2 _ _ hw1)),?_⟩
     rw[List.length_map]
     have u0:0<=cell / 16 / 9 % (ws.length:Int):=Int.emod_nonneg _ (by omega)
     have u1:cell / 16 / 9 % (ws.length:Int)<ws.length:=Int.emod_lt_of_pos _ (by omega)
     refine⟨_,_,rfl,rfl,(by show (0:Int)<(ws.length:Int);omega),wl,_,_,(cell / 16 / 9 % (ws.length:Int)).toNat,rfl,rfl,s2 _ _ hw1,?_,?_⟩
     . unfold ixN
       rw[List.length_map,if_pos u0,if_pos u1]
     rw[<-List.map_set]
     generalize (cell / 16 / 9 % (ws.length:Int)).toNat=u
     have hl2:=s2 _ _ h1
     have hl3:(upd H2 wl (.lst ((ws.set u v).map V.str))) l=some (.lst (rows.map V.str)):=by rw[za7 nlw];exact hl2
     have hw3:(upd H2 wl (.lst ((ws.set u v).map V.str))) wl=some (.lst ((ws.set u v).map V.str)):=za5
     have s3:Same H (upd H2 wl (.lst ((ws.set u v).map V.str))):=(s1.trans s2).put fw
     revert hl3 hw3 s3
     generalize upd H2 wl (.lst ((ws.set u v).map V.str))=H3
     intro hl3 hw3 s3
     have aj:∀ w∈ws.set u v,Asc w:=fun w hw=>(zt5 hw).elim (fun z=>(wsA w z).1) fun z=>by rw[z];exact av
     have lj:(Txt.join (Str.ofString " ") (ws.set u v)).length<=M+10:=by
       rw[zt4,List.length_set,show (Str.ofString " ").length=1 by decide,Nat.mul_one]
       have:=zL9 ws u v
       omega
     refine⟨rfl,_,rfl,Str.ofString " ",wl,ws.set u v,rfl,rfl,SqL.of hw3,by have:=zt4 (Str.ofString " ") (ws.set u v);have:=zL9 ws u v;rw[List.length_set,show (Str.ofString " ").length=1 by decide];omega,?_⟩
     refine⟨_,rfl,_,rfl,l,_,_,i,rfl,rfl,hl3,ixS hi,?_⟩
     rw[<-List.map_set]
     refine⟨_,rfl,rfl,_,rfl,iteB (ne 4 (by omega)) ?_⟩
     refine⟨_,rfl,rfl,_,rfl,iteB (ne 5 (by omega)) ?_⟩
     refine⟨_,rfl,rfl,_,rfl,iteB (ne 6 (by omega)) ?_⟩
     exact⟨_,rfl,q l (rows.set i (Txt.join (Str.ofString " ") (ws.set u v))) _ (.inl rfl) (zj0.put s3) za5 (by rw[List.length_set];omega) (by rw[List.length_set];omega) fun w hw=>(zt5 hw).elim (fun z=>gM w z) fun z=>by rw[z];exact⟨zD4 (by decide) aj,lj⟩⟩
   . refine⟨_,rfl,rfl,_,rfl,iteB (ne 1 (by omega)) ?_⟩
     refine⟨_,rfl,rfl,_,rfl,iteB (ne 2 (by omega)) ?_⟩
     refine⟨_,rfl,rfl,_,rfl,iteB (ne 3 (by omega)) ?_⟩
     refine⟨_,rfl,_,_,rfl,rfl,_,rfl,iteB (decide_eq_false (by omega)) ?_⟩
     refine⟨_,rfl,rfl,_,rfl,iteA (decide_eq_true (by rw[hc])) ?_⟩
     have w0:0<=cell / 16 % 20:=Int.emod_nonneg _ (by decide)
     have w1:cell / 16 % 20<20:=Int.emod_lt_of_pos _ (by decide)
     have i4:=zv8 (n:=1+cell / 16 % 20) (by omega) (by omega)
     refine⟨_,rfl,_,rfl,_,_,rfl,rfl,(by show (0:Int)<20;decide),_,_,rfl,rfl,1+cell / 16 % 20,rfl,zh9 (by omega),_,_,rfl,rfl,(by show (Str.ofString "weight ").length+(sI (1+cell / 16 % 20)).length<=sizeLine;omega),_,_,rfl,rfl,(by show (Str.ofString "weight "++sI (1+cell / 16 % 20)).length+(Str.ofString " tray").length<=sizeLine;rw[zd5];omega),(by show 1<=sizeLine;omega),fun l2 H2 s2 f2 h2=>?_⟩
     have gv:GL (M+10) ((Str.ofString "weight "++sI (1+cell / 16 % 20))++Str.ofString " tray"):=⟨((Asc.app (by decide) (zA1 _)).app (by decide)),by rw[zd5,zd5];omega⟩
     replace h2:H2 l2=some (.lst [V.str ((Str.ofString "weight "++sI (1+cell / 16 % 20))++Str.ofString " tray")]):=h2
     generalize (Str.ofString "weight "++sI (1+cell / 16 % 20))++Str.ofString " tray" = vv at gv h2
     have k0:0<=cell / 16 / 20 % 3:=Int.emod_nonneg _ (by decide)
     have k1:cell / 16 / 20 % 3<3:=Int.emod_lt_of_pos _ (by decide)
     refine⟨_,rfl,_,_,rfl,rfl,⟨by decide,by decide⟩,_,_,rfl,rfl,(by show (0:Int)<3;decide),_,_,rfl,rfl,l2,_,_,rfl,rfl,h2,(by show -(2 ^ 63)<=1+cell / 16 / 20 % 3;omega),(by show 1+cell / 16 / 20 % 3<2 ^ 63;omega),(by show 1*(1+cell / 16 / 20 % 3).toNat<=sizeLine;omega),fun l3 H3 s3 f3 h3=>?_⟩
     replace h3:H3 l3=some (.lst ((List.replicate (1+cell / 16 / 20 % 3).toNat vv).map V.str)):=by rw[h3,List.flatten_replicate_singleton,List.map_replicate]
     refine⟨l,l3,_,_,rfl,rfl,s3 _ _ (s2 _ _ h1),h3,by rw[List.length_map,List.length_map,List.length_replicate];omega,fun l4 H4 s4 f4 h4=>?_⟩
     rw[<-List.map_append] at h4
     refine⟨_,rfl,rfl,_,rfl,iteB (ne 5 (by omega)) ?_⟩
     refine⟨_,rfl,rfl,_,rfl,iteB (ne 6 (by omega)) ?_⟩
     exact⟨_,rfl,q l4 (rows++List.replicate (1+cell / 16 / 20 % 3).toNat vv) H4 (.inr (((s1.trans s2).trans s3).free f4)) (zx1 (((s1.trans s2).trans s3).trans s4) l) h4 (by rw[List.length_append,List.length_replicate];omega) (by rw[List.length_append,List.length_replicate];omega) fun w hw=>(List.mem_append.mp hw).elim (fun z=>gM w z) fun z=>by rw[List.eq_of_mem_replicate z];exact gv⟩
   . refine⟨_,rfl,rfl,_,rfl,iteB (ne 1 (by omega)) ?_⟩
     refine⟨_,rfl,rfl,_,rfl,iteB (ne 2 (by omega)) ?_⟩
     refine⟨_,rfl,rfl,_,rfl,iteB (ne 3 (by omega)) ?_⟩
     refine⟨_,rfl,_,_,rfl,rfl,_,rfl,iteB (decide_eq_false (by omega)) ?_⟩
     refine⟨_,rfl,rfl,_,rfl,iteB (ne 4 (by omega)) ?_⟩
     refine⟨_,rfl,rfl,_,rfl,iteA (decide_eq_true (by rw[hc])) ?_⟩
     refine⟨_,rfl,_,rfl,_,rfl,l,_,rfl,SqL.of h1,fun l2 H2 s2 f2 h2=>?_⟩
     rw[show cutV (rows.map V.str) none (some (i:Int))=(rows.take i).map V.str from cutA rows i] at h2
     refine⟨(by show 1<=sizeLine;omega),fun l3 H3 s3 f3 h3=>?_⟩
     refine⟨l2,l3,_,_,rfl,rfl,s3 _ _ h2,h3,by rw[List.length_map,List.length_take];show _+1<=_;omega,fun l4 H4 s4 f4 h4=>?_⟩
     refine⟨_,rfl,_,rfl,_,rfl,l,_,rfl,SqL.of (s4 _ _ (s3 _ _ (s2 _ _ h1))),fun l5 H5 s5 f5 h5=>?_⟩
     rw[show cutV (rows.map V.str) (some (i:Int)) none=(rows.drop i).map V.str from cutB rows i] at h5
     refine⟨l4,l5,_,_,rfl,rfl,s5 _ _ h4,h5,by rw[List.length_append,List.length_map,List.length_map,List.length_take,List.length_drop];show _+1+_<=_;omega,fun l6 H6 s6 f6 h6=>?_⟩
     have e6:(rows.take i).map V.str++[V.str (Str.ofString "")]++(rows.drop i).map V.str=(rows.take i++[Str.ofString ""]++rows.drop i).map V.str:=by rw[List.map_append,List.map_append];rfl
     rw[e6] at h6
     have s16:=((((s2.trans s3).trans s4).trans s5).trans s6)
     refine⟨_,rfl,(by show 1<=sizeLine;omega),fun l7 H7 s7 f7 h7=>⟨l,l7,_,_,rfl,rfl,(s16.trans s7) _ _ h1,h7,by rw[List.length_map];show _+1<=_;omega,fun l8 H8 s8 f8 h8=>?_⟩⟩
     have e8:rows.map V.str++[V.str (Str.ofString "")]=(rows++[Str.ofString ""]).map V.str:=by rw[List.map_append];rfl
     rw[e8] at h8
     have s18:=(s16.trans s7).trans s8
     refine⟨(by show 1<=sizeLine;omega),fun l9 H9 s9 f9 h9=>⟨_,rfl,l9,l,_,_,rfl,rfl,h9,(s18.trans s9) _ _ h1,by rw[List.length_map];show 1+_<=_;omega,fun la Ha sa fa ha=>?_⟩⟩
     have ea:[V.str (Str.ofString "")]++rows.map V.str=([Str.ofString ""]++rows).map V.str:=by rw[List.map_append];rfl
     rw[ea] at ha
     have s1a:=(s18.trans s9).trans sa
     refine⟨(by show 3<=sizeLine;omega),fun lb Hb sb fb hb=>?_⟩
     have gE:GL (M+10) (Str.ofString ""):=⟨by decide,by show (Str.ofString "").length<=_;rw[show (Str.ofString "").length=0 by decide];omega⟩
     have h6b:Hb l6=_:=sb _ _ (sa _ _ (s9 _ _ (s8 _ _ (s7 _ _ h6))))
     have h8b:Hb l8=_:=sb _ _ (sa _ _ (s9 _ _ h8))
     have hab:Hb la=_:=sb _ _ ha
     obtain ⟨lr,rows',hf0,hat,hlr,b1,b2,b3⟩:∃ lr rows',H lr=none/\atI [V.ref l6,V.ref l8,V.ref la] (cell / 16 / 9 % 3)=some (.ref lr)/\Hb lr=some (.lst (List.map V.str rows'))/\rows.length<=rows'.length+1/\rows'.length<=rows.length+3/\∀ w∈rows',GL (M+10) w:=by
       have:cell / 16 / 9 % 3=0\/cell / 16 / 9 % 3=1\/cell / 16 / 9 % 3=2:=by omega
       rcases this with e | e | e<;>rw[e]
       . refine⟨l6,_,(s1.trans (((s2.trans s3).trans s4).trans s5)).free f6,rfl,h6b,by rw[List.length_append,List.length_append,List.length_take,List.length_drop];show _<=_+1+_+1;omega,by rw[List.length_append,List.length_append,List.length_take,List.length_drop];show _+1+_<=_;omega,fun w hw=>?_⟩
         rcases List.mem_append.mp hw with hw | hw
         . rcases List.mem_append.mp hw with hw | hw
           . exact gM w (List.mem_of_mem_take hw)
           . obtain rfl:=List.mem_singleton.mp hw
             exact gE
         . exact gM w (List.mem_of_mem_drop hw)
       . refine⟨l8,_,(s1.trans (s16.trans s7)).free f8,rfl,h8b,by rw[List.length_append,List.length_singleton];omega,by rw[List.length_append,List.length_singleton];omega,fun w hw=>?_⟩
         rcases List.mem_append.mp hw with hw | hw
         . exact gM w hw
         . obtain rfl:=List.mem_singleton.mp hw
           exact gE
       . refine⟨la,_,(s1.trans (s18.trans s9)).free fa,rfl,hab,by rw[List.length_append,List.length_singleton];omega,by rw[List.length_append,List.length_singleton];omega,fun w hw=>?_⟩
         rcases List.mem_append.mp hw with hw | hw
         . obtain rfl:=List.mem_singleton.mp hw
           exact gE
         . exact gM w hw
     refine⟨_,rfl,_,_,rfl,rfl,⟨by decide,by decide⟩,_,_,rfl,rfl,(by show (0:Int)<3;decide),lb,_,_,_,rfl,rfl,SqL.of hb,hat,?_⟩
     refine⟨_,rfl,rfl,_,rfl,iteB (ne 6 (by omega)) ?_⟩
     exact⟨_,rfl,q lr rows' Hb (.inr hf0) (zx1 ((s1.trans s1a).trans sb) l) hlr b1 b2 b3⟩
   . refine⟨_,rfl,rfl,_,rfl,iteB (ne 1 (by omega)) ?_⟩
     refine⟨_,rfl,rfl,_,rfl,iteB (ne 2 (by omega)) ?_⟩
     refine⟨_,rfl,rfl,_,rfl,iteB (ne 3 (by omega)) ?_⟩
     refine⟨_,rfl,_,_,rfl,rfl,_,rfl,iteB (decide_eq_false (by omega)) ?_⟩
     refine⟨_,rfl,rfl,_,rfl,iteB (ne 4 (by omega)) ?_⟩
     refine⟨_,rfl,rfl,_,rfl,iteB (ne 5 (by omega)) ?_⟩
     refine⟨_,rfl,rfl,_,rfl,iteA (decide_eq_true (by rw[hc])) ?_⟩
     have e5:(Str.ofString " tray").length=5:=by decide
     have e6:(Str.ofString " 1").length=2:=by decide
     have e7:(Str.ofString " ").length=1:=by decide
     refine⟨_,rfl,_,rfl,l,_,_,_,rfl,rfl,SqL.of h1,at1,_,_,rfl,rfl,(by show (rows[i]).length+(Str.ofString " ").length<=sizeLine;omega),_,rfl,_,rfl,l,_,_,_,rfl,rfl,SqL.of h1,at1,_,_,rfl,rfl,(by show (Str.ofString " ").length+(rows[i]).length<=sizeLine;omega),_,rfl,_,rfl,l,_,_,_,rfl,rfl,SqL.of h1,at1,_,_,rfl,rfl,(by show (rows[i]).length+(Str.ofString " 1").length<=sizeLine;omega),_,rfl,_,rfl,l,_,_,_,rfl,rfl,SqL.of h1,at1,_,_,rfl,rfl,(by show (rows[i]).length+(Str.ofString " tray").length<=sizeLine;omega),(by show 4<=sizeLine;omega),fun l2 H2 s2 f2 h2=>?_⟩
     obtain ⟨v,hat,gv⟩:∃ v:Str,atI [V.str (rows[i]++Str.ofString " "),V.str (Str.ofString " "++rows[i]),V.str (rows[i]++Str.ofString " 1"),V.str (rows[i]++Str.ofString " tray")] (cell / 16 / 9 % 4)=some (.str v)/\GL (M+10) v:=by
       have ai:=(gR _ (List.getElem_mem hi)).1
       have:cell / 16 / 9 % 4=0\/cell / 16 / 9 % 4=1\/cell / 16 / 9 % 4=2\/cell / 16 / 9 % 4=3:=by omega
       rcases this with e | e | e | e<;>rw[e]
       . exact⟨_,rfl,ai.app (by decide),by rw[zd5];omega⟩
       . exact⟨_,rfl,Asc.app (by decide) ai,by rw[zd5];omega⟩
       . exact⟨_,rfl,ai.app (by decide),by rw[zd5];omega⟩
       . exact⟨_,rfl,ai.app (by decide),by rw[zd5];omega⟩
     refine⟨_,rfl,_,_,rfl,rfl,⟨by decide,by decide⟩,_,_,rfl,rfl,(by show (0:Int)<4;decide),l2,_,_,_,rfl,rfl,SqL.of h2,hat,?_⟩
     refine⟨_,rfl,_,rfl,l,_,_,i,rfl,rfl,s2 _ _ h1,ixS hi,?_⟩
     rw[<-List.map_set]
     skip
     exact⟨_,rfl,q l (rows.set i v) _ (.inl rfl) (zj0.put (s1.trans s2)) za5 (by rw[List.length_set];omega) (by rw[List.length_set];omega) fun w hw=>(zt5 hw).elim (fun z=>gM w z) fun z=>by rw[z];exact gv⟩
   . refine⟨_,rfl,rfl,_,rfl,iteB (ne 1 (by omega)) ?_⟩
     refine⟨_,rfl,rfl,_,rfl,iteB (ne 2 (by omega)) ?_⟩
     refine⟨_,rfl,rfl,_,rfl,iteB (ne 3 (by omega)) ?_⟩
     refine⟨_,rfl,_,_,rfl,rfl,_,rfl,iteB (decide_eq_false (by omega)) ?_⟩
     refine⟨_,rfl,rfl,_,rfl,iteB (ne 4 (by omega)) ?_⟩
     refine⟨_,rfl,rfl,_,rfl,iteB (ne 5 (by omega)) ?_⟩
     refine⟨_,rfl,rfl,_,rfl,iteB (ne 6 (by omega)) ?_⟩
     exact⟨_,rfl,q l rows _ (.inl rfl) (zx1 s1 l) h1 (by omega) (by omega) gM⟩
end
end Bt
namespace Bt
open PySem L2
section
variable {P:Program} {w:World} {K:W.Frag} {mg:Str->Option Value} {base:Heap} {t:Adr}
theorem zA2 {z:Str}:zd3 z<0↔ze4 z=none:=by
 unfold zd3
 cases h:ze4 z with
 | none=>exact⟨fun _=>rfl,fun _=>by decide⟩
 | some n=>exact⟨fun e=>absurd (zG4 h).1 (by dsimp only at e;omega),fun e=>nomatch e⟩
theorem zr4 {z:Str} (h:¬ zd3 z<0):ze4 z=some (zd3 z):=by
 cases e:ze4 z with
 | none=>exact absurd (zA2.mpr e) h
 | some n=>unfold zd3;rw[e]
theorem zG8 (f:Str):wb f 1 (Str.ofString "")=none:=by
 unfold wb
 rw[show Txt.split (Str.ofString "") (Str.ofString " ")=[Str.ofString ""] by decide +kernel]
 exact if_neg fun h=>nomatch h.2
noncomputable def fronts:List Str:=[Str.ofString "notches",Str.ofString "room",Str.ofString "limit"]
noncomputable def pad (rows:List Str):List Str:=rows++[Str.ofString "",Str.ofString "",Str.ofString ""]
noncomputable def zu4 (k:Nat):Str:=fronts.getD k (Str.ofString "")
noncomputable def padN (rows:List Str) (k:Nat):Str:=(pad rows).getD k (Str.ofString "")
theorem pad_no {rows:List Str} {k:Nat} (hk:k<3) (h:wb (zu4 k) 1 (padN rows k)=none):zj4 rows=none:=by
 match rows,k,hk,h with
 | [],_,_,_=>rfl
 | [_],_,_,_=>rfl
 | [_,_],_,_,_=>rfl
 | z0::z1::z2::zs,0,_,h=>simp only[zj4,zy0 (show wb (Str.ofString "notches") 1 z0=none from h)];rfl
 | z0::z1::z2::zs,1,_,h =>
   simp only[zj4,zy0 (show wb (Str.ofString "room") 1 z1=none from h)]
   cases fldN (Str.ofString "notches") z0<;>rfl
 | z0::z1::z2::zs,2,_,h =>
   simp only[zj4,zy0 (show wb (Str.ofString "limit") 1 z2=none from h)]
   cases fldN (Str.ofString "notches") z0<;>cases fldN (Str.ofString "room") z1<;>rfl
 | _::_::_::_,k+3,h,_=>omega
theorem pad_yes {rows:List Str} {as:List Str} (hl:as.length=3) (h:∀ k,k<3->∃ a,as[k]?=some a/\wb (zu4 k) 1 (padN rows k)=some [a]) :
   ∃ z0 z1 z2 zs a0 a1 a2,rows=z0::z1::z2::zs/\as=[a0,a1,a2]/\fldN (Str.ofString "notches") z0=ze4 a0/\fldN (Str.ofString "room") z1=ze4 a1/\fldN (Str.ofString "limit") z2=ze4 a2:=by
 obtain ⟨a0,a1,a2,rfl⟩:∃ a0 a1 a2,as=[a0,a1,a2]:=by
   match as,hl with
   | [a,b,c],_=>exact⟨a,b,c,rfl⟩
 obtain ⟨_,e0,h0⟩:=h 0 (by decide)
 obtain ⟨_,e1,h1⟩:=h 1 (by decide)
 obtain ⟨_,e2,h2⟩:=h 2 (by decide)
 cases e0
 cases e1
 cases e2
 match rows,h0,h1,h2 with
 | [],h0,_,_=>rw[show padN [] 0=Str.ofString "" from rfl,zG8] at h0;cases h0
 | [z0],_,h1,_=>rw[show padN [z0] 1=Str.ofString "" from rfl,zG8] at h1;cases h1
 | [z0,z1],_,_,h2=>rw[show padN [z0,z1] 2=Str.ofString "" from rfl,zG8] at h2;cases h2
 | z0::z1::z2::zs,h0,h1,h2 =>
   refine⟨z0,z1,z2,zs,a0,a1,a2,rfl,rfl,?_,?_,?_⟩<;>unfold fldN
   . rw[show wb (Str.ofString "notches") 1 z0=some [a0] from h0]
   . rw[show wb (Str.ofString "room") 1 z1=some [a1] from h1]
   . rw[show wb (Str.ofString "limit") 1 z2=some [a2] from h2]
noncomputable def lawW (row:Str):Option (Int×Option Int):=match wb (Str.ofString "weight") 2 row with
 | some [a,b]=>some (zd3 a,zm7 b)
 | _=>none
theorem lawW_no {row:Str} (h:wb (Str.ofString "weight") 2 row=none):lawW row=none/\rdW row=none:=by
 unfold lawW rdW
 rw[h]
 exact⟨rfl,rfl⟩
theorem lawW_yes {row a b:Str} (h:wb (Str.ofString "weight") 2 row=some [a,b]):lawW row=some (zd3 a,zm7 b):=by
 unfold lawW
 rw[h]
theorem rdW_of {row:Str} {p:Int×Option Int} (h:lawW row=some p):(p.1<0->rdW row=none)/\(p.2=none->rdW row=none)/\(∀ x,¬ p.1<0->p.2=some x->rdW row=some (p.1,x)):=by
 unfold lawW at h
 unfold rdW
 split at h
 . rename_i a b e
   injection h with h
   subst h
   try rw[e]
   dsimp only
   refine⟨fun h=>by rw[zA2.mp h],fun h=>?_,fun x h1 h2=>by rw[zr4 h1,h2]⟩
   rw[h]
   cases ze4 a<;>rfl
 . cases h
theorem zS9:∀ {zs:List Str} {ps:List (Int×Option Int)},zs.map lawW=ps.map some->((∃ p∈ps,p.1<0\/p.2=none)->allW zs=none)/\((∀ p∈ps,¬ p.1<0/\p.2≠none)->∃ ws,allW zs=some ws/\ws.map (·.1)=ps.map (·.1)/\ws.map (fun w=>some w.2)=ps.map (·.2))
 | [],[],_=>⟨fun ⟨_,h,_⟩=>(nomatch h),fun _=>⟨[],rfl,rfl,rfl⟩⟩
 | [],_::_,h=>by simp at h
 | _::_,[],h=>by simp at h
 | z::zs,p::ps,h=>by
   injection h with h1 h2
   obtain ⟨i1,i2⟩:=zS9 h2
   obtain ⟨r1,r2,r3⟩:=rdW_of h1
   constructor
   . rintro⟨p',hp,hb⟩
     rcases List.mem_cons.mp hp with rfl | hp
     . have:rdW z=none:=hb.elim r1 r2
       simp[allW,this]
     . simp[allW,i1 ⟨p',hp,hb⟩]
   . intro hall
     obtain ⟨ws,e1,e2,e3⟩:=i2 fun p' hp=>hall p' (List.mem_cons_of_mem _ hp)
     obtain ⟨n1,n2⟩:=hall p List.mem_cons_self
     obtain ⟨x,hx⟩:=Option.ne_none_iff_exists'.mp n2
     refine⟨(p.1,x)::ws,by simp[allW,r3 x n1 hx,e1],?_,?_⟩
     . rw[List.map_cons,List.map_cons,e2]
     . rw[List.map_cons,List.map_cons,e3,hx]
theorem zT0 {ps:List (Int×Option Int)}:inV .non (ps.map fun p=>optV p.2)=true↔∃ p∈ps,p.2=none:=by
 unfold inV
 rw[List.any_map,List.any_eq_true]
 constructor
 . rintro⟨p,hp,h⟩
   cases e:p.2 with
   | none=>exact⟨p,hp,e⟩
   | some n =>
     have h:eqV (optV p.2) V.non=true:=h
     rw[e] at h
     cases h
 . rintro⟨p,hp,e⟩
   refine⟨p,hp,?_⟩
   show eqV (optV p.2) V.non=true
   rw[e]
   rfl
noncomputable def zx2 (K:W.Frag) (t:Adr):Sp:=fun vs H Q _=>∃ z:Str,vs=[.str z]/\z.length<=100000/\Asc z/\(rdB z=none->∀ H',Same H H'->Q .non H') ∧
 ∀ n r lim ws,rdB z=some (n,r,lim,ws)->(0<=n/\0<=r/\0<=lim/\∀ w∈ws,0<=w.1)->ws.length<=100001->∀ l h s H',Same H H'->H' h=some (.lst ((ws.map (·.1)).map V.int))->H' s=some (.lst ((ws.map (·.2)).map V.int))->H' l=some (.lst [.int n,.int r,.ref h,.int lim,.ref s])->Q (.ref l) H'
theorem zE3 (T : Txt K mg t) : FnOk P w K mg base CX0 3 t.a_w_parsed t.d_w_parsed ["_law_text"] (zx2 K t) := by
  have G_w_number : FnOk P w K mg base CX0 1 t.a_w_number t.d_w_number ["_law_word"] (zw9 K t) := zE2 T
  have G_w_spot : FnOk P w K mg base CX0 2 t.a_w_spot t.d_w_spot ["_law_word"] (zJ8 K t) := ok_w_spot T
  refine T.F_w_parsed.ok zg9 (fun vs H Q E h => ?_) (fun cdv A outer s H vs Q E hr h => ?_)
  · obtain ⟨z, rfl, hz, ha, qn, q⟩ := h
    rfl
  · obtain ⟨z, rfl, hz, ha, qn, q⟩ := h
    have hr_w_number : Room 1 _ := hr.mono (by decide)
    have hr_w_spot : Room 2 _ := hr.mono (by decide)
    refine ⟨_, (za1 (zb5 (i := 1) zg9.nd rfl (Or.inl rfl) (zk0 PySem.F.plainAttrs_str PySem.F.slot_str_split PySem.F.type_str_split zo9 (pv 0) (za0 zb0 za2)))
      (za1 (zb5 (i := 2) zg9.nd rfl (Or.inl rfl) (zf2 za2))
      (za1 (zn2 PassesOwn.never rfl (zo8 rfl T.n_range (za0 za3 za2)) (zd4 (i := 3) zg9.nd rfl (Or.inl rfl)) (za1 (zb5 (i := 4) zg9.nd rfl (Or.inl rfl) (zk0 PySem.F.plainAttrs_str PySem.F.slot_str_split PySem.F.type_str_split zo9 (zc7 zb7 (zb2 zm8 (pv 1) (zf2 (za0 zb0 (za0 zb0 (za0 zb0 za2))))) (pv 3) (fun _ _ => rfl)) (za0 zb0 za2)))
      (za1 (zc8 (PW.pt (zr0 (zb3 zr1 (zc0 zc2 rfl T.n_len PySem.boot_len (za0 (pv 4) za2)) za3 (zb4 _)) (zr5 (zb3 zr1 (zc7 zb7 (pv 4) za3 (fun _ _ => rfl)) (zc7 zb7 (zf2 (za0 zb0 (za0 zb0 (za0 zb0 za2)))) (pv 3) (fun _ _ => rfl)) (zb4 _))))) (za6 (zb9 zC1)) zb6)
      (za6 (zg4 (zk0 PySem.F.plainAttrs_list PySem.F.slot_list_append PySem.F.type_list_append zj5 (pv 2) (za0 (zb1 G_w_number hr_w_number rfl T.m_w_number T.k_w_number T.b_w_number .nil zc4 (za0 (zc7 zb7 (pv 4) za3 (fun _ _ => rfl)) za2)) za2)))))))
      (za1 (zb5 (i := 5) zg9.nd rfl (Or.inl rfl) (zf2 za2))
      (za1 (zb5 (i := 6) zg9.nd rfl (Or.inl rfl) (zf2 za2))
      (za1 (zn2 PassesOwn.never rfl (zo3 (ze3 zl4 (pv 1) (zf9 za3) zf8)) (zd4 (i := 7) zg9.nd rfl (Or.inl rfl)) (za1 (zb5 (i := 4) zg9.nd rfl (Or.inl rfl) (zk0 PySem.F.plainAttrs_str PySem.F.slot_str_split PySem.F.type_str_split zo9 (pv 7) (za0 zb0 za2)))
      (za1 (zc8 (PW.pt (zr0 (zb3 zr1 (zc0 zc2 rfl T.n_len PySem.boot_len (za0 (pv 4) za2)) za3 (zb4 _)) (zr5 (zb3 zr1 (zc7 zb7 (pv 4) za3 (fun _ _ => rfl)) zb0 (zb4 _))))) (za6 (zb9 zC1)) zb6)
      (za1 (zg4 (zk0 PySem.F.plainAttrs_list PySem.F.slot_list_append PySem.F.type_list_append zj5 (pv 5) (za0 (zb1 G_w_number hr_w_number rfl T.m_w_number T.k_w_number T.b_w_number .nil zc4 (za0 (zc7 zb7 (pv 4) za3 (fun _ _ => rfl)) za2)) za2)))
      (za6 (zg4 (zk0 PySem.F.plainAttrs_list PySem.F.slot_list_append PySem.F.type_list_append zj5 (pv 6) (za0 (zb1 G_w_spot hr_w_spot rfl T.m_w_spot T.k_w_spot T.b_w_spot .nil zc4 (za0 (zc7 zb7 (pv 4) za3 (fun _ _ => rfl)) za2)) za2))))))))
      (za1 (zc8 (PW.pt (zr0 (zb3 zy5 (zc0 (zI7 rfl) rfl T.n_min PyProof.Rows.boot_min (za0 (zb2 zm8 (pv 2) (pv 5)) za2)) za3 (zb4 _)) (zr5 (zb3 op_in_seq zC1 (pv 6) rfl)))) (za6 (zb9 zC1)) zb6)
      (za6 (zb9 (zf2 (za0 (zc7 zb7 (pv 2) za3 (fun _ _ => rfl)) (za0 (zc7 zb7 (pv 2) za3 (fun _ _ => rfl)) (za0 (pv 5) (za0 (zc7 zb7 (pv 2) za3 (fun _ _ => rfl)) (za0 (pv 6) za2))))))))))))))), ?_⟩
    have hsl : sizeLine = 16777216 := by decide
    have short : ∀ w ∈ Txt.split z (Str.ofString "\n"), w.length ≤ 100000 ∧ Asc w := fun w hw => ⟨Nat.le_trans (PyProof.Rows.part_short hw) hz, ha.part hw⟩
    have hle := PyProof.Rows.split_le z (Str.ofString "\n")
    refine ⟨_, rfl, rfl, _, _, rfl, rfl, by decide, by omega, fun l H1 s1 f1 h1 => ?_⟩
    unfold rdB at q qn
    generalize Txt.split z (Str.ofString "\n") = rows at *
    refine ⟨Nat.zero_le _, fun sz H2 s2 f2 h2 => ?_⟩
    have s02 := s1.trans s2
    have h12 := s2 _ _ h1
    have shortP : ∀ k, (padN rows k).length ≤ 100000 ∧ Asc (padN rows k) := fun k => by
      unfold padN
      rw [List.getD_eq_getElem?_getD]
      cases e : (pad rows)[k]? with
      | none => exact ⟨by rw [Option.getD_none, show (Str.ofString "").length = 0 by decide]; omega, by rw [Option.getD_none]; decide⟩
      | some w =>
        rw [Option.getD_some]
        have hm := List.mem_of_getElem? e
        unfold pad at hm
        rcases List.mem_append.mp hm with hm | hm
        · exact short w hm
        · simp only [List.mem_cons, List.not_mem_nil, or_false] at hm
          rcases hm with rfl | rfl | rfl <;> exact ⟨by rw [show (Str.ofString "").length = 0 by decide]; omega, by decide⟩
    refine ⟨_, rfl, by decide, by decide, zm0 (n := 3) (fun i σ H' => ∃ v3 v4 as, σ = [some (.str z), some (.ref l), some (.ref sz), v3, v4, none, none, none] ∧ Same H H' ∧ H' l = some (.lst (rows.map V.str)) ∧ H' sz = some (.lst ((as.map zd3).map V.int)) ∧ as.length = i ∧ ∀ k, k < i → ∃ a, as[k]? = some a ∧ wb (zu4 k) 1 (padN rows k) = some [a]) ⟨none, none, [], rfl, s02, h12, h2, rfl, fun k hk => absurd hk (Nat.not_lt_zero _)⟩ ?_ ?_⟩
    · rintro i σ H3 hi ⟨v3, v4, as, rfl, s3, hl3, hz3, hlen, hP⟩
      refine ⟨_, rfl, (by show 3 ≤ sizeLine; omega), fun pl H4 s4 f4 h4 => ?_⟩
      refine ⟨l, pl, _, _, rfl, rfl, s4 _ _ hl3, h4, by rw [List.length_map]; show _ + 3 ≤ _; omega, fun pd H5 s5 f5 h5 => ?_⟩
      have ep : rows.map V.str ++ [V.str (Str.ofString ""), V.str (Str.ofString ""), V.str (Str.ofString "")] = (pad rows).map V.str := by unfold pad; rw [List.map_append]; rfl
      rw [ep] at h5
      have hpl : i < (pad rows).length := by unfold pad; rw [List.length_append]; show i < _ + 3; omega
      have eat : atI ((pad rows).map V.str) (0 + (i : Int)) = some (.str (padN rows i)) := by
        rw [show (0 : Int) + (i : Int) = (i : Int) by omega]
        refine zo4 ?_
        rw [List.getElem?_map]
        unfold padN
        rw [List.getD_eq_getElem?_getD, List.getElem?_eq_getElem hpl]
        rfl
      refine ⟨_, rfl, pd, _, _, _, rfl, rfl, SqL.of h5, eat, rfl, _, _, rfl, rfl, by decide, by have := (shortP i).1; omega, fun wl H6 s6 f6 h6 => ?_⟩
      have s36 := (s4.trans s5).trans s6
      have hws := PyProof.Rows.split_le (padN rows i) (Str.ofString " ")
      have wsS : ∀ w ∈ Txt.split (padN rows i) (Str.ofString " "), w.length ≤ 1000000 ∧ Asc w := fun w hw => ⟨by have := PyProof.Rows.part_short hw; have := (shortP i).1; omega, (shortP i).2.part hw⟩
      have ewb : wb (zu4 i) 1 (padN rows i) = match Txt.split (padN rows i) (Str.ofString " ") with
  | w :: ws => if w = zu4 i ∧ ws.length = 1 then some ws else none
  | [] => none := rfl
      have bad : wb (zu4 i) 1 (padN rows i) = none → ∀ H', Same H H' → Q .non H' := fun h => qn (pad_no hi h)
      cases hsp : Txt.split (padN rows i) (Str.ofString " ") with
      | nil => exact absurd hsp (zv7 _ _)
      | cons w ws =>
        rw [hsp] at h6 wsS ewb
        dsimp only at ewb
        refine ⟨_, rfl, wl, _, rfl, .inl (SqL.of h6), rfl, _, rfl, ?_⟩
        refine zN1 (R := ?R) (S := fun H' => Same H H' ∧ ¬ (w = zu4 i ∧ ws.length = 1)) (fun fin => ?main) ?fin
        case main =>
          refine ite2 (fun g1 => ?ca) (fun g1 => ?cb)
          case cb =>
            have g1' : ws.length = 1 := by rw [List.length_map, List.length_cons] at g1; simp at g1; omega
            refine ⟨_, rfl, wl, _, _, V.str w, rfl, rfl, SqL.of h6, at_0, (by show 3 ≤ sizeLine; omega), fun fl H7 s7 f7 h7 => ?_⟩
            have ef : atI [V.str (Str.ofString "notches"), V.str (Str.ofString "room"), V.str (Str.ofString "limit")] (0 + (i : Int)) = some (.str (zu4 i)) := by
              match i, hi with
              | 0, _ => rfl
              | 1, _ => rfl
              | 2, _ => rfl
            refine ⟨_, rfl, fl, _, _, _, rfl, rfl, SqL.of h7, ef, rfl, _, rfl, ?_⟩
            refine ite2 (fun g2 => ?cc) (fun g2 => ?cd)
            case cc =>
              have s07 : Same H H7 := (s3.trans s36).trans s7
              exact fin H7 ⟨s07, fun e => by rw [e.1] at g2; simp at g2⟩
            case cd =>
              have g2' : w = zu4 i := by simpa using g2
              obtain ⟨a, rfl⟩ : ∃ a, ws = [a] := by
                match ws, g1' with
                | [a], _ => exact ⟨a, rfl⟩
              rw [if_pos ⟨g2', rfl⟩] at ewb
              obtain ⟨la, aa⟩ := wsS a (by simp)
              have s37 := s36.trans s7
              have hz7 := s37 _ _ hz3
              refine ⟨_, rfl, .inl ⟨rfl, _, SqL.of hz7⟩, _, rfl, wl, _, _, V.str a, rfl, rfl, SqL.of (s7 _ _ h6), at_1, a, rfl, la, aa, sz, _, _, rfl, rfl, hz7, by rw [List.length_map, List.length_map]; omega, ?_⟩
              refine ⟨_, _, as ++ [a], rfl, fun b o e => by rw [za7 (za8 (s1 _ _ e) f2)]; exact s37 _ _ (s3 _ _ e), by rw [za7 (za8 h1 f2)]; exact s37 _ _ hl3, by rw [za5, List.map_append, List.map_append]; rfl, by rw [List.length_append, hlen]; rfl, fun k hk => ?_⟩
              rcases Nat.lt_or_ge k i with h | h
              · obtain ⟨a', e1, e2⟩ := hP k h
                exact ⟨a', by rw [List.getElem?_append_left (by omega)]; exact e1, e2⟩
              · obtain rfl : k = i := by omega
                exact ⟨a, by rw [List.getElem?_append_right (by omega), hlen, Nat.sub_self]; rfl, ewb⟩
          case ca =>
            have g1' : ws.length ≠ 1 := fun e => by rw [List.length_map, List.length_cons, e] at g1; simp at g1
            exact iteT (fin H6 ⟨s3.trans s36, fun e => g1' e.2⟩)
        case fin =>
          rintro H9 ⟨s9, hb⟩
          exact bad (by rw [ewb, if_neg hb]) H9 s9
    · rintro σ H3 ⟨v3, v4, as, rfl, s3, hl3, hz3, hlen, hP⟩
      obtain ⟨z0, z1, z2, zs, a0, a1, a2, rfl, rfl, e0, e1, e2⟩ := pad_yes hlen hP
      simp only [List.length_cons] at hle
      have hzl : zs.length ≤ 100001 := by omega
      have shortZ : ∀ w ∈ zs, w.length ≤ 100000 ∧ Asc w := fun w hw => short w (by simp [hw])
      have ek : zj4 (z0 :: z1 :: z2 :: zs) = (ze4 a0).bind fun n => (ze4 a1).bind fun r => (ze4 a2).bind fun l => (allW zs).bind fun ws => some (n, r, l, ws) := by show (fldN _ z0).bind _ = _; rw [e0, e1, e2]
      rw [ek] at qn
      have noW : allW zs = none → ∀ H', Same H H' → Q .non H' := fun h => qn (by
        rw [h]
        cases ze4 a0 <;> cases ze4 a1 <;> cases ze4 a2 <;> rfl)
      refine ⟨Nat.zero_le _, fun hf H4 s4 f4 h4 => ⟨Nat.zero_le _, fun sp H5 s5 f5 h5 => ?_⟩⟩
      have s35 := s4.trans s5
      have s05 := s3.trans s35
      refine ⟨_, rfl, _, rfl, l, _, rfl, SqL.of (s35 _ _ hl3), fun rl H6 s6 f6 h6 => ?_⟩
      have ec : cutV ((z0 :: z1 :: z2 :: zs).map V.str) (some 3) none = zs.map V.str := cutS (α := V) ((z0 :: z1 :: z2 :: zs).map V.str) 3 (by simp)
      rw [ec] at h6
      have s36 := s35.trans s6
      have fh0 : H hf = none := s3.free f4
      have fs0 : H sp = none := (s3.trans s4).free f5
      have n1 : sp ≠ hf := (za8 h4 f5).symm
      have n2 : sz ≠ hf := za8 hz3 f4
      have n3 : sz ≠ sp := za8 (s4 _ _ hz3) f5
      have n4 : rl ≠ hf := (za8 (s5 _ _ h4) f6).symm
      have n5 : rl ≠ sp := (za8 h5 f6).symm
      refine ⟨rl, rfl, ⟨_, SqL.of h6⟩, zv1 (K := K) (a := rl) (xs := zs.map V.str) (fun i σ H' => ∃ v3 v4 v7 ps, σ = [some (.str z), some (.ref l), some (.ref sz), v3, v4, some (.ref hf), some (.ref sp), v7] ∧ Same H H' ∧ H' sz = some (.lst (([a0, a1, a2].map zd3).map V.int)) ∧ H' rl = some (.lst (zs.map V.str)) ∧ H' hf = some (.lst ((ps.map fun (p : Int × Option Int) => p.1).map V.int)) ∧ H' sp = some (.lst (ps.map fun p => optV p.2)) ∧ (zs.take i).map lawW = ps.map some) ⟨v3, v4, none, [], rfl, s05.trans s6, s36 _ _ hz3, h6, s6 _ _ (s5 _ _ h4), s6 _ _ h5, rfl⟩ (fun i σ H' _ ⟨_, _, _, _, _, _, _, h, _⟩ => SqL.of h) ?_ ?_⟩
      · rintro i x σ H7 hi ⟨v3, v4, v7, ps, rfl, s7, hz7, hr7, hh7, hs7, hps⟩
        rw [List.getElem?_map] at hi
        cases hw : zs[i]? with
        | none => rw [hw] at hi; cases hi
        | some row =>
          rw [hw] at hi
          cases hi
          have hil : i < zs.length := (List.getElem?_eq_some_iff.mp hw).1
          have hpl : ps.length = i := by
            have := congrArg List.length hps
            rw [List.length_map, List.length_map, List.length_take] at this
            omega
          obtain ⟨lr, ar⟩ := shortZ row (List.mem_of_getElem? hw)
          refine ⟨_, rfl, rfl, _, _, rfl, rfl, by decide, by omega, fun wl H8 s8 f8 h8 => ?_⟩
          have wsS : ∀ w ∈ Txt.split row (Str.ofString " "), w.length ≤ 1000000 ∧ Asc w := fun w hw => ⟨by have := PyProof.Rows.part_short hw; omega, ar.part hw⟩
          have ewb : wb (Str.ofString "weight") 2 row = match Txt.split row (Str.ofString " ") with
  | w :: ws => if w = Str.ofString "weight" ∧ ws.length = 2 then some ws else none
  | [] => none := rfl
          have bad : wb (Str.ofString "weight") 2 row = none → ∀ H', Same H H' → Q .non H' := fun h => noW (zJ3 hw (lawW_no h).2)
          have s08 := s7.trans s8
          cases hsp : Txt.split row (Str.ofString " ") with
          | nil => exact absurd hsp (zv7 _ _)
          | cons w ws =>
            rw [hsp] at h8 wsS ewb
            dsimp only at ewb
            refine ⟨_, rfl, wl, _, rfl, .inl (SqL.of h8), rfl, _, rfl, ?_⟩
            refine ite2 (fun g1 => ?_) (fun g1 => ?_)
            · have g1' : ws.length ≠ 2 := fun e => by rw [List.length_map, List.length_cons, e] at g1; simp at g1
              exact iteT (bad (by rw [ewb, if_neg fun e => g1' e.2]) H8 s08)
            have g1' : ws.length = 2 := by rw [List.length_map, List.length_cons] at g1; simp at g1; omega
            refine ⟨_, rfl, wl, _, _, V.str w, rfl, rfl, SqL.of h8, at_0, rfl, _, rfl, ?_⟩
            refine ite2 (fun g2 => ?_) (fun g2 => ?_)
            · exact bad (by rw [ewb, if_neg fun e => by rw [e.1] at g2; simp at g2]) H8 s08
            have g2' : w = Str.ofString "weight" := by simpa using g2
            obtain ⟨a, b, rfl⟩ : ∃ a b, ws = [a, b] := by
              match ws, g1' with
              | [a, b], _ => exact ⟨a, b, rfl⟩
            rw [if_pos ⟨g2', rfl⟩] at ewb
            obtain ⟨la, aa⟩ := wsS a (by simp)
            obtain ⟨lb, ab⟩ := wsS b (by simp)
            have hh8 := s8 _ _ hh7
            have hs8 := s8 _ _ hs7
            refine ⟨_, rfl, .inl ⟨rfl, _, SqL.of hh8⟩, _, rfl, wl, _, _, V.str a, rfl, rfl, SqL.of h8, at_1, a, rfl, la, aa, hf, _, _, rfl, rfl, hh8, by rw [List.length_map, List.length_map]; omega, ?_⟩
            have nwh : wl ≠ hf := (za8 hh7 f8).symm
            have nws : wl ≠ sp := (za8 hs7 f8).symm
            have k9 : ∀ {b : Addr} {o : HO}, H8 b = some o → b ≠ hf → (upd H8 hf (.lst ((ps.map fun (p : Int × Option Int) => p.1).map V.int ++ [.int (zd3 a)]))) b = some o := fun e n => by rw [za7 n]; exact e
            have hw9 := k9 h8 nwh
            have hs9 := k9 hs8 n1
            have hz9 := k9 (s8 _ _ hz7) n2
            have hr9 := k9 (s8 _ _ hr7) n4
            have hh9 : (upd H8 hf (.lst ((ps.map fun (p : Int × Option Int) => p.1).map V.int ++ [.int (zd3 a)]))) hf = some (.lst ((ps.map fun (p : Int × Option Int) => p.1).map V.int ++ [.int (zd3 a)])) := za5
            have s09 : Same H (upd H8 hf (.lst ((ps.map fun (p : Int × Option Int) => p.1).map V.int ++ [.int (zd3 a)]))) := s08.put fh0
            clear k9
            revert hw9 hs9 hz9 hr9 hh9 s09
            generalize upd H8 hf (.lst ((ps.map fun (p : Int × Option Int) => p.1).map V.int ++ [.int (zd3 a)])) = H9
            intro hw9 hs9 hz9 hr9 hh9 s09
            refine ⟨_, rfl, .inl ⟨rfl, _, SqL.of hs9⟩, _, rfl, wl, _, _, V.str b, rfl, rfl, SqL.of hw9, at_2, b, rfl, lb, ab, fun H10 s10 => ⟨sp, _, _, rfl, rfl, s10 _ _ hs9, by rw [List.length_map]; omega, ?_⟩⟩
            refine ⟨_, _, _, ps ++ [(zd3 a, zm7 b)], rfl, (s09.trans s10).put fs0, by rw [za7 n3]; exact s10 _ _ hz9, by rw [za7 n5]; exact s10 _ _ hr9, by rw [za7 n1.symm, List.map_append, List.map_append]; exact s10 _ _ hh9, by rw [za5, List.map_append]; rfl, ?_⟩
            rw [List.take_succ, hw, List.map_append, hps, List.map_append]
            simp [lawW_yes ewb]
      · rintro σ H7 ⟨v3, v4, v7, ps, rfl, s7, hz7, hr7, hh7, hs7, hps⟩
        rw [List.length_map, List.take_length] at hps
        obtain ⟨w1, w2⟩ := zS9 hps
        have hpl : ps.length = zs.length := by
          have := congrArg List.length hps
          rw [List.length_map, List.length_map] at this
          omega
        refine ⟨_, rfl, _, rfl, sz, hf, _, _, rfl, rfl, hz7, hh7, by rw [List.length_map, List.length_map, List.length_map, List.length_map]; show 3 + _ ≤ _; omega, fun ml H8 s8 f8 h8 => ?_⟩
        rw [← List.map_append] at h8
        refine ⟨ml, [a0, a1, a2].map zd3 ++ ps.map (fun p => p.1), rfl, SqL.of h8, by rw [List.length_append]; show 0 < 3 + _; omega, fun M hM hmin => ⟨_, _, rfl, rfl, _, rfl, ?_⟩⟩
        have s08 := s7.trans s8
        refine ite2 (fun g1 => ?_) (fun g1 => ?_)
        · have g1' : M < 0 := of_decide_eq_true g1
          refine iteT ?_
          rcases List.mem_append.mp hM with hm | hm
          · refine qn ?_ H8 s08
            simp only [List.map_cons, List.map_nil, List.mem_cons, List.not_mem_nil, or_false] at hm
            rcases hm with rfl | rfl | rfl <;> rw [zA2.mp g1']
            · rfl
            · cases ze4 a0 <;> rfl
            · cases ze4 a0 <;> cases ze4 a1 <;> rfl
          · obtain ⟨p, hp, rfl⟩ := List.mem_map.mp hm
            exact noW (w1 ⟨p, hp, .inl g1'⟩) H8 s08
        have g1' : ¬ M < 0 := fun e => g1 (decide_eq_true e)
        refine ⟨_, rfl, sp, _, rfl, .inl (SqL.of (s8 _ _ hs7)), rfl, ?_, _, rfl, ?_⟩
        · rw [List.all_map]
          refine List.all_eq_true.mpr fun p _ => ?_
          show zA3 (optV p.2) = true
          cases p.2 <;> rfl
        refine ite2 (fun g2 => ?_) (fun g2 => ?_)
        · exact noW (w1 (let ⟨p, hp, e⟩ := zT0.mp g2; ⟨p, hp, .inr e⟩)) H8 s08
        have hz8 := s8 _ _ hz7
        refine ⟨_, rfl, sz, _, _, _, rfl, rfl, SqL.of hz8, at_0, _, rfl, sz, _, _, _, rfl, rfl, SqL.of hz8, at_1, _, rfl, _, rfl, sz, _, _, _, rfl, rfl, SqL.of hz8, at_2, _, rfl, (by show 5 ≤ sizeLine; omega), fun ll H9 s9 f9 h9 => ?_⟩
        have p0 := hmin (zd3 a0) (by simp)
        have p1 := hmin (zd3 a1) (by simp)
        have p2 := hmin (zd3 a2) (by simp)
        have pp : ∀ p ∈ ps, ¬ p.1 < 0 := fun p hp => by have := hmin p.1 (List.mem_append_right _ (List.mem_map_of_mem hp)); omega
        obtain ⟨ws, x1, x2, x3⟩ := w2 fun p hp => ⟨pp p hp, fun e => g2 (zT0.mpr ⟨p, hp, e⟩)⟩
        have hwl : ws.length = ps.length := by
          have := congrArg List.length x2
          rwa [List.length_map, List.length_map] at this
        have x4 : ps.map (fun p => optV p.2) = (ws.map (·.2)).map V.int := by
          have := congrArg (List.map optV) x3
          rw [List.map_map, List.map_map] at this
          rw [List.map_map]
          exact this.symm
        have s89 := s8.trans s9
        refine q (zd3 a0) (zd3 a1) (zd3 a2) ws ?_ ⟨by omega, by omega, by omega, fun w hw => ?_⟩ (by omega) ll hf sp H9 (s08.trans s9) (by rw [x2]; exact s89 _ _ hh7) (by rw [← x4]; exact s89 _ _ hs7) h9
        · rw [ek, zr4 (z := a0) (by omega), zr4 (z := a1) (by omega), zr4 (z := a2) (by omega), x1]
          rfl
        · have : w.1 ∈ ps.map (·.1) := by rw [← x2]; exact List.mem_map_of_mem hw
          obtain ⟨p, hp, e⟩ := List.mem_map.mp this
          have := pp p hp
          omega
noncomputable def zG9 (K:W.Frag) (t:Adr):Sp:=fun vs H Q _=>∃ (l h s:Addr) (n r lim:Int) (hs:List Int),vs=[.ref l]/\H l=some (.lst [.int n,.int r,.ref h,.int lim,.ref s])/\H h=some (.lst (hs.map V.int))/\0<=lim/\(zf6 n r hs lim->∀ H',Same H H'->Q (.bl true) H')/\(¬ zf6 n r hs lim->∀ H',Same H H'->Q (.bl false) H')
theorem most_of {n:Int} {w:Nat} (h1:1<=n) (h2:n<=4) (hw:w<=5):((2*n+1) ^ w<=1000↔(w:Int)<=if n=1 then 5 else if n=2 then 4 else 3):=by
 have hn:n=1\/n=2\/n=3\/n=4:=by omega
 have hw':w=0\/w=1\/w=2\/w=3\/w=4\/w=5:=by omega
 rcases hn with rfl | rfl | rfl | rfl<;>rcases hw' with rfl | rfl | rfl | rfl | rfl | rfl<;>decide
theorem ok_w_sized (T:Txt K mg t):FnOk P w K mg base CX0 1 t.a_w_sized t.d_w_sized ["_law_read"] (zG9 K t):=by
 refine T.F_w_sized.ok zm5 (fun vs H Q E h=>?_) (fun cdv A outer s H vs Q E hr h=>?_)
 . obtain ⟨l,h,s,n,r,lim,hs,rfl,hl,hh,h0,qt,qf⟩:=h
   rfl
 . obtain ⟨l,h,s,n,r,lim,hs,rfl,hl,hh,h0,qt,qf⟩:=h
   refine⟨_,(za1 (zz4 (pv 0) (zT8 rfl (zi1 (zd4 (i:=1) zm5.nd rfl (Or.inl rfl)) (zi1 (zd4 (i:=2) zm5.nd rfl (Or.inl rfl)) (zi1 (zd4 (i:=3) zm5.nd rfl (Or.inl rfl)) (zi1 (zd4 (i:=4) zm5.nd rfl (Or.inl rfl)) (zi1 (zd4 (i:=5) zm5.nd rfl (Or.inl rfl)) zE5)))))))
     (za1 (zc8 (PW.pt (zr0 (zb3 zy5 (pv 1) za3 (zb4 _)) (zr0 (zb3 zl7 (pv 1) za3 (zb4 _)) (zr0 (zb3 zy5 (pv 2) za3 (zb4 _)) (zr0 (zb3 zl7 (pv 2) za3 (zb4 _)) (zr5 (zb3 zl7 (pv 4) za3 (zb4 _)))))))) (za6 (zb9 zy4)) zb6)
     (za1 (zc8 (zb3 zl7 (zc0 zc2 rfl T.n_len PySem.boot_len (za0 (pv 3) za2)) (zc7 zb7 (zf2 (za0 za3 (za0 za3 (za0 za3 (za0 za3 za2))))) (zb2 zz5 (pv 1) za3) (fun _ _=>rfl)) (zb4 _)) (za6 (zb9 zy4)) zb6)
     (za6 (zb9 (zV3 (zg6 (op_eqE (Nat.lt_of_succ_lt (hu_of hr))) (pv 3) (zf2 za2) (zb4 _)) (zO3 (pe_and (zg6 zV5 (zc0 (zI7 rfl) rfl T.n_min PyProof.Rows.boot_min (za0 (pv 3) za2)) za3 (zb4 _)) (zO3 (zg6 op_le (zc0 (call_maxL rfl) rfl T.n_max PyProof.Rows.boot_max (za0 (pv 3) za2)) za3 (zb4 _))))))))))),?_⟩
   have hsl:sizeLine=16777216:=by decide
   refine⟨_,rfl,l,_,rfl,SqL.of hl,rfl,_,_,rfl,_,_,rfl,_,_,rfl,_,_,rfl,_,_,rfl,rfl,?_⟩
   refine⟨_,rfl,_,_,rfl,rfl,_,rfl,ite2 (fun g1=>?_) (fun g1=>?_)⟩
   . exact iteT (qf (fun B=>by have:=B.n1;have:=of_decide_eq_true g1;omega) H (Same.refl _))
   have g1':¬ n<1:=fun e=>g1 (decide_eq_true e)
   refine⟨_,rfl,_,_,rfl,rfl,_,rfl,ite2 (fun g2=>?_) (fun g2=>?_)⟩
   . exact iteT (qf (fun B=>by have:=B.n2;have:=of_decide_eq_true g2;omega) H (Same.refl _))
   have g2':¬ 4<n:=fun e=>g2 (decide_eq_true e)
   refine⟨_,rfl,_,_,rfl,rfl,_,rfl,ite2 (fun g3=>?_) (fun g3=>?_)⟩
   . exact iteT (qf (fun B=>by have:=B.r1;have:=of_decide_eq_true g3;omega) H (Same.refl _))
   have g3':¬ r<1:=fun e=>g3 (decide_eq_true e)
   refine⟨_,rfl,_,_,rfl,rfl,_,rfl,ite2 (fun g4=>?_) (fun g4=>?_)⟩
   . exact iteT (qf (fun B=>by have:=B.r2;have:=of_decide_eq_true g4;omega) H (Same.refl _))
   have g4':¬ 3<r:=fun e=>g4 (decide_eq_true e)
   refine⟨_,rfl,_,_,rfl,rfl,_,rfl,ite2 (fun g5=>?_) (fun g5=>?_)⟩
   . exact qf (fun B=>by have:=B.l2;have:=of_decide_eq_true g5;omega) H (Same.refl _)
   have g5':¬ 400<lim:=fun e=>g5 (decide_eq_true e)
   have hn:n=1\/n=2\/n=3\/n=4:=by omega
   have hat:atI [V.int 5,V.int 4,V.int 3,V.int 3] (n-1)=some (.int (if n=1 then 5 else if n=2 then 4 else 3)):=by rcases hn with rfl | rfl | rfl | rfl<;>rfl
   have hX:(if n=1 then 5 else if n=2 then 4 else 3:Int)<=5:=by rcases hn with rfl | rfl | rfl | rfl<;>decide
   have hmost:=fun w hw=>most_of (n:=n) (w:=w) (by omega) (by omega) hw
   generalize (if n=1 then 5 else if n=2 then 4 else 3:Int)=X at hat hX hmost
   refine⟨_,rfl,h,_,rfl,.inl (SqL.of hh),(by show 4<=sizeLine;omega),fun fl H1 s1 f1 h1=>?_⟩
   refine⟨_,rfl,_,_,rfl,rfl,fl,_,_,_,rfl,rfl,SqL.of h1,hat,_,_,rfl,rfl,_,rfl,?_⟩
   rw[List.length_map]
   refine ite2 (fun g6=>?_) (fun g6=>?_)
   . have g6':X<(hs.length:Int):=of_decide_eq_true g6
     exact qf (fun B=>by have:=(hmost hs.length B.w).mp B.most;omega) H1 s1
   have g6':(hs.length:Int)<=X:=by have:¬ X<(hs.length:Int):=fun e=>g6 (decide_eq_true e);omega
   have hw5:hs.length<=5:=by omega
   have mk:(∀ x∈hs,1<=x/\x<=20)->zf6 n r hs lim:=fun hx=>⟨by omega,by omega,by omega,by omega,h0,by omega,hw5,hx,(hmost hs.length hw5).mpr g6'⟩
   refine⟨_,rfl,Nat.zero_le _,fun el H2 s2 f2 h2=>?_⟩
   have s02:=s1.trans s2
   have hh2:=s02 _ _ hh
   refine⟨h,el,_,rfl,rfl,SqL.of hh2,SqL.of h2,_,rfl,?_⟩
   refine ite2 (fun g7=>?_) (fun g7=>?_)
   . have:hs=[]:=by
       cases hs with
       | nil=>rfl
       | cons _ _=>cases g7
     exact qt (mk fun x hx=>by rw[this] at hx;cases hx) H2 s02
   have hpos:0<hs.length:=by
     cases hs with
     | nil=>exact absurd rfl g7
     | cons _ _=>simp
   refine⟨_,rfl,h,hs,rfl,SqL.of hh2,hpos,fun M hM hmin=>⟨_,_,rfl,rfl,_,rfl,?_⟩⟩
   refine ite2 (fun g8=>?_) (fun g8=>?_)
   . have g8':1<=M:=of_decide_eq_true g8
     refine⟨_,rfl,h,hs,rfl,SqL.of hh2,hpos,fun N hN hmax=>⟨_,_,rfl,rfl,?_⟩⟩
     by_cases g9:N<=20
     . show Q (.bl (decide (N<=20))) H2
       rw[decide_eq_true g9]
       exact qt (mk fun x hx=>⟨by have:=hmin x hx;omega,by have:=hmax x hx;omega⟩) H2 s02
     . show Q (.bl (decide (N<=20))) H2
       rw[decide_eq_false g9]
       exact qf (fun B=>g9 (B.h N hN).2) H2 s02
   . exact qf (fun B=>g8 (decide_eq_true (B.h M hM).1)) H2 s02
end
end Bt
namespace Bt
open PySem L2
section
variable {P:Program} {w:World} {K:W.Frag} {mg:Str->Option Value} {base:Heap} {t:Adr}
theorem use_finW {R:Str->Hp->Prop} {S:Str->Hp->Prop} {G:Prop} (main:(∀ z o,S z o->R z o)->G) (fin:∀ z o,S z o->R z o):G:=main fin
noncomputable def zK2 (K:W.Frag) (t:Adr):Sp:=fun vs H Q _=>∃ (h a:Addr) (n r lim:Int) (hs xs:List Int),vs=[.ref h,.ref a]/\SqL K H h (hs.map V.int)/\H a=some (.lst (xs.map V.int))/\zf6 n r hs lim/\zh0 n r hs.length xs/\∀ H',Same H H'->Q (.str (zJ6 hs xs)) H'
theorem ok_w_lean (T:Txt K mg t):FnOk P w K mg base CX0 2 t.a_w_lean t.d_w_lean ["_law_hefts","_law_spots"] (zK2 K t):=by
 have G_w_tilt:FnOk P w K mg base CX0 1 t.a_w_tilt t.d_w_tilt ["_law_hefts","_law_spots"] (zy2 K t):=zD3 T
 refine T.F_w_lean.ok zx8 (fun vs H Q E h=>?_) (fun cdv A outer s H vs Q E hr h=>?_)
 . obtain ⟨h,a,n,r,lim,hs,xs,rfl,hh,ha,ok,V0,q⟩:=h
   rfl
 . obtain ⟨h,a,n,r,lim,hs,xs,rfl,hh,ha,ok,V0,q⟩:=h
   have hr_w_tilt:Room 1 _:=hr.mono (by decide)
   refine⟨_,(za1 (zb5 (i:=2) zx8.nd rfl (Or.inl rfl) (zb1 G_w_tilt hr_w_tilt rfl T.m_w_tilt T.k_w_tilt T.b_w_tilt .nil zc4 (za0 (pv 0) (za0 (pv 1) za2))))
     (za1 (zb5 (i:=3) zx8.nd rfl (Or.inl rfl) zb0)
     (za1 (zc8 (zb3 zr1 (pv 2) za3 (zb4 _)) (za6 (zb5 (i:=3) zx8.nd rfl (Or.inl rfl) (zc7 zb7 (zm1 (za0 zb0 (za0 zb0 za2))) (ze7 zH3 rfl T.n_int PyProof.Rows.boot_int (za0 (zg6 zl7 (pv 2) za3 (zb4 _)) za2)) (fun _ _=>rfl)))) zb6)
     (za6 (zb9 (zb2 zc5 (zb2 zc5 (zb2 zc5 zb0 (ze7 zf7 rfl T.n_str PyProof.Rows.boot_str (za0 (pv 2) za2))) zb0) (pv 3))))))),?_⟩
   have hw:=ok.w
   have hlen:=V0.len
   have tb:=(zS7 ok V0).1
   have t9:-9999<=zd8 hs xs/\zd8 hs xs<=9999:=by unfold absI at tb;split at tb<;>omega
   have l1:=zS6 t9.1 t9.2
   have l2:=zN9 (zd8 hs xs)
   have e1:(Str.ofString "tilt ").length=5:=by decide
   have e2:(Str.ofString " ").length=1:=by decide
   have hsl:sizeLine=16777216:=by decide
   unfold zJ6 at q
   refine⟨_,rfl,_,rfl,h,a,hs,xs,rfl,hh,.inl (SqL.of ha),⟨hlen.symm,by omega,ok.h⟩,_,rfl,rfl,_,rfl,?_⟩
   rw[zk1]
   generalize zd8 hs xs=am at *
   refine use_finW (R:=?R) (S:=fun z H'=>Same H H'/\z=zq7 am) (fun fin=>?main) ?fin
   case main =>
     refine ite2 (fun h1=>?_) (fun h1=>?_)
     . have h1':am≠0:=by simpa using h1
       refine⟨(by show 2<=sizeLine;decide),fun l f=>?_⟩
       have s1:Same H (upd H l (.lst [.str (Str.ofString "left"),.str (Str.ofString "right")])):=Same.upd f
       have hl:(upd H l (.lst [.str (Str.ofString "left"),.str (Str.ofString "right")])) l=some (.lst [.str (Str.ofString "left"),.str (Str.ofString "right")]):=za5
       dsimp only
       revert s1 hl
       generalize upd H l (.lst [.str (Str.ofString "left"),.str (Str.ofString "right")])=H1
       intro s1 hl
       obtain ⟨wd,hx,hwd⟩:∃ wd:Str,atI [V.str (Str.ofString "left"),V.str (Str.ofString "right")] (if decide (0<am)=true then 1 else 0)=some (.str wd)/\wd=zq7 am:=by
         by_cases h2:0<am
         . rw[decide_eq_true h2]
           exact⟨_,rfl,by unfold zq7;rw[if_neg (by omega),if_pos h2]⟩
         . rw[decide_eq_false h2]
           exact⟨_,rfl,by unfold zq7;rw[if_pos (by omega)]⟩
       refine⟨_,rfl,_,_,rfl,rfl,.inr ⟨_,rfl,l,_,_,_,rfl,rfl,SqL.of hl,hx,?_⟩⟩
       dsimp only[List.set]
       exact fin wd H1 ⟨s1,hwd⟩
     . have h1':am=0:=by simpa using h1
       exact fin (Str.ofString "level") H ⟨Same.refl _,by rw[h1'];rfl⟩
   rintro z H1 ⟨s1,rfl⟩
   exact⟨_,rfl,am,rfl,zh9 (by omega),_,_,rfl,rfl,(by show (Str.ofString "tilt ").length+(sI am).length<=sizeLine;omega),_,_,rfl,rfl,(by show (Str.ofString "tilt "++sI am).length+(Str.ofString " ").length<=sizeLine;rw[zd5];omega),_,rfl,_,_,rfl,rfl,(by show ((Str.ofString "tilt "++sI am)++Str.ofString " ").length+(zq7 am).length<=sizeLine;rw[zd5,zd5];omega),q H1 s1⟩
noncomputable def zK3 (K:W.Frag) (t:Adr):Sp:=fun vs H Q _=>∃ (z:Str) (l:Addr) (ks:List Bool),vs=[.str z,.ref l]/\H l=some (.lst (ks.map fun k=>.str (zG5 k)))/\ks.length<=10/\z.length<=1000000/\(rdB z=none->∀ H',Same H H'->Q (.str (Str.ofString "text")) H') ∧
 ∀ n r lim ws,rdB z=some (n,r,lim,ws)->(¬ zf6 n r (ws.map (·.1)) lim->∀ H',Same H H'->Q (.str (Str.ofString "beam")) H')/\(zf6 n r (ws.map (·.1)) lim->¬ zh0 n r (ws.map (·.1)).length (ws.map (·.2))->∀ H',Same H H'->Q (.str (Str.ofString "standing")) H') ∧
   (zf6 n r (ws.map (·.1)) lim->zh0 n r (ws.map (·.1)).length (ws.map (·.2))->¬ absI (zd8 (ws.map (·.1)) (ws.map (·.2)))<=lim->∀ H',Same H H'->Q (.str (Str.ofString "past")) H') ∧
   (zf6 n r (ws.map (·.1)) lim->zh0 n r (ws.map (·.1)).length (ws.map (·.2))->absI (zd8 (ws.map (·.1)) (ws.map (·.2)))<=lim->∀ o H',Same H H'->H' o=some (.lst (ks.map fun k=>.str (zG6 (ws.map (·.1)) (ws.map (·.2)) k)))->Q (.ref o) H')
theorem ok_w_told (T:Txt K mg t):FnOk P w K mg base CX0 11 t.a_w_told t.d_w_told ["_law_text","_law_rows_here"] (zK3 K t):=by
 have G_answers:FnOk P w K mg base (CXE P w) 10 t.a_answers t.d_answers ["text","rows"] (zG7 K t):=ok_answers T
 refine T.F_w_told.ok sc_w_told (fun vs H Q E h=>?_) (fun cdv A outer s H vs Q E hr h=>?_)
 . obtain ⟨z,l,ks,rfl,hl,hkl,hz,qn,q⟩:=h
   rfl
 . obtain ⟨z,l,ks,rfl,hl,hkl,hz,qn,q⟩:=h
   have hr_answers:Room 10 _:=hr.mono (by decide)
   refine⟨_,(za6 (ps_tryHsE (E:=fun cls _ H'=>(cls = .ref t.c_BadText/\rdB z=none/\Same H H')\/(∃ (n r lim:Int) (ws:List (Int×Int)),rdB z=some (n,r,lim,ws)/\Same H H'/\((cls = .ref t.c_BadBeam/\¬ zf6 n r (ws.map Prod.fst) lim)\/(cls = .ref t.c_BadStanding/\zf6 n r (ws.map Prod.fst) lim/\¬ zh0 n r (ws.map Prod.fst).length (ws.map Prod.snd))\/(cls = .ref t.c_StartPast/\zf6 n r (ws.map Prod.fst) lim/\zh0 n r (ws.map Prod.fst).length (ws.map Prod.snd)/\¬ absI (zd8 (ws.map Prod.fst) (ws.map Prod.snd))<=lim)))) ⟨rfl,rfl⟩ (fun _=>(za6 (zb9 (zb1 G_answers hr_answers rfl T.m_answers T.k_answers T.b_answers .nil passes_try (za0 (pv 0) (za0 (pv 1) za2)))))) (.cons rfl T.m_BadText (by decide) (fun _=>(za6 (zb9 zb0))) (.cons rfl T.m_BadBeam (by decide) (fun _=>(za6 (zb9 zb0))) (.cons rfl T.m_BadStanding (by decide) (fun _=>(za6 (zb9 zb0))) (.cons rfl T.m_StartPast (by decide) (fun _=>(za6 (zb9 zb0))) .nil)))))),?_⟩
   refine⟨⟨_,rfl,_,rfl,z,l,ks,rfl,hl,hkl,hz,fun hn H' s'=>.inl ⟨rfl,hn,s'⟩,fun n r lim ws he=>⟨fun nb H' s'=>.inr ⟨n,r,lim,ws,he,s',.inl ⟨rfl,nb⟩⟩,fun ok nv H' s'=>.inr ⟨n,r,lim,ws,he,s',.inr (.inl ⟨rfl,ok,nv⟩)⟩,fun ok V0 nk H' s'=>.inr ⟨n,r,lim,ws,he,s',.inr (.inr ⟨rfl,ok,V0,nk⟩)⟩,(q n r lim ws he).2.2.2⟩⟩,fun σ' cls H' hE=>?_⟩
   rcases hE with ⟨rfl,hn,se⟩ | ⟨n,r,lim,ws,he,se,⟨rfl,nb⟩ | ⟨rfl,ok,nv⟩ | ⟨rfl,ok,V0,nk⟩⟩
   . exact .inl ⟨T.xm_BadText_BadText,qn hn H' se⟩
   . exact .inr ⟨T.xm_BadBeam_BadText,.inl ⟨T.xm_BadBeam_BadBeam,(q n r lim ws he).1 nb H' se⟩⟩
   . exact .inr ⟨T.xm_BadStanding_BadText,.inr ⟨T.xm_BadStanding_BadBeam,.inl ⟨T.xm_BadStanding_BadStanding,(q n r lim ws he).2.1 ok nv H' se⟩⟩⟩
   . exact .inr ⟨T.xm_StartPast_BadText,.inr ⟨T.xm_StartPast_BadBeam,.inr ⟨T.xm_StartPast_BadStanding,.inl ⟨T.xm_StartPast_StartPast,(q n r lim ws he).2.2.1 ok V0 nk H' se⟩⟩⟩⟩
theorem zH0 {M:Nat}:∀ {rows:List Str},(∀ w∈rows,GL M w)->(rows.map (·.length)).sum<=rows.length*M
 | [],_=>by simp
 | w::ws,h=>by
   have:=zH0 fun x hx=>h x (List.mem_cons_of_mem _ hx)
   have:=(h w List.mem_cons_self).2
   simp only[List.map_cons,List.sum_cons,List.length_cons,Nat.add_mul,Nat.one_mul]
   omega
theorem clamp (y:Int):0<=(if (if y>0 then y else 0)<400 then (if y>0 then y else 0) else 400)/\(if (if y>0 then y else 0)<400 then (if y>0 then y else 0) else 400)<=(400:Int):=by
 split<;>split<;>omega
noncomputable def zu9 (K:W.Frag) (t:Adr):Sp:=fun vs H Q _=>∃ (l:Addr) (cell n r lim:Int) (rows:List Str) (ws:List (Int×Int)),vs=[.ref l,.int cell]/\H l=some (.lst (rows.map V.str))/\rows.length<=20/\(∀ w∈rows,GL 40 w)/\rdB (Txt.join (Str.ofString "\n") rows)=some (n,r,lim,ws)/\(0<=n/\0<=r/\0<=lim/\∀ w∈ws,1<=w.1/\w.1<=20)/\ws.length<=5 ∧
 ∀ z H',Same H H'->GL 40 z->Q (.str z) H'
theorem ok_w_near_limit (T:Txt K mg t):FnOk P w K mg base CX0 4 t.a_w_near_limit t.d_w_near_limit ["_law_rows_here","_law_cell"] (zu9 K t):=by
 have G_w_parsed:FnOk P w K mg base CX0 3 t.a_w_parsed t.d_w_parsed ["_law_text"] (zx2 K t):=zE3 T
 have G_w_tilt:FnOk P w K mg base CX0 1 t.a_w_tilt t.d_w_tilt ["_law_hefts","_law_spots"] (zy2 K t):=zD3 T
 refine T.F_w_near_limit.ok zn3 (fun vs H Q E h=>?_) (fun cdv A outer s H vs Q E hr h=>?_)
 . obtain ⟨l,cell,n,r,lim,rows,ws,rfl,hl,hrl,hrs,hrd,⟨n0,r0,l0,hws⟩,hwl,q⟩:=h
   rfl
 . obtain ⟨l,cell,n,r,lim,rows,ws,rfl,hl,hrl,hrs,hrd,⟨n0,r0,l0,hws⟩,hwl,q⟩:=h
   have hr_w_parsed:Room 3 _:=hr.mono (by decide)
   have hr_w_tilt:Room 1 _:=hr.mono (by decide)
   refine⟨_,(za1 (zb5 (i:=2) zn3.nd rfl (Or.inl rfl) (zb1 G_w_parsed hr_w_parsed rfl T.m_w_parsed T.k_w_parsed T.b_w_parsed .nil zc4 (za0 (zk0 PySem.F.plainAttrs_str PySem.F.slot_str_join PySem.F.type_str_join zL2 zb0 (za0 (pv 0) za2)) za2)))
     (za1 (zb5 (i:=3) zn3.nd rfl (Or.inl rfl) (zc0 zF7 rfl T.n_abs PyProof.Rows.boot_abs (za0 (zb1 G_w_tilt hr_w_tilt rfl T.m_w_tilt T.k_w_tilt T.b_w_tilt .nil zc4 (za0 (zc7 zb7 (pv 2) za3 (fun _ _=>rfl)) (za0 (zc7 zb7 (pv 2) za3 (fun _ _=>rfl)) za2))) za2)))
     (za6 (zb9 (zb2 zc5 zb0 (ze7 zf7 rfl T.n_str PyProof.Rows.boot_str (za0 (zc0 (zH2 rfl) rfl T.n_min PyProof.Rows.boot_min (za0 za3 (za0 (zc0 (call_max2 rfl) rfl T.n_max PyProof.Rows.boot_max (za0 za3 (za0 (zb2 zi7 (zb2 zz5 (pv 3) za3) (zb2 ze1 (pv 1) za3)) za2))) za2))) za2))))))),?_⟩
   have hsl:sizeLine=16777216:=by decide
   have hq20:rows.length*40<=20*40:=Nat.mul_le_mul_right _ hrl
   have lr:=zH0 hrs
   have e0:(Str.ofString "\n").length=1:=by decide
   have e1:(Str.ofString "limit ").length=6:=by decide
   have aj:Asc (Txt.join (Str.ofString "\n") rows):=zD4 (by decide) fun w hw=>(hrs w hw).1
   have lj:(Txt.join (Str.ofString "\n") rows).length<=2000:=by
     rw[zt4,e0,Nat.mul_one]
     omega
   refine⟨rfl,_,rfl,Str.ofString "\n",l,rows,rfl,rfl,SqL.of hl,by rw[e0,Nat.mul_one];omega,Txt.join (Str.ofString "\n") rows,rfl,by omega,aj,fun hn=>absurd (hn.symm.trans hrd) (fun z=>nomatch z),fun n' r' lim' ws' he nn hwl' ll h s H4 s4 hh hs hl4=>?_⟩
   obtain rfl:ws'=ws:=by
     have e:=he.symm.trans hrd
     injection e with e
     injection e with _ e
     injection e with _ e
     injection e
   refine⟨_,rfl,ll,_,_,_,rfl,rfl,SqL.of hl4,at_2,_,rfl,ll,_,_,_,rfl,rfl,SqL.of hl4,rfl,h,s,ws'.map (·.1),ws'.map (·.2),rfl,SqL.of hh,.inl (SqL.of hs),⟨by rw[List.length_map,List.length_map],by rw[List.length_map];exact hwl,fun x hx=>?_⟩,_,rfl,?_⟩
   . obtain ⟨y,hy,rfl⟩:=List.mem_map.mp hx
     exact hws y hy
   refine⟨_,rfl,_,_,rfl,rfl,_,rfl,_,_,rfl,rfl,(by show (0:Int)<7;decide),_,_,rfl,rfl,_,_,rfl,_,_,rfl,?_⟩
   dsimp only
   generalize (if zd8 (ws'.map (·.1)) (ws'.map (·.2))<0 then -zd8 (ws'.map (·.1)) (ws'.map (·.2)) else zd8 (ws'.map (·.1)) (ws'.map (·.2)))-3+cell % 7=y
   obtain ⟨c1,c2⟩:=clamp y
   revert c1 c2
   generalize (if (if y>0 then y else 0)<400 then (if y>0 then y else 0) else 400)=v
   intro c1 c2
   have i1:=zv8 (n:=v) c1 (by omega)
   exact⟨v,rfl,zh9 (by omega),_,_,rfl,rfl,(by show (Str.ofString "limit ").length+(sI v).length<=sizeLine;omega),q _ H4 s4 ⟨Asc.app (by decide) (zA1 _),by show (Str.ofString "limit "++sI v).length<=40;rw[zd5];omega⟩⟩
end
end Bt
namespace Bt
open PySem L2
section
variable {P:Program} {w:World} {K:W.Frag} {mg:Str->Option Value} {base:Heap} {t:Adr}
theorem num_back0:∀ k:Nat,k<401->ze4 (sI k)=some (k:Int)/\32∉(sI k).cps.toList/\10∉(sI k).cps.toList:=by decide +kernel
theorem zt6 {n:Int} (h0:0<=n) (h1:n<=400):ze4 (sI n)=some n/\32∉(sI n).cps.toList/\10∉(sI n).cps.toList:=by
 obtain ⟨k,rfl⟩:=Int.eq_ofNat_of_zero_le h0
 exact num_back0 k (by omega)
theorem zy3 {c:Nat} {a b:Str} (ha:c∉a.cps.toList) (hb:c∉b.cps.toList):c∉(a++b).cps.toList:=by
 rw[zo6]
 intro h
 rcases List.mem_append.mp h with h | h
 . exact ha h
 . exact hb h
noncomputable def wRow (h x:Int):Str:=(((Str.ofString "weight "++sI h)++Str.ofString " ")++zl3 x)
noncomputable def zD5 (n r lim:Int):List Str:=[Str.ofString "notches "++sI n,Str.ofString "room "++sI r,Str.ofString "limit "++sI lim]
theorem nine {x:Int} (h1:-9<=x) (h2:x<=9):zm7 (zl3 x)=some x/\32∉(zl3 x).cps.toList/\10∉(zl3 x).cps.toList:=by
 have:x = -9\/x = -8\/x = -7\/x = -6\/x = -5\/x = -4\/x = -3\/x = -2\/x = -1\/x=0\/x=1\/x=2\/x=3\/x=4\/x=5\/x=6\/x=7\/x=8\/x=9:=by omega
 rcases this with rfl | rfl | rfl | rfl | rfl | rfl | rfl | rfl | rfl | rfl | rfl | rfl | rfl | rfl | rfl | rfl | rfl | rfl | rfl<;>decide +kernel
theorem wRow_join (h x:Int):wRow h x=Txt.join (Str.ofString " ") [Str.ofString "weight",sI h,zl3 x]:=by
 refine zu0 ?_
 show _=(Builtin.Str.glued _ _).cps.toList
 rw[StrLaws.glued_eq_join]
 show _=(Str.join (Str.ofString " ") [Str.ofString "weight",sI h,zl3 x]).cps.toList
 have e:(Str.ofString "weight ").cps.toList=(Str.ofString "weight").cps.toList++(Str.ofString " ").cps.toList:=by decide
 unfold wRow
 simp only[Str.join,zo6,List.append_assoc,e]
theorem rdW_row {h x:Int} (h1:0<=h) (h2:h<=400) (x1:-9<=x) (x2:x<=9):rdW (wRow h x)=some (h,x):=by
 have a:=zt6 h1 h2
 have b:=nine x1 x2
 have e:Txt.split (wRow h x) (Str.ofString " ")=[Str.ofString "weight",sI h,zl3 x]:=by
   rw[wRow_join,zU4]
   refine zz9 (by simp) fun w hw=>?_
   simp only[List.mem_cons,List.not_mem_nil,or_false] at hw
   rcases hw with rfl | rfl | rfl
   . decide
   . exact a.2.1
   . exact b.2.1
 unfold rdW wb
 rw[e]
 simp[a.1,b.1]
theorem zD6 {f:Str} (hf:32∉f.cps.toList) {v:Int} (h0:0<=v) (h1:v<=400):fldN f ((f++⟨#[32]⟩)++sI v)=some v:=by
 have a:=zt6 h0 h1
 unfold fldN wb
 rw[zU4,split2 hf a.2.1]
 simp[a.1]
theorem zK4:∀ {hs ys:List Int},(∀ h∈hs,0<=h/\h<=400)->(∀ y∈ys,-9<=y/\y<=9)->allW (List.zipWith wRow hs ys)=some (hs.zip ys)
 | [],_,_,_=>by simp[allW]
 | _::_,[],_,_=>by simp[allW]
 | h::hs,y::ys,k1,k2=>by
   have a:=k1 h List.mem_cons_self
   have b:=k2 y List.mem_cons_self
   have ih:=zK4 (hs:=hs) (ys:=ys) (fun x hx=>k1 x (List.mem_cons_of_mem _ hx)) (fun x hx=>k2 x (List.mem_cons_of_mem _ hx))
   rw[List.zipWith_cons_cons,List.zip_cons_cons]
   unfold allW
   rw[rdW_row a.1 a.2 b.1 b.2,ih]
theorem row_ten {hs ys:List Int} (k1:∀ h∈hs,0<=h/\h<=400) (k2:∀ y∈ys,-9<=y/\y<=9):∀ w∈List.zipWith wRow hs ys,10∉w.cps.toList:=by
 intro w hw
 obtain ⟨i,hi⟩:=List.getElem?_of_mem hw
 rw[List.getElem?_zipWith] at hi
 cases eh:hs[i]? with
 | none=>rw[eh] at hi;simp at hi
 | some h =>
   cases ex:ys[i]? with
   | none=>rw[eh,ex] at hi;simp at hi
   | some x =>
     rw[eh,ex] at hi
     injection hi with hi
     subst hi
     have a:=k1 h (List.mem_of_getElem? eh)
     have b:=k2 x (List.mem_of_getElem? ex)
     exact zy3 (zy3 (zy3 (by decide) (zt6 a.1 a.2).2.2) (by decide)) (nine b.1 b.2).2.2
theorem rdB_rows {n r lim:Int} {hs ys:List Int} (n0:0<=n) (n4:n<=400) (r0:0<=r) (r4:r<=400) (l0:0<=lim) (l4:lim<=400) (k1:∀ h∈hs,0<=h/\h<=400) (k2:∀ y∈ys,-9<=y/\y<=9) :
   rdB (Txt.join (Str.ofString "\n") (zD5 n r lim++List.zipWith wRow hs ys))=some (n,r,lim,hs.zip ys):=by
 have hsp:Txt.split (Txt.join (Str.ofString "\n") (zD5 n r lim++List.zipWith wRow hs ys)) (Str.ofString "\n")=zD5 n r lim++List.zipWith wRow hs ys:=by
   rw[feed1]
   refine zz9 (by unfold zD5;simp) fun w hw=>?_
   rcases List.mem_append.mp hw with hw | hw
   . unfold zD5 at hw
     simp only[List.mem_cons,List.not_mem_nil,or_false] at hw
     rcases hw with rfl | rfl | rfl
     . exact zy3 (by decide) (zt6 n0 n4).2.2
     . exact zy3 (by decide) (zt6 r0 r4).2.2
     . exact zy3 (by decide) (zt6 l0 l4).2.2
   . exact row_ten k1 k2 w hw
 unfold rdB
 rw[hsp]
 show zj4 ((Str.ofString "notches "++sI n)::(Str.ofString "room "++sI r)::(Str.ofString "limit "++sI lim)::List.zipWith wRow hs ys)=_
 rw[show Str.ofString "notches " = Str.ofString "notches"++⟨#[32]⟩ by decide,show Str.ofString "room " = Str.ofString "room"++⟨#[32]⟩ by decide,show Str.ofString "limit " = Str.ofString "limit"++⟨#[32]⟩ by decide]
 simp only[zj4,zD6 (f:=Str.ofString "notches") (by decide) n0 n4,zD6 (f:=Str.ofString "room") (by decide) r0 r4,zD6 (f:=Str.ofString "limit") (by decide) l0 l4,zK4 k1 k2]
 rfl
noncomputable def zK5 (K:W.Frag) (t:Adr):Sp:=fun vs H Q _=>∃ (a:Addr) (ns:List Int),vs=[.ref a]/\SqL K H a (ns.map V.int)/\∀ (l:Addr) (rows:List Str) H' (n r lim:Int) (ws:List (Int×Int)),Same H H'->H l=none->H' l=some (.lst (rows.map V.str))->3<=rows.length->rows.length<=8->(∀ w∈rows,GL 40 w)->rdB (Txt.join (Str.ofString "\n") rows)=some (n,r,lim,ws)->(0<=n/\0<=r/\0<=lim/\∀ w∈ws,1<=w.1/\w.1<=20)->ws.length<=5->Q (.ref l) H'
theorem ok_w_rows (T:Txt K mg t):FnOk P w K mg base CX0 3 t.a_w_rows t.d_w_rows ["_law_script"] (zK5 K t):=by
 have G_w_shape:FnOk P w K mg base CX0 2 t.a_w_shape t.d_w_shape ["_law_script"] (zG3 K t):=ok_w_shape T
 have G_w_put:FnOk P w K mg base CX0 2 t.a_w_put t.d_w_put ["_law_script","_law_k","_law_more","_law_shape_here"] (zM9 K t):=ok_w_put T
 have G_w_figs:FnOk P w K mg base CX0 1 t.a_w_figs t.d_w_figs ["_law_cell","_law_count","_law_base","_law_mix"] (zx9 K t):=zD2 T
 have G_w_at:FnOk P w K mg base CX0 1 t.a_w_at t.d_w_at ["_law_script","_law_k"] (zB3 K t):=zF1 T
 have G_w_say:FnOk P w K mg base CX0 1 t.a_w_say t.d_w_say ["_law_place"] (zN7 K t):=ok_w_say T
 refine T.F_w_rows.ok zl0 (fun vs H Q E h=>?_) (fun cdv A outer s H vs Q E hr h=>?_)
 . obtain ⟨a,ns,rfl,hS,q⟩:=h
   rfl
 . obtain ⟨a,ns,rfl,hS,q⟩:=h
   have hr_w_shape:Room 2 _:=hr.mono (by decide)
   have hr_w_put:Room 2 _:=hr.mono (by decide)
   have hr_w_figs:Room 1 _:=hr.mono (by decide)
   have hr_w_at:Room 1 _:=hr.mono (by decide)
   have hr_w_say:Room 1 _:=hr.mono (by decide)
   refine⟨_,(za1 (zb5 (i:=1) zl0.nd rfl (Or.inr rfl) (zb1 G_w_shape hr_w_shape rfl T.m_w_shape T.k_w_shape T.b_w_shape .nil zc4 (za0 (pv 0) za2)))
     (za1 (zb5 (i:=2) zl0.nd rfl (Or.inl rfl) (zb1 G_w_put hr_w_put rfl T.m_w_put T.k_w_put T.b_w_put .nil zc4 (za0 (pv 0) (za0 za3 (za0 za3 (za0 (pv 1) za2))))))
     (za1 (zc8 (zb3 zf0 (zb2 ze1 (zb1 G_w_at hr_w_at rfl T.m_w_at T.k_w_at T.b_w_at .nil zc4 (za0 (pv 0) (za0 za3 za2))) za3) za3 (zb4 _)) (za1 (zb5 (i:=3) zl0.nd rfl (Or.inl rfl) (zb2 zi7 (zb2 zv2 za3 (zc7 zb7 (pv 1) za3 (fun _ _=>rfl))) za3))
     (za1 (zb5 (i:=4) zl0.nd rfl (Or.inl rfl) (zb1 G_w_figs hr_w_figs rfl T.m_w_figs T.k_w_figs T.b_w_figs .nil zc4 (za0 (zb1 G_w_at hr_w_at rfl T.m_w_at T.k_w_at T.b_w_at .nil zc4 (za0 (pv 0) (za0 za3 za2))) (za0 (zc0 zc2 rfl T.n_len PySem.boot_len (za0 (pv 2) za2)) (za0 (pv 3) (za0 (zg6 zf0 (zb2 ze1 (zb1 G_w_at hr_w_at rfl T.m_w_at T.k_w_at T.b_w_at .nil zc4 (za0 (pv 0) (za0 za3 za2))) za3) za3 (zb4 _)) za2))))))
     (za6 (zQ2 (i:=2) rfl zE0 (zo3 (pv 4)) (fun _ _ _ _ _=>(zd4 (i:=0) zE0.nd rfl (Or.inl rfl))) (fun _ _ _ _ _=>zq1) (fun _ _ _ _ _=>(zb2 zz5 (zb2 zz5 (pv 0) (zc7 (ix_listK K rfl) (pv 1) za3 (fun _ _=>rfl))) za3)) zl0.nd rfl rfl)))) zb6)
     (za1 (zb5 (i:=5) zl0.nd rfl (Or.inl rfl) (zf2 (za0 (zb2 zc5 zb0 (ze7 zf7 rfl T.n_str PyProof.Rows.boot_str (za0 (zc7 zb7 (pv 1) za3 (fun _ _=>rfl)) za2))) (za0 (zb2 zc5 zb0 (ze7 zf7 rfl T.n_str PyProof.Rows.boot_str (za0 (zc7 zb7 (pv 1) za3 (fun _ _=>rfl)) za2))) za2))))
     (za1 (zg4 (zk0 PySem.F.plainAttrs_list PySem.F.slot_list_append PySem.F.type_list_append zj5 (pv 5) (za0 (zb2 zc5 zb0 (ze7 zf7 rfl T.n_str PyProof.Rows.boot_str (za0 (zb2 ze1 (zb1 G_w_at hr_w_at rfl T.m_w_at T.k_w_at T.b_w_at .nil zc4 (za0 (pv 0) (za0 za3 za2))) za3) za2))) za2)))
     (za1 (zn2 PassesOwn.never rfl (zo8 rfl T.n_range (za0 (zc0 zc2 rfl T.n_len PySem.boot_len (za0 (pv 2) za2)) za2)) (zd4 (i:=6) zl0.nd rfl (Or.inl rfl)) (za6 (zg4 (zk0 PySem.F.plainAttrs_list PySem.F.slot_list_append PySem.F.type_list_append zj5 (pv 5) (za0 (zb2 zc5 (zb2 zc5 (zb2 zc5 zb0 (ze7 zf7 rfl T.n_str PyProof.Rows.boot_str (za0 (zc7 zb7 (zc7 zb7 (pv 1) za3 (fun _ _=>rfl)) (pv 6) (fun _ _=>rfl)) za2))) zb0) (zb1 G_w_say hr_w_say rfl T.m_w_say T.k_w_say T.b_w_say .nil zc4 (za0 (zc7 zb7 (pv 2) (pv 6) (fun _ _=>rfl)) za2))) za2)))))
     (za6 (zb9 (pv 5))))))))),?_⟩
   have hsl:sizeLine=16777216:=by decide
   refine⟨_,rfl,a,ns,rfl,hS,fun sh h H1 s1 fsh fh hh hsh=>?_⟩
   have ok:=sh_ok ns (lim:=0) (by decide) (by decide)
   have hw5:=ok.w
   have on1:=ok.n1
   have on2:=ok.n2
   refine⟨_,rfl,_,rfl,a,sh,h,ns,3,0,shN ns,shR ns,shH ns,rfl,s1.seq hS,hsh,SqL.of hh,⟨ok.n1,ok.n2,ok.r1,ok.w⟩,fun sp H2 s2 fsp hsp=>?_⟩
   have V0:=put_ok ns 3 0 (shH ns).length ok.n1 ok.r1
   generalize zR8 ns 3 0 (shN ns) (shR ns) (shH ns).length=xs at V0 hsp
   have hx0:=V0.len
   have s02:=s1.trans s2
   have hsh2:=s2 _ _ hsh
   have hh2:=s2 _ _ hh
   refine⟨_,rfl,a,ns,10,rfl,s02.seq hS,_,_,rfl,rfl,(by show (0:Int)<4;decide),rfl,_,rfl,?_⟩
   refine use_fin4 (R:=?R) (S:=fun o H'=>Same H2 H'/\∃ ys:List Int,H' o=some (.lst (ys.map V.int))/\ys.length=(shH ns).length/\∀ y∈ys,-5<=y/\y<=5) (fun fin=>?main) ?fin
   case main =>
     refine ite2 (fun h1=>?ca) (fun h1=>?cb)
     case ca =>
       refine⟨_,rfl,sh,_,_,_,rfl,rfl,SqL.of hsh2,rfl,_,_,rfl,rfl,.inl ⟨by decide,by decide⟩,_,_,rfl,rfl,?_⟩
       refine⟨_,rfl,a,ns,10,rfl,s02.seq hS,_,rfl,sp,_,rfl,.inl (SqL.of hsp),_,rfl,_,rfl,a,ns,0,rfl,s02.seq hS,_,_,rfl,rfl,(by show (0:Int)<2;decide),rfl,at0 ns 10,2*shN ns+3,(shH ns).length,zl8 ns,?_,⟨by omega,by omega,by omega⟩,fun f ff=>?_⟩
       . rw[List.length_map,hx0];rfl
       have hfl:=zw6 (at0 ns 10) (2*shN ns+3) (zl8 ns) (shH ns).length
       have hfi:=zE9 (cell:=at0 ns 10) (mix:=zl8 ns) (show (0:Int)<2*shN ns+3 by omega) (shH ns).length
       generalize figs (at0 ns 10) (shH ns).length (2*shN ns+3) (zl8 ns)=fs at hfl hfi ⊢
       have s3:Same H2 (upd H2 f (.lst (fs.map V.int))):=Same.upd ff
       have hf:(upd H2 f (.lst (fs.map V.int))) f=some (.lst (fs.map V.int)):=za5
       revert s3 hf
       generalize upd H2 f (.lst (fs.map V.int))=H3
       intro s3 hf
       refine⟨_,rfl,f,rfl,⟨_,SqL.of hf⟩,fun D hD=>?_⟩
       have hsh3:=s3 _ _ hsh2
       refine zz8 (K:=K) (a:=f) (xs:=fs.map V.int) (fun i H''=>H''=upd H3 D (.lst (((fs.take i).map fun x=>x-shN ns-1).map V.int))) rfl (fun i H'' iv=>by rw[iv];exact Same.upd hD |>.seq (SqL.of hf)) (fun i x H'' N hi iv hN=>?_) (fun H'' iv=>?_)
       . subst iv
         dsimp only[zu5]
         obtain ⟨z,rfl,hz⟩:=zz7 hi
         have hil:i<fs.length:=(List.getElem?_eq_some_iff.mp hz).1
         refine iteT ⟨_,rfl,_,rfl,sh,_,_,_,rfl,rfl,SqL.of (Same.upd hD _ _ hsh3),rfl,_,_,rfl,rfl,_,_,rfl,rfl,_,za5,?_,hN _ ?_⟩
         . rw[List.length_map,List.length_map,List.length_take];omega
         . rw[zi8,List.take_succ,hz,List.map_append,List.map_append]
           rfl
       . rw[List.length_map,List.take_length] at iv
         subst iv
         have s4:Same H3 (upd H3 D (.lst ((fs.map fun x=>x-shN ns-1).map V.int))):=Same.upd hD
         have h4:(upd H3 D (.lst ((fs.map fun x=>x-shN ns-1).map V.int))) D=some (.lst ((fs.map fun x=>x-shN ns-1).map V.int)):=za5
         show (fun v9 H9=>zl1 2 v9 _ H9 _) (V.ref D) (upd H3 D (.lst ((fs.map fun x=>x-shN ns-1).map V.int)))
         dsimp only
         revert s4 h4
         generalize upd H3 D (.lst ((fs.map fun x=>x-shN ns-1).map V.int))=H4
         intro s4 h4
         dsimp only[List.set,L2.start]
         generalize hu:some (V.ref f)=u
         generalize hv:some (V.int (2*shN ns+3))=v
         exact fin D v u H4 ⟨s3.trans s4,_,h4,by rw[List.length_map];exact hfl,fun y hy=>by
           obtain ⟨x,hx,rfl⟩:=List.mem_map.mp hy
           have:=hfi x hx
           omega⟩
     case cb=>exact fin sp none none H2 ⟨Same.refl _,xs,hsp,hx0,fun y hy=>by have:=V0.on y hy;omega⟩
   case fin =>
     rintro o v3 v4 H3 ⟨s3,ys,ho,hyl,hys⟩
     have hsh3:=s3 _ _ hsh2
     have hh3:=s3 _ _ hh2
     have s03:=s02.trans s3
     have or1:=ok.r1
     have or2:=ok.r2
     have e1:(Str.ofString "notches ").length=8:=by decide
     have e2:(Str.ofString "room ").length=5:=by decide
     have e3:(Str.ofString "limit ").length=6:=by decide
     have e4:(Str.ofString "weight ").length=7:=by decide
     have e5:(Str.ofString " ").length=1:=by decide
     have i1:=zv8 (n:=shN ns) (by omega) (by omega)
     have i2:=zv8 (n:=shR ns) (by omega) (by omega)
     have m0:0<=at0 ns 5 % 401:=Int.emod_nonneg _ (by decide)
     have m1:at0 ns 5 % 401<401:=Int.emod_lt_of_pos _ (by decide)
     have i3:=zv8 (n:=at0 ns 5 % 401) m0 (by omega)
     refine⟨_,rfl,sh,_,_,_,rfl,rfl,SqL.of hsh3,rfl,shN ns,rfl,zh9 (by omega),_,_,rfl,rfl,(by show (Str.ofString "notches ").length+(sI (shN ns)).length<=sizeLine;omega),_,rfl,sh,_,_,_,rfl,rfl,SqL.of hsh3,rfl,shR ns,rfl,zh9 (by omega),_,_,rfl,rfl,(by show (Str.ofString "room ").length+(sI (shR ns)).length<=sizeLine;omega),(by show 2<=sizeLine;omega),fun l H4 s4 f4 h4=>?_⟩
     have s04:=s03.trans s4
     have nlo:l≠o:=(za8 ho f4).symm
     refine⟨_,rfl,.inl ⟨rfl,_,SqL.of h4⟩,_,rfl,a,ns,5,rfl,s04.seq hS,_,_,rfl,rfl,(by show (0:Int)<401;decide),at0 ns 5 % 401,rfl,zh9 (by omega),_,_,rfl,rfl,(by show (Str.ofString "limit ").length+(sI (at0 ns 5 % 401)).length<=sizeLine;omega),l,_,_,rfl,rfl,h4,(by show 2<sizeLine;omega),?_⟩
     have s5:Same H3 (upd H4 l (.lst ([Str.ofString "notches "++sI (shN ns),Str.ofString "room "++sI (shR ns),Str.ofString "limit "++sI (at0 ns 5 % 401)].map V.str))):=s4.put f4
     have h5:(upd H4 l (.lst ([Str.ofString "notches "++sI (shN ns),Str.ofString "room "++sI (shR ns),Str.ofString "limit "++sI (at0 ns 5 % 401)].map V.str))) l=some (.lst ([Str.ofString "notches "++sI (shN ns),Str.ofString "room "++sI (shR ns),Str.ofString "limit "++sI (at0 ns 5 % 401)].map V.str)):=za5
     have g5:∀ w∈[Str.ofString "notches "++sI (shN ns),Str.ofString "room "++sI (shR ns),Str.ofString "limit "++sI (at0 ns 5 % 401)],GL 40 w:=fun w hw=>by
       simp only[List.mem_cons,List.not_mem_nil,or_false] at hw
       rcases hw with rfl | rfl | rfl
       . exact⟨Asc.app (by decide) (zA1 _),by rw[zd5];omega⟩
       . exact⟨Asc.app (by decide) (zA1 _),by rw[zd5];omega⟩
       . exact⟨Asc.app (by decide) (zA1 _),by rw[zd5];omega⟩
     generalize hrows:[Str.ofString "notches "++sI (shN ns),Str.ofString "room "++sI (shR ns),Str.ofString "limit "++sI (at0 ns 5 % 401)]=rows0 at s5 h5 g5
     have hl0:rows0.length=3:=by rw[<-hrows];rfl
     show tSeq _ _ _ _ (upd H4 l (.lst ([Str.ofString "notches "++sI (shN ns),Str.ofString "room "++sI (shR ns),Str.ofString "limit "++sI (at0 ns 5 % 401)].map V.str)))
     rw[hrows]
     revert s5 h5
     generalize upd H4 l (.lst (rows0.map V.str))=H5
     intro s5 h5
     have f3:H3 l=none:=f4
     refine⟨_,rfl,o,_,rfl,.inl (SqL.of (s5 _ _ ho)),_,rfl,by rw[List.length_map];omega,by rw[List.length_map];omega,zm0 (n:=((ys.map V.int).length:Int).toNat) (fun i σ H'=>∃ v6 rows,σ=[some (.ref a),some (.ref sh),some (.ref o),v3,v4,some (.ref l),v6]/\Same H3 H'/\H' l=some (.lst (List.map V.str rows))/\rows.length=3+i/\(∀ w∈rows,GL 40 w)/\rows=rows0++(List.zipWith wRow (shH ns) ys).take i) ⟨none,rows0,rfl,s5,h5,by omega,g5,by rw[List.take_zero,List.append_nil]⟩ ?_ ?_⟩
     . rintro i σ H6 hi ⟨v6,rows,rfl,s6,h6,hl6,g6,er⟩
       have hi':i<ys.length:=by rw[List.length_map] at hi;simpa using hi
       have e0:(0:Int)+(i:Int)=(i:Int):=by omega
       have ax:atI ((shH ns).map V.int) (0+(i:Int))=some (.int ((shH ns).getD i 0)):=by rw[e0];exact zq2 (by omega) (by omega)
       have ay:atI (ys.map V.int) (0+(i:Int))=some (.int (ys.getD i 0)):=by rw[e0];exact zq2 (by omega) (by omega)
       have hh1:=zL4 ns ((shH ns).getD i 0) (zK1 (by omega))
       have hy1:=hys (ys.getD i 0) (zK1 hi')
       have ez:(List.zipWith wRow (shH ns) ys)[i]?=some (wRow ((shH ns).getD i 0) (ys.getD i 0)):=by
         rw[List.getElem?_zipWith,List.getD_eq_getElem?_getD,List.getD_eq_getElem?_getD,List.getElem?_eq_getElem (show i<(shH ns).length by omega),List.getElem?_eq_getElem hi']
         rfl
       generalize (shH ns).getD i 0=hv at ax hh1 ez
       generalize ys.getD i 0=yv at ay hy1 ez
       have i4:=zv8 (n:=hv) (by omega) (by omega)
       have i5:=wPlace_len5 hy1.1 hy1.2
       have h06:=s6 _ _ hsh3
       refine⟨_,rfl,.inl ⟨rfl,_,SqL.of h6⟩,_,rfl,sh,_,_,_,rfl,rfl,SqL.of h06,rfl,_,rfl,h,_,_,_,rfl,rfl,SqL.of (s6 _ _ hh3),ax,hv,rfl,zh9 (by omega),_,_,rfl,rfl,(by show (Str.ofString "weight ").length+(sI hv).length<=sizeLine;omega),_,_,rfl,rfl,(by show (Str.ofString "weight "++sI hv).length+(Str.ofString " ").length<=sizeLine;rw[zd5];omega),_,rfl,_,rfl,o,_,_,_,rfl,rfl,SqL.of (s6 _ _ ho),ay,yv,rfl,by omega,_,_,rfl,rfl,(by show ((Str.ofString "weight "++sI hv)++Str.ofString " ").length+(zl3 yv).length<=sizeLine;rw[zd5,zd5];omega),l,_,_,rfl,rfl,h6,by rw[List.length_map];omega,?_⟩
       refine⟨_,rows++[((Str.ofString "weight "++sI hv)++Str.ofString " ")++zl3 yv],rfl,s6.put f3,by rw[za5,List.map_append];rfl,by rw[List.length_append,hl6];rfl,fun w hw=>?_,by rw[List.take_succ,ez,<-List.append_assoc,<-er];rfl⟩
       rcases List.mem_append.mp hw with hw | hw
       . exact g6 w hw
       . obtain rfl:=List.mem_singleton.mp hw
         exact⟨((Asc.app (by decide) (zA1 _)).app (by decide)).app (wPlace_asc _),by rw[zd5,zd5,zd5];omega⟩
     . rintro σ H6 ⟨v6,rows,rfl,s6,h6,hl6,g6,er⟩
       rw[List.length_map,Int.toNat_natCast] at hl6
       have ek:(List.zipWith wRow (shH ns) ys).take (((ys.map V.int).length:Int).toNat)=List.zipWith wRow (shH ns) ys:=by
         refine List.take_of_length_le ?_
         rw[List.length_zipWith,List.length_map,Int.toNat_natCast]
         omega
       rw[ek] at er
       have erd:=rdB_rows (n:=shN ns) (r:=shR ns) (lim:=at0 ns 5 % 401) (hs:=shH ns) (ys:=ys) (by omega) (by omega) (by omega) (by omega) m0 (by omega) (fun h hh=>by have:=zL4 ns h hh;omega) (fun y hy=>by have:=hys y hy;omega)
       have e0:rows=zD5 (shN ns) (shR ns) (at0 ns 5 % 401)++List.zipWith wRow (shH ns) ys:=by rw[er,<-hrows];rfl
       rw[<-e0] at erd
       exact⟨_,rfl,q l rows H6 _ _ _ _ (s03.trans s6) (s03.free f3) h6 (by omega) (by omega) g6 erd ⟨by omega,by omega,m0,fun w hw=>by have:=zL4 ns w.1 (List.of_mem_zip (a:=w.1) (b:=w.2) hw).1;omega⟩ (by rw[List.length_zip];omega)⟩
end
end Bt
namespace Bt
open PySem L2
section
variable {P:Program} {w:World} {K:W.Frag} {mg:Str->Option Value} {base:Heap} {t:Adr}
theorem use_finH8 {R:Hp->Prop} {S:Hp->Prop} {G:Prop} (main:(∀ o,S o->R o)->G) (fin:∀ o,S o->R o):G:=main fin
theorem ok_law (T:Txt K mg t):FnOk P w K mg base CX0 12 t.a_law t.d_law ["_law_script"] (sp_law K t):=by
 have G_w_rows:FnOk P w K mg base CX0 3 t.a_w_rows t.d_w_rows ["_law_script"] (zK5 K t):=ok_w_rows T
 have G_w_rows_changed:FnOk P w K mg base CX0 2 t.a_w_rows_changed t.d_w_rows_changed ["_law_rows_here","_law_cell"] (zr3 K t):=ok_w_rows_changed T
 have G_w_edit:FnOk P w K mg base CX0 1 t.a_w_edit t.d_w_edit ["_law_text","_law_cell"] (zJ9 K t):=ok_w_edit T
 have G_w_parsed:FnOk P w K mg base CX0 3 t.a_w_parsed t.d_w_parsed ["_law_text"] (zx2 K t):=zE3 T
 have G_w_told:FnOk P w K mg base CX0 11 t.a_w_told t.d_w_told ["_law_text","_law_rows_here"] (zK3 K t):=ok_w_told T
 have G_w_near_limit:FnOk P w K mg base CX0 4 t.a_w_near_limit t.d_w_near_limit ["_law_rows_here","_law_cell"] (zu9 K t):=ok_w_near_limit T
 have G_w_at:FnOk P w K mg base CX0 1 t.a_w_at t.d_w_at ["_law_script","_law_k"] (zB3 K t):=zF1 T
 have G_w_sized:FnOk P w K mg base CX0 1 t.a_w_sized t.d_w_sized ["_law_read"] (zG9 K t):=ok_w_sized T
 have G_w_is_standing:FnOk P w K mg base CX0 1 t.a_w_is_standing t.d_w_is_standing ["_law_notches","_law_room","_law_count","_law_spots"] (zt3 K t):=ok_w_is_standing T
 have G_w_lean:FnOk P w K mg base CX0 2 t.a_w_lean t.d_w_lean ["_law_hefts","_law_spots"] (zK2 K t):=ok_w_lean T
 have G_w_tilt:FnOk P w K mg base CX0 1 t.a_w_tilt t.d_w_tilt ["_law_hefts","_law_spots"] (zy2 K t):=zD3 T
 refine T.F_law.ok zu2 (fun vs H Q E h=>?_) (fun cdv A outer s H vs Q E hr h=>?_)
 . obtain ⟨a,ns,rfl,hS,hlen,q⟩:=h
   rfl
 . obtain ⟨a,ns,rfl,hS,hlen,q⟩:=h
   have hr_w_rows:Room 3 _:=hr.mono (by decide)
   have hr_w_rows_changed:Room 2 _:=hr.mono (by decide)
   have hr_w_edit:Room 1 _:=hr.mono (by decide)
   have hr_w_parsed:Room 3 _:=hr.mono (by decide)
   have hr_w_told:Room 11 _:=hr.mono (by decide)
   have hr_w_near_limit:Room 4 _:=hr.mono (by decide)
   have hr_w_at:Room 1 _:=hr.mono (by decide)
   have hr_w_sized:Room 1 _:=hr.mono (by decide)
   have hr_w_is_standing:Room 1 _:=hr.mono (by decide)
   have hr_w_lean:Room 2 _:=hr.mono (by decide)
   have hr_w_tilt:Room 1 _:=hr.mono (by decide)
   refine⟨_,(za1 (zb5 (i:=1) zu2.nd rfl (Or.inl rfl) (zb1 G_w_rows hr_w_rows rfl T.m_w_rows T.k_w_rows T.b_w_rows .nil zc4 (za0 (pv 0) za2)))
     (za1 (zc8 (zb3 zf0 (zb2 ze1 (zb2 zg5 (zb1 G_w_at hr_w_at rfl T.m_w_at T.k_w_at T.b_w_at .nil zc4 (za0 (pv 0) (za0 za3 za2))) za3) za3) za3 (zb4 _)) (za6 (zz4 (zb1 G_w_near_limit hr_w_near_limit rfl T.m_w_near_limit T.k_w_near_limit T.b_w_near_limit .nil zc4 (za0 (pv 1) (za0 (zb1 G_w_at hr_w_at rfl T.m_w_at T.k_w_at T.b_w_at .nil zc4 (za0 (pv 0) (za0 za3 za2))) za2))) (zC2 (pv 1) za3 zs0))) zb6)
     (za1 (zb5 (i:=1) zu2.nd rfl (Or.inl rfl) (zb1 G_w_rows_changed hr_w_rows_changed rfl T.m_w_rows_changed T.k_w_rows_changed T.b_w_rows_changed .nil zc4 (za0 (pv 1) (za0 (zb1 G_w_at hr_w_at rfl T.m_w_at T.k_w_at T.b_w_at .nil zc4 (za0 (pv 0) (za0 za3 za2))) za2))))
     (za1 (zb5 (i:=2) zu2.nd rfl (Or.inl rfl) (zb1 G_w_edit hr_w_edit rfl T.m_w_edit T.k_w_edit T.b_w_edit .nil zc4 (za0 (zk0 PySem.F.plainAttrs_str PySem.F.slot_str_join PySem.F.type_str_join zL2 zb0 (za0 (pv 1) za2)) (za0 (zb1 G_w_at hr_w_at rfl T.m_w_at T.k_w_at T.b_w_at .nil zc4 (za0 (pv 0) (za0 za3 za2))) za2))))
     (za1 (zb5 (i:=3) zu2.nd rfl (Or.inl rfl) (zc7 zb7 (zf2 (za0 (zf2 za2) (za0 (zf2 (za0 zb0 (za0 zb0 za2))) za2))) (zb2 ze1 (zb1 G_w_at hr_w_at rfl T.m_w_at T.k_w_at T.b_w_at .nil zc4 (za0 (pv 0) (za0 za3 za2))) za3) (fun _ _=>rfl)))
     (za1 (zb5 (i:=4) zu2.nd rfl (Or.inl rfl) (zb1 G_w_parsed hr_w_parsed rfl T.m_w_parsed T.k_w_parsed T.b_w_parsed .nil zc4 (za0 (pv 2) za2)))
     (za1 (zb5 (i:=5) zu2.nd rfl (Or.inl rfl) (zb1 G_w_told hr_w_told rfl T.m_w_told T.k_w_told T.b_w_told .nil zc4 (za0 (pv 2) (za0 (ze7 (call_list_ofS K rfl) rfl T.n_list PyProof.Rows.boot_list (za0 (pv 3) za2)) za2))))
     (za1 (zc8 (zb3 op_isN (pv 4) zC1 (zb4 _)) (za6 (zb9 (zg6 zf0 (pv 5) zb0 (zb4 _)))) zb6)
     (za1 (zc8 (zz3 (zi9 (zb1 G_w_sized hr_w_sized rfl T.m_w_sized T.k_w_sized T.b_w_sized .nil zc4 (za0 (pv 4) za2)))) (za6 (zb9 (zg6 zf0 (pv 5) zb0 (zb4 _)))) zb6)
     (za1 (zc8 (zz3 (zi9 (zb1 G_w_is_standing hr_w_is_standing rfl T.m_w_is_standing T.k_w_is_standing T.b_w_is_standing .nil zc4 (za0 (zc7 zb7 (pv 4) za3 (fun _ _=>rfl)) (za0 (zc7 zb7 (pv 4) za3 (fun _ _=>rfl)) (za0 (zc0 zc2 rfl T.n_len PySem.boot_len (za0 (zc7 zb7 (pv 4) za3 (fun _ _=>rfl)) za2)) (za0 (zc7 zb7 (pv 4) za3 (fun _ _=>rfl)) za2))))))) (za6 (zb9 (zg6 zf0 (pv 5) zb0 (zb4 _)))) zb6)
     (za1 (zc8 (zb3 zl7 (zc0 zF7 rfl T.n_abs PyProof.Rows.boot_abs (za0 (zb1 G_w_tilt hr_w_tilt rfl T.m_w_tilt T.k_w_tilt T.b_w_tilt .nil zc4 (za0 (zc7 zb7 (pv 4) za3 (fun _ _=>rfl)) (za0 (zc7 zb7 (pv 4) za3 (fun _ _=>rfl)) za2))) za2)) (zc7 zb7 (pv 4) za3 (fun _ _=>rfl)) (zb4 _)) (za6 (zb9 (zg6 zf0 (pv 5) zb0 (zb4 _)))) zb6)
     (za1 (zc8 (PW.pt (zr0 (zz3 (zi9 (zc0 zM3 rfl T.n_isinstance PyProof.Rows.boot_isinstance (za0 (pv 5) (za0 (zO9 (v:=.ty "list") rfl T.n_list PyProof.Rows.boot_list rfl) za2))))) (zr5 (zb3 zr1 (zc0 zc2 rfl T.n_len PySem.boot_len (za0 (pv 5) za2)) (zc0 zc2 rfl T.n_len PySem.boot_len (za0 (pv 3) za2)) (zb4 _))))) (za6 (zb9 zy4)) zb6)
     (za1 (zb5 (i:=6) zu2.nd rfl (Or.inl rfl) (zf2 (za0 (zb1 G_w_lean hr_w_lean rfl T.m_w_lean T.k_w_lean T.b_w_lean .nil zc4 (za0 (zc7 zb7 (pv 4) za3 (fun _ _=>rfl)) (za0 (zc7 zb7 (pv 4) za3 (fun _ _=>rfl)) za2))) (za0 zb0 za2))))
     (za1 (zn2 PassesOwn.never rfl (zo8 rfl T.n_range (za0 (zc0 zc2 rfl T.n_len PySem.boot_len (za0 (pv 5) za2)) za2)) (zd4 (i:=7) zu2.nd rfl (Or.inl rfl)) (za6 (zc8 (PW.pt (zr0 (zz3 (zi9 (zc0 zM3 rfl T.n_isinstance PyProof.Rows.boot_isinstance (za0 (zc7 zb7 (pv 5) (pv 7) (fun _ _=>rfl)) (za0 (zO9 (v:=.ty "str") rfl T.n_str PyProof.Rows.boot_str rfl) za2))))) (zr5 (zb3 zr1 (zc7 zb7 (pv 5) (pv 7) (fun _ _=>rfl)) (zc7 zb7 (pv 6) (pv 7) (fun _ _=>rfl)) (zb4 _))))) (za6 (zb9 zy4)) zb6)))
     (za6 (zb9 zy4)))))))))))))))),?_⟩
   have hsl:sizeLine=16777216:=by decide
   have e0:(Str.ofString "\n").length=1:=by decide
   refine⟨_,rfl,a,ns,rfl,hS,fun l rows H1 n r lim ws s1 f1 h1 g3 g8 gl hrd hb hwl=>?_⟩
   refine⟨_,rfl,a,ns,0,rfl,s1.seq hS,_,_,rfl,rfl,⟨by decide,by decide⟩,_,_,rfl,rfl,(by show (0:Int)<2;decide),rfl,_,rfl,?_⟩
   refine use_finH8 (R:=?R) (S:=fun H'=>Same H H'/\∃ rs:List Str,H' l=some (.lst (rs.map V.str))/\rs.length=rows.length/\∀ w∈rs,GL 40 w) (fun fin=>?main) ?fin
   case main =>
     refine ite2 (fun c1=>?ca) (fun c1=>?cb)
     case ca =>
       refine⟨_,rfl,_,rfl,a,ns,5,rfl,s1.seq hS,l,at0 ns 5,n,r,lim,rows,ws,rfl,h1,by omega,gl,hrd,hb,hwl,fun z H2 s2 gz=>?_⟩
       refine⟨_,rfl,l,_,2,2,rfl,rfl,s2 _ _ h1,ixS (i:=2) (by omega),?_⟩
       rw[<-List.map_set]
       have s3:Same H (upd H2 l (.lst ((rows.set 2 z).map V.str))):=(s1.trans s2).put f1
       have h3:(upd H2 l (.lst ((rows.set 2 z).map V.str))) l=some (.lst ((rows.set 2 z).map V.str)):=za5
       revert s3 h3
       generalize upd H2 l (.lst ((rows.set 2 z).map V.str))=H3
       intro s3 h3
       exact fin H3 ⟨s3,rows.set 2 z,h3,by rw[List.length_set],fun w hw=>(zt5 hw).elim (gl w) (fun e=>e▸gz)⟩
     case cb=>exact fin H1 ⟨s1,rows,h1,rfl,gl⟩
   rintro H2 ⟨s2,rs,h2,hrl,hrs⟩
   refine⟨_,rfl,_,rfl,a,ns,6,rfl,s2.seq hS,l,at0 ns 6,rs,40,rfl,h2,⟨by omega,by omega,by decide,by decide⟩,hrs,fun l2 rows2 H3 e2 x2 h3 b1 b2 g2=>?_⟩
   have s3:Same H H3:=fun b o e=>x2 b o (s2 b o e) (za8 e f1)
   clear x2 e2 h2 gl h1
   have hq20:rows2.length*50<=20*50:=Nat.mul_le_mul_right _ (by omega)
   have lr:=zH0 g2
   have aj:Asc (Txt.join (Str.ofString "\n") rows2):=zD4 (by decide) fun w hw=>(g2 w hw).1
   have lj:(Txt.join (Str.ofString "\n") rows2).length<=2000:=by
     rw[zt4,e0,Nat.mul_one]
     omega
   refine⟨rfl,_,rfl,Str.ofString "\n",l2,rows2,rfl,rfl,SqL.of h3,by rw[e0,Nat.mul_one];omega,_,rfl,a,ns,8,rfl,s3.seq hS,_,at0 ns 8,rfl,by omega,aj,fun z az lz=>?_⟩
   have lz6:z.length<=100000:=by omega
   refine⟨Nat.zero_le _,fun la H4 s4 f4 ha=>⟨(by show 2<=sizeLine;decide),fun lb H5 s5 f5 hb5=>⟨(by show 2<=sizeLine;decide),fun lc H6 s6 f6 hc=>?_⟩⟩⟩
   obtain ⟨lk,ks,hx,hk,hks⟩:∃ (lk:Addr) (ks:List Bool),atI [V.ref la,V.ref lb] (at0 ns 7 % 2)=some (.ref lk)/\H6 lk=some (.lst (ks.map fun k=>V.str (zG5 k)))/\ks.length<=2/\(∀ (i:Nat) k,ks[i]?=some k->k=decide (i=1)):=by
     have:at0 ns 7 % 2=0\/at0 ns 7 % 2=1:=by omega
     rcases this with e | e<;>rw[e]
     . exact⟨la,[],rfl,s6 _ _ (s5 _ _ ha),by decide,fun i k z=>by simp at z⟩
     . refine⟨lb,[false,true],rfl,s6 _ _ hb5,by decide,fun i k z=>?_⟩
       match i,z with
       | 0,z=>cases z;rfl
       | 1,z=>cases z;rfl
       | i+2,z=>simp at z
   have s06:=s3.trans (s4.trans (s5.trans s6))
   refine⟨_,rfl,a,ns,7,rfl,s06.seq hS,_,_,rfl,rfl,(by show (0:Int)<2;decide),lc,_,_,_,rfl,rfl,SqL.of hc,hx,?_⟩
   refine⟨_,rfl,z,rfl,lz6,az,fun hn H7 s7=>?_,fun n r lim ws he nn hwl ll h s H7 s7 hh hs hl=>?_⟩
   . refine⟨_,rfl,_,rfl,lk,_,rfl,.inl (SqL.of (s7 _ _ hk)),fun lh H8 s8 f8 h8=>⟨z,lh,ks,rfl,h8,by omega,by omega,fun _ H9 s9=>?_,fun n r lim ws he=>absurd (hn.symm.trans he) (fun z=>nomatch z)⟩⟩
     refine⟨_,rfl,rfl,_,rfl,iteA (decide_eq_true rfl) ⟨_,rfl,rfl,?_⟩⟩
     rw[decide_eq_true rfl]
     exact q _
   . refine⟨_,rfl,_,rfl,lk,_,rfl,.inl (SqL.of (s7 _ _ hk)),fun lh H8 s8 f8 h8=>⟨z,lh,ks,rfl,h8,by omega,by omega,fun hn=>absurd (hn.symm.trans he) (fun z=>nomatch z),fun n' r' lim' ws' he'=>?_⟩⟩
     have e:=he'.symm.trans he
     injection e with e
     obtain ⟨rfl,rfl,rfl,rfl⟩:n'=n/\r'=r/\lim'=lim/\ws'=ws:=by
       injection e with e1 e2
       injection e2 with e2 e3
       injection e3 with e3 e4
       exact⟨e1,e2,e3,e4⟩
     have s79:∀ {H9},Same H8 H9->Same H7 H9:=fun e=>s8.trans e
     refine⟨fun nb H9 s9=>?_,fun ok nv H9 s9=>?_,fun ok V0 nk H9 s9=>?_,fun ok V0 k0 o H9 s9 ho=>?_⟩
     . have e9:=s79 s9
       refine⟨_,rfl,rfl,_,rfl,iteB (decide_eq_false (fun z=>nomatch z)) ?_⟩
       refine⟨_,rfl,ll,h,s,n',r',lim',ws'.map (·.1),rfl,e9 _ _ hl,e9 _ _ hh,nn.2.2.1,fun ok=>absurd ok nb,fun _ H10 s10=>⟨_,rfl,iteT ⟨_,rfl,rfl,?_⟩⟩⟩
       rw[decide_eq_true rfl]
       exact q _
     . have e9:=s79 s9
       refine⟨_,rfl,rfl,_,rfl,iteB (decide_eq_false (fun z=>nomatch z)) ?_⟩
       refine⟨_,rfl,ll,h,s,n',r',lim',ws'.map (·.1),rfl,e9 _ _ hl,e9 _ _ hh,nn.2.2.1,fun _ H10 s10=>⟨_,rfl,iteF ?_⟩,fun nb=>absurd ok nb⟩
       have ex:=e9.trans s10
       have hl0:=ex _ _ hl
       refine⟨_,rfl,ll,_,_,_,rfl,rfl,SqL.of hl0,at_0,_,rfl,ll,_,_,_,rfl,rfl,SqL.of hl0,at_1,_,rfl,ll,_,_,_,rfl,rfl,SqL.of hl0,at_2,h,_,rfl,.inl (SqL.of (ex _ _ hh)),_,rfl,ll,_,_,_,rfl,rfl,SqL.of hl0,rfl,s,n',r',(ws'.map (·.1)).length,ws'.map (·.2),by rw[List.length_map];rfl,SqL.of (ex _ _ hs),fun v=>absurd v nv,fun _=>⟨_,rfl,iteT ⟨_,rfl,rfl,?_⟩⟩⟩
       rw[decide_eq_true rfl]
       exact q _
     . have e9:=s79 s9
       refine⟨_,rfl,rfl,_,rfl,iteB (decide_eq_false (fun z=>nomatch z)) ?_⟩
       refine⟨_,rfl,ll,h,s,n',r',lim',ws'.map (·.1),rfl,e9 _ _ hl,e9 _ _ hh,nn.2.2.1,fun _ H10 s10=>⟨_,rfl,iteF ?_⟩,fun nb=>absurd ok nb⟩
       have ex:=e9.trans s10
       have hl0:=ex _ _ hl
       have hh0:=ex _ _ hh
       have hs0:=ex _ _ hs
       have hw5:=ok.w
       refine⟨_,rfl,ll,_,_,_,rfl,rfl,SqL.of hl0,at_0,_,rfl,ll,_,_,_,rfl,rfl,SqL.of hl0,at_1,_,rfl,ll,_,_,_,rfl,rfl,SqL.of hl0,at_2,h,_,rfl,.inl (SqL.of hh0),_,rfl,ll,_,_,_,rfl,rfl,SqL.of hl0,rfl,s,n',r',(ws'.map (·.1)).length,ws'.map (·.2),by rw[List.length_map];rfl,SqL.of hs0,fun _=>⟨_,rfl,iteF ?_⟩,fun nv=>absurd V0 nv⟩
       refine⟨_,rfl,ll,_,_,_,rfl,rfl,SqL.of hl0,at_2,_,rfl,ll,_,_,_,rfl,rfl,SqL.of hl0,rfl,h,s,ws'.map (·.1),ws'.map (·.2),rfl,SqL.of hh0,.inl (SqL.of hs0),⟨V0.len.symm,by rw[V0.len];exact hw5,ok.h⟩,_,rfl,_,rfl,ll,_,_,_,rfl,rfl,SqL.of hl0,rfl,_,_,rfl,rfl,_,rfl,iteA (decide_eq_true (by have:=Int.not_le.mp nk;unfold absI at this;exact this)) ⟨_,rfl,rfl,?_⟩⟩
       rw[decide_eq_true rfl]
       exact q _
     . have e9:=s79 s9
       refine⟨_,rfl,rfl,_,rfl,iteB (decide_eq_false (fun z=>nomatch z)) ?_⟩
       refine⟨_,rfl,ll,h,s,n',r',lim',ws'.map (·.1),rfl,e9 _ _ hl,e9 _ _ hh,nn.2.2.1,fun _ H10 s10=>⟨_,rfl,iteF ?_⟩,fun nb=>absurd ok nb⟩
       have ex:=e9.trans s10
       have hl0:=ex _ _ hl
       have hh0:=ex _ _ hh
       have hs0:=ex _ _ hs
       have ho0:=s10 _ _ ho
       have hk0:=ex _ _ (s7 _ _ hk)
       have hw5:=ok.w
       refine⟨_,rfl,ll,_,_,_,rfl,rfl,SqL.of hl0,at_0,_,rfl,ll,_,_,_,rfl,rfl,SqL.of hl0,at_1,_,rfl,ll,_,_,_,rfl,rfl,SqL.of hl0,at_2,h,_,rfl,.inl (SqL.of hh0),_,rfl,ll,_,_,_,rfl,rfl,SqL.of hl0,rfl,s,n',r',(ws'.map (·.1)).length,ws'.map (·.2),by rw[List.length_map];rfl,SqL.of hs0,fun _=>⟨_,rfl,iteF ?_⟩,fun nv=>absurd V0 nv⟩
       refine⟨_,rfl,ll,_,_,_,rfl,rfl,SqL.of hl0,at_2,_,rfl,ll,_,_,_,rfl,rfl,SqL.of hl0,rfl,h,s,ws'.map (·.1),ws'.map (·.2),rfl,SqL.of hh0,.inl (SqL.of hs0),⟨V0.len.symm,by rw[V0.len];exact hw5,ok.h⟩,_,rfl,_,rfl,ll,_,_,_,rfl,rfl,SqL.of hl0,rfl,_,_,rfl,rfl,_,rfl,iteB (decide_eq_false (by have:=Int.not_lt.mpr k0;unfold absI at this;exact this)) ?_⟩
       refine⟨_,rfl,_,_,_,_,_,rfl,.ty _,.lst ho0,rfl,_,rfl,iteF ?_⟩
       refine⟨_,rfl,o,_,rfl,.inl (SqL.of ho0),_,rfl,lk,_,rfl,.inl (SqL.of hk0),rfl,_,rfl,iteB (by rw[List.length_map,List.length_map,decide_eq_true rfl];rfl) ?_⟩
       refine⟨_,rfl,ll,_,_,_,rfl,rfl,SqL.of hl0,at_2,_,rfl,ll,_,_,_,rfl,rfl,SqL.of hl0,rfl,h,s,n',r',lim',ws'.map (·.1),ws'.map (·.2),rfl,SqL.of hh0,hs0,ok,V0,fun H11 s11=>⟨(by show 2<=sizeLine;decide),fun ld H12 s12 f12 h12=>?_⟩⟩
       have ho2:=s12 _ _ (s11 _ _ ho0)
       refine⟨_,rfl,o,_,rfl,.inl (SqL.of ho2),?_⟩
       rw[List.length_map]
       refine⟨_,rfl,by omega,by omega,zm0 (n:=((ks.length:Nat):Int).toNat) (fun i σ H'=>∃ v7,σ=[some (.ref a),some (.ref l2),some (.str z),some (.ref lk),some (.ref ll),some (.ref o),some (.ref ld),v7]/\H'=H12) ⟨none,rfl,rfl⟩ ?_ ?_⟩
       . rintro i σ H' hi ⟨v7,rfl,rfl⟩
         have hix:i<ks.length:=by simpa using hi
         have e0:(0:Int)+(i:Int)=(i:Int):=by omega
         have ek:=hks.2 i _ (List.getElem?_eq_getElem hix)
         have hx1:atI (ks.map fun k=>V.str (zG6 (ws'.map (·.1)) (ws'.map (·.2)) k)) (0+(i:Int))=some (.str (zG6 (ws'.map (·.1)) (ws'.map (·.2)) ks[i])):=by rw[e0];exact zo4 (by rw[List.getElem?_map,List.getElem?_eq_getElem hix];rfl)
         have hx2:atI [V.str (zJ6 (ws'.map (·.1)) (ws'.map (·.2))),V.str (Str.ofString "refused: nothing back")] (0+(i:Int))=some (.str (zG6 (ws'.map (·.1)) (ws'.map (·.2)) ks[i])):=by
           rw[e0,ek]
           have:i=0\/i=1:=by omega
           rcases this with rfl | rfl<;>rfl
         refine⟨_,rfl,_,rfl,o,_,_,_,rfl,rfl,SqL.of ho2,hx1,_,_,_,_,_,rfl,.ty _,.str _,rfl,_,rfl,iteF ?_⟩
         refine⟨_,rfl,_,rfl,o,_,_,_,rfl,rfl,SqL.of ho2,hx1,_,rfl,_,rfl,ld,_,_,_,rfl,rfl,SqL.of h12,hx2,rfl,_,rfl,iteB (by rw[decide_eq_true rfl];rfl) ?_⟩
         exact⟨_,rfl,rfl⟩
       . rintro σ H' ⟨v7,rfl,rfl⟩
         exact q _
end
end Bt
namespace Bt
open PySem L2
theorem ar1 {us:List Value} (h:us.length=1):∃ x0,us=[x0]:=by
 match us,h with
 | [a0],_=>exact⟨a0,rfl⟩
theorem ar2 {us:List Value} (h:us.length=2):∃ x0 x1,us=[x0,x1]:=by
 match us,h with
 | [a0,a1],_=>exact⟨a0,a1,rfl⟩
theorem ar3 {us:List Value} (h:us.length=3):∃ x0 x1 x2,us=[x0,x1,x2]:=by
 match us,h with
 | [a0,a1,a2],_=>exact⟨a0,a1,a2,rfl⟩
theorem ar4 {us:List Value} (h:us.length=4):∃ x0 x1 x2 x3,us=[x0,x1,x2,x3]:=by
 match us,h with
 | [a0,a1,a2,a3],_=>exact⟨a0,a1,a2,a3,rfl⟩
theorem ar5 {us:List Value} (h:us.length=5):∃ x0 x1 x2 x3 x4,us=[x0,x1,x2,x3,x4]:=by
 match us,h with
 | [a0,a1,a2,a3,a4],_=>exact⟨a0,a1,a2,a3,a4,rfl⟩
theorem all_mk {l:W.OpenLaw} {w:World} {K:W.Frag} {h:Heap} {mg:Str->Option Value} {fa:Addr} (X:K.In h) (G:h.Ns mainGlobals mg) (hfa:mg "law" = some (.ref fa))
   {ey bQ bR bS aM bT:Value} {ez bU:Option Addr} {eA:Array (Option Value)} {ag:Addr}
   {aW:Addr} {eB:Value} {eC:Option Addr} {eD:Nat} {eE:Array (Option Value)} {eF eG:Value}
   {fC cl cm cn a3 co:Value} {fD cp:Option Addr} {fE:Array (Option Value)} {am:Addr}
   {bs:Addr} {fF:Value} {fG:Option Addr} {fH:Nat} {fI:Array (Option Value)} {fJ:Value}
   {dB bf bg bh aw bi:Value} {dC bj:Option Addr} {dD:Array (Option Value)} {ah:Addr}
   {az:Addr} {dE:Value} {dF:Option Addr} {dG:Nat} {dH:Array (Option Value)} {dI:Value}
   {eH bV bW bX aN bY:Value} {eI bZ:Option Addr} {eJ:Array (Option Value)} {aj:Addr}
   {aX:Addr} {eK:Value} {eL:Option Addr} {eM:Nat} {eN:Array (Option Value)} {eO:Value}
   {dJ bk bl bm ax bn:Value} {dK bo:Option Addr} {dL:Array (Option Value)} {ai:Addr}
   {aA:Addr} {dM:Value} {dN:Option Addr} {dO:Nat} {dP:Array (Option Value)} {dQ:Value}
   {fK cq cr cs a4 ct:Value} {fL cu:Option Addr} {fM:Array (Option Value)} {an:Addr}
   {bt:Addr} {fN:Value} {fO:Option Addr} {fP:Nat} {fQ:Array (Option Value)} {fR:Value}
   {iY iZ i0 i1 dT i2:Value} {i3 i4:Option Addr} {i5:Array (Option Value)} {aP:Addr}
   {lj lk ll lm fS ln:Value} {lo lp:Option Addr} {lq:Array (Option Value)} {cv:Addr}
   {fT fU fV fW cw fX:Value} {fY fZ:Option Addr} {f0:Array (Option Value)} {aJ:Addr}
   {gB gC gD gE cV gF:Value} {gG gH:Option Addr} {gI:Array (Option Value)} {aS:Addr}
   {dU dV dW dX bH dY:Value} {dZ d0:Option Addr} {d1:Array (Option Value)} {al:Addr}
   {gJ gK gL gM cW gN:Value} {gO gP:Option Addr} {gQ:Array (Option Value)} {aT:Addr}
   {oX oY oZ o0 k8 o1:Value} {o2 o3:Option Addr} {o4:Array (Option Value)} {f1:Addr}
   {o5 o6 o7 o8 k9 o9:Value} {pa pb:Option Addr} {pc:Array (Option Value)} {f2:Addr}
   {pd pe pf pg la ph:Value} {pi pj:Option Addr} {pk:Array (Option Value)} {f3:Addr}
   {n5 n6 n7 n8 i6 n9:Value} {oa ob:Option Addr} {oc:Array (Option Value)} {ev:Addr}
   {i7 i8 i9 ja d2 jb:Value} {jc jd:Option Addr} {je:Array (Option Value)} {aQ:Addr}
   {jf jg jh ji d3 jj:Value} {jk jl:Option Addr} {jm:Array (Option Value)} {aR:Addr}
   {ii ij ik il dr im:Value} {io ip:Option Addr} {iq:Array (Option Value)} {a5:Addr}
   {jn jo jp jq d4 jr:Value} {js jt:Option Addr} {ju:Array (Option Value)} {bD:Addr}
   {gR gS gT gU cX gV:Value} {gW gX:Option Addr} {gY:Array (Option Value)} {aU:Addr}
   {f4 f5 f6 f7 cx f8:Value} {f9 ga:Option Addr} {gb:Array (Option Value)} {aK:Addr}
   {ir it iu iv ds iw:Value} {ix iy:Option Addr} {iz:Array (Option Value)} {a6:Addr}
   {gZ g0 g1 g2 cY g3:Value} {g4 g5:Option Addr} {g6:Array (Option Value)} {aV:Addr}
   {jv jw jx jy d5 jz:Value} {jA jB:Option Addr} {jC:Array (Option Value)} {bE:Addr}
   {lr ls lt lu gc lv:Value} {lw lx:Option Addr} {ly:Array (Option Value)} {cy:Addr}
   {mD mE mF mG h3 mH:Value} {mI mJ:Option Addr} {mK:Array (Option Value)} {c9:Addr}
   {iA iB iC iD dt iE:Value} {iF iG:Option Addr} {iH:Array (Option Value)} {a7:Addr}
   {jD jE jF jG d6 jH:Value} {jI jJ:Option Addr} {jK:Array (Option Value)} {bF:Addr}
   {pl pm pn po lb pp:Value} {pq pr:Option Addr} {pt:Array (Option Value)} {gd:Addr}
   {mL mM mN mO h4 mP:Value} {mQ mR:Option Addr} {mS:Array (Option Value)} {da:Addr}
   {lz lA lB lC ge lD:Value} {lE lF:Option Addr} {lG:Array (Option Value)} {cz:Addr}
   {od oe og oh jL oi:Value} {oj ok:Option Addr} {ol:Array (Option Value)} {ew:Addr}
   {mT mU mV mW h5 mX:Value} {mY mZ:Option Addr} {m0:Array (Option Value)} {db:Addr}
   {om on oo op jM oq:Value} {os ot:Option Addr} {ou:Array (Option Value)} {ex:Addr}
   {m1 m2 m3 m4 h6 m5:Value} {m6 m7:Option Addr} {m8:Array (Option Value)} {dc:Addr}
   {ku kv kw kx e1 ky:Value} {kz kA:Option Addr} {kB:Array (Option Value)} {b5:Addr}
   {m9 na nb nc h7 nd:Value} {ne nf:Option Addr} {ng:Array (Option Value)} {dd:Addr}
   {nh ni nj nk h8 nl:Value} {nm nn:Option Addr} {no:Array (Option Value)} {de:Addr}
   {np nq nr ns h9 nt:Value} {nu nv:Option Addr} {nw:Array (Option Value)} {df:Addr}
   {fc fe ff fg b7 fh:Value} {fi fj:Option Addr} {fk:Array (Option Value)} {ay:Addr}
   {nx ny nz nA ia nB:Value} {nC nD:Option Addr} {nE:Array (Option Value)} {dg:Addr}
   {eP eQ eR eS b0 eT:Value} {eU eV:Option Addr} {eW:Array (Option Value)} {au:Addr}
   {kC kD kE kF e2 kG:Value} {kH kI:Option Addr} {kJ:Array (Option Value)} {b6:Addr}
   {lH lI lJ lK gf lL:Value} {lM lN:Option Addr} {lO:Array (Option Value)} {cA:Addr}
   {nF nG nH nI ib nJ:Value} {nK nL:Option Addr} {nM:Array (Option Value)} {dh:Addr}
   {gg gh gi gj cB gk:Value} {gl gm:Option Addr} {gn:Array (Option Value)} {aL:Addr}
   {pK pL pM pN nN pO:Value} {pP pQ:Option Addr} {pR:Array (Option Value)} {lP:Addr}
   {ao:Addr}
   {ak:Addr}
   {ad:Addr}
   {aa:Addr}
   {ab:Addr}
   {ac:Addr}
   {ae:Addr}
   {af:Addr}
   {lQ lR:Str} {nO:Addr} {lS go:List Value} {lT:List Str} {kK:List Value} {lU:Bool} {kL:Option Bool} {lV:Option Addr} {lW lX lY lZ l0:Option Value}
   {g7 g8:Str} {iI:Addr} {g9 cZ:List Value} {ha:List Str} {gp:List Value} {hb:Bool} {gq:Option Bool} {hc:Option Addr} {hd he hf hg hh:Option Value}
   {jN jO:Str} {kM:Addr} {jP d7:List Value} {jQ:List Str} {iJ:List Value} {jR:Bool} {iK:Option Bool} {jS:Option Addr} {jT jU jV jW jX:Option Value}
   {hi hj:Str} {iL:Addr} {hk c0:List Value} {hm:List Str} {gr:List Value} {hn:Bool} {gs:Option Bool} {ho:Option Addr} {hp hq hr hs ht:Option Value}
   {l1 l2:Str} {nP:Addr} {l3 gt:List Value} {l4:List Str} {kN:List Value} {l5:Bool} {kO:Option Bool} {l6:Option Addr} {l7 l8 l9 ma mb:Option Value}
   {iM:ClassData}
   {kP:ClassData}
   {kQ:ClassData}
   {gu:ClassData}
   {iN:ClassData}
   {bu:Tok}
   {cG:Tok}
   {b8:Tok}
   {bv:Tok}
   {cH:Tok}
   {aY:Tok}
   {bw:Tok}
   {d8:Tok}
   (pS:W.nsIn K mainGlobals "Beam" = some (some (.ref ao)))
   (pT:W.nsIn K mainGlobals "Play" = some (some (.ref ak)))
   (nQ:W.nsIn K mainGlobals "BadBeam" = some (some (.ref ad)))
   (iO:W.nsIn K mainGlobals "BadStanding" = some (some (.ref aa)))
   (kR:W.nsIn K mainGlobals "StartPast" = some (some (.ref ab)))
   (iP:W.nsIn K mainGlobals "NothingBack" = some (some (.ref ac)))
   (nR:W.nsIn K mainGlobals "BadText" = some (some (.ref ae)))
   (kS:W.nsIn K mainGlobals "BeamError" = some (some (.ref af)))
   (fl:W.findIn K (.ref af) "__init__" = some (some (.ref ag)))
   (ov:W.isFn K (.ref ag)=true)
   (fm:K.lookup ag=some ⟨ey,ez,.func (W.fnOf "__init__" "BeamError.__init__" (zb8 zd6) (za9 zd6) (za4 zd6) (.ref aW) bQ bR bS bU aM bT),eA⟩)
   (fn:W.codeIn K aM "BeamError.__init__" = true) (av:W.keepIn K (.ref ag)=true)
   (eX:K.lookup aW=some ⟨eB,eC,.seq #[eF,eG] eD,eE⟩)
   (c1:W.findIn K (.ref ad) "__init__" = some (some (.ref am)))
   (hu:W.isFn K (.ref am)=true)
   (hv:K.lookup am=some ⟨fC,fD,.func (W.fnOf "__init__" "BadBeam.__init__" (zb8 ze5) (za9 ze5) (za4 ze5) (.ref bs) cl cm cn cp a3 co),fE⟩)
   (hw:W.codeIn K a3 "BadBeam.__init__" = true) (bx:W.keepIn K (.ref am)=true)
   (gv:K.lookup bs=some ⟨fF,fG,.seq #[fJ] fH,fI⟩)
   (bI:W.findIn K (.ref aa) "__init__" = some (some (.ref ah)))
   (d9:W.isFn K (.ref ah)=true)
   (ea:K.lookup ah=some ⟨dB,dC,.func (W.fnOf "__init__" "BadStanding.__init__" (zb8 zd1) (za9 zd1) (za4 zd1) (.ref az) bf bg bh bj aw bi),dD⟩)
   (eb:W.codeIn K aw "BadStanding.__init__" = true) (aB:W.keepIn K (.ref ah)=true)
   (dR:K.lookup az=some ⟨dE,dF,.seq #[dI] dG,dH⟩)
   (b9:W.findIn K (.ref ab) "__init__" = some (some (.ref aj)))
   (fo:W.isFn K (.ref aj)=true)
   (fp:K.lookup aj=some ⟨eH,eI,.func (W.fnOf "__init__" "StartPast.__init__" (zb8 zd7) (za9 zd7) (za4 zd7) (.ref aX) bV bW bX bZ aN bY),eJ⟩)
   (fq:W.codeIn K aN "StartPast.__init__" = true) (aZ:W.keepIn K (.ref aj)=true)
   (eY:K.lookup aX=some ⟨eK,eL,.seq #[eO] eM,eN⟩)
   (bJ:W.findIn K (.ref ac) "__init__" = some (some (.ref ai)))
   (ec:W.isFn K (.ref ai)=true)
   (ed:K.lookup ai=some ⟨dJ,dK,.func (W.fnOf "__init__" "NothingBack.__init__" (zb8 zd2) (za9 zd2) (za4 zd2) (.ref aA) bk bl bm bo ax bn),dL⟩)
   (ee:W.codeIn K ax "NothingBack.__init__" = true) (aC:W.keepIn K (.ref ai)=true)
   (dS:K.lookup aA=some ⟨dM,dN,.seq #[dQ] dO,dP⟩)
   (c2:W.findIn K (.ref ae) "__init__" = some (some (.ref an)))
   (hx:W.isFn K (.ref an)=true)
   (hy:K.lookup an=some ⟨fK,fL,.func (W.fnOf "__init__" "BadText.__init__" (zb8 ze6) (za9 ze6) (za4 ze6) (.ref bt) cq cr cs cu a4 ct),fM⟩)
   (hz:W.codeIn K a4 "BadText.__init__" = true) (bz:W.keepIn K (.ref an)=true)
   (gw:K.lookup bt=some ⟨fN,fO,.seq #[fR] fP,fQ⟩)
   (e3:W.findIn K (.ref ao) "__init__" = some (some (.ref aP)))
   (kT:W.isFn K (.ref aP)=true)
   (kU:K.lookup aP=some ⟨iY,i3,.func (W.fnOf "__init__" "Beam.__init__" (zb8 zk5) (za9 zk5) (za4 zk5) .none iZ i0 i1 i4 dT i2),i5⟩)
   (kV:W.codeIn K dT "Beam.__init__" = true) (cI:W.keepIn K (.ref aP)=true)
   (ic:W.nsIn K mainGlobals "outside" = some (some (.ref cv)))
   (nS:K.lookup cv=some ⟨lj,lo,.func (W.fnOf "outside" "outside" (zb8 zp0) (za9 zp0) (za4 zp0) .none lk ll lm lp fS ln),lq⟩)
   (nT:W.codeIn K fS "outside" = true) (ef:W.keepIn K (.ref cv)=true)
   (c3:W.nsIn K mainGlobals "check_bounds" = some (some (.ref aJ)))
   (hA:K.lookup aJ=some ⟨fT,fY,.func (W.fnOf "check_bounds" "check_bounds" (zb8 zh2) (za9 zh2) (za4 zh2) .none fU fV fW fZ cw fX),f0⟩)
   (hB:W.codeIn K cw "check_bounds" = true) (bA:W.keepIn K (.ref aJ)=true)
   (du:W.nsIn K mainGlobals "check_hefts" = some (some (.ref aS)))
   (iQ:K.lookup aS=some ⟨gB,gG,.func (W.fnOf "check_hefts" "check_hefts" (zb8 zi3) (za9 zi3) (za4 zi3) .none gC gD gE gH cV gF),gI⟩)
   (iR:W.codeIn K cV "check_hefts" = true) (bK:W.keepIn K (.ref aS)=true)
   (b1:W.nsIn K mainGlobals "check_standings" = some (some (.ref al)))
   (eZ:K.lookup al=some ⟨dU,dZ,.func (W.fnOf "check_standings" "check_standings" (zb8 zf3) (za9 zf3) (za4 zf3) .none dV dW dX d0 bH dY),d1⟩)
   (e0:W.codeIn K bH "check_standings" = true) (aO:W.keepIn K (.ref al)=true)
   (dv:W.nsIn K mainGlobals "as_standing" = some (some (.ref aT)))
   (iS:K.lookup aT=some ⟨gJ,gO,.func (W.fnOf "as_standing" "as_standing" (zb8 zi4) (za9 zi4) (za4 zi4) .none gK gL gM gP cW gN),gQ⟩)
   (iT:W.codeIn K cW "as_standing" = true) (bL:W.keepIn K (.ref aT)=true)
   (nU:W.nsIn K mainGlobals "tilt" = some (some (.ref f1)))
   (pU:K.lookup f1=some ⟨oX,o2,.func (W.fnOf "tilt" "tilt" (zb8 zv9) (za9 zv9) (za4 zv9) .none oY oZ o0 o3 k8 o1),o4⟩)
   (pV:W.codeIn K k8 "tilt" = true) (jY:W.keepIn K (.ref f1)=true)
   (nV:W.nsIn K mainGlobals "side" = some (some (.ref f2)))
   (pW:K.lookup f2=some ⟨o5,pa,.func (W.fnOf "side" "side" (zb8 zC4) (za9 zC4) (za4 zC4) .none o6 o7 o8 pb k9 o9),pc⟩)
   (pX:W.codeIn K k9 "side" = true) (jZ:W.keepIn K (.ref f2)=true)
   (nW:W.nsIn K mainGlobals "past" = some (some (.ref f3)))
   (pY:K.lookup f3=some ⟨pd,pi,.func (W.fnOf "past" "past" (zb8 zC5) (za9 zC5) (za4 zC5) .none pe pf pg pj la ph),pk⟩)
   (pZ:W.codeIn K la "past" = true) (j0:W.keepIn K (.ref f3)=true)
   (lc:W.nsIn K mainGlobals "keeps" = some (some (.ref ev)))
   (pu:K.lookup ev=some ⟨n5,oa,.func (W.fnOf "keeps" "keeps" (zb8 zx4) (za9 zx4) (za4 zx4) .none n6 n7 n8 ob i6 n9),oc⟩)
   (pv:W.codeIn K i6 "keeps" = true) (hC:W.keepIn K (.ref ev)=true)
   (e4:W.findIn K (.ref ak) "__init__" = some (some (.ref aQ)))
   (kW:W.isFn K (.ref aQ)=true)
   (kX:K.lookup aQ=some ⟨i7,jc,.func (W.fnOf "__init__" "Play.__init__" (zb8 zk6) (za9 zk6) (za4 zk6) .none i8 i9 ja jd d2 jb),je⟩)
   (kY:W.codeIn K d2 "Play.__init__" = true) (cJ:W.keepIn K (.ref aQ)=true)
   (e5:W.findIn K (.ref ak) "back" = some (some (.ref aR)))
   (kZ:W.isFn K (.ref aR)=true)
   (k0:K.lookup aR=some ⟨jf,jk,.func (W.fnOf "back" "Play.back" (zb8 zk7) (za9 zk7) (za4 zk7) .none jg jh ji jl d3 jj),jm⟩)
   (k1:W.codeIn K d3 "Play.back" = true) (bG:W.keepIn K (.ref aR)=true)
   (eg:W.nsIn K mainGlobals "write_move" = some (some (.ref a5)))
   (j1:K.lookup a5=some ⟨ii,io,.func (W.fnOf "write_move" "write_move" (zb8 zj6) (za9 zj6) (za4 zj6) .none ij ik il ip dr im),iq⟩)
   (j2:W.codeIn K dr "write_move" = true) (ca:W.keepIn K (.ref a5)=true)
   (e6:W.nsIn K mainGlobals "read_beam" = some (some (.ref bD)))
   (k2:K.lookup bD=some ⟨jn,js,.func (W.fnOf "read_beam" "read_beam" (zb8 ze8) (za9 ze8) (za4 ze8) .none jo jp jq jt d4 jr),ju⟩)
   (k3:W.codeIn K d4 "read_beam" = true) (cK:W.keepIn K (.ref bD)=true)
   (dw:W.nsIn K mainGlobals "read_weight" = some (some (.ref aU)))
   (iU:K.lookup aU=some ⟨gR,gW,.func (W.fnOf "read_weight" "read_weight" (zb8 zi5) (za9 zi5) (za4 zi5) .none gS gT gU gX cX gV),gY⟩)
   (iV:W.codeIn K cX "read_weight" = true) (bM:W.keepIn K (.ref aU)=true)
   (c4:W.nsIn K mainGlobals "words_behind" = some (some (.ref aK)))
   (hD:K.lookup aK=some ⟨f4,f9,.func (W.fnOf "words_behind" "words_behind" (zb8 zh3) (za9 zh3) (za4 zh3) .none f5 f6 f7 ga cx f8),gb⟩)
   (hE:W.codeIn K cx "words_behind" = true) (bB:W.keepIn K (.ref aK)=true)
   (eh:W.nsIn K mainGlobals "read_place" = some (some (.ref a6)))
   (j3:K.lookup a6=some ⟨ir,ix,.func (W.fnOf "read_place" "read_place" (zb8 zj7) (za9 zj7) (za4 zj7) .none it iu iv iy ds iw),iz⟩)
   (j4:W.codeIn K ds "read_place" = true) (cb:W.keepIn K (.ref a6)=true)
   (dx:W.nsIn K mainGlobals "read_number" = some (some (.ref aV)))
   (iW:K.lookup aV=some ⟨gZ,g4,.func (W.fnOf "read_number" "read_number" (zb8 zi6) (za9 zi6) (za4 zi6) .none g0 g1 g2 g5 cY g3),g6⟩)
   (iX:W.codeIn K cY "read_number" = true) (bN:W.keepIn K (.ref aV)=true)
   (e7:W.nsIn K mainGlobals "is_number" = some (some (.ref bE)))
   (k4:K.lookup bE=some ⟨jv,jA,.func (W.fnOf "is_number" "is_number" (zb8 zh5) (za9 zh5) (za4 zh5) .none jw jx jy jB d5 jz),jC⟩)
   (k5:W.codeIn K d5 "is_number" = true) (cL:W.keepIn K (.ref bE)=true)
   (id:W.nsIn K mainGlobals "answers" = some (some (.ref cy)))
   (nX:K.lookup cy=some ⟨lr,lw,.func (W.fnOf "answers" "answers" (zb8 zp6) (za9 zp6) (za4 zp6) .none ls lt lu lx gc lv),ly⟩)
   (nY:W.codeIn K gc "answers" = true) (ei:W.keepIn K (.ref cy)=true)
   (j5:W.nsIn K mainGlobals "answer" = some (some (.ref c9)))
   (ow:K.lookup c9=some ⟨mD,mI,.func (W.fnOf "answer" "answer" (zb8 zs2) (za9 zs2) (za4 zs2) .none mE mF mG mJ h3 mH),mK⟩)
   (ox:W.codeIn K h3 "answer" = true) (fr:W.keepIn K (.ref c9)=true)
   (ej:W.nsIn K mainGlobals "answer_row" = some (some (.ref a7)))
   (j6:K.lookup a7=some ⟨iA,iF,.func (W.fnOf "answer_row" "answer_row" (zb8 zj8) (za9 zj8) (za4 zj8) .none iB iC iD iG dt iE),iH⟩)
   (j7:W.codeIn K dt "answer_row" = true) (cc:W.keepIn K (.ref a7)=true)
   (e8:W.nsIn K mainGlobals "tell_tilt" = some (some (.ref bF)))
   (k6:K.lookup bF=some ⟨jD,jI,.func (W.fnOf "tell_tilt" "tell_tilt" (zb8 zk8) (za9 zk8) (za4 zk8) .none jE jF jG jJ d6 jH),jK⟩)
   (k7:W.codeIn K d6 "tell_tilt" = true) (cM:W.keepIn K (.ref bF)=true)
   (nZ:W.nsIn K mainGlobals "_law_at" = some (some (.ref gd)))
   (p0:K.lookup gd=some ⟨pl,pq,.func (W.fnOf "_law_at" "_law_at" (zb8 zC6) (za9 zC6) (za4 zC6) .none pm pn po pr lb pp),pt⟩)
   (p1:W.codeIn K lb "_law_at" = true) (j8:W.keepIn K (.ref gd)=true)
   (j9:W.nsIn K mainGlobals "_law_figs" = some (some (.ref da)))
   (oy:K.lookup da=some ⟨mL,mQ,.func (W.fnOf "_law_figs" "_law_figs" (zb8 zs3) (za9 zs3) (za4 zs3) .none mM mN mO mR h4 mP),mS⟩)
   (oz:W.codeIn K h4 "_law_figs" = true) (fs:W.keepIn K (.ref da)=true)
   (ie:W.nsIn K mainGlobals "_law_shape" = some (some (.ref cz)))
   (n0:K.lookup cz=some ⟨lz,lE,.func (W.fnOf "_law_shape" "_law_shape" (zb8 zk9) (za9 zk9) (za4 zk9) .none lA lB lC lF ge lD),lG⟩)
   (n1:W.codeIn K ge "_law_shape" = true) (ek:W.keepIn K (.ref cz)=true)
   (ld:W.nsIn K mainGlobals "_law_put" = some (some (.ref ew)))
   (pw:K.lookup ew=some ⟨od,oj,.func (W.fnOf "_law_put" "_law_put" (zb8 zx5) (za9 zx5) (za4 zx5) .none oe og oh ok jL oi),ol⟩)
   (px:W.codeIn K jL "_law_put" = true) (hF:W.keepIn K (.ref ew)=true)
   (ka:W.nsIn K mainGlobals "_law_tilt" = some (some (.ref db)))
   (oA:K.lookup db=some ⟨mT,mY,.func (W.fnOf "_law_tilt" "_law_tilt" (zb8 zs4) (za9 zs4) (za4 zs4) .none mU mV mW mZ h5 mX),m0⟩)
   (oB:W.codeIn K h5 "_law_tilt" = true) (ft:W.keepIn K (.ref db)=true)
   (le:W.nsIn K mainGlobals "_law_say" = some (some (.ref ex)))
   (py:K.lookup ex=some ⟨om,os,.func (W.fnOf "_law_say" "_law_say" (zb8 zx6) (za9 zx6) (za4 zx6) .none on oo op ot jM oq),ou⟩)
   (pz:W.codeIn K jM "_law_say" = true) (hG:W.keepIn K (.ref ex)=true)
   (kb:W.nsIn K mainGlobals "_law_lean" = some (some (.ref dc)))
   (oC:K.lookup dc=some ⟨m1,m6,.func (W.fnOf "_law_lean" "_law_lean" (zb8 zs5) (za9 zs5) (za4 zs5) .none m2 m3 m4 m7 h6 m5),m8⟩)
   (oD:W.codeIn K h6 "_law_lean" = true) (fu:W.keepIn K (.ref dc)=true)
   (gx:W.nsIn K mainGlobals "_law_number" = some (some (.ref b5)))
   (mc:K.lookup b5=some ⟨ku,kz,.func (W.fnOf "_law_number" "_law_number" (zb8 zm2) (za9 zm2) (za4 zm2) .none kv kw kx kA e1 ky),kB⟩)
   (md:W.codeIn K e1 "_law_number" = true) (di:W.keepIn K (.ref b5)=true)
   (kc:W.nsIn K mainGlobals "_law_spot" = some (some (.ref dd)))
   (oE:K.lookup dd=some ⟨m9,ne,.func (W.fnOf "_law_spot" "_law_spot" (zb8 zs6) (za9 zs6) (za4 zs6) .none na nb nc nf h7 nd),ng⟩)
   (oF:W.codeIn K h7 "_law_spot" = true) (fv:W.keepIn K (.ref dd)=true)
   (kd:W.nsIn K mainGlobals "_law_edit" = some (some (.ref de)))
   (oG:K.lookup de=some ⟨nh,nm,.func (W.fnOf "_law_edit" "_law_edit" (zb8 zs7) (za9 zs7) (za4 zs7) .none ni nj nk nn h8 nl),no⟩)
   (oH:W.codeIn K h8 "_law_edit" = true) (fw:W.keepIn K (.ref de)=true)
   (ke:W.nsIn K mainGlobals "_law_menu" = some (some (.ref df)))
   (oI:K.lookup df=some ⟨np,nu,.func (W.fnOf "_law_menu" "_law_menu" (zb8 zn0) (za9 zn0) (za4 zn0) .none nq nr ns nv h9 nt),nw⟩)
   (oJ:W.codeIn K h9 "_law_menu" = true) (fx:W.keepIn K (.ref df)=true)
   (cC:W.nsIn K mainGlobals "_law_is_standing" = some (some (.ref ay)))
   (gy:K.lookup ay=some ⟨fc,fi,.func (W.fnOf "_law_is_standing" "_law_is_standing" (zb8 zg2) (za9 zg2) (za4 zg2) .none fe ff fg fj b7 fh),fk⟩)
   (gz:W.codeIn K b7 "_law_is_standing" = true) (a8:W.keepIn K (.ref ay)=true)
   (kf:W.nsIn K mainGlobals "_law_rows" = some (some (.ref dg)))
   (oK:K.lookup dg=some ⟨nx,nC,.func (W.fnOf "_law_rows" "_law_rows" (zb8 zn1) (za9 zn1) (za4 zn1) .none ny nz nA nD ia nB),nE⟩)
   (oL:W.codeIn K ia "_law_rows" = true) (fy:W.keepIn K (.ref dg)=true)
   (cd:W.nsIn K mainGlobals "_law_rows_changed" = some (some (.ref au)))
   (fz:K.lookup au=some ⟨eP,eU,.func (W.fnOf "_law_rows_changed" "_law_rows_changed" (zb8 zg0) (za9 zg0) (za4 zg0) .none eQ eR eS eV b0 eT),eW⟩)
   (fA:W.codeIn K b0 "_law_rows_changed" = true) (a0:W.keepIn K (.ref au)=true)
   (gA:W.nsIn K mainGlobals "_law_parsed" = some (some (.ref b6)))
   (me:K.lookup b6=some ⟨kC,kH,.func (W.fnOf "_law_parsed" "_law_parsed" (zb8 zm3) (za9 zm3) (za4 zm3) .none kD kE kF kI e2 kG),kJ⟩)
   (mf:W.codeIn K e2 "_law_parsed" = true) (dj:W.keepIn K (.ref b6)=true)
   (ig:W.nsIn K mainGlobals "_law_sized" = some (some (.ref cA)))
   (n2:K.lookup cA=some ⟨lH,lM,.func (W.fnOf "_law_sized" "_law_sized" (zb8 zp7) (za9 zp7) (za4 zp7) .none lI lJ lK lN gf lL),lO⟩)
   (n3:W.codeIn K gf "_law_sized" = true) (el:W.keepIn K (.ref cA)=true)
   (kg:W.nsIn K mainGlobals "_law_told" = some (some (.ref dh)))
   (oM:K.lookup dh=some ⟨nF,nK,.func (W.fnOf "_law_told" "_law_told" (zb8 zs8) (za9 zs8) (za4 zs8) .none nG nH nI nL ib nJ),nM⟩)
   (oN:W.codeIn K ib "_law_told" = true) (fB:W.keepIn K (.ref dh)=true)
   (c5:W.nsIn K mainGlobals "_law_near_limit" = some (some (.ref aL)))
   (hH:K.lookup aL=some ⟨gg,gl,.func (W.fnOf "_law_near_limit" "_law_near_limit" (zb8 zh4) (za9 zh4) (za4 zh4) .none gh gi gj gm cB gk),gn⟩)
   (hI:W.codeIn K cB "_law_near_limit" = true) (bC:W.keepIn K (.ref aL)=true)
   (mh:W.nsIn K mainGlobals "law" = some (some (.ref lP)))
   (p2:K.lookup lP=some ⟨pK,pP,.func (W.fnOf "law" "law" (zb8 zI8) (za9 zI8) (za4 zI8) .none pL pM pN pQ nN pO),pR⟩)
   (p3:W.codeIn K nN "law" = true) (mi:W.keepIn K (.ref lP)=true)
   (pA:W.plainGet K ao Str.empty=true) (pB:W.hasDictIn K ao=true) (pC:W.plainOver K ao=true) (pD:W.findIn K (.ref ao) "__setattr__" = some (some (.builtin "object.__setattr__"))) (lf:W.makesIn K ao=true) (pE:W.keepIn K (.ref ao)=true)
   (cD:W.findIn K (.ref ao) "notches" = some none)
   (em:W.findIn K (.ref ao) "room" = some none)
   (dy:W.findIn K (.ref ao) "hefts" = some none)
   (dz:W.findIn K (.ref ao) "limit" = some none)
   (pF:W.plainGet K ak Str.empty=true) (pG:W.hasDictIn K ak=true) (pH:W.plainOver K ak=true) (pI:W.findIn K (.ref ak) "__setattr__" = some (some (.builtin "object.__setattr__"))) (lg:W.makesIn K ak=true) (pJ:W.keepIn K (.ref ak)=true)
   (en:W.findIn K (.ref ak) "beam" = some none)
   (dA:W.findIn K (.ref ak) "start" = some none)
   (ce:W.findIn K (.ref ak) "standing" = some none)
   (eo:W.findIn K (.ref ak) "made" = some none)
   (mj:K.lookup ad=some (excClassObj lQ lR ad nO lS go true lT kK lU kL lV lW lX lY lZ l0 "ValueError.__new__")) (mk:MroV go) (ml:W.findIn K (.ref ad) "__setattr__" = some (some (.builtin "object.__setattr__"))) (mm:W.keepIn K (.ref ad)=true)
   (hJ:K.lookup aa=some (excClassObj g7 g8 aa iI g9 cZ true ha gp hb gq hc hd he hf hg hh "ValueError.__new__")) (hK:MroV cZ) (hL:W.findIn K (.ref aa) "__setattr__" = some (some (.builtin "object.__setattr__"))) (hM:W.keepIn K (.ref aa)=true)
   (kh:K.lookup ab=some (excClassObj jN jO ab kM jP d7 true jQ iJ jR iK jS jT jU jV jW jX "ValueError.__new__")) (ki:MroV d7) (kj:W.findIn K (.ref ab) "__setattr__" = some (some (.builtin "object.__setattr__"))) (kk:W.keepIn K (.ref ab)=true)
   (hN:K.lookup ac=some (excClassObj hi hj ac iL hk c0 true hm gr hn gs ho hp hq hr hs ht "ValueError.__new__")) (hO:MroV c0) (hP:W.findIn K (.ref ac) "__setattr__" = some (some (.builtin "object.__setattr__"))) (hQ:W.keepIn K (.ref ac)=true)
   (mn:K.lookup ae=some (excClassObj l1 l2 ae nP l3 gt true l4 kN l5 kO l6 l7 l8 l9 ma mb "ValueError.__new__")) (mo:MroV gt) (mp:W.findIn K (.ref ae) "__setattr__" = some (some (.builtin "object.__setattr__"))) (mq:W.keepIn K (.ref ae)=true)
   (b2:W.findIn K (.ref ad) "reason" = some none)
   (cE:W.findIn K (.ref ad) "word" = some none)
   (a1:W.findIn K (.ref aa) "reason" = some none)
   (bp:W.findIn K (.ref aa) "word" = some none)
   (bq:W.findIn K (.ref ab) "reason" = some none)
   (b3:W.findIn K (.ref ab) "word" = some none)
   (a2:W.findIn K (.ref ac) "reason" = some none)
   (br:W.findIn K (.ref ac) "word" = some none)
   (b4:W.findIn K (.ref ae) "reason" = some none)
   (cF:W.findIn K (.ref ae) "word" = some none)
   (xw1:W.specialIn K (.builtin "object.__class__") "__get__" = some (some (.builtin "getset_descriptor.__get__")))
   (xw2:W.takesIn K (.builtin "object.__class__")=some true)
   (aD:W.clsIn K af=some iM) (aE:W.typeIn K (.ref af)=some (.type "type"))
   (a9:W.clsIn K ae=some kP) (ba:W.typeIn K (.ref ae)=some (.type "type"))
   (bb:W.clsIn K ad=some kQ) (bc:W.typeIn K (.ref ad)=some (.type "type"))
   (ap:W.clsIn K aa=some gu) (aq:W.typeIn K (.ref aa)=some (.type "type"))
   (aF:W.clsIn K ab=some iN) (aG:W.typeIn K (.ref ab)=some (.type "type"))
   (aH:W.subIn K (.ref af) (.type "BaseException")=some true)
   (bd:W.subIn K (.ref ae) (.type "BaseException")=some true)
   (be:W.subIn K (.ref ad) (.type "BaseException")=some true)
   (ar:W.subIn K (.ref aa) (.type "BaseException")=some true)
   (aI:W.subIn K (.ref ab) (.type "BaseException")=some true)
   (mr:W.findIn K (.ref ad) "__getattribute__" = some (some (.builtin "BaseException.__getattribute__"))) (ms:W.findIn K (.ref ad) "__getattr__" = some none) (mt:W.mroIn K ad (.type "BaseException")=some true) (mu:W.hasDictIn K ad=true) (mv:W.findIn K (.ref ad) "__class__" = some (some (.builtin "object.__class__"))) (mw:W.mroIn K ad (.type "object")=some true)
   (dk:W.subIn K (.ref ad) (.ref af)=some true)
   (ep:W.subIn K (.ref ad) (.ref ae)=some false)
   (eq:W.subIn K (.ref ad) (.ref ad)=some true)
   (cN:W.subIn K (.ref ad) (.ref aa)=some false)
   (dl:W.subIn K (.ref ad) (.ref ab)=some false)
   (hR:W.findIn K (.ref aa) "__getattribute__" = some (some (.builtin "BaseException.__getattribute__"))) (hS:W.findIn K (.ref aa) "__getattr__" = some none) (hT:W.mroIn K aa (.type "BaseException")=some true) (hU:W.hasDictIn K aa=true) (hV:W.findIn K (.ref aa) "__class__" = some (some (.builtin "object.__class__"))) (hW:W.mroIn K aa (.type "object")=some true)
   (cf:W.subIn K (.ref aa) (.ref af)=some true)
   (cO:W.subIn K (.ref aa) (.ref ae)=some false)
   (cP:W.subIn K (.ref aa) (.ref ad)=some false)
   (bO:W.subIn K (.ref aa) (.ref aa)=some true)
   (cg:W.subIn K (.ref aa) (.ref ab)=some false)
   (kl:W.findIn K (.ref ab) "__getattribute__" = some (some (.builtin "BaseException.__getattribute__"))) (km:W.findIn K (.ref ab) "__getattr__" = some none) (kn:W.mroIn K ab (.type "BaseException")=some true) (ko:W.hasDictIn K ab=true) (kp:W.findIn K (.ref ab) "__class__" = some (some (.builtin "object.__class__"))) (kq:W.mroIn K ab (.type "object")=some true)
   (cQ:W.subIn K (.ref ab) (.ref af)=some true)
   (dm:W.subIn K (.ref ab) (.ref ae)=some false)
   (dn:W.subIn K (.ref ab) (.ref ad)=some false)
   (ch:W.subIn K (.ref ab) (.ref aa)=some false)
   (cR:W.subIn K (.ref ab) (.ref ab)=some true)
   (hX:W.findIn K (.ref ac) "__getattribute__" = some (some (.builtin "BaseException.__getattribute__"))) (hY:W.findIn K (.ref ac) "__getattr__" = some none) (hZ:W.mroIn K ac (.type "BaseException")=some true) (h0:W.hasDictIn K ac=true) (h1:W.findIn K (.ref ac) "__class__" = some (some (.builtin "object.__class__"))) (h2:W.mroIn K ac (.type "object")=some true)
   (ci:W.subIn K (.ref ac) (.ref af)=some true)
   (cS:W.subIn K (.ref ac) (.ref ae)=some false)
   (cT:W.subIn K (.ref ac) (.ref ad)=some false)
   (bP:W.subIn K (.ref ac) (.ref aa)=some false)
   (cj:W.subIn K (.ref ac) (.ref ab)=some false)
   (mx:W.findIn K (.ref ae) "__getattribute__" = some (some (.builtin "BaseException.__getattribute__"))) (my:W.findIn K (.ref ae) "__getattr__" = some none) (mz:W.mroIn K ae (.type "BaseException")=some true) (mA:W.hasDictIn K ae=true) (mB:W.findIn K (.ref ae) "__class__" = some (some (.builtin "object.__class__"))) (mC:W.mroIn K ae (.type "object")=some true)
   (dp:W.subIn K (.ref ae) (.ref af)=some true)
   (er:W.subIn K (.ref ae) (.ref ae)=some true)
   (es:W.subIn K (.ref ae) (.ref ad)=some false)
   (cU:W.subIn K (.ref ae) (.ref aa)=some false)
   (dq:W.subIn K (.ref ae) (.ref ab)=some false)
   (kr:W.specialIn K (.ref af) "__getattribute__" = some (some (.builtin "type.__getattribute__"))) (ks:W.readsIn K af (.type "type")=true) (kt:W.findCls K (.ref af) (.type "type") "__init__" = some (.val (.ref ag)))
   (lh:W.nsIn K mainGlobals "tuple" = some none)
   (oO:W.nsIn K mainGlobals "len" = some none)
   (li:W.nsIn K mainGlobals "range" = some none)
   (oP:W.nsIn K mainGlobals "sum" = some none)
   (oQ:W.nsIn K mainGlobals "zip" = some none)
   (oR:W.nsIn K mainGlobals "abs" = some none)
   (oS:W.nsIn K mainGlobals "int" = some none)
   (oT:W.nsIn K mainGlobals "all" = some none)
   (oU:W.nsIn K mainGlobals "str" = some none)
   (oV:W.nsIn K mainGlobals "min" = some none)
   (oW:W.nsIn K mainGlobals "max" = some none)
   (n4:W.nsIn K mainGlobals "list" = some none)
   (et:W.nsIn K mainGlobals "isinstance" = some none)
   (c6:W.nsIn K mainGlobals "MOST_NOTCHES" = some (some (.int 4 bu)))
   (e9:W.nsIn K mainGlobals "MOST_ROOM" = some (some (.int 3 cG)))
   (eu:W.nsIn K mainGlobals "MOST_LIMIT" = some (some (.int 400 b8)))
   (c7:W.nsIn K mainGlobals "MOST_WEIGHTS" = some (some (.int 5 bv)))
   (fb:W.nsIn K mainGlobals "MOST_HEFT" = some (some (.int 20 cH)))
   (ck:W.nsIn K mainGlobals "MOST_STANDINGS" = some (some (.int 1000 aY)))
   (c8:W.nsIn K mainGlobals "MOST_FIGURES" = some (some (.int 4 bw)))
   (ih:W.nsIn K mainGlobals "FIGURES" = some (some (.str (Str.ofString "0123456789") d8))) :
   ∃ fd:FuncData,(∀ (s:Shared) (v:Value),BindsTo s fd ⟨[v],[]⟩ [("_law_script",v)])/\∀ base:Heap,K.In base->base.Ns mainGlobals mg->FnOk l.prog w K mg base CX0 12 fa fd ["_law_script"] (zN0 K):=by
 have e:=hfa.symm.trans (W.mg_of X G mh)
 cases e
 have F_BeamError_init:=zx3 (st:=zd6) fm fn av
 have b_BeamError_init:zc6 K _ ["self","reason","word"] []:=fun s us X hl=>by
   rw[List.append_nil] at hl ⊢
   match us,hl with
   | [_,_,_],_=>exact BindsTo.of_defaults (fd:=W.fnOf "__init__" "BeamError.__init__" (zb8 zd6) (za9 zd6) (za4 zd6) (.ref aW) bQ bR bS bU aM bT) rfl (X _ _ eX) rfl rfl rfl
 have F_BadBeam_init:=zx3 (st:=ze5) hv hw bx
 have b_BadBeam_init:zc6 K _ ["self","reason"] []:=fun s us X hl=>by
   rw[List.append_nil] at hl ⊢
   match us,hl with
   | [_,_],_=>exact BindsTo.of_defaults (fd:=W.fnOf "__init__" "BadBeam.__init__" (zb8 ze5) (za9 ze5) (za4 ze5) (.ref bs) cl cm cn cp a3 co) rfl (X _ _ gv) rfl rfl rfl
 have F_BadStanding_init:=zx3 (st:=zd1) ea eb aB
 have b_BadStanding_init:zc6 K _ ["self","reason"] []:=fun s us X hl=>by
   rw[List.append_nil] at hl ⊢
   match us,hl with
   | [_,_],_=>exact BindsTo.of_defaults (fd:=W.fnOf "__init__" "BadStanding.__init__" (zb8 zd1) (za9 zd1) (za4 zd1) (.ref az) bf bg bh bj aw bi) rfl (X _ _ dR) rfl rfl rfl
 have F_StartPast_init:=zx3 (st:=zd7) fp fq aZ
 have b_StartPast_init:zc6 K _ ["self","reason"] []:=fun s us X hl=>by
   rw[List.append_nil] at hl ⊢
   match us,hl with
   | [_,_],_=>exact BindsTo.of_defaults (fd:=W.fnOf "__init__" "StartPast.__init__" (zb8 zd7) (za9 zd7) (za4 zd7) (.ref aX) bV bW bX bZ aN bY) rfl (X _ _ eY) rfl rfl rfl
 have F_NothingBack_init:=zx3 (st:=zd2) ed ee aC
 have b_NothingBack_init:zc6 K _ ["self","reason"] []:=fun s us X hl=>by
   rw[List.append_nil] at hl ⊢
   match us,hl with
   | [_,_],_=>exact BindsTo.of_defaults (fd:=W.fnOf "__init__" "NothingBack.__init__" (zb8 zd2) (za9 zd2) (za4 zd2) (.ref aA) bk bl bm bo ax bn) rfl (X _ _ dS) rfl rfl rfl
 have F_BadText_init:=zx3 (st:=ze6) hy hz bz
 have b_BadText_init:zc6 K _ ["self","reason"] []:=fun s us X hl=>by
   rw[List.append_nil] at hl ⊢
   match us,hl with
   | [_,_],_=>exact BindsTo.of_defaults (fd:=W.fnOf "__init__" "BadText.__init__" (zb8 ze6) (za9 ze6) (za4 ze6) (.ref bt) cq cr cs cu a4 ct) rfl (X _ _ gw) rfl rfl rfl
 have F_Beam_init:=zc9 (st:=zk5) kU kV cI
 have b_Beam_init:=F_Beam_init.binds (ps:=["self","notches","room","hefts","limit"]) fun _ _ _ _ _ _ us hl=>by obtain ⟨x0,x1,x2,x3,x4,rfl⟩:=ar5 hl;rfl
 have F_outside:=zc9 (st:=zp0) nS nT ef
 have b_outside:=F_outside.binds (ps:=["number","low","high"]) fun _ _ _ _ _ _ us hl=>by obtain ⟨x0,x1,x2,rfl⟩:=ar3 hl;rfl
 have F_check_bounds:=zc9 (st:=zh2) hA hB bA
 have b_check_bounds:=F_check_bounds.binds (ps:=["notches","room","limit"]) fun _ _ _ _ _ _ us hl=>by obtain ⟨x0,x1,x2,rfl⟩:=ar3 hl;rfl
 have F_check_hefts:=zc9 (st:=zi3) iQ iR bK
 have b_check_hefts:=F_check_hefts.binds (ps:=["hefts"]) fun _ _ _ _ _ _ us hl=>by obtain ⟨x0,rfl⟩:=ar1 hl;rfl
 have F_check_standings:=zc9 (st:=zf3) eZ e0 aO
 have b_check_standings:=F_check_standings.binds (ps:=["notches","weights"]) fun _ _ _ _ _ _ us hl=>by obtain ⟨x0,x1,rfl⟩:=ar2 hl;rfl
 have F_as_standing:=zc9 (st:=zi4) iS iT bL
 have b_as_standing:=F_as_standing.binds (ps:=["beam","standing"]) fun _ _ _ _ _ _ us hl=>by obtain ⟨x0,x1,rfl⟩:=ar2 hl;rfl
 have F_tilt:=zc9 (st:=zv9) pU pV jY
 have b_tilt:=F_tilt.binds (ps:=["beam","standing"]) fun _ _ _ _ _ _ us hl=>by obtain ⟨x0,x1,rfl⟩:=ar2 hl;rfl
 have F_side:=zc9 (st:=zC4) pW pX jZ
 have b_side:=F_side.binds (ps:=["beam","standing"]) fun _ _ _ _ _ _ us hl=>by obtain ⟨x0,x1,rfl⟩:=ar2 hl;rfl
 have F_past:=zc9 (st:=zC5) pY pZ j0
 have b_past:=F_past.binds (ps:=["beam","tipped"]) fun _ _ _ _ _ _ us hl=>by obtain ⟨x0,x1,rfl⟩:=ar2 hl;rfl
 have F_keeps:=zc9 (st:=zx4) pu pv hC
 have b_keeps:=F_keeps.binds (ps:=["beam","standing"]) fun _ _ _ _ _ _ us hl=>by obtain ⟨x0,x1,rfl⟩:=ar2 hl;rfl
 have F_Play_init:=zc9 (st:=zk6) kX kY cJ
 have b_Play_init:=F_Play_init.binds (ps:=["self","beam","start"]) fun _ _ _ _ _ _ us hl=>by obtain ⟨x0,x1,x2,rfl⟩:=ar3 hl;rfl
 have F_Play_back:=zc9 (st:=zk7) k0 k1 bG
 have b_Play_back:=F_Play_back.binds (ps:=["self"]) fun _ _ _ _ _ _ us hl=>by obtain ⟨x0,rfl⟩:=ar1 hl;rfl
 have F_write_move:=zc9 (st:=zj6) j1 j2 ca
 have b_write_move:=F_write_move.binds (ps:=["move"]) fun _ _ _ _ _ _ us hl=>by obtain ⟨x0,rfl⟩:=ar1 hl;rfl
 have F_read_beam:=zc9 (st:=ze8) k2 k3 cK
 have b_read_beam:=F_read_beam.binds (ps:=["text"]) fun _ _ _ _ _ _ us hl=>by obtain ⟨x0,rfl⟩:=ar1 hl;rfl
 have F_read_weight:=zc9 (st:=zi5) iU iV bM
 have b_read_weight:=F_read_weight.binds (ps:=["row"]) fun _ _ _ _ _ _ us hl=>by obtain ⟨x0,rfl⟩:=ar1 hl;rfl
 have F_words_behind:=zc9 (st:=zh3) hD hE bB
 have b_words_behind:=F_words_behind.binds (ps:=["front","row","many"]) fun _ _ _ _ _ _ us hl=>by obtain ⟨x0,x1,x2,rfl⟩:=ar3 hl;rfl
 have F_read_place:=zc9 (st:=zj7) j3 j4 cb
 have b_read_place:=F_read_place.binds (ps:=["text"]) fun _ _ _ _ _ _ us hl=>by obtain ⟨x0,rfl⟩:=ar1 hl;rfl
 have F_read_number:=zc9 (st:=zi6) iW iX bN
 have b_read_number:=F_read_number.binds (ps:=["text"]) fun _ _ _ _ _ _ us hl=>by obtain ⟨x0,rfl⟩:=ar1 hl;rfl
 have F_is_number:=zc9 (st:=zh5) k4 k5 cL
 have b_is_number:=F_is_number.binds (ps:=["text"]) fun _ _ _ _ _ _ us hl=>by obtain ⟨x0,rfl⟩:=ar1 hl;rfl
 have F_answers:=zc9 (st:=zp6) nX nY ei
 have b_answers:=F_answers.binds (ps:=["text","rows"]) fun _ _ _ _ _ _ us hl=>by obtain ⟨x0,x1,rfl⟩:=ar2 hl;rfl
 have F_answer:=zc9 (st:=zs2) ow ox fr
 have b_answer:=F_answer.binds (ps:=["play","row"]) fun _ _ _ _ _ _ us hl=>by obtain ⟨x0,x1,rfl⟩:=ar2 hl;rfl
 have F_answer_row:=zc9 (st:=zj8) j6 j7 cc
 have b_answer_row:=F_answer_row.binds (ps:=["play","row"]) fun _ _ _ _ _ _ us hl=>by obtain ⟨x0,x1,rfl⟩:=ar2 hl;rfl
 have F_tell_tilt:=zc9 (st:=zk8) k6 k7 cM
 have b_tell_tilt:=F_tell_tilt.binds (ps:=["play"]) fun _ _ _ _ _ _ us hl=>by obtain ⟨x0,rfl⟩:=ar1 hl;rfl
 have F_w_at:=zc9 (st:=zC6) p0 p1 j8
 have b_w_at:=F_w_at.binds (ps:=["_law_script","_law_k"]) fun _ _ _ _ _ _ us hl=>by obtain ⟨x0,x1,rfl⟩:=ar2 hl;rfl
 have F_w_figs:=zc9 (st:=zs3) oy oz fs
 have b_w_figs:=F_w_figs.binds (ps:=["_law_cell","_law_count","_law_base","_law_mix"]) fun _ _ _ _ _ _ us hl=>by obtain ⟨x0,x1,x2,x3,rfl⟩:=ar4 hl;rfl
 have F_w_shape:=zc9 (st:=zk9) n0 n1 ek
 have b_w_shape:=F_w_shape.binds (ps:=["_law_script"]) fun _ _ _ _ _ _ us hl=>by obtain ⟨x0,rfl⟩:=ar1 hl;rfl
 have F_w_put:=zc9 (st:=zx5) pw px hF
 have b_w_put:=F_w_put.binds (ps:=["_law_script","_law_k","_law_more","_law_shape_here"]) fun _ _ _ _ _ _ us hl=>by obtain ⟨x0,x1,x2,x3,rfl⟩:=ar4 hl;rfl
 have F_w_tilt:=zc9 (st:=zs4) oA oB ft
 have b_w_tilt:=F_w_tilt.binds (ps:=["_law_hefts","_law_spots"]) fun _ _ _ _ _ _ us hl=>by obtain ⟨x0,x1,rfl⟩:=ar2 hl;rfl
 have F_w_say:=zc9 (st:=zx6) py pz hG
 have b_w_say:=F_w_say.binds (ps:=["_law_place"]) fun _ _ _ _ _ _ us hl=>by obtain ⟨x0,rfl⟩:=ar1 hl;rfl
 have F_w_lean:=zc9 (st:=zs5) oC oD fu
 have b_w_lean:=F_w_lean.binds (ps:=["_law_hefts","_law_spots"]) fun _ _ _ _ _ _ us hl=>by obtain ⟨x0,x1,rfl⟩:=ar2 hl;rfl
 have F_w_number:=zc9 (st:=zm2) mc md di
 have b_w_number:=F_w_number.binds (ps:=["_law_word"]) fun _ _ _ _ _ _ us hl=>by obtain ⟨x0,rfl⟩:=ar1 hl;rfl
 have F_w_spot:=zc9 (st:=zs6) oE oF fv
 have b_w_spot:=F_w_spot.binds (ps:=["_law_word"]) fun _ _ _ _ _ _ us hl=>by obtain ⟨x0,rfl⟩:=ar1 hl;rfl
 have F_w_edit:=zc9 (st:=zs7) oG oH fw
 have b_w_edit:=F_w_edit.binds (ps:=["_law_text","_law_cell"]) fun _ _ _ _ _ _ us hl=>by obtain ⟨x0,x1,rfl⟩:=ar2 hl;rfl
 have F_w_menu:=zc9 (st:=zn0) oI oJ fx
 have b_w_menu:=F_w_menu.binds (ps:=["_law_cell"]) fun _ _ _ _ _ _ us hl=>by obtain ⟨x0,rfl⟩:=ar1 hl;rfl
 have F_w_is_standing:=zc9 (st:=zg2) gy gz a8
 have b_w_is_standing:=F_w_is_standing.binds (ps:=["_law_notches","_law_room","_law_count","_law_spots"]) fun _ _ _ _ _ _ us hl=>by obtain ⟨x0,x1,x2,x3,rfl⟩:=ar4 hl;rfl
 have F_w_rows:=zc9 (st:=zn1) oK oL fy
 have b_w_rows:=F_w_rows.binds (ps:=["_law_script"]) fun _ _ _ _ _ _ us hl=>by obtain ⟨x0,rfl⟩:=ar1 hl;rfl
 have F_w_rows_changed:=zc9 (st:=zg0) fz fA a0
 have b_w_rows_changed:=F_w_rows_changed.binds (ps:=["_law_rows_here","_law_cell"]) fun _ _ _ _ _ _ us hl=>by obtain ⟨x0,x1,rfl⟩:=ar2 hl;rfl
 have F_w_parsed:=zc9 (st:=zm3) me mf dj
 have b_w_parsed:=F_w_parsed.binds (ps:=["_law_text"]) fun _ _ _ _ _ _ us hl=>by obtain ⟨x0,rfl⟩:=ar1 hl;rfl
 have F_w_sized:=zc9 (st:=zp7) n2 n3 el
 have b_w_sized:=F_w_sized.binds (ps:=["_law_read"]) fun _ _ _ _ _ _ us hl=>by obtain ⟨x0,rfl⟩:=ar1 hl;rfl
 have F_w_told:=zc9 (st:=zs8) oM oN fB
 have b_w_told:=F_w_told.binds (ps:=["_law_text","_law_rows_here"]) fun _ _ _ _ _ _ us hl=>by obtain ⟨x0,x1,rfl⟩:=ar2 hl;rfl
 have F_w_near_limit:=zc9 (st:=zh4) hH hI bC
 have b_w_near_limit:=F_w_near_limit.binds (ps:=["_law_rows_here","_law_cell"]) fun _ _ _ _ _ _ us hl=>by obtain ⟨x0,x1,rfl⟩:=ar2 hl;rfl
 have F_law:=zc9 (st:=zI8) p2 p3 mi
 have b_law:=F_law.binds (ps:=["_law_script"]) fun _ _ _ _ _ _ us hl=>by obtain ⟨x0,rfl⟩:=ar1 hl;rfl
 have T:Txt K mg { a_BeamError_init:=ag,d_BeamError_init:=_,a_BadBeam_init:=am,d_BadBeam_init:=_,a_BadStanding_init:=ah,d_BadStanding_init:=_,a_StartPast_init:=aj,d_StartPast_init:=_,a_NothingBack_init:=ai,d_NothingBack_init:=_,a_BadText_init:=an,d_BadText_init:=_,a_Beam_init:=aP,d_Beam_init:=_,a_outside:=cv,d_outside:=_,a_check_bounds:=aJ,d_check_bounds:=_,a_check_hefts:=aS,d_check_hefts:=_,a_check_standings:=al,d_check_standings:=_,a_as_standing:=aT,d_as_standing:=_,a_tilt:=f1,d_tilt:=_,a_side:=f2,d_side:=_,a_past:=f3,d_past:=_,a_keeps:=ev,d_keeps:=_,a_Play_init:=aQ,d_Play_init:=_,a_Play_back:=aR,d_Play_back:=_,a_write_move:=a5,d_write_move:=_,a_read_beam:=bD,d_read_beam:=_,a_read_weight:=aU,d_read_weight:=_,a_words_behind:=aK,d_words_behind:=_,a_read_place:=a6,d_read_place:=_,a_read_number:=aV,d_read_number:=_,a_is_number:=bE,d_is_number:=_,a_answers:=cy,d_answers:=_,a_answer:=c9,d_answer:=_,a_answer_row:=a7,d_answer_row:=_,a_tell_tilt:=bF,d_tell_tilt:=_,a_w_at:=gd,d_w_at:=_,a_w_figs:=da,d_w_figs:=_,a_w_shape:=cz,d_w_shape:=_,a_w_put:=ew,d_w_put:=_,a_w_tilt:=db,d_w_tilt:=_,a_w_say:=ex,d_w_say:=_,a_w_lean:=dc,d_w_lean:=_,a_w_number:=b5,d_w_number:=_,a_w_spot:=dd,d_w_spot:=_,a_w_edit:=de,d_w_edit:=_,a_w_menu:=df,d_w_menu:=_,a_w_is_standing:=ay,d_w_is_standing:=_,a_w_rows:=dg,d_w_rows:=_,a_w_rows_changed:=au,d_w_rows_changed:=_,a_w_parsed:=b6,d_w_parsed:=_,a_w_sized:=cA,d_w_sized:=_,a_w_told:=dh,d_w_told:=_,a_w_near_limit:=aL,d_w_near_limit:=_,a_law:=fa,d_law:=_,c_Beam:=ao,c_Play:=ak,c_BadBeam:=ad,c_BadStanding:=aa,c_StartPast:=ab,c_NothingBack:=ac,c_BadText:=ae,c_BeamError:=af,q_MOST_NOTCHES:=bu,q_MOST_ROOM:=cG,q_MOST_LIMIT:=b8,q_MOST_WEIGHTS:=bv,q_MOST_HEFT:=cH,q_MOST_STANDINGS:=aY,q_MOST_FIGURES:=bw,q_FIGURES:=d8 }:={ F_BeamError_init:=F_BeamError_init,b_BeamError_init:=b_BeamError_init,k_BeamError_init:=av,F_BadBeam_init:=F_BadBeam_init,b_BadBeam_init:=b_BadBeam_init,k_BadBeam_init:=bx,F_BadStanding_init:=F_BadStanding_init,b_BadStanding_init:=b_BadStanding_init,k_BadStanding_init:=aB,F_StartPast_init:=F_StartPast_init,b_StartPast_init:=b_StartPast_init,k_StartPast_init:=aZ,F_NothingBack_init:=F_NothingBack_init,b_NothingBack_init:=b_NothingBack_init,k_NothingBack_init:=aC,F_BadText_init:=F_BadText_init,b_BadText_init:=b_BadText_init,k_BadText_init:=bz,F_Beam_init:=F_Beam_init,b_Beam_init:=b_Beam_init,k_Beam_init:=cI,F_outside:=F_outside,b_outside:=b_outside,m_outside:=W.mg_of X G ic,k_outside:=ef,F_check_bounds:=F_check_bounds,b_check_bounds:=b_check_bounds,m_check_bounds:=W.mg_of X G c3,k_check_bounds:=bA,F_check_hefts:=F_check_hefts,b_check_hefts:=b_check_hefts,m_check_hefts:=W.mg_of X G du,k_check_hefts:=bK,F_check_standings:=F_check_standings,b_check_standings:=b_check_standings,m_check_standings:=W.mg_of X G b1,k_check_standings:=aO,F_as_standing:=F_as_standing,b_as_standing:=b_as_standing,m_as_standing:=W.mg_of X G dv,k_as_standing:=bL,F_tilt:=F_tilt,b_tilt:=b_tilt,m_tilt:=W.mg_of X G nU,k_tilt:=jY,F_side:=F_side,b_side:=b_side,m_side:=W.mg_of X G nV,k_side:=jZ,F_past:=F_past,b_past:=b_past,m_past:=W.mg_of X G nW,k_past:=j0,F_keeps:=F_keeps,b_keeps:=b_keeps,m_keeps:=W.mg_of X G lc,k_keeps:=hC,F_Play_init:=F_Play_init,b_Play_init:=b_Play_init,k_Play_init:=cJ,F_Play_back:=F_Play_back,b_Play_back:=b_Play_back,k_Play_back:=bG,F_write_move:=F_write_move,b_write_move:=b_write_move,m_write_move:=W.mg_of X G eg,k_write_move:=ca,F_read_beam:=F_read_beam,b_read_beam:=b_read_beam,m_read_beam:=W.mg_of X G e6,k_read_beam:=cK,F_read_weight:=F_read_weight,b_read_weight:=b_read_weight,m_read_weight:=W.mg_of X G dw,k_read_weight:=bM,F_words_behind:=F_words_behind,b_words_behind:=b_words_behind,m_words_behind:=W.mg_of X G c4,k_words_behind:=bB,F_read_place:=F_read_place,b_read_place:=b_read_place,m_read_place:=W.mg_of X G eh,k_read_place:=cb,F_read_number:=F_read_number,b_read_number:=b_read_number,m_read_number:=W.mg_of X G dx,k_read_number:=bN,F_is_number:=F_is_number,b_is_number:=b_is_number,m_is_number:=W.mg_of X G e7,k_is_number:=cL,F_answers:=F_answers,b_answers:=b_answers,m_answers:=W.mg_of X G id,k_answers:=ei,F_answer:=F_answer,b_answer:=b_answer,m_answer:=W.mg_of X G j5,k_answer:=fr,F_answer_row:=F_answer_row,b_answer_row:=b_answer_row,m_answer_row:=W.mg_of X G ej,k_answer_row:=cc,F_tell_tilt:=F_tell_tilt,b_tell_tilt:=b_tell_tilt,m_tell_tilt:=W.mg_of X G e8,k_tell_tilt:=cM,F_w_at:=F_w_at,b_w_at:=b_w_at,m_w_at:=W.mg_of X G nZ,k_w_at:=j8,F_w_figs:=F_w_figs,b_w_figs:=b_w_figs,m_w_figs:=W.mg_of X G j9,k_w_figs:=fs,F_w_shape:=F_w_shape,b_w_shape:=b_w_shape,m_w_shape:=W.mg_of X G ie,k_w_shape:=ek,F_w_put:=F_w_put,b_w_put:=b_w_put,m_w_put:=W.mg_of X G ld,k_w_put:=hF,F_w_tilt:=F_w_tilt,b_w_tilt:=b_w_tilt,m_w_tilt:=W.mg_of X G ka,k_w_tilt:=ft,F_w_say:=F_w_say,b_w_say:=b_w_say,m_w_say:=W.mg_of X G le,k_w_say:=hG,F_w_lean:=F_w_lean,b_w_lean:=b_w_lean,m_w_lean:=W.mg_of X G kb,k_w_lean:=fu,F_w_number:=F_w_number,b_w_number:=b_w_number,m_w_number:=W.mg_of X G gx,k_w_number:=di,F_w_spot:=F_w_spot,b_w_spot:=b_w_spot,m_w_spot:=W.mg_of X G kc,k_w_spot:=fv,F_w_edit:=F_w_edit,b_w_edit:=b_w_edit,m_w_edit:=W.mg_of X G kd,k_w_edit:=fw,F_w_menu:=F_w_menu,b_w_menu:=b_w_menu,m_w_menu:=W.mg_of X G ke,k_w_menu:=fx,F_w_is_standing:=F_w_is_standing,b_w_is_standing:=b_w_is_standing,m_w_is_standing:=W.mg_of X G cC,k_w_is_standing:=a8,F_w_rows:=F_w_rows,b_w_rows:=b_w_rows,m_w_rows:=W.mg_of X G kf,k_w_rows:=fy,F_w_rows_changed:=F_w_rows_changed,b_w_rows_changed:=b_w_rows_changed,m_w_rows_changed:=W.mg_of X G cd,k_w_rows_changed:=a0,F_w_parsed:=F_w_parsed,b_w_parsed:=b_w_parsed,m_w_parsed:=W.mg_of X G gA,k_w_parsed:=dj,F_w_sized:=F_w_sized,b_w_sized:=b_w_sized,m_w_sized:=W.mg_of X G ig,k_w_sized:=el,F_w_told:=F_w_told,b_w_told:=b_w_told,m_w_told:=W.mg_of X G kg,k_w_told:=fB,F_w_near_limit:=F_w_near_limit,b_w_near_limit:=b_w_near_limit,m_w_near_limit:=W.mg_of X G c5,k_w_near_limit:=bC,F_law:=F_law,b_law:=b_law,m_law:=W.mg_of X G mh,k_law:=mi,cl_Beam:=⟨pA,pB,pC,pD⟩,m_Beam:=W.mg_of X G pS,mk_Beam:=⟨lf,e3,kT,pE⟩,na_Beam_notches:=cD,na_Beam_room:=em,na_Beam_hefts:=dy,na_Beam_limit:=dz,cl_Play:=⟨pF,pG,pH,pI⟩,m_Play:=W.mg_of X G pT,mk_Play:=⟨lg,e4,kW,pJ⟩,na_Play_beam:=en,na_Play_start:=dA,na_Play_standing:=ce,na_Play_made:=eo,me_Play_back:=⟨e5,kZ,bG⟩,m_BadBeam:=W.mg_of X G nQ,m_BadStanding:=W.mg_of X G iO,m_StartPast:=W.mg_of X G kR,m_NothingBack:=W.mg_of X G iP,m_BadText:=W.mg_of X G nR,m_BeamError:=W.mg_of X G kS,x_BadBeam:=⟨⟨_,_,_,_,_,_,_,_,_,_,_,_,_,_,_,mj,mk⟩,ml,mm⟩,x_BadStanding:=⟨⟨_,_,_,_,_,_,_,_,_,_,_,_,_,_,_,hJ,hK⟩,hL,hM⟩,x_StartPast:=⟨⟨_,_,_,_,_,_,_,_,_,_,_,_,_,_,_,kh,ki⟩,kj,kk⟩,x_NothingBack:=⟨⟨_,_,_,_,_,_,_,_,_,_,_,_,_,_,_,hN,hO⟩,hP,hQ⟩,x_BadText:=⟨⟨_,_,_,_,_,_,_,_,_,_,_,_,_,_,_,mn,mo⟩,mp,mq⟩,i_BadBeam:=c1,if_BadBeam:=hu,na_BadBeam_reason:=b2,na_BadBeam_word:=cE,i_BadStanding:=bI,if_BadStanding:=d9,na_BadStanding_reason:=a1,na_BadStanding_word:=bp,i_StartPast:=b9,if_StartPast:=fo,na_StartPast_reason:=bq,na_StartPast_word:=b3,i_NothingBack:=bJ,if_NothingBack:=ec,na_NothingBack_reason:=a2,na_NothingBack_word:=br,i_BadText:=c2,if_BadText:=hx,na_BadText_reason:=b4,na_BadText_word:=cF,xw:=⟨xw1,xw2⟩,xa_BadBeam:=⟨mr,ms,mt,mu,mv,mw⟩,xm_BadBeam_BeamError:=zf5 aH (by rw[aD];rfl) aE dk,xm_BadBeam_BadText:=zf5 bd (by rw[a9];rfl) ba ep,xm_BadBeam_BadBeam:=zf5 be (by rw[bb];rfl) bc eq,xm_BadBeam_BadStanding:=zf5 ar (by rw[ap];rfl) aq cN,xm_BadBeam_StartPast:=zf5 aI (by rw[aF];rfl) aG dl,xa_BadStanding:=⟨hR,hS,hT,hU,hV,hW⟩,xm_BadStanding_BeamError:=zf5 aH (by rw[aD];rfl) aE cf,xm_BadStanding_BadText:=zf5 bd (by rw[a9];rfl) ba cO,xm_BadStanding_BadBeam:=zf5 be (by rw[bb];rfl) bc cP,xm_BadStanding_BadStanding:=zf5 ar (by rw[ap];rfl) aq bO,xm_BadStanding_StartPast:=zf5 aI (by rw[aF];rfl) aG cg,xa_StartPast:=⟨kl,km,kn,ko,kp,kq⟩,xm_StartPast_BeamError:=zf5 aH (by rw[aD];rfl) aE cQ,xm_StartPast_BadText:=zf5 bd (by rw[a9];rfl) ba dm,xm_StartPast_BadBeam:=zf5 be (by rw[bb];rfl) bc dn,xm_StartPast_BadStanding:=zf5 ar (by rw[ap];rfl) aq ch,xm_StartPast_StartPast:=zf5 aI (by rw[aF];rfl) aG cR,xa_NothingBack:=⟨hX,hY,hZ,h0,h1,h2⟩,xm_NothingBack_BeamError:=zf5 aH (by rw[aD];rfl) aE ci,xm_NothingBack_BadText:=zf5 bd (by rw[a9];rfl) ba cS,xm_NothingBack_BadBeam:=zf5 be (by rw[bb];rfl) bc cT,xm_NothingBack_BadStanding:=zf5 ar (by rw[ap];rfl) aq bP,xm_NothingBack_StartPast:=zf5 aI (by rw[aF];rfl) aG cj,xa_BadText:=⟨mx,my,mz,mA,mB,mC⟩,xm_BadText_BeamError:=zf5 aH (by rw[aD];rfl) aE dp,xm_BadText_BadText:=zf5 bd (by rw[a9];rfl) ba er,xm_BadText_BadBeam:=zf5 be (by rw[bb];rfl) bc es,xm_BadText_BadStanding:=zf5 ar (by rw[ap];rfl) aq cU,xm_BadText_StartPast:=zf5 aI (by rw[aF];rfl) aG dq,cm_BeamError:=⟨kr,ks,kt,av⟩,n_tuple:=W.mg_none_of X G lh,n_len:=W.mg_none_of X G oO,n_range:=W.mg_none_of X G li,n_sum:=W.mg_none_of X G oP,n_zip:=W.mg_none_of X G oQ,n_abs:=W.mg_none_of X G oR,n_int:=W.mg_none_of X G oS,n_all:=W.mg_none_of X G oT,n_str:=W.mg_none_of X G oU,n_min:=W.mg_none_of X G oV,n_max:=W.mg_none_of X G oW,n_list:=W.mg_none_of X G n4,n_isinstance:=W.mg_none_of X G et,g_MOST_NOTCHES:=W.mg_of X G c6,g_MOST_ROOM:=W.mg_of X G e9,g_MOST_LIMIT:=W.mg_of X G eu,g_MOST_WEIGHTS:=W.mg_of X G c7,g_MOST_HEFT:=W.mg_of X G fb,g_MOST_STANDINGS:=W.mg_of X G ck,g_MOST_FIGURES:=W.mg_of X G c8,g_FIGURES:=W.mg_of X G ih }
 exact⟨_,fun s v=>.of_eq rfl,fun base _ _=>ok_law T⟩
theorem walk {l:W.OpenLaw} {q:Program} {loose:List Str} {XP:(Str->Option Value)->Heap->Prop} {YP:World->Heap->Prop} {d:DefRec} {K:Params->W.Frag} (hn:l.most=some 63) (hdf:d.params.defaults=[])
   (hY:∀ (w:World) (h:Heap),YP w h->(K w.params).In h)
   (F:∀ (w:World) (mg:Str->Option Value) (fa:Addr) (h:Heap),(K w.params).In h->h.Ns mainGlobals mg->mg d.name=some (.ref fa) →
     ∃ fd:FuncData,(∀ (s:Shared) (u:Value),BindsTo s fd ⟨[u],[]⟩ [("_law_script",u)])/\∀ base:Heap,(K w.params).In base->base.Ns mainGlobals mg->FnOk l.prog w (K w.params) mg base CX0 12 fa fd ["_law_script"] (zN0 (K w.params))) :
   W.WalkO q loose XP YP l.row.toRowW d [] (fun f vs=>PySem.call f vs) :=
 L2.walk_of (n:=63) (k:=12) (x:="_law_script") (CX:=fun _=>CX0) (sp:=fun w=>zN0 (K w.params)) hn (by decide) hdf ⟨rfl,by decide,by decide⟩ hY F (fun _ _ a ns hl _ hS=>⟨a,ns,rfl,hS,hl,fun _=>rfl⟩) fun _ _ _ _ _ z=>z
theorem walkZ {l:W.OpenLaw} {q:Program} {loose:List Str} {XP:(Str->Option Value)->Heap->Prop} {d:DefRec} {K:Params->W.Frag} (hn:l.most=some 63) (hdf:d.params.defaults=[])
 (F:∀ (w:World) (mg:Str->Option Value) (fa:Addr) (h:Heap),(K w.params).In h->h.Ns mainGlobals mg->mg d.name=some (.ref fa) →
   ∃ fd:FuncData,(∀ (s:Shared) (u:Value),BindsTo s fd ⟨[u],[]⟩ [("_law_script",u)])/\∀ base:Heap,(K w.params).In base->base.Ns mainGlobals mg->FnOk l.prog w (K w.params) mg base CX0 12 fa fd ["_law_script"] (zN0 (K w.params))) :
 W.WalkO q loose XP (fun w h=>(K w.params).In h) l.row.toRowW d [] (fun f vs=>PySem.call f vs):=walk hn hdf (fun _ _ Y=>Y) F
end Bt
open PySem PySem.W PyProof.Rows
set_option maxRecDepth 100000 in
set_option maxHeartbeats 0 in
theorem PySem.Challenge.cw_beamtender_k28_desk_refused_holds : PySem.Challenge.rw_beamtender_k28_desk_refused.Holds := by
  w_on; o_law; z_head; (case hw => w_witness2)
  k_fill
  intro w0 s0 s1 mg0 mb0 G0 y0 fa0 o0 pm0 cd0 doc0 dV0 kV0 ho0 hd0 hcd0 hD0 hmg0 hg0 args0 vals0 as0 L0 hpre0 hlay0 hrd0 hwl0 hlo0
  z_open y0 L0 KX0 ZH0 ZN0 ZT0
  clear ZH0 ZN0 ZT0
  refine Bt.walkZ (l := PySem.Challenge.rw_beamtender_k28_desk_refused) rfl rfl ?F w0 s0 s1 mg0 mb0 G0 KX0 fa0 o0 pm0 cd0 doc0 dV0 kV0 ho0 hd0 hcd0 hD0 hmg0 hg0 args0 vals0 as0 hpre0 hlay0 hrd0 hwl0 hlo0
  case F =>
    clear y0 L0 KX0 G0 ho0 hd0 hcd0 hD0 hmg0 hg0 hpre0 hlay0 hrd0 hwl0 hlo0
    intro w mg fa h KX G hmg
    refine' Bt.all_mk KX G hmg ?aa ?ab ?ac ?ad ?ae ?af ?ag ?ah ?ai ?aj ?ak ?al ?am ?an ?ao ?ap ?aq ?ar ?au ?av ?aw ?ax ?ay ?az ?aA ?aB ?aC ?aD ?aE ?aF ?aG ?aH ?aI ?aJ ?aK ?aL ?aM ?aN ?aO ?aP ?aQ ?aR ?aS ?aT ?aU ?aV ?aW ?aX ?aY ?aZ ?a0 ?a1 ?a2 ?a3 ?a4 ?a5 ?a6 ?a7 ?a8 ?a9 ?ba ?bb ?bc ?bd ?be ?bf ?bg ?bh ?bi ?bj ?bk ?bl ?bm ?bn ?bo ?bp ?bq ?br ?bs ?bt ?bu ?bv ?bw ?bx ?bz ?bA ?bB ?bC ?bD ?bE ?bF ?bG ?bH ?bI ?bJ ?bK ?bL ?bM ?bN ?bO ?bP ?bQ ?bR ?bS ?bT ?bU ?bV ?bW ?bX ?bY ?bZ ?b0 ?b1 ?b2 ?b3 ?b4 ?b5 ?b6 ?b7 ?b8 ?b9 ?ca ?cb ?cc ?cd ?ce ?cf ?cg ?ch ?ci ?cj ?ck ?cl ?cm ?cn ?co ?cp ?cq ?cr ?cs ?ct ?cu ?cv ?cw ?cx ?cy ?cz ?cA ?cB ?cC ?cD ?cE ?cF ?cG ?cH ?cI ?cJ ?cK ?cL ?cM ?cN ?cO ?cP ?cQ ?cR ?cS ?cT ?cU ?cV ?cW ?cX ?cY ?cZ ?c0 ?c1 ?c2 ?c3 ?c4 ?c5 ?c6 ?c7 ?c8 ?c9 ?da ?db ?dc ?dd ?de ?df ?dg ?dh ?di ?dj ?dk ?dl ?dm ?dn ?dp ?dq ?dr ?ds ?dt ?du ?dv ?dw ?dx ?dy ?dz ?dA ?dB ?dC ?dD ?dE ?dF ?dG ?dH ?dI ?dJ ?dK ?dL ?dM ?dN ?dO ?dP ?dQ ?dR ?dS ?dT ?dU ?dV ?dW ?dX ?dY ?dZ ?d0 ?d1 ?d2 ?d3 ?d4 ?d5 ?d6 ?d7 ?d8 ?d9 ?ea ?eb ?ec ?ed ?ee ?ef ?eg ?eh ?ei ?ej ?ek ?el ?em ?en ?eo ?ep ?eq ?er ?es ?et ?eu ?ev ?ew ?ex ?ey ?ez ?eA ?eB ?eC ?eD ?eE ?eF ?eG ?eH ?eI ?eJ ?eK ?eL ?eM ?eN ?eO ?eP ?eQ ?eR ?eS ?eT ?eU ?eV ?eW ?eX ?eY ?eZ ?e0 ?e1 ?e2 ?e3 ?e4 ?e5 ?e6 ?e7 ?e8 ?e9 ?fa ?fb ?fc ?fd ?fe ?ff ?fg ?fh ?fi ?fj ?fk ?fl ?fm ?fn ?fo ?fp ?fq ?fr ?fs ?ft ?fu ?fv ?fw ?fx ?fy ?fz ?fA ?fB ?fC ?fD ?fE ?fF ?fG ?fH ?fI ?fJ ?fK ?fL ?fM ?fN ?fO ?fP ?fQ ?fR ?fS ?fT ?fU ?fV ?fW ?fX ?fY ?fZ ?f0 ?f1 ?f2
    (case aa=>k_is)
    (case ab=>k_is)
    (case ac=>k_is)
    (case ad=>k_is)
    (case ae=>k_is)
    (case af=>k_is)
    (case ag=>k_is)
    (case ah=>k_is)
    (case ai=>k_is)
    (case aj=>k_is)
    (case ak=>k_is)
    (case al=>k_is)
    (case am=>k_is)
    (case an=>k_is)
    (case ao=>k_is)
    (case ap=>k_is)
    (case aq=>k_is)
    (case ar=>k_is)
    (case au=>k_is)
    (case av=>k_is)
    (case aw=>k_is)
    (case ax=>k_is)
    (case ay=>k_is)
    (case az=>k_is)
    (case aA=>k_is)
    (case aB=>k_is)
    (case aC=>k_is)
    (case aD=>k_is)
    (case aE=>k_is)
    (case aF=>k_is)
    (case aG=>k_is)
    (case aH=>k_is)
    (case aI=>k_is)
    (case aJ=>k_is)
    (case aK=>k_is)
    (case aL=>k_is)
    (case aM=>k_is)
    (case aN=>k_is)
    (case aO=>k_is)
    (case aP=>k_is)
    (case aQ=>k_is)
    (case aR=>k_is)
    (case aS=>k_is)
    (case aT=>k_is)
    (case aU=>k_is)
    (case aV=>k_is)
    (case aW=>k_is)
    (case aX=>k_is)
    (case aY=>k_is)
    (case aZ=>k_is)
    (case a0=>k_is)
    (case a1=>k_is)
    (case a2=>k_is)
    (case a3=>k_is)
    (case a4=>k_is)
    (case a5=>k_is)
    (case a6=>k_is)
    (case a7=>k_is)
    (case a8=>k_is)
    (case a9=>k_is)
    (case ba=>k_is)
    (case bb=>k_is)
    (case bc=>k_is)
    (case bd=>k_is)
    (case be=>k_is)
    (case bf=>k_is)
    (case bg=>k_is)
    (case bh=>k_is)
    (case bi=>k_is)
    (case bj=>k_is)
    (case bk=>k_is)
    (case bl=>k_is)
    (case bm=>k_is)
    (case bn=>k_is)
    (case bo=>k_is)
    (case bp=>k_is)
    (case bq=>k_is)
    (case br=>k_is)
    (case bs=>k_is)
    (case bt=>k_is)
    (case bu=>k_is)
    (case bv=>k_is)
    (case bw=>k_is)
    (case bx=>k_is)
    (case bz=>k_is)
    (case bA=>k_is)
    (case bB=>k_is)
    (case bC=>k_is)
    (case bD=>k_is)
    (case bE=>k_is)
    (case bF=>k_is)
    (case bG=>k_is)
    (case bH=>k_is)
    (case bI=>k_is)
    (case bJ=>k_is)
    (case bK=>k_is)
    (case bL=>k_is)
    (case bM=>k_is)
    (case bN=>k_is)
    (case bO=>k_is)
    (case bP=>k_is)
    (case bQ=>k_is)
    (case bR=>k_is)
    (case bS=>k_is)
    (case bT=>k_is)
    (case bU=>k_is)
    (case bV=>k_is)
    (case bW=>k_is)
    (case bX=>k_is)
    (case bY=>k_is)
    (case bZ=>k_is)
    (case b0=>k_is)
    (case b1=>k_is)
    (case b2=>k_is)
    (case b3=>k_is)
    (case b4=>k_is)
    (case b5=>k_is)
    (case b6=>k_is)
    (case b7=>k_is)
    (case b8=>k_is)
    (case b9=>k_is)
    (case ca=>k_is)
    (case cb=>k_is)
    (case cc=>k_is)
    (case cd=>k_is)
    (case ce=>k_is)
    (case cf=>k_is)
    (case cg=>k_is)
    (case ch=>k_is)
    (case ci=>k_is)
    (case cj=>k_is)
    (case ck=>k_is)
    (case cl=>k_is)
    (case cm=>k_is)
    (case cn=>k_is)
    (case co=>k_is)
    (case cp=>k_is)
    (case cq=>k_is)
    (case cr=>k_is)
    (case cs=>k_is)
    (case ct=>k_is)
    (case cu=>k_is)
    (case cv=>k_is)
    (case cw=>k_is)
    (case cx=>k_is)
    (case cy=>k_is)
    (case cz=>k_is)
    (case cA=>k_is)
    (case cB=>k_is)
    (case cC=>k_is)
    (case cD=>k_is)
    (case cE=>k_is)
    (case cF=>k_is)
    (case cG=>k_is)
    (case cH=>k_is)
    (case cI=>k_is)
    (case cJ=>k_is)
    (case cK=>k_is)
    (case cL=>k_is)
    (case cM=>k_is)
    (case cN=>k_is)
    (case cO=>k_is)
    (case cP=>k_is)
    (case cQ=>k_is)
    (case cR=>k_is)
    (case cS=>k_is)
    (case cT=>k_is)
    (case cU=>k_is)
    (case cV=>k_is)
    (case cW=>k_is)
    (case cX=>k_is)
    (case cY=>k_is)
    (case cZ=>k_is)
    (case c0=>k_is)
    (case c1=>k_is)
    (case c2=>k_is)
    (case c3=>k_is)
    (case c4=>k_is)
    (case c5=>k_is)
    (case c6=>k_is)
    (case c7=>k_is)
    (case c8=>k_is)
    (case c9=>k_is)
    (case da=>k_is)
    (case db=>k_is)
    (case dc=>k_is)
    (case dd=>k_is)
    (case de=>k_is)
    (case df=>k_is)
    (case dg=>k_is)
    (case dh=>k_is)
    (case di=>k_is)
    (case dj=>k_is)
    (case dk=>k_is)
    (case dl=>k_is)
    (case dm=>k_is)
    (case dn=>k_is)
    (case dp=>k_is)
    (case dq=>k_is)
    (case dr=>k_is)
    (case ds=>k_is)
    (case dt=>k_is)
    (case du=>k_is)
    (case dv=>k_is)
    (case dw=>k_is)
    (case dx=>k_is)
    (case dy=>k_is)
    (case dz=>k_is)
    (case dA=>k_is)
    (case dB=>k_is)
    (case dC=>k_is)
    (case dD=>k_is)
    (case dE=>k_is)
    (case dF=>k_is)
    (case dG=>k_is)
    (case dH=>k_is)
    (case dI=>k_is)
    (case dJ=>k_is)
    (case dK=>k_is)
    (case dL=>k_is)
    (case dM=>k_is)
    (case dN=>k_is)
    (case dO=>k_is)
    (case dP=>k_is)
    (case dQ=>k_is)
    (case dR=>k_is)
    (case dS=>k_is)
    (case dT=>k_is)
    (case dU=>k_is)
    (case dV=>k_is)
    (case dW=>k_is)
    (case dX=>k_is)
    (case dY=>k_is)
    (case dZ=>k_is)
    (case d0=>k_is)
    (case d1=>k_is)
    (case d2=>first | exact Or.inl rfl | exact Or.inr ⟨_, rfl⟩)
    (case d3=>k_is)
    (case d4=>k_is)
    (case d5=>k_is)
    (case d6=>first | exact Or.inl rfl | exact Or.inr ⟨_, rfl⟩)
    (case d7=>k_is)
    (case d8=>k_is)
    (case d9=>k_is)
    (case ea=>first | exact Or.inl rfl | exact Or.inr ⟨_, rfl⟩)
    (case eb=>k_is)
    (case ec=>k_is)
    (case ed=>k_is)
    (case ee=>first | exact Or.inl rfl | exact Or.inr ⟨_, rfl⟩)
    (case ef=>k_is)
    (case eg=>k_is)
    (case eh=>k_is)
    (case ei=>first | exact Or.inl rfl | exact Or.inr ⟨_, rfl⟩)
    (case ej=>k_is)
    (case ek=>k_is)
    (case el=>k_is)
    (case em=>k_is)
    (case en=>k_is)
    (case eo=>k_is)
    (case ep=>k_is)
    (case eq=>k_is)
    (case er=>k_is)
    (case es=>k_is)
    (case et=>k_is)
    (case eu=>k_is)
    (case ev=>k_is)
    (case ew=>k_is)
    (case ex=>k_is)
    (case ey=>k_is)
    (case ez=>k_is)
    (case eA=>k_is)
    (case eB=>k_is)
    (case eC=>k_is)
    (case eD=>k_is)
    (case eE=>k_is)
    (case eF=>k_is)
    (case eG=>k_is)
    (case eH=>k_is)
    (case eI=>k_is)
    (case eJ=>k_is)
    (case eK=>k_is)
    (case eL=>k_is)
    (case eM=>k_is)
    (case eN=>k_is)
    (case eO=>k_is)
    (case eP=>k_is)
    (case eQ=>k_is)
    (case eR=>k_is)
    (case eS=>k_is)
    (case eT=>k_is)
    (case eU=>k_is)
    (case eV=>k_is)
    (case eW=>k_is)
    (case eX=>k_is)
    (case eY=>k_is)
    (case eZ=>k_is)
    (case e0=>k_is)
    (case e1=>k_is)
    (case e2=>k_is)
    (case e3=>k_is)
    (case e4=>k_is)
    (case e5=>k_is)
    (case e6=>k_is)
    (case e7=>k_is)
    (case e8=>k_is)
    (case e9=>k_is)
    (case fa=>k_is)
    (case fb=>k_is)
    (case fc=>k_is)
    (case fd=>k_is)
    (case fe=>k_is)
    (case ff=>k_is)
    (case fg=>k_is)
    (case fh=>k_is)
    (case fi=>k_is)
    (case fj=>k_is)
    (case fk=>k_is)
    (case fl=>k_is)
    (case fm=>k_is)
    (case fn=>k_is)
    (case fo=>k_is)
    (case fp=>k_is)
    (case fq=>k_is)
    (case fr=>k_is)
    (case fs=>k_is)
    (case ft=>k_is)
    (case fu=>k_is)
    (case fv=>k_is)
    (case fw=>k_is)
    (case fx=>k_is)
    (case fy=>k_is)
    (case fz=>k_is)
    (case fA=>k_is)
    (case fB=>k_is)
    (case fC=>k_is)
    (case fD=>k_is)
    (case fE=>k_is)
    (case fF=>k_is)
    (case fG=>k_is)
    (case fH=>k_is)
    (case fI=>k_is)
    (case fJ=>k_is)
    (case fK=>k_is)
    (case fL=>k_is)
    (case fM=>k_is)
    (case fN=>k_is)
    (case fO=>k_is)
    (case fP=>k_is)
    (case fQ=>k_is)
    (case fR=>k_is)
    (case fS=>k_is)
    (case fT=>k_is)
    (case fU=>k_is)
    (case fV=>k_is)
    (case fW=>k_is)
    (case fX=>k_is)
    (case fY=>k_is)
    (case fZ=>k_is)
    (case f0=>k_is)
    (case f1=>k_is)
    (case f2=>k_is)
