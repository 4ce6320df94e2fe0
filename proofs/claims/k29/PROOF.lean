import PyProof.Rows.All
import Wide.All
import OpenK.AllK
import Wide.FinOn
import Open.Tops
import Lean
import PyProof.EqAt
import PyProof.EqKinds
import PyProof.TupleCall
import PyProof.ExcInit
import PyProof.ExcClass3
import PyProof.ExcBaseAll.ValueError
import PyProof.InstStoreFacts
import KE.KTryMore
import PyProof.RulesAs
import PyProof.NsDelKeeps
import PyProof.Rows.SortRuns
import KE.KDictSum
import KE.KSortTup
import PyProof.Rows.SetFrom
import PyProof.Rows.MinMaxN
import KE.KDictOf
import PySem.Challenge.RW_beamtender_k29_desk_deeds
set_option genSizeOf false
set_option bootstrap.genMatcherCode false
set_option Elab.async false
set_option linter.all false
set_option maxRecDepth 100000
set_option maxHeartbeats 4000000
namespace PySem.W.Fast
def tw15316897268211425864:Unit:=()
def tw4656477547545581869:Unit:=()
def tw18371404869498239463:Unit:=()
def tw15752777336655377611:Unit:=()
def tw17477964225710263558:Unit:=()
def tw14909222468634073597:Unit:=()
def tw4816840354536808711:Unit:=()
def tw1294872539189351102:Unit:=()
def tw7237534449651285625:Unit:=()
def tw14848026642332231369:Unit:=()
def tw10443972115167685737:Unit:=()
def tw9454596663663417057:Unit:=()
def tw16124907296705905126:Unit:=()
def tw17984828250133696484:Unit:=()
def tw9067880156794877461:Unit:=()
def tw3053039681705907590:Unit:=()
def tw10671703017435314962:Unit:=()
def tw15078077610679079894:Unit:=()
def tw5984143708942506367:Unit:=()
def tw1901647825215627982:Unit:=()
def tw17052796983068791434:Unit:=()
def tw12956959381625706810:Unit:=()
def tw18272578698108203428:Unit:=()
def tw1152981414993886155:Unit:=()
def tw10663524056049230594:Unit:=()
def tw2467528430711677637:Unit:=()
def tw6287023359698139569:Unit:=()
def tw13918070900721017462:Unit:=()
def tw1050978502433887475:Unit:=()
def tw18412536637008336101:Unit:=()
def tw17976260235993306699:Unit:=()
def tw18008403900301762646:Unit:=()
def tw9411876675700126472:Unit:=()
def tw14678072303138634297:Unit:=()
def tw5821911006821443499:Unit:=()
def tw13938373448573225456:Unit:=()
def tw10633027821192320760:Unit:=()
def tw8964479381270053676:Unit:=()
def tw9599814098166041113:Unit:=()
def tw14622875301053106882:Unit:=()
def tw16628238818213800457:Unit:=()
def tw18122505570158028760:Unit:=()
def tw11364337024742858680:Unit:=()
def tw1445692441522581213:Unit:=()
def tw16274425047615367574:Unit:=()
def tw690076699259883706:Unit:=()
def tw5268945621321606819:Unit:=()
def tw8683761304018220842:Unit:=()
def tw16293240915958999274:Unit:=()
def tw16300821235226906413:Unit:=()
def tw15925265949448558729:Unit:=()
def tw8154386272651081202:Unit:=()
def tw3890045312479836345:Unit:=()
def tw8289201723033672784:Unit:=()
def tw9605781566741075254:Unit:=()
def tw6823255452266843197:Unit:=()
def tw2911320888559986973:Unit:=()
def tw779113297265156232:Unit:=()
def tw4517699912411949365:Unit:=()
def tw14370623580232250223:Unit:=()
def tw4599408916308314879:Unit:=()
def tw9437125512719922277:Unit:=()
def tw8653984309956016162:Unit:=()
def tw8251602390916239078:Unit:=()
def tw15668162899394828875:Unit:=()
def tw1845818362578280308:Unit:=()
def tw15484327021457262774:Unit:=()
def tw2730991201691382297:Unit:=()
def tw16601209679299077434:Unit:=()
def tw14259238945965199361:Unit:=()
def tw18289631012114666751:Unit:=()
def tw6934088958044369265:Unit:=()
def tw9737242364353111794:Unit:=()
def tw6534638269923451698:Unit:=()
def tw18267388806484754249:Unit:=()
def tw8620533275595119947:Unit:=()
def tw13937447743923076125:Unit:=()
def tw4304239475801117149:Unit:=()
def tw13861638413835968133:Unit:=()
def tw16265753608964126237:Unit:=()
def tw3797300690974233934:Unit:=()
def tw13289688069668668681:Unit:=()
def tw12910276793347104840:Unit:=()
def tw12550086528314285085:Unit:=()
def tw14901276094066464836:Unit:=()
def tw103882420914111513:Unit:=()
def tw2820001725760277863:Unit:=()
def tw1028674323301138617:Unit:=()
def tw6138748847494444489:Unit:=()
def tw10717283139417537689:Unit:=()
def tw16016550133085892538:Unit:=()
def tw7702557359998385182:Unit:=()
def tw11684820928529727840:Unit:=()
def tw4477720759430228282:Unit:=()
def tw13330442626456223456:Unit:=()
def tw7046939658872891319:Unit:=()
def tw8388551247895793903:Unit:=()
def tw8890067713494089578:Unit:=()
def tw7714284404807913830:Unit:=()
def tw12502990643044651330:Unit:=()
def tw2997100427077911204:Unit:=()
def tw6634899264410076467:Unit:=()
def tw15635021653711906561:Unit:=()
def tw13980391716373973125:Unit:=()
def tw2344292890008453064:Unit:=()
def tw17730509932181441153:Unit:=()
def tw9408222747589952149:Unit:=()
def tw1000842258696149368:Unit:=()
def tw15549063411931563809:Unit:=()
def tw3178918529748216085:Unit:=()
def tw3315807339538290543:Unit:=()
def tw12544126094507759576:Unit:=()
def tw510508489687345004:Unit:=()
def tw94312369156794807:Unit:=()
def tw3104085137606496750:Unit:=()
def tw12620750862402277421:Unit:=()
def tw2576865675407354130:Unit:=()
def tw13940807443798281087:Unit:=()
def tw18058020925672519607:Unit:=()
def tw6060218190050778635:Unit:=()
def tw15631277070633500900:Unit:=()
def tw15865710152223597601:Unit:=()
def tw11152937896425033067:Unit:=()
def tw16919948864608603538:Unit:=()
def tw7081219217070067141:Unit:=()
def tw7167577888936402910:Unit:=()
def tw9197304658949117301:Unit:=()
def tw15960876296514698637:Unit:=()
def tw5435949670003172306:Unit:=()
def tw16496239058014000790:Unit:=()
def tw1275438384871646307:Unit:=()
def tw12738888062330648496:Unit:=()
def tw10820806771485820009:Unit:=()
def tw4062561085211183239:Unit:=()
def tw10973713330888040641:Unit:=()
def tw11314678246958923041:Unit:=()
def tw9280559720540160438:Unit:=()
def tw9551405537285381099:Unit:=()
def tw17944799468427730365:Unit:=()
def tw2986853603175758542:Unit:=()
def tw7993358469165024741:Unit:=()
def tw9507497468520644574:Unit:=()
def tw3450276488458835093:Unit:=()
def tw11299500888830994319:Unit:=()
def tw15946059240643880343:Unit:=()
def tw2504313450237132770:Unit:=()
def tw5618704081367992974:Unit:=()
def tw7602320758946591936:Unit:=()
def tw16738802809170340383:Unit:=()
def tw7250266115057885554:Unit:=()
def tw16077915678027328600:Unit:=()
def tw12124372697101007219:Unit:=()
def tw5822687539928157022:Unit:=()
def tw9617132747901357244:Unit:=()
def tw6906358602825296887:Unit:=()
def tw10323030359388251718:Unit:=()
def tw16491373875333170620:Unit:=()
def tw345614751814102749:Unit:=()
def tw8199544070925167628:Unit:=()
def tw3166515960843161648:Unit:=()
def tw4011314796010634301:Unit:=()
def tw13715859635340528996:Unit:=()
def tw2376146251339899467:Unit:=()
def tw12703518704471188779:Unit:=()
def tw15089149639592806085:Unit:=()
def tw8863032751403379839:Unit:=()
def tw12762170892830866863:Unit:=()
def tw2100303338328872314:Unit:=()
def tw14352405326576224817:Unit:=()
def tw17272878522769818577:Unit:=()
def tw6055733791399981480:Unit:=()
def tw15040187060045286449:Unit:=()
def tw15750463272130842748:Unit:=()
def tw5393993317531125005:Unit:=()
def tw13284986261401224365:Unit:=()
def tw14149134608102500887:Unit:=()
def tw14168097292776707022:Unit:=()
def tw5099782730629757621:Unit:=()
def tw9716621485308279651:Unit:=()
def tw9513884694578321976:Unit:=()
def tw964025291714068046:Unit:=()
def tw3882083040895872235:Unit:=()
def tw4698872473200378980:Unit:=()
def tw8462681007095224893:Unit:=()
def tw10636932806721120778:Unit:=()
def tw4181922629742367180:Unit:=()
def tw14905249040276316220:Unit:=()
def tw12781270545668495627:Unit:=()
def tw5417864108911599316:Unit:=()
def tw6990771862922980847:Unit:=()
def tw2955376334476329085:Unit:=()
def tw12401827627117488271:Unit:=()
def tw1583082192504555227:Unit:=()
def tw7627212981247519944:Unit:=()
def tw3950208620310107622:Unit:=()
def tw1703398147701914194:Unit:=()
def tw5899196017250092262:Unit:=()
def tw13395928122616157352:Unit:=()
def tw7991381263852058442:Unit:=()
def tw18395447249889284424:Unit:=()
def tw8206308077353077152:Unit:=()
def tw13886701811110005027:Unit:=()
def tw4607666237618533621:Unit:=()
def tw5814548082606291424:Unit:=()
def tw6832014229881987696:Unit:=()
def tw15699863016569598264:Unit:=()
def tw10405599694063812739:Unit:=()
def tw6384380429368410037:Unit:=()
def tw1887009147814325085:Unit:=()
def tw3682201383558988232:Unit:=()
def tw234708281142473747:Unit:=()
def tw11070642299167359730:Unit:=()
def tw6881704362152558297:Unit:=()
def tw2611873140177220868:Unit:=()
def tw3019469949455086360:Unit:=()
def tw16960749861441929826:Unit:=()
def tw12272734062397362457:Unit:=()
def tw13729778500139187802:Unit:=()
def tw5472503011569244256:Unit:=()
def tw17485055340540243352:Unit:=()
def tw4957002753913949090:Unit:=()
def tw15989004983770298846:Unit:=()
def tw6219350956196092624:Unit:=()
def tw4258499475166030357:Unit:=()
def tw9218870538010551065:Unit:=()
def tw4967620232448868771:Unit:=()
def tw10682301958158965649:Unit:=()
def tw11908060083009463949:Unit:=()
def tw2873906900865933853:Unit:=()
def tw320137766859689576:Unit:=()
def tw4740779726407543000:Unit:=()
def tw106625873526075968:Unit:=()
def tw16328061554116807395:Unit:=()
def tw12267645336050823156:Unit:=()
def tw16177564472515902282:Unit:=()
def tw16712202820130727285:Unit:=()
def tw12854131776258026056:Unit:=()
def tw16621055288179733572:Unit:=()
def tw17688860007147443142:Unit:=()
def tw16447386301716905953:Unit:=()
def tw15603082487305424121:Unit:=()
def tw9774171697980739067:Unit:=()
def tw13042987009090369755:Unit:=()
def tw18127286466306570104:Unit:=()
def tw2791225963907702458:Unit:=()
def tw3723177373317537601:Unit:=()
def tw7394711482365575798:Unit:=()
def tw7691898122354419227:Unit:=()
def tw17290972964042678537:Unit:=()
def tw9254505162750572084:Unit:=()
def tw10683490133551891102:Unit:=()
def tw6003258108348354880:Unit:=()
def tw12585168246023265348:Unit:=()
def tw10903336093356984243:Unit:=()
def tw11594446826732008288:Unit:=()
def tw7235606131348083305:Unit:=()
def tw6495966422785669206:Unit:=()
def tw6372348885402806909:Unit:=()
def tw17486924553695584823:Unit:=()
def tw4741379270892838527:Unit:=()
def tw6327129590609866705:Unit:=()
def tw7436801061771752070:Unit:=()
def tw15822585218116058443:Unit:=()
def tw4660974710332887931:Unit:=()
def tw12651480319358766588:Unit:=()
def tw15200283316858162990:Unit:=()
def tw11078359832463643296:Unit:=()
def tw7827199926834777277:Unit:=()
def tw10267624684649909220:Unit:=()
def tw12107526965478557161:Unit:=()
def tw8310924538936311254:Unit:=()
def tw1468086669501970598:Unit:=()
def tw15408855724385353760:Unit:=()
def tw6400503971435075644:Unit:=()
def tw7060202860672180828:Unit:=()
def tw2121349194463633830:Unit:=()
def tw17258161852213530925:Unit:=()
def tw7471782390009903681:Unit:=()
def tw4965868089462060063:Unit:=()
def tw1932415249604858339:Unit:=()
def tw4098889890243815929:Unit:=()
def tw13913515062690201963:Unit:=()
def tw17053860226579071322:Unit:=()
def tw15027230264651535303:Unit:=()
def tw12698112638984492008:Unit:=()
def tw6215533152039126534:Unit:=()
def tw17257756357986011854:Unit:=()
def tw4811901259312654301:Unit:=()
def tw3687594823114701914:Unit:=()
def tw8066867726715957376:Unit:=()
def tw5957374806781909904:Unit:=()
def tw7856366617642422951:Unit:=()
def tw7153372282856021588:Unit:=()
def tw3830430188680812704:Unit:=()
def tw7024217113650771631:Unit:=()
def tw13401354008174147642:Unit:=()
def tw8339506708182586647:Unit:=()
def tw4550551621403207681:Unit:=()
def tw10891832162847521679:Unit:=()
def tw12210542442915399151:Unit:=()
def tw16122719051663199940:Unit:=()
def tw3950468068174259121:Unit:=()
def tw3933184146734922484:Unit:=()
def tw10996526213340549019:Unit:=()
def tw1435658892294650183:Unit:=()
def tw6413828415916323946:Unit:=()
def tw18429356701781453102:Unit:=()
def tw11408032075819563114:Unit:=()
def tw17319465659006786200:Unit:=()
def tw10444024752661012937:Unit:=()
def tw5307621015708992375:Unit:=()
def tw15328714800068425390:Unit:=()
def tw1492534315095241964:Unit:=()
def tw9975440970417669999:Unit:=()
def tw16052925329391691182:Unit:=()
def tw12879130231387382052:Unit:=()
def tw12752150830553017451:Unit:=()
def tw5355366707231505081:Unit:=()
def tw12949322264152296818:Unit:=()
def tw7763899285281672527:Unit:=()
def tw15184719589391248835:Unit:=()
def tw1011886094808034365:Unit:=()
def tw946860814155284815:Unit:=()
def tw10115618877673005015:Unit:=()
def tw9010099809741596245:Unit:=()
def tw8440458137534088382:Unit:=()
def tw9487836372720062715:Unit:=()
def tw8179984010025559478:Unit:=()
def tw1916129475366820216:Unit:=()
def tw16357710459693451616:Unit:=()
def tw16693665330406178084:Unit:=()
def tw7913487494982484974:Unit:=()
def tw8799843197480935225:Unit:=()
def tw11920347305827331542:Unit:=()
def tw1541844247297520286:Unit:=()
def tw9577353047086436272:Unit:=()
def tw6221288335226394357:Unit:=()
def tw8358301076202330920:Unit:=()
def tw9825204371644591898:Unit:=()
def tw14319998673970433405:Unit:=()
def tw16571092839454270792:Unit:=()
def tw11035741090231338881:Unit:=()
def tw411974920610325560:Unit:=()
def tw17843169904580934029:Unit:=()
def tw3959295344381382892:Unit:=()
def tw9955913986758740559:Unit:=()
def tw6456229382141864479:Unit:=()
def tw14677674703312933230:Unit:=()
def tw1020594836707305216:Unit:=()
def tw9016096609202252766:Unit:=()
def tw11536218870955491037:Unit:=()
def tw10447469443959813410:Unit:=()
def tw3310003191857137361:Unit:=()
def tw7501313016683694444:Unit:=()
def tw529854329468910250:Unit:=()
def tw665817556643461201:Unit:=()
def tw12884345898040493565:Unit:=()
def tw10884504835522081619:Unit:=()
def tw13727869218938716840:Unit:=()
def tw3761220389164215930:Unit:=()
def tw243014645851030326:Unit:=()
def tw2660240500735174058:Unit:=()
def tw14511448695305008439:Unit:=()
def tw12568553590447402063:Unit:=()
def tw8231027407842749250:Unit:=()
def tw7665099563914829251:Unit:=()
def tw12273328002279823398:Unit:=()
def tw2211392441463003465:Unit:=()
def tw12473246741174196860:Unit:=()
def tw9178179058778410696:Unit:=()
def tw10959502279142616385:Unit:=()
def tw11230721723131433943:Unit:=()
def tw502495836982246989:Unit:=()
def tw2664406493659040729:Unit:=()
def tw5720408105953493389:Unit:=()
def tw8527514369018007257:Unit:=()
def tw12671018709270084346:Unit:=()
def tw15097151832389050100:Unit:=()
def tw11099970509632848620:Unit:=()
def tw7583253911553056191:Unit:=()
def tw10502333760148425580:Unit:=()
def tw5245458672508240684:Unit:=()
def tw3423665176513870012:Unit:=()
def tw10926737936791278328:Unit:=()
def tw1514344064824093552:Unit:=()
def tw17625755635416271371:Unit:=()
def tw11081201899694047314:Unit:=()
def tw6562163041563323974:Unit:=()
def tw7585699332345302173:Unit:=()
def tw5806640567653160004:Unit:=()
def tw13537983921936202266:Unit:=()
def tw1080543337418065352:Unit:=()
def tw13280436945506912963:Unit:=()
def tw13839079010758941282:Unit:=()
def tw2815197545554746675:Unit:=()
def tw3569682346032787453:Unit:=()
def tw47161570704036718:Unit:=()
def tw7439883640280057394:Unit:=()
def tw4846665111970735634:Unit:=()
def tw5861541601230951947:Unit:=()
def tw7355002563890042528:Unit:=()
def tw14156178658299049237:Unit:=()
def tw3230255935634896069:Unit:=()
def tw14793528613841356241:Unit:=()
def tw13943940324916339923:Unit:=()
def tw309385545636862894:Unit:=()
def tw7665518572684538450:Unit:=()
def tw4631560925069724547:Unit:=()
def tw5898995299599593840:Unit:=()
def tw10265172942697640106:Unit:=()
def tw9979345423554215016:Unit:=()
def tw251300949455718942:Unit:=()
def tw5311949027486367893:Unit:=()
def tw18136632320070044350:Unit:=()
def tw15690082421701309362:Unit:=()
def tw7007480984082095211:Unit:=()
def tw6602741453834972247:Unit:=()
def tw8570187995601203203:Unit:=()
def tw11584437843894268061:Unit:=()
def tw2488668148265196763:Unit:=()
def tw15900320810049575337:Unit:=()
def tw4500830113821270154:Unit:=()
def tw13342077861458292948:Unit:=()
def tw11070629219782796279:Unit:=()
def tw4029000634431701355:Unit:=()
def tw12021309773596684918:Unit:=()
def tw15583261048998747082:Unit:=()
def tw11867774271635991182:Unit:=()
def tw8133356010422923449:Unit:=()
def tw18440469551446415907:Unit:=()
def tw16117101471947578159:Unit:=()
def tw4090890459014202459:Unit:=()
def tw16478268676386189032:Unit:=()
def tw15621976337650108401:Unit:=()
def tw7265332195313137301:Unit:=()
def tw15904199594167711245:Unit:=()
def tw6004625546920555698:Unit:=()
def tw14900358255011936711:Unit:=()
def tw11403076821752195099:Unit:=()
def tw8231816844342502952:Unit:=()
def tw7171795642936334445:Unit:=()
def tw550970613757312479:Unit:=()
def tw8124644221008253179:Unit:=()
def tw17539524990856458832:Unit:=()
def tw10404248668069894984:Unit:=()
def tw18405930110733475709:Unit:=()
def tw6021518616687916795:Unit:=()
def tw9640275783446171127:Unit:=()
def tw12185636834206920843:Unit:=()
def tw17833299349283812095:Unit:=()
def tw11426107929586903643:Unit:=()
def tw967181451958306903:Unit:=()
def tw7194236489510154445:Unit:=()
def tw13112545718370287331:Unit:=()
def tw524048258799688333:Unit:=()
def tw8954937720878738642:Unit:=()
def tw5398983549539484722:Unit:=()
def tw8759779739261265001:Unit:=()
def tw3928190779004742125:Unit:=()
def tw14195979810670126923:Unit:=()
def tw16303290952775889906:Unit:=()
def tw12763405279172489904:Unit:=()
def tw2154145614821177048:Unit:=()
def tw12253003181905998971:Unit:=()
def tw6773530256975149701:Unit:=()
def tw745352489645978357:Unit:=()
def tw10674909896736814064:Unit:=()
def tw3973855673088287084:Unit:=()
def tw16836811406650566717:Unit:=()
def tw14698416519950074807:Unit:=()
def tw13354989398945762970:Unit:=()
def tw7176615548978978305:Unit:=()
def tw7164401465345759305:Unit:=()
def tw2982073985316677885:Unit:=()
def tw14404858087532498792:Unit:=()
def tw12434623591825852099:Unit:=()
def tw1706671325077604251:Unit:=()
def tw16650694349510481960:Unit:=()
def tw7784344898248670515:Unit:=()
def tw2555765356103515764:Unit:=()
def tw7919678704030120392:Unit:=()
def tw9660912392891133213:Unit:=()
def tw13702891178513515200:Unit:=()
def tw917337710372036723:Unit:=()
def tw10344600693680649153:Unit:=()
def tw11371428006593430020:Unit:=()
def tw15920540932329065186:Unit:=()
def tw7968951724926223929:Unit:=()
def tw11446110343686128798:Unit:=()
def tw3310474441111162943:Unit:=()
def tw14153967976283286783:Unit:=()
def tw4174351403395228357:Unit:=()
def tw4432696882315497185:Unit:=()
def tw13549170709803225205:Unit:=()
def tw8831107261841256154:Unit:=()
def tw2524090735876988561:Unit:=()
def tw11435391619590941314:Unit:=()
def tw7969766742950106731:Unit:=()
def tw4478221943781944084:Unit:=()
def tw14870904656566379462:Unit:=()
def tw16569931499038282646:Unit:=()
def tw13426165663420723542:Unit:=()
def tw14820718122027986871:Unit:=()
def tw13202563430854603687:Unit:=()
def tw15829146534619486502:Unit:=()
def tw7206778218585899309:Unit:=()
def tw12792605756621036232:Unit:=()
def tw17651009731352378086:Unit:=()
def tw12139359464509512641:Unit:=()
def tw16762623236577580084:Unit:=()
def tw7926501758438157998:Unit:=()
def tw14792473070074900555:Unit:=()
def tw15093368838134435:Unit:=()
def tw10536315786308224165:Unit:=()
def tw14373597996661344341:Unit:=()
def tw1773169158880882427:Unit:=()
def tw6225532646710409926:Unit:=()
def tw16881123178058997748:Unit:=()
def tw11135430593145654385:Unit:=()
def tw11314527338411894176:Unit:=()
def tw11281166094575822959:Unit:=()
def tw3344264856214762453:Unit:=()
def tw7307169189179478989:Unit:=()
def tw11690546079099957906:Unit:=()
def tw12967348301036314611:Unit:=()
def tw4603454429747954337:Unit:=()
def tw4944619957281068203:Unit:=()
def tw5286631185430878847:Unit:=()
def tw333248365107832312:Unit:=()
def tw16107666608751028353:Unit:=()
def tw10768007242653255701:Unit:=()
def tw12995501554110903693:Unit:=()
def tw1809605570951312235:Unit:=()
def tw8995606092004679833:Unit:=()
def tw13656641336819677139:Unit:=()
def tw15672374552946108175:Unit:=()
def tw5201439970778346952:Unit:=()
def tw17871783018722114982:Unit:=()
def tw5187851378665936109:Unit:=()
def tw6591068968677951190:Unit:=()
def tw4147172054237745600:Unit:=()
def tw5421079637615113093:Unit:=()
def tw16863946444375655495:Unit:=()
def tw18208548051911198538:Unit:=()
def tw9143438935812720737:Unit:=()
def tw14236634364658081537:Unit:=()
def tw17095139741727789705:Unit:=()
def tw17732300699792209884:Unit:=()
def tw17785670394790641944:Unit:=()
def tw18023315080647246177:Unit:=()
def tw4713069534419796162:Unit:=()
def tw8229999116681756232:Unit:=()
def tw7010526503082130429:Unit:=()
def tw364469574641551040:Unit:=()
def tw17868243287415312093:Unit:=()
def tw13152590778591533176:Unit:=()
def tw12772585543002508241:Unit:=()
def tw9490309155736654723:Unit:=()
def tw15382510762436192212:Unit:=()
def tw2363476461658947551:Unit:=()
def tw10797328515250830899:Unit:=()
def tw14733206643531474862:Unit:=()
def tw14843347528962581828:Unit:=()
def tw11433929975891882672:Unit:=()
def tw17199159853307523207:Unit:=()
def tw8881223281460589460:Unit:=()
def tw6725825616237840880:Unit:=()
def tw17644102203623948242:Unit:=()
def tw14835577465991547960:Unit:=()
def tw997224137280953189:Unit:=()
def tw6075535063484946855:Unit:=()
def tw12561359607057821697:Unit:=()
def tw992578291410507126:Unit:=()
def tw13361512355217181844:Unit:=()
def tw9497405924168858852:Unit:=()
def tw4643641504793591570:Unit:=()
def tw1495706088296548418:Unit:=()
def tw4877520079002938526:Unit:=()
def tw6031122854090520158:Unit:=()
def tw9140988504525319348:Unit:=()
def tw10608706364209625476:Unit:=()
def tw15671616451417279977:Unit:=()
def tw11264357567346939185:Unit:=()
def tw5553697080074124688:Unit:=()
def tw3664616630974729063:Unit:=()
def tw5274323582478993231:Unit:=()
def tw2891220202907601008:Unit:=()
def tw13320229121842498971:Unit:=()
def tw7397810502203696631:Unit:=()
def tw13462262104740601851:Unit:=()
def tw702434908443484134:Unit:=()
def tw10729357167079503072:Unit:=()
def tw3813410779409231638:Unit:=()
def tw13946348057117374256:Unit:=()
def tw3906453053357832964:Unit:=()
def tw9261912173675001780:Unit:=()
def tw18093989898940529549:Unit:=()
def tw3907586277253645097:Unit:=()
def tw13614203293442473197:Unit:=()
def tw3861606038893987337:Unit:=()
def tw16675341003553534651:Unit:=()
def tw10519803351992640348:Unit:=()
def tw4390279131836267088:Unit:=()
def tw12679218988453564108:Unit:=()
def tw4474616014057159464:Unit:=()
def tw12764176105014554140:Unit:=()
def tw7623038827320487181:Unit:=()
def tw8935234141450513339:Unit:=()
def tw749535203436275088:Unit:=()
def tw5135736572065235579:Unit:=()
def tw10773560197866110006:Unit:=()
def tw2016363088339311255:Unit:=()
def tw4351698689999212943:Unit:=()
def tw2011555492112828246:Unit:=()
def tw16949896684356534734:=()
def tw15834618649400024719:=()
def tw14678366782225611187:=()
def tw31726278243284348:=()
def tw2357545465424165802:=()
def tw14858832917967005307:=()
def tw14959837233321125558:=()
def tw14324467353316289551:=()
def tw1100908206485877498:=()
def tw11191586670873217201:=()
def tw15683409904275260593:=()
def tw6180749975504628838:=()
def tw642044232502621134:=()
def tw11248168801633554504:=()
end PySem.W.Fast
open_shared Tp for PySem.Challenge.pw_beamtender_k29_desk_deeds leaving 1
namespace L2
open PySem PySem.Spec PyProof.Rows
noncomputable abbrev Key:=Sum Int Str
noncomputable def yg7:Key->Value->Bool
 | .inl k,v=>Value.isInt k v
 | .inr x,v=>Value.isStrOf x v
noncomputable def keyH (w:World):Key->Int
 | .inl k=>hashInt k
 | .inr x=>hashStr w x
theorem zh9:∀ {k:Key} {v:Value},yg7 k v=true->(∃ i t,k=Sum.inl i/\v=Value.int i t)\/(∃ x t,k=Sum.inr x/\v=Value.str x t)
 | .inl i,v,h=>by
   obtain ⟨t,e⟩:=Value.isInt_shape (k:=i) (v:=v) h
   exact .inl ⟨i,t,rfl,e⟩
 | .inr x,v,h=>by
   obtain ⟨t,e⟩:=Value.isStrOf_shape (x:=x) (v:=v) h
   exact .inr ⟨x,t,rfl,e⟩
theorem key_ll (a b:Int):decide ((Sum.inl a:Key)=Sum.inl b)=(a == b):=by
 by_cases e:a=b
 . subst e;simp
 . have h:¬ (Sum.inl a:Key)=Sum.inl b:=fun q=>e (Sum.inl.inj q)
   rw[decide_eq_false h]
   exact (beq_eq_false_iff_ne.mpr e).symm
theorem key_rr (a b:Str):decide ((Sum.inr a:Key)=Sum.inr b)=decide (a=b):=by
 by_cases e:a=b
 . subst e;simp
 . have h:¬ (Sum.inr a:Key)=Sum.inr b:=fun q=>e (Sum.inr.inj q)
   rw[decide_eq_false h,decide_eq_false e]
theorem key_lr (a:Int) (b:Str):decide ((Sum.inl a:Key)=Sum.inr b)=false:=decide_eq_false (fun q=>nomatch q)
theorem key_rl (a:Str) (b:Int):decide ((Sum.inr a:Key)=Sum.inl b)=false:=decide_eq_false (fun q=>nomatch q)
noncomputable def ya8 (prog:Program) (w:World):PySem.KeyKind prog w Key where
 is:=yg7
 hash:=keyH w
 inj:=fun v a b ha hb=>by
   rcases zh9 ha with ⟨i,t,rfl,rfl⟩ | ⟨x,t,rfl,rfl⟩
   . rcases zh9 hb with ⟨j,u,rfl,e⟩ | ⟨y,u,rfl,e⟩
     . injection e with e1 _;rw[e1]
     . exact nomatch e
   . rcases zh9 hb with ⟨j,u,rfl,e⟩ | ⟨y,u,rfl,e⟩
     . exact nomatch e
     . injection e with e1 _;rw[e1]
 byValue:=fun k v h=>by
   rcases zh9 h with ⟨i,t,rfl,rfl⟩ | ⟨x,t,rfl,rfl⟩<;>rfl
 pyHash:=fun hv h=>by
   rcases zh9 hv with ⟨i,t,rfl,rfl⟩ | ⟨x,t,rfl,rfl⟩
   . exact wpAny_pyHash_int h
   . exact wpAny_pyHash_str h
 eqBool:=fun hu hv h=>by
   rcases zh9 hu with ⟨i,t,rfl,rfl⟩ | ⟨x,t,rfl,rfl⟩
   . rcases zh9 hv with ⟨j,u,rfl,rfl⟩ | ⟨y,u,rfl,rfl⟩
     . rw[key_ll] at h;exact wpAny_eqBool_int h
     . rw[key_lr] at h;exact SeqAt.EqAt.int_str i t y u _ _ _ _ h
   . rcases zh9 hv with ⟨j,u,rfl,rfl⟩ | ⟨y,u,rfl,rfl⟩
     . rw[key_rl] at h;exact SeqAt.EqAt.str_int x t j u _ _ _ _ h
     . rw[key_rr] at h;exact wpAny_eqBool_str h
 «strs»:=fun k x t v h=>by
   rcases zh9 h with ⟨i,u,rfl,e⟩ | ⟨y,u,rfl,e⟩
   . exact nomatch e
   . injection e with e1 _
     subst e1
     cases v<;>rfl
end L2
namespace L2
open PySem PySem.Spec PyProof.Rows
inductive V where
 | non | bl (b:Bool) | int (i:Int) | str (x:Str) | byt (b:Array UInt8) | flt (b:UInt64) | ref (a:Addr) | ty (n:String)
 deriving DecidableEq
noncomputable def RelV:V->Value->Prop
 | .non,u=>u=Value.none
 | .bl b,u=>u=Value.bool b
 | .int i,u=>∃ t,u=Value.int i t
 | .str x,u=>∃ t,u=Value.str x t
 | .byt b,u=>∃ t,u=Value.bytes b t
 | .flt b,u=>∃ t,u=Value.float b t
 | .ref a,u=>u=Value.ref a
 | .ty n,u=>u=Value.type n
noncomputable abbrev Vals:List V->List Value->Prop:=Paired RelV
theorem Vals.length {xs:List V} {us:List Value} (r:Vals xs us):xs.length=us.length:=Paired.length r
theorem Vals.get:∀ {xs:List V} {us:List Value} {i:Nat} {x:V},Vals xs us->xs[i]?=some x->∃ u,us[i]?=some u/\RelV x u
 | _,_,_,_,.nil,e=>by simp at e
 | _,_,0,_,.cons r _,e=>by simp at e;subst e;exact⟨_,rfl,r⟩
 | _,_,i+1,x,.cons _ t,e=>by
   obtain ⟨u,h1,h2⟩:=Vals.get (i:=i) (x:=x) t (by simpa using e)
   exact⟨u,by simpa using h1,h2⟩
theorem Vals.set {x:V} {u:Value} (r:RelV x u):∀ {xs:List V} {us:List Value} (i:Nat),Vals xs us->Vals (xs.set i x) (us.set i u)
 | _,_,_,.nil=>.nil
 | _,_,0,.cons _ t=>.cons r t
 | _,_,i+1,.cons q t=>.cons q (Vals.set r i t)
theorem Vals.append:∀ {xs ys:List V} {us ws:List Value},Vals xs us->Vals ys ws->Vals (xs++ys) (us++ws)
 | _,_,_,_,.nil,s=>s
 | _,_,_,_,.cons r t,s=>.cons r (Vals.append t s)
theorem Vals.take:∀ {xs:List V} {us:List Value} (n:Nat),Vals xs us->Vals (xs.take n) (us.take n)
 | _,_,0,_=>.nil
 | _,_,_+1,.nil=>.nil
 | _,_,n+1,.cons r t=>.cons r (Vals.take n t)
theorem Vals.drop:∀ {xs:List V} {us:List Value} (n:Nat),Vals xs us->Vals (xs.drop n) (us.drop n)
 | _,_,0,r=>r
 | _,_,_+1,.nil=>.nil
 | _,_,n+1,.cons _ t=>Vals.drop n t
noncomputable def RelO:Option V->Option Value->Prop
 | some v,some u=>RelV v u
 | none,none=>True
 | _,_=>False
noncomputable def KV {κ:Type}:List (κ×V)->List (κ×Value)->Prop:=Paired fun (p:κ×V) (q:κ×Value)=>p.1=q.1/\RelV p.2 q.2
noncomputable def kV:Key->V
 | .inl i=>.int i
 | .inr x=>.str x
inductive HO where
 | lst (xs:List V)
 | tup (xs:List V)
 | dK (kvs:List (Key×V)) | dT (kvs:List (List Key×V))
 | set (S:Int->Bool) (n:Nat)
 | ins (C dx:Addr) (fs:List (Str×V))
 | own (x:Addr)
 | xd (fs:List (Str×V))
 | met (f x:Addr)
 | rng (lo hi:Int)
 | frz (o:Obj) (u:HO)
 | tbl (ps:Array Value)
 | ext (φ:Heap->Prop)
noncomputable abbrev Hp:=Addr->Option HO
noncomputable def upd (H:Hp) (a:Addr) (o:HO):Hp:=fun b=>if b=a then some o else H b
theorem za3 {H:Hp} {a:Addr} {o:HO}:upd H a o a=some o:=by unfold upd;rw[if_pos rfl]
theorem za8 {H:Hp} {a b:Addr} {o:HO} (h:b≠a):upd H a o b=H b:=by unfold upd;rw[if_neg h]
theorem zj6 {H:Hp} {a:Addr} {o u:HO}:upd (upd H a o) a u=upd H a u:=by
 funext b;unfold upd;split<;>rfl
theorem zM4 {H:Hp} {a b:Addr} {o u:HO} (h:H a=some o) (h':H b=some u) (d:o≠u):a≠b:=by
 intro e;subst e;rw[h] at h';exact d (Option.some.inj h')
theorem zc0 {H:Hp} {a b:Addr} {o:HO} (h:H a=some o) (h':H b=none):a≠b:=by
 intro e;subst e;rw[h] at h';cases h'
noncomputable def TupD (h:Heap) (a:Addr) (items:Array Value):Prop:=∃ o,h.get? a=some o/\o.cls = .type "tuple"/\o.dict=none/\∃ n,o.data = .seq items n
theorem TupD.isTup {h:Heap} {a:Addr} {items:Array Value} (x:TupD h a items):IsTup h a items:=let ⟨o,e,c,_,n,d⟩:=x;⟨o,e,c,n,d⟩
theorem TupD.new (h:Heap) (items:Array Value):TupD (h.push { cls:=.type "tuple",data:=.seq items }) h.objs.size items:=⟨_,Heap.get?_push_size _ rfl,rfl,rfl,_,rfl⟩
section
variable (P:Program) (w:World)
noncomputable def zk1 (H:Hp) (h:Heap) (a:Addr):HO->Prop
 | .lst xs=>xs.length<=sizeLine/\∃ (its:List Value) (n:Nat),Vals xs its/\h.get? a=some { cls:=.type "list",data:=.seq its.toArray n }
 | .tup xs=>xs.length<=sizeLine/\∃ its:List Value,Vals xs its/\TupD h a its.toArray
 | .dK kvs=>kvs.length<=sizeLine/\(a == sysModules)=false/\∃ vs,KV kvs vs/\h.DictOf (ya8 P w) a vs
 | .dT kvs=>kvs.length<=sizeLine/\(a == sysModules)=false/\∃ xs:List (List Key×Addr×Value),
     Paired (fun (p:List Key×V) (q:List Key×Addr×Value)=>p.1=q.1/\H q.2.1=some (.tup (p.1.map kV))/\RelV p.2 q.2.2) kvs xs ∧
     ∃ o es ep,h.get? a=some o/\o.ExactDict/\o.data = .dict es ep/\es.toList=xs.map (entryOfKey (tupleKind (ya8 P w)))/\(xs.map (·.1)).Nodup
 | .set S n=>h.SetOf (intKind P w) a S n
 | .ins C dx fs=>H dx=some (.own a)/\fs.length<=1000/\dx≠a/\h.get? a=some (W.instObj C dx) ∧
     ∃ mA,h.Ns1 dx mA/\(∀ f,RelO (fs.lookup f) (mA f))/\PySem.Within mA (fs.map (·.1))
 | .own _=>∃ o,h.get? a=some o
 | .xd fs=>fs.length<=1000/\∃ mA,h.Ns1 a mA/\(∀ f,RelO (fs.lookup f) (mA f))/\PySem.Within mA (fs.map (·.1))
 | .rng lo hi=>∃ t u v,h.get? a=some { cls:=.type "range",data:=.fields #[.int lo t,.int hi u,.int 1 v] }
 | .frz o u=>h.get? a=some o/\zk1 H h a u
 | .tbl ps=>h.get? a=some { cls:=.none,data:=.fields ps }
 | .met f x=>h.get? a=some (W.methodObj (.ref f) (.ref x))
 | .ext φ=>φ h/\(∃ o,h.get? a=some o)/\∀ h1 h2:Heap,φ h1->(∀ o,h1.get? a=some o->h2.get? a=some o)->φ h2
noncomputable def HOk (H:Hp) (h:Heap):Prop:=∀ a o,H a=some o->zk1 P w H h a o
end
section
variable {P:Program} {w:World} {H H':Hp} {h h':Heap} {a:Addr} {o:HO}
theorem zk1.lt (x:zk1 P w H h a o):a<h.objs.size:=by
 cases o with
 | lst xs=>obtain ⟨_,_,_,_,e⟩:=x;exact Heap.lt_size e
 | tup xs=>obtain ⟨_,_,_,_,e,_⟩:=x;exact Heap.lt_size e
 | dK kvs=>obtain ⟨_,_,_,_,o,_,_,e,_⟩:=x;exact Heap.lt_size e
 | dT kvs=>obtain ⟨_,_,_,_,o,_,_,e,_⟩:=x;exact Heap.lt_size e
 | set S n=>obtain ⟨o,_,_,_,e,_⟩:=x;exact Heap.lt_size e
 | ins C dx fs=>obtain ⟨_,_,_,e,_⟩:=x;exact Heap.lt_size e
 | own y=>obtain ⟨_,e⟩:=x;exact Heap.lt_size e
 | xd fs=>obtain ⟨_,_,⟨_,_,_,e,_⟩,_⟩:=x;exact Heap.lt_size e
 | rng lo hi=>obtain ⟨_,_,_,e⟩:=x;exact Heap.lt_size e
 | frz ob u=>obtain ⟨e,_⟩:=x;exact Heap.lt_size e
 | tbl ps=>exact Heap.lt_size (show h.get? a=some _ from x)
 | met f y=>exact Heap.lt_size (show h.get? a=some _ from x)
 | ext φ=>obtain ⟨_,⟨_,e⟩,_⟩:=x;exact Heap.lt_size e
theorem Paired.mapP {α β:Type} {F G:α->β->Prop}:∀ {l₁:List α} {l₂:List β},Paired F l₁ l₂->(∀ a b,F a b->G a b)->Paired G l₁ l₂
 | _,_,.nil,_=>.nil
 | _,_,.cons r t,f=>.cons (f _ _ r) (Paired.mapP t f)
theorem zk1.stay (x:zk1 P w H h a o) (k:∀ b u,(b=a\/H b=some (.own a))->h.get? b=some u->h'.get? b=some u)
   (ho:∀ b,H b=some (.own a)->H' b=some (.own a)) (ht:∀ b xs,H b=some (.tup xs)->H' b=some (.tup xs)):zk1 P w H' h' a o:=by
 induction o with
 | lst xs=>obtain ⟨z,its,n,r,e⟩:=x;exact⟨z,its,n,r,k _ _ (.inl rfl) e⟩
 | tup xs=>obtain ⟨z,its,r,ob,e,c⟩:=x;exact⟨z,its,r,ob,k _ _ (.inl rfl) e,c⟩
 | dK kvs=>obtain ⟨z,y,vs,r,ob,es,ep,e,c⟩:=x;exact⟨z,y,vs,r,ob,es,ep,k _ _ (.inl rfl) e,c⟩
 | dT kvs =>
   obtain ⟨z,y,xs,r,ob,es,ep,e,c⟩:=x
   exact⟨z,y,xs,Paired.mapP r fun p q z=>⟨z.1,ht _ _ z.2.1,z.2.2⟩,ob,es,ep,k _ _ (.inl rfl) e,c⟩
 | set S n=>obtain ⟨ob,es,ep,t,e,c⟩:=x;exact⟨ob,es,ep,t,k _ _ (.inl rfl) e,c⟩
 | ins C dx fs =>
   obtain ⟨d,z,ne,e,mA,⟨od,es,ep,e2,c⟩,r⟩:=x
   exact⟨ho _ d,z,ne,k _ _ (.inl rfl) e,mA,⟨od,es,ep,k _ _ (.inr d) e2,c⟩,r⟩
 | own y=>obtain ⟨ob,e⟩:=x;exact⟨ob,k _ _ (.inl rfl) e⟩
 | xd fs=>obtain ⟨z,mA,⟨od,es,ep,e,c⟩,r⟩:=x;exact⟨z,mA,⟨od,es,ep,k _ _ (.inl rfl) e,c⟩,r⟩
 | rng lo hi=>obtain ⟨t,u,v,e⟩:=x;exact⟨t,u,v,k _ _ (.inl rfl) e⟩
 | frz ob u ih=>obtain ⟨e,q⟩:=x;exact⟨k _ _ (.inl rfl) e,ih q⟩
 | tbl ps =>
   have e:h.get? a=some { cls:=.none,data:=.fields ps }:=x
   show h'.get? a=some { cls:=.none,data:=.fields ps }
   exact k a _ (.inl rfl) e
 | met f y =>
   have e:h.get? a=some (W.methodObj (.ref f) (.ref y)):=x
   show h'.get? a=some (W.methodObj (.ref f) (.ref y))
   exact k a _ (.inl rfl) e
 | ext φ=>obtain ⟨p,⟨o,e⟩,st⟩:=x;exact⟨st _ _ p fun o q=>k _ _ (.inl rfl) q,⟨o,k _ _ (.inl rfl) e⟩,st⟩
theorem HOk.lt (x:HOk P w H h) (e:H a=some o):a<h.objs.size:=(x a o e).lt
theorem HOk.fresh (x:HOk P w H h) (e:h.objs.size<=a):H a=none:=by
 cases q:H a with
 | none=>rfl
 | some u=>exact absurd (Nat.lt_of_lt_of_le (x.lt q) e) (Nat.lt_irrefl _)
theorem HOk.kept (x:HOk P w H h) (k:∀ b u,h.get? b=some u->h'.get? b=some u):HOk P w H h':=fun a o e =>
 (x a o e).stay (fun b u _ q=>k b u q) (fun _ q=>q) fun _ _ q=>q
theorem HOk.laid (x:HOk P w H h) (k:∀ b u,h.get? b=some u->h'.get? b=some u) (hp:h.objs.size<=a) (new:zk1 P w (upd H a o) h' a o):HOk P w (upd H a o) h':=fun b u e=>by
 have hn:=x.fresh hp
 by_cases hb:b=a
 . subst hb;rw[za3] at e;cases e;exact new
 . rw[za8 hb] at e
   exact (x b u e).stay (fun c v _ q=>k c v q) (fun c q=>by rw[za8 (zc0 q hn)];exact q) fun c xs q=>by rw[za8 (zc0 q hn)];exact q
end
noncomputable def Rd (H:Hp) (a:Addr) (u:HO):Prop:=H a=some u\/∃ o,H a=some (.frz o u)
theorem Rd.ok {P:Program} {w:World} {H:Hp} {h:Heap} {a:Addr} {u:HO} (r:Rd H a u) (x:HOk P w H h):zk1 P w H h a u:=by
 rcases r with r | ⟨o,r⟩
 . exact x a u r
 . obtain ⟨_,q⟩:=x a _ r
   exact q
noncomputable def Mut:Option HO->Prop
 | some (.lst _)=>True
 | some (.dK _)=>True
 | some (.dT _)=>True
 | some (.set _ _)=>True
 | some (.ins _ _ _)=>True
 | some (.ext _)=>True
 | some (.xd _)=>True
 | _=>False
section
variable {P:Program} {w:World} {H:Hp} {h h':Heap} {x e:Addr} {o':HO}
theorem HOk.write (ok:HOk P w H h) (mu:Mut (H x)) (he:e=x\/H e=some (.own x)) (k:∀ b u,b≠e->h.get? b=some u->h'.get? b=some u) (heo:∃ u,h'.get? e=some u)
   (new:zk1 P w (upd H x o') h' x o'):HOk P w (upd H x o') h':=fun b u q=>by
 have nown:∀ c y,H c=some (.own y)->c≠x:=fun c y r z=>by subst z;rw[r] at mu;exact mu
 have ntup:∀ c xs,H c=some (.tup xs)->c≠x:=fun c xs r z=>by subst z;rw[r] at mu;exact mu
 by_cases hb:b=x
 . subst hb;rw[za3] at q;cases q;exact new
 . rw[za8 hb] at q
   by_cases hbe:b=e
   . have q':H b=some (.own x):=by
       rcases he with z | z
       . exact absurd (hbe.trans z) hb
       . rw[hbe];exact z
     rw[q] at q';cases q'
     obtain ⟨v,hv⟩:=heo
     exact⟨v,by rw[hbe];exact hv⟩
   . refine (ok b u q).stay (fun c v hc r=>k c v ?_ r) (fun c r=>by rw[za8 (nown c b r)];exact r) fun c xs r=>by rw[za8 (ntup c xs r)];exact r
     rcases hc with rfl | hc
     . exact hbe
     . rintro rfl
       rcases he with z | z
       . exact nown c b hc z
       . rw[hc] at z;cases z;exact hb rfl
end
structure Un (fs ex:List Addr) (H H':Hp) (h h':Heap):Prop where
 keep:∀ b o,h.get? b=some o->H b=none->b∉fs->b∉ex->h'.get? b=some o
 slot:∀ b o,h.get? b=some o->H b=none->b∈fs->b∉ex->∃ sl,h'.get? b=some { o with slots:=sl }
 free:∀ b o,h.get? b=some o->H b=none->b∉ex->H' b=none
 there:∀ b o,h.get? b=some o->b∉ex->∃ o',h'.get? b=some o'
 tups:∀ b xs,H b=some (.tup xs)->H' b=some (.tup xs)
 frzs:∀ b o u,H b=some (.frz o u)->H' b=some (.frz o u)
 tbls:∀ b ps,H b=some (.tbl ps)->∃ more,H' b=some (.tbl (ps++more))
section
variable {fs fs' ex ex':List Addr} {H H1 H2:Hp} {h h1 h2 h':Heap} {a x e:Addr} {o:HO}
theorem Un.any (u:Un fs ex H H1 h h1) {b:Addr} {ob:Obj} (q:h.get? b=some ob) (n:H b=none) (hx:b∉ex):∃ sl,h1.get? b=some { ob with slots:=sl }:=by
 by_cases hb:b∈fs
 . exact u.slot b ob q n hb hx
 . exact⟨ob.slots,u.keep b ob q n hb hx⟩
theorem Un.kept (k:∀ b u,h.get? b=some u->h'.get? b=some u):Un fs ex H H h h' :=
 ⟨fun b ob q _ _ _=>k b ob q,fun b ob q _ _ _=>⟨ob.slots,k b ob q⟩,fun _ _ _ n _=>n,fun b ob q _=>⟨ob,k b ob q⟩,fun _ _ q=>q,fun _ _ _ q=>q,fun _ ps q=>⟨#[],by rw[q];simp⟩⟩
theorem Un.refl:Un fs ex H H h h:=Un.kept fun _ _ q=>q
theorem Un.laid (k:∀ b u,h.get? b=some u->h'.get? b=some u) (hp:h.objs.size<=a) (hn:H a=none):Un fs ex H (upd H a o) h h' where
 keep:=fun b u q _ _ _=>k b u q
 slot:=fun b u q _ _ _=>⟨u.slots,k b u q⟩
 free:=fun b u q n _=>by rw[za8 (Nat.ne_of_lt (Nat.lt_of_lt_of_le (Heap.lt_size q) hp))];exact n
 there:=fun b u q _=>⟨u,k b u q⟩
 tups:=fun b xs q=>by rw[za8 (zc0 q hn)];exact q
 frzs:=fun b u xs q=>by rw[za8 (zc0 q hn)];exact q
 tbls:=fun b ps q=>⟨#[],by rw[za8 (zc0 q hn),q];simp⟩
theorem Un.write (mu:Mut (H x)) (he:e=x\/H e=some (.own x)) (k:∀ b u,b≠e->h.get? b=some u->h'.get? b=some u) (heo:∃ u,h'.get? e=some u):Un fs ex H (upd H x o) h h':=by
 have hx:∀ b,H b=none->b≠x:=fun b n z=>by subst z;rw[n] at mu;exact mu
 have hb:∀ b,H b=none->b≠e:=fun b n z=>by
   subst z
   rcases he with r | r
   . exact hx b n r
   . rw[n] at r;cases r
 have hm:∀ b u,H b=some u->¬ Mut (some u)->b≠x:=fun b u q nm z=>by subst z;rw[q] at mu;exact nm mu
 refine⟨fun b u q n _ _=>k b u (hb b n) q,fun b u q n _ _=>⟨u.slots,k b u (hb b n) q⟩,fun b u q n _=>by rw[za8 (hx b n)];exact n,fun b u q _=>?_,
   fun b xs q=>by rw[za8 (hm b _ q fun z=>z)];exact q,fun b u xs q=>by rw[za8 (hm b _ q fun z=>z)];exact q,fun b ps q=>⟨#[],by rw[za8 (hm b _ q fun z=>z),q];simp⟩⟩
 by_cases hbe:b=e
 . subst hbe;exact heo
 . exact⟨u,k b u hbe q⟩
end
noncomputable def trk (h:Heap) (H:Hp):List Addr:=(List.range h.objs.size).filter fun a=>(H a).isSome
noncomputable def hidT (h:Heap) (H:Hp):Heap:=W.hideAll h (trk h H)
theorem hidT_size (h:Heap) (H:Hp):(hidT h H).objs.size=h.objs.size:=W.hideAll_size _ _
theorem hidT_get {h:Heap} {H:Hp} {b:Addr} {o:Obj} (e:h.get? b=some o) (n:H b=none):(hidT h H).get? b=some o :=
 W.hideAll_get _ e fun hm=>by
   have q:(H b).isSome=true:=(List.mem_filter.mp hm).2
   rw[n] at q;simp at q
theorem of_hidT {h:Heap} {H:Hp} {b:Addr} {o:Obj} (e:(hidT h H).get? b=some o):h.get? b=some o/\H b=none:=by
 have e':h.get? b=some o:=W.of_hideAll (trk h H) e
 refine⟨e',?_⟩
 cases q:H b with
 | none=>rfl
 | some x =>
   have hm:b∈trk h H:=List.mem_filter.mpr ⟨List.mem_range.mpr (Heap.lt_size e'),by simp[q]⟩
   have z:(hidT h H).get? b=none:=W.hideAll_none (trk h H) hm
   rw[z] at e;cases e
end L2
namespace L2
open PySem PySem.Spec PyProof.Rows
structure Mod (K:W.Frag) (mg:Str->Option Value) (base:Heap):Prop where
 kin:K.In base
 glob:base.Ns mainGlobals mg
 blt:∃ mb,base.Ns builtinsNs mb/\∀ x:Str,x≠"__name__"->mb x=bootBuiltins x
 nolimit:base.NoLimit
structure Cx where
 prog:Program
 w:World
 K:W.Frag
 mg:Str->Option Value
 base:Heap
 A:Around
 N:List Str
 s₀:Shared
 H₀:Hp
 env:Env
 outer:List Env
 stack:List Env
 ex:List Addr
 fn:Str->Bool
 calm:Bool
 pn:List (Addr×Obj)
 xe:Value->Shared->Prop
noncomputable def frs (l:List Env):List Addr:=l.filterMap (·.frame)
noncomputable abbrev Cx.fs (X:Cx):List Addr:=frs X.outer
noncomputable def Vis (sc:Scope) (x:Str):Prop:=sc.names.lookup x=some .local\/sc.names.lookup x=some .cell\/sc.names.lookup x=some .free
noncomputable def Loc (sc:Scope) (x:Str):Prop:=sc.names.lookup x=some .local\/sc.names.lookup x=some .cell
noncomputable def Look (env:Env) (h:Heap) (m:Str->Option Value) (x:Str) (u:Value):Prop :=
 (env.kindOf x=some .local/\m x=some u)\/((env.kindOf x=some .cell\/env.kindOf x=some .free)/\∃ c,env.cells.lookup x=some c/\h.IsCell c (some u))
structure Cx.Ok (X:Cx):Prop where
 mod:Mod X.K X.mg X.base
 kind:X.env.scope.kind = .function
 glob:X.env.globals=mainGlobals
 blt:X.env.builtins=builtinsNs
 above:X.s₀.heap.objs.size<=X.env.locals
 inj:∀ x y c,X.env.cells.lookup x=some c->X.env.cells.lookup y=some c->x=y
 has:∀ x,(X.env.kindOf x=some .cell\/X.env.kindOf x=some .free)->∃ c,X.env.cells.lookup x=some c
 cab:∀ x c,X.fn x=true->X.env.cells.lookup x=some c->X.s₀.heap.objs.size<=c
 hd:X.calm=true->X.A.handled=none
 frames:X.A.frames=some X.stack
 stk:X.stack=X.outer\/(X.stack=X.env::X.outer/\X.env.frame=some X.env.locals)
 exf:∀ b∈X.ex,b≠X.env.locals/\∀ x c,X.env.cells.lookup x=some c->c≠b
 bs:∀ b o,X.base.get? b=some o->X.s₀.heap.get? b=some o/\X.H₀ b=none
 bsz:X.base.objs.size<=X.s₀.heap.objs.size
 noex:∀ b o,X.base.get? b=some o->b∉X.ex
 exfs:∀ b∈X.ex,b∉X.fs
 funs:X.s₀.heap.FunFrames X.base X.outer
 frf:∀ b∈X.fs,X.H₀ b=none
structure Inv (X:Cx) (pins:List (Addr×Obj)) (σ:List (Option V)) (H:Hp) (s:Shared):Prop where
 ok:X.Ok
 os:s.os=X.s₀.os
 bare:AllBare s.gens
 base:Un X.fs X.ex X.H₀ H X.s₀.heap s.heap
 loc:∃ m,s.heap.Ns X.env.locals m/\∀ (i:Nat) (x:Str) (v:V),X.N[i]?=some x->σ[i]?=some (some v)->Vis X.env.scope x->∃ u,RelV v u/\Look X.env s.heap m x u
 cell:∀ x c,X.env.cells.lookup x=some c->∃ v,s.heap.IsCell c v
 free:H X.env.locals=none
 freeC:∀ x c,X.env.cells.lookup x=some c->H c=none
 pin:∀ p∈X.pn++pins,s.heap.get? p.1=some p.2/\H p.1=none/\p.1≠X.env.locals/\p.1∉X.fs/\∀ v,p.2.data≠.cell v
 hok:HOk X.prog X.w H s.heap
 len:σ.length=X.N.length
section
variable {X:Cx} {pins:List (Addr×Obj)} {σ:List (Option V)} {H H':Hp} {s:Shared} {h':Heap}
theorem Cx.Ok.nofr (ok:X.Ok) {b:Addr} {o:Obj} (e:X.base.get? b=some o):b∉X.fs:=fun hb=>by
 have:=(ok.funs.mem hb).1
 rw[e] at this;cases this
theorem Inv.bs (I:Inv X pins σ H s):∀ b o,X.base.get? b=some o->s.heap.get? b=some o/\H b=none:=fun b o e =>
 ⟨I.base.keep b o (I.ok.bs b o e).1 (I.ok.bs b o e).2 (I.ok.nofr e) (I.ok.noex b o e),I.base.free b o (I.ok.bs b o e).1 (I.ok.bs b o e).2 (I.ok.noex b o e)⟩
theorem Inv.bk (I:Inv X pins σ H s):∀ b o,X.base.get? b=some o->s.heap.get? b=some o:=fun b o e=>(I.bs b o e).1
theorem Inv.mod (I:Inv X pins σ H s):Mod X.K X.mg X.base:=I.ok.mod
theorem Inv.kIn (I:Inv X pins σ H s):X.K.In s.heap:=I.ok.mod.kin.keeps I.bk
theorem Inv.lt (I:Inv X pins σ H s):X.env.locals<s.heap.objs.size:=let ⟨_,hn,_⟩:=I.loc;hn.lt
theorem Inv.sz (I:Inv X pins σ H s):X.s₀.heap.objs.size<=s.heap.objs.size:=Nat.le_trans I.ok.above (Nat.le_of_lt I.lt)
theorem Inv.nofs (I:Inv X pins σ H s) {a:Addr} (h:s.heap.objs.size<=a):a∉X.fs:=fun hb=>by
 obtain ⟨_,o,ho,_⟩:=I.ok.funs.mem hb
 exact absurd (Nat.lt_of_lt_of_le (Heap.lt_size ho) (Nat.le_trans I.sz h)) (Nat.lt_irrefl _)
theorem Inv.cne (I:Inv X pins σ H s):∀ x c,X.env.cells.lookup x=some c->c≠X.env.locals:=fun x c e z=>by
 obtain ⟨v,o,ho,hd⟩:=I.cell x c e
 obtain ⟨m,⟨o',es,ep,ho',hd',_⟩,_⟩:=I.loc
 rw[z,ho'] at ho;cases ho;rw[hd'] at hd;cases hd
theorem Inv.funs (I:Inv X pins σ H s):s.heap.FunFrames X.base X.outer:=by
 have all:∀ (l:List Env),(∀ b∈frs l,b∈X.fs)->X.s₀.heap.FunFrames X.base l->s.heap.FunFrames X.base l:=by
   intro l
   induction l with
   | nil=>intro _ _;trivial
   | cons env r ih =>
     intro hs hl
     obtain ⟨hk,⟨L,o,hf,hn,ho,hd⟩,hr⟩:=hl
     have hL:L∈X.fs:=hs L (by unfold frs;rw[List.filterMap_cons,hf];exact List.mem_cons_self)
     obtain ⟨sl,e⟩:=I.base.slot L o ho (I.ok.frf L hL) hL fun z=>I.ok.exfs L z hL
     exact⟨hk,⟨L,_,hf,hn,e,hd⟩,ih (fun b hb=>hs b (by unfold frs;rw[List.filterMap_cons,hf];exact List.mem_cons_of_mem _ hb)) hr⟩
 exact all X.outer (fun _ hb=>hb) I.ok.funs
theorem Inv.stack (I:Inv X pins σ H s):s.heap.FunFrames X.base X.stack:=by
 rcases I.ok.stk with e | ⟨e,hf⟩
 . rw[e];exact I.funs
 . rw[e]
   obtain ⟨m,hn,_⟩:=I.loc
   refine .cons (by rw[I.ok.kind];decide) hf hn ?_ I.funs
   exact Heap.get?_none_of_le (Nat.le_trans I.ok.bsz I.ok.above)
theorem Inv.stkSub (I:Inv X pins σ H s):∀ b∈frs X.stack,b∈X.env.locals::X.fs:=fun b hb=>by
 rcases I.ok.stk with e | ⟨e,hf⟩
 . rw[e] at hb;exact List.mem_cons_of_mem _ hb
 . rw[e] at hb
   unfold frs at hb
   rw[List.filterMap_cons,hf] at hb
   exact hb
theorem Inv.stkFree (I:Inv X pins σ H s):∀ b∈frs X.stack,H b=none:=fun b hb=>by
 rcases List.mem_cons.mp (I.stkSub b hb) with e | hb
 . rw[e];exact I.free
 . obtain ⟨_,o,ho,_⟩:=I.ok.funs.mem hb
   exact I.base.free b o ho (I.ok.frf b hb) fun z=>I.ok.exfs b z hb
theorem Inv.step {g':Array GenState} {t':Nat} {d':Drawn} {ch:List Addr} (I:Inv X pins σ H s)
   (hch:∀ b∈ch,(b∈X.ex\/X.s₀.heap.objs.size<=b)/\b≠X.env.locals/\(∀ x c,X.env.cells.lookup x=some c->c≠b)/\∀ p∈X.pn++pins,p.1≠b)
   (keep:∀ b o,b≠X.env.locals->b∉X.fs->b∉ch->s.heap.get? b=some o->H b=none->h'.get? b=some o)
   (slot:∀ b o,b≠X.env.locals->b∈X.fs->b∉ch->s.heap.get? b=some o->H b=none->∃ sl,h'.get? b=some { o with slots:=sl }) (free:∀ b o,b∉ch->s.heap.get? b=some o->H b=none->H' b=none)
   (there:∀ b o,b∉ch->s.heap.get? b=some o->∃ o',h'.get? b=some o')
   (tups:∀ b xs,H b=some (.tup xs)->H' b=some (.tup xs)) (frzs:∀ b o u,H b=some (.frz o u)->H' b=some (.frz o u)) (tbls:∀ b ps,H b=some (.tbl ps)->∃ more,H' b=some (.tbl (ps++more)))
   (ns:∀ m,s.heap.Ns X.env.locals m->h'.Ns X.env.locals m) (hok:HOk X.prog X.w H' h') (hg:AllBare g') :
   Inv X pins σ H' { s with heap:=h',gens:=g',drawn:=d',toks:=t' }:=by
 have neL:∀ b o,X.s₀.heap.get? b=some o->b≠X.env.locals:=fun b o e=>Nat.ne_of_lt (Nat.lt_of_lt_of_le (Heap.lt_size e) I.ok.above)
 have neC:∀ b o,X.s₀.heap.get? b=some o->b∉X.ex->b∉ch:=fun b o e hx hb=>by
   rcases (hch b hb).1 with z | z
   . exact hx z
   . exact absurd (Nat.lt_of_lt_of_le (Heap.lt_size e) z) (Nat.lt_irrefl _)
 have cellK:∀ x c,X.env.cells.lookup x=some c->∀ v,s.heap.IsCell c v->h'.IsCell c v:=fun x c e v ⟨o,ho,hd⟩=>by
   have nch:c∉ch:=fun z=>(hch c z).2.2.1 x c e rfl
   by_cases hc:c∈X.fs
   . obtain ⟨sl,q⟩:=slot c o (I.cne x c e) hc nch ho (I.freeC x c e)
     exact⟨_,q,hd⟩
   . exact⟨o,keep c o (I.cne x c e) hc nch ho (I.freeC x c e),hd⟩
 refine⟨I.ok,I.os,hg,⟨fun b o e n hb hx=>?_,fun b o e n hb hx=>?_,fun b o e n hx=>?_,fun b o e hx=>?_,fun b xs e=>tups b xs (I.base.tups b xs e),fun b o xs e=>frzs b o xs (I.base.frzs b o xs e),fun b ps e=>?_⟩,?_,fun x c e=>?_,?_,fun x c e=>?_,fun p hp=>?_,hok,I.len⟩
 . exact keep b o (neL b o e) hb (neC b o e hx) (I.base.keep b o e n hb hx) (I.base.free b o e n hx)
 . obtain ⟨sl,e1⟩:=I.base.slot b o e n hb hx
   obtain ⟨sl',e2⟩:=slot b _ (neL b o e) hb (neC b o e hx) e1 (I.base.free b o e n hx)
   exact⟨sl',e2⟩
 . obtain ⟨o',e1⟩:=I.base.there b o e hx
   exact free b o' (neC b o e hx) e1 (I.base.free b o e n hx)
 . obtain ⟨o',e1⟩:=I.base.there b o e hx
   exact there b o' (neC b o e hx) e1
 . obtain ⟨m1,e1⟩:=I.base.tbls b ps e
   obtain ⟨m2,e2⟩:=tbls b _ e1
   exact⟨m1++m2,by rw[e2,Array.append_assoc]⟩
 . obtain ⟨m,hn,hl⟩:=I.loc
   refine⟨m,ns m hn,fun i x v e1 e2 e3=>?_⟩
   obtain ⟨u,r,l⟩:=hl i x v e1 e2 e3
   refine⟨u,r,?_⟩
   rcases l with l | ⟨k,c,e,z⟩
   . exact .inl l
   . exact .inr ⟨k,c,e,cellK x c e _ z⟩
 . obtain ⟨v,z⟩:=I.cell x c e
   exact⟨v,cellK x c e v z⟩
 . obtain ⟨m,⟨o,_,_,ho,_⟩,_⟩:=I.loc
   exact free _ o (fun z=>(hch _ z).2.1 rfl) ho I.free
 . obtain ⟨v,o,ho,hd⟩:=I.cell x c e
   exact free c o (fun z=>(hch c z).2.2.1 x c e rfl) ho (I.freeC x c e)
 . obtain ⟨e,n,ne,nf,d⟩:=I.pin p hp
   have nch:p.1∉ch:=fun z=>(hch p.1 z).2.2.2 p hp rfl
   exact⟨keep p.1 p.2 ne nf nch e n,free p.1 p.2 nch e n,ne,nf,d⟩
theorem Inv.un {t':Nat} (I:Inv X pins σ H s) (u:Un X.fs [] H H' s.heap h') (hok:HOk X.prog X.w H' h'):Inv X pins σ H' { s with heap:=h',toks:=t' }:=by
 obtain ⟨m,⟨o,es,ep,ho,r⟩,_⟩:=id I.loc
 obtain ⟨sl,hL⟩:=u.any ho I.free (by simp)
 exact I.step (g':=s.gens) (d':=s.drawn) (ch:=[]) (fun _ z=>nomatch z) (fun b o _ hb _ e n=>u.keep b o e n hb (by simp)) (fun b o _ hb _ e n=>u.slot b o e n hb (by simp)) (fun b o _ e n=>u.free b o e n (by simp)) (fun b o _ e=>u.there b o e (by simp)) u.tups u.frzs u.tbls (fun m' hm=>by
   obtain ⟨o',es',ep',ho',r'⟩:=hm
   rw[ho] at ho';cases ho'
   exact⟨_,es',ep',hL,r'⟩) hok I.bare
theorem Inv.call {g':Array GenState} {t':Nat} {d':Drawn} {ch:List Addr} (I:Inv X pins σ H s) (u:Un (frs X.stack) ch H H' s.heap h') (hok:HOk X.prog X.w H' h') (hg:AllBare g')
   (hch:∀ b∈ch,(b∈X.ex\/X.s₀.heap.objs.size<=b)/\b≠X.env.locals/\(∀ x c,X.env.cells.lookup x=some c->c≠b)/\∀ p∈X.pn++pins,p.1≠b) :
   Inv X pins σ H' { s with heap:=h',gens:=g',drawn:=d',toks:=t' }:=by
 obtain ⟨m,⟨o,es,ep,ho,r⟩,_⟩:=id I.loc
 obtain ⟨sl,hL⟩:=u.any ho I.free fun z=>(hch _ z).2.1 rfl
 exact I.step (ch:=ch) hch (fun b o hL hb hc e n=>u.keep b o e n (fun z=>(List.mem_cons.mp (I.stkSub b z)).elim hL hb) hc) (fun b o _ _ hc e n=>u.any e n hc) (fun b o hc e n=>u.free b o e n hc) (fun b o hc e=>u.there b o e hc) u.tups u.frzs u.tbls (fun m' hm=>by
   obtain ⟨o',es',ep',ho',r'⟩:=hm
   rw[ho] at ho';cases ho'
   exact⟨_,es',ep',hL,r'⟩) hok hg
theorem Inv.turned {t':Nat} {it:Addr} (I:Inv X pins σ H s) (k:∀ b o,b≠it->s.heap.get? b=some o->h'.get? b=some o) (hn:H it=none) (hL:it≠X.env.locals)
   (h1:it∈X.ex\/X.s₀.heap.objs.size<=it) (h2:∀ x c,X.env.cells.lookup x=some c->c≠it) (h3:∀ p∈X.pn++pins,p.1≠it):Inv X pins σ H { s with heap:=h',toks:=t' }:=by
 have nit:∀ b u,H b=some u->b≠it:=fun b u e z=>by rw[z,hn] at e;cases e
 refine I.step (g':=s.gens) (d':=s.drawn) (ch:=[it]) (fun b hb=>?_) (fun b o _ _ hc e _=>k b o (fun z=>hc (by simp[z])) e) (fun b o _ _ hc e _=>⟨o.slots,k b o (fun z=>hc (by simp[z])) e⟩) (fun _ _ _ _ n=>n)
   (fun b o hc e=>⟨o,k b o (fun z=>hc (by simp[z])) e⟩) (fun _ _ e=>e) (fun _ _ _ e=>e) (fun b ps e=>⟨#[],by rw[e];simp⟩) (fun m hm=>?_) (fun b u e=>?_) I.bare
 . have e:b=it:=by simpa using hb
   subst e
   exact⟨h1,hL,h2,h3⟩
 . obtain ⟨o,es,ep,ho,r⟩:=hm
   exact⟨o,es,ep,k _ o (Ne.symm hL) ho,r⟩
 . refine (I.hok b u e).stay (fun c v hc q=>k c v ?_ q) (fun _ q=>q) fun _ _ q=>q
   rcases hc with z | z
   . rw[z];exact nit b u e
   . exact nit c _ z
theorem Inv.tok (I:Inv X pins σ H s) (t:Nat):Inv X pins σ H { s with toks:=t }:=I.un (h':=s.heap) (t':=t) Un.refl I.hok
theorem Inv.kept {t':Nat} (I:Inv X pins σ H s) (k:∀ b u,s.heap.get? b=some u->h'.get? b=some u):Inv X pins σ H { s with heap:=h',toks:=t' }:=I.un (Un.kept k) (I.hok.kept k)
theorem Inv.laid {a:Addr} {o:HO} {t':Nat} (I:Inv X pins σ H s) (k:∀ b u,s.heap.get? b=some u->h'.get? b=some u) (hp:s.heap.objs.size<=a) (new:zk1 X.prog X.w (upd H a o) h' a o) :
 Inv X pins σ (upd H a o) { s with heap:=h',toks:=t' }:=I.un (Un.laid k hp (I.hok.fresh hp)) (I.hok.laid k hp new)
theorem Inv.write {x e:Addr} {o:HO} {t':Nat} (I:Inv X pins σ H s) (mu:Mut (H x)) (he:e=x\/H e=some (.own x)) (k:∀ b u,b≠e->s.heap.get? b=some u->h'.get? b=some u) (heo:∃ u,h'.get? e=some u)
 (new:zk1 X.prog X.w (upd H x o) h' x o):Inv X pins σ (upd H x o) { s with heap:=h',toks:=t' }:=I.un (Un.write mu he k heo) (I.hok.write mu he k heo new)
theorem Inv.pins_of {pins':List (Addr×Obj)} (I:Inv X pins σ H s) (h:∀ p∈pins',s.heap.get? p.1=some p.2/\H p.1=none/\p.1≠X.env.locals/\p.1∉X.fs/\∀ v,p.2.data≠.cell v):Inv X pins' σ H s :=
 ⟨I.ok,I.os,I.bare,I.base,I.loc,I.cell,I.free,I.freeC,fun p hp=>(List.mem_append.mp hp).elim (fun z=>I.pin p (List.mem_append_left _ z)) (h p),I.hok,I.len⟩
theorem zO3 {N:List Str} (hN:N.Nodup) {i j:Nat} {x:Str} (a:N[i]?=some x) (b:N[j]?=some x):i=j:=by
 obtain ⟨h1,e1⟩:=List.getElem?_eq_some_iff.mp a
 obtain ⟨h2,e2⟩:=List.getElem?_eq_some_iff.mp b
 exact (List.getElem_inj hN).mp (e1.trans e2.symm)
theorem zR0 {M:Model} {A:Around} {E:Value->Shared->Prop} {i:Nat} {x:Str} {v:V} {u:Value} {Q:Unit->Shared->Prop} (I:Inv X pins σ H s) (hN:X.N.Nodup) (hi:X.N[i]?=some x) (hx:Loc X.env.scope x) (r:RelV v u)
   (h:∀ s',Inv X pins (σ.set i (some v)) H s'->(∃ a,Heap.SameBut a s.heap s'.heap/\(a=X.env.locals\/X.env.cells.lookup x=some a))->Q () s') (hf:X.fn x=true\/X.env.scope.names.lookup x=some .local:=by first | exact .inl rfl | exact .inr rfl | assumption):wpAny M A (storeName X.env x u) Q E s:=by
 obtain ⟨m,hn,hl⟩:=id I.loc
 have hcls:(X.env.scope.kind == .class || (X.env.scope.kind == .module && X.env.locals != X.env.globals))=false:=by rw[I.ok.kind];rfl
 have hiσ:i<σ.length:=by rw[I.len];exact (List.getElem?_eq_some_iff.mp hi).1
 have cne:=I.cne
 have tracked:∀ {a:Addr} {h':Heap},(∃ o,s.heap.get? a=some o/\H a=none)->Heap.SameBut a s.heap h'->HOk X.prog X.w H h':=fun {a h'} ha hs b ob e=>by
   obtain ⟨_,_,hfree⟩:=ha
   refine (I.hok b ob e).stay (fun c w' hc q=>(hs.2 c ?_).trans q) (fun _ q=>q) fun _ _ q=>q
   rintro rfl
   rcases hc with rfl | hc
   . rw[hfree] at e;cases e
   . rw[hfree] at hc;cases hc
 rcases hx with hk | hk
 . refine wpAny_storeName_local hk hn (fun h' hn' hs=>?_) hcls
   obtain ⟨oL,_,_,hoL,_⟩:=id hn
   refine h _ ⟨I.ok,I.os,I.bare,⟨fun b o e n hb hx=>?_,fun b o e n hb hx=>?_,I.base.free,fun b o e hx=>?_,I.base.tups,I.base.frzs,I.base.tbls⟩,⟨_,hn',fun j y v' e1 e2 e3=>?_⟩,fun y c e=>?_,I.free,I.freeC,fun p hp=>?_,tracked ⟨oL,hoL,I.free⟩ hs,by simpa using I.len⟩ ⟨_,hs,.inl rfl⟩
   . exact (hs.2 b (Nat.ne_of_lt (Nat.lt_of_lt_of_le (Heap.lt_size e) I.ok.above))).trans (I.base.keep b o e n hb hx)
   . obtain ⟨sl,e1⟩:=I.base.slot b o e n hb hx
     exact⟨sl,(hs.2 b (Nat.ne_of_lt (Nat.lt_of_lt_of_le (Heap.lt_size e) I.ok.above))).trans e1⟩
   . obtain ⟨o',e1⟩:=I.base.there b o e hx
     exact⟨o',(hs.2 b (Nat.ne_of_lt (Nat.lt_of_lt_of_le (Heap.lt_size e) I.ok.above))).trans e1⟩
   . by_cases hj:j=i
     . subst hj
       rw[hi] at e1;cases e1
       rw[List.getElem?_set_self hiσ] at e2
       cases e2
       exact⟨u,r,.inl ⟨hk,by simp⟩⟩
     . rw[List.getElem?_set_ne (Ne.symm hj)] at e2
       obtain ⟨u',r',q⟩:=hl j y v' e1 e2 e3
       refine⟨u',r',?_⟩
       rcases q with ⟨k,e⟩ | ⟨k,c,e,z⟩
       . refine .inl ⟨k,?_⟩
         have:y≠x:=fun e=>hj (zO3 hN e1 (e▸hi))
         simp[this,e]
       . exact .inr ⟨k,c,e,z.sameBut hs (cne y c e)⟩
   . obtain ⟨w',z⟩:=I.cell y c e
     exact⟨w',z.sameBut hs (cne y c e)⟩
   . obtain ⟨e,n,ne,nf,d⟩:=I.pin p hp
     exact⟨(hs.2 p.1 ne).trans e,n,ne,nf,d⟩
 . have hfn:X.fn x=true:=by
     rcases hf with z | z
     . exact z
     . rw[z] at hk;cases hk
   obtain ⟨c,hc⟩:=I.ok.has x (.inl hk)
   obtain ⟨w',z⟩:=I.cell x c hc
   refine wpAny_storeName_cell I.ok.kind hk hc z (fun h' hc' hs=>?_)
   obtain ⟨oc,hoc,hocd⟩:=id z
   refine h { s with heap:=h' } ⟨I.ok,I.os,I.bare,⟨fun b o e n hb hx=>?_,fun b o e n hb hx=>?_,I.base.free,fun b o e hx=>?_,I.base.tups,I.base.frzs,I.base.tbls⟩,⟨m,hn.sameBut hs (Ne.symm (cne x c hc)),fun j y v' e1 e2 e3=>?_⟩,fun y c' e=>?_,I.free,I.freeC,fun p hp=>?_,tracked ⟨oc,hoc,I.freeC x c hc⟩ hs,by simpa using I.len⟩ ⟨c,hs,.inr hc⟩
   . exact (hs.2 b (Nat.ne_of_lt (Nat.lt_of_lt_of_le (Heap.lt_size e) (I.ok.cab x c hfn hc)))).trans (I.base.keep b o e n hb hx)
   . obtain ⟨sl,e1⟩:=I.base.slot b o e n hb hx
     exact⟨sl,(hs.2 b (Nat.ne_of_lt (Nat.lt_of_lt_of_le (Heap.lt_size e) (I.ok.cab x c hfn hc)))).trans e1⟩
   . obtain ⟨o',e1⟩:=I.base.there b o e hx
     exact⟨o',(hs.2 b (Nat.ne_of_lt (Nat.lt_of_lt_of_le (Heap.lt_size e) (I.ok.cab x c hfn hc)))).trans e1⟩
   . by_cases hj:j=i
     . subst hj
       rw[hi] at e1;cases e1
       rw[List.getElem?_set_self hiσ] at e2
       cases e2
       exact⟨u,r,.inr ⟨.inl hk,c,hc,hc'⟩⟩
     . rw[List.getElem?_set_ne (Ne.symm hj)] at e2
       obtain ⟨u',r',q⟩:=hl j y v' e1 e2 e3
       refine⟨u',r',?_⟩
       rcases q with q | ⟨k,c',e,z'⟩
       . exact .inl q
       . refine .inr ⟨k,c',e,z'.sameBut hs ?_⟩
         rintro rfl
         exact hj (zO3 hN e1 (I.ok.inj _ _ _ e hc▸hi))
   . by_cases hcc:c'=c
     . subst hcc;exact⟨_,hc'⟩
     . obtain ⟨w2,z2⟩:=I.cell y c' e
       exact⟨w2,z2.sameBut hs hcc⟩
   . obtain ⟨e,n,ne,nf,d⟩:=I.pin p hp
     refine⟨(hs.2 p.1 ?_).trans e,n,ne,nf,d⟩
     intro q
     rw[q,hoc] at e
     have q':oc=p.2:=Option.some.inj e
     exact d w' (by rw[<-q'];exact hocd)
theorem zA7 {M:Model} {A:Around} {E:Value->Shared->Prop} {i:Nat} {x:Str} {v:V} {u:Value} {Q:Unit->Shared->Prop} (I:Inv X pins σ H s) (hN:X.N.Nodup) (hi:X.N[i]?=some x) (hx:Loc X.env.scope x) (r:RelV v u)
   (h:∀ s',Inv X pins (σ.set i (some v)) H s'->Q () s') (hf:X.fn x=true\/X.env.scope.names.lookup x=some .local:=by first | exact .inl rfl | exact .inr rfl | assumption):wpAny M A (storeName X.env x u) Q E s :=
 zR0 I hN hi hx r (fun s' I' _=>h s' I') hf
theorem Inv.call' {s':Shared} {ch:List Addr} (I:Inv X pins σ H s) (ho:s'.os=s.os) (u:Un (frs X.stack) ch H H' s.heap s'.heap) (hok:HOk X.prog X.w H' s'.heap) (hg:AllBare s'.gens)
   (hch:∀ b∈ch,(b∈X.ex\/X.s₀.heap.objs.size<=b)/\b≠X.env.locals/\(∀ x c,X.env.cells.lookup x=some c->c≠b)/\∀ p∈X.pn++pins,p.1≠b):Inv X pins σ H' s':=by
 obtain ⟨h',g',d',t',o'⟩:=s'
 have e:o'=s.os:=ho
 subst e
 exact I.call (g':=g') (t':=t') (d':=d') u hok hg hch
end
noncomputable abbrev XK:=Value->Option Addr->Hp->Prop
noncomputable abbrev St:=List (Option V)
noncomputable abbrev VK:=V->Hp->Prop
noncomputable abbrev TE:=St->Hp->VK->Prop
noncomputable abbrev TT:=St->Hp->(Bool->Hp->Prop)->Prop
noncomputable abbrev TA:=St->Hp->(List V->Hp->Prop)->Prop
structure Ends where
 nx:St->Hp->Prop
 rt:VK
 bk:St->Hp->Prop:=fun _ _=>False
 ct:St->Hp->Prop:=fun _ _=>False
noncomputable abbrev TS:=Ends->St->Hp->Prop
noncomputable def EP (X:Cx) (pins:List (Addr×Obj)) (σ:St) (Q:VK) (u:Value) (s':Shared):Prop:=∃ v H',Inv X pins σ H' s'/\RelV v u/\Q v H'
noncomputable def TP (X:Cx) (pins:List (Addr×Obj)) (σ:St) (Q:Bool->Hp->Prop) (b:Bool) (s':Shared):Prop:=∃ H',Inv X pins σ H' s'/\Q b H'
noncomputable def AP (X:Cx) (pins:List (Addr×Obj)) (σ:St) (Q:List V->Hp->Prop) (us:List Value) (s':Shared):Prop:=∃ vs H',Inv X pins σ H' s'/\Vals vs us/\Q vs H'
noncomputable def SP (X:Cx) (pins:List (Addr×Obj)) (D:Ends) (f:Flow) (s':Shared):Prop :=
 match f with
 | .next=>∃ σ' H',Inv X pins σ' H' s'/\D.nx σ' H'
 | .brk=>∃ σ' H',Inv X pins σ' H' s'/\D.bk σ' H'
 | .cont=>∃ σ' H',Inv X pins σ' H' s'/\D.ct σ' H'
 | .ret u=>∃ v σ' H',Inv X pins σ' H' s'/\RelV v u/\D.rt v H'
noncomputable def PE (X:Cx) (e:Expr) (t:TE):Prop :=
 ∀ (pins:List (Addr×Obj)) (s:Shared) (σ:St) (H:Hp) (Q:VK),Inv X pins σ H s->t σ H Q->wpAny (model X.prog X.w) X.A (eval e X.env) (EP X pins σ Q) X.xe s
noncomputable def PT (X:Cx) (e:Expr) (t:TT):Prop :=
 ∀ (pins:List (Addr×Obj)) (s:Shared) (σ:St) (H:Hp) (Q:Bool->Hp->Prop),Inv X pins σ H s->t σ H Q->wpAny (model X.prog X.w) X.A (isTrue e X.env (eval e X.env)) (TP X pins σ Q) X.xe s
noncomputable def PW (X:Cx) (e:Expr) (t:TT):Prop :=
 ∀ (whole:Sem Value) (pins:List (Addr×Obj)) (s:Shared) (σ:St) (H:Hp) (Q:Bool->Hp->Prop),Inv X pins σ H s->t σ H Q->wpAny (model X.prog X.w) X.A (isTrue e X.env whole) (TP X pins σ Q) X.xe s
theorem PW.pt {X:Cx} {e:Expr} {t:TT} (h:PW X e t):PT X e t:=h _
noncomputable def PA (X:Cx) (es:List Expr) (t:TA):Prop :=
 ∀ (pos:Pos) (pins:List (Addr×Obj)) (s:Shared) (σ:St) (H:Hp) (Q:List V->Hp->Prop),Inv X pins σ H s->t σ H Q->wpAny (model X.prog X.w) X.A (spliced (backTo pos (starEach es X.env))) (AP X pins σ Q) X.xe s
noncomputable def PS (X:Cx) (st:Stmt) (t:TS):Prop :=
 ∀ (pins:List (Addr×Obj)) (s:Shared) (σ:St) (H:Hp) (D:Ends),Inv X pins σ H s->t D σ H->wpAny (model X.prog X.w) X.A (exec st X.env) (SP X pins D) X.xe s
noncomputable def PSs (X:Cx) (st:List Stmt) (t:TS):Prop :=
 ∀ (pins:List (Addr×Obj)) (s:Shared) (σ:St) (H:Hp) (D:Ends),Inv X pins σ H s->t D σ H->wpAny (model X.prog X.w) X.A (execs st X.env) (SP X pins D) X.xe s
theorem thn {α:Type} {t:Sem α} {Q Q':α->Shared->Prop} {M:Model} {A:Around} {E:Value->Shared->Prop} {s:Shared} (h:wpAny M A t Q E s) (hQ:∀ a s,Q a s->Q' a s):wpAny M A t Q' E s:=wpAny_mono h hQ fun _ _ x=>x
end L2
namespace L2
open PySem PySem.Spec PyProof.Rows
section
variable {X:Cx}
noncomputable def tVar (i:Nat):TE:=fun σ H Q=>∃ v,σ[i]?=some (some v)/\Q v H
noncomputable def tC (v:V):TE:=fun _ H Q=>Q v H
theorem pe_var {i:Nat} {x:Str} {pos:Pos} (hN:X.N[i]?=some x) (hv:Vis X.env.scope x) (hd:(x == ("__debug__" : Str))=false:=by decide) (hcd:(x == ("__classdict__" : Str))=false:=by decide):PE X (.Name x pos) (tVar i):=by
 intro pins s σ H Q I h
 obtain ⟨v,e,h⟩:=h
 obtain ⟨m,hn,hl⟩:=I.loc
 obtain ⟨u,r,l⟩:=hl i x v hN e hv
 have fin:EP X pins σ Q u s:=⟨v,H,I,r,h⟩
 rcases l with ⟨hk,hm⟩ | ⟨hk,c,hc,hcell⟩
 . exact wpAny_Name (wpAny_loadName_local I.ok.kind hk hn hm fin) hd
 . rcases hk with hk | hk
   . exact wpAny_Name (wpAny_loadName_cell I.ok.kind hk hc hcell fin) hd
   . exact wpAny_Name (wpAny_loadName_free I.ok.kind hk hc hcell fin hcd) hd
theorem za1 {i j pos}:PE X (.Constant (.int i) j pos) (tC (.int i)):=fun _ _ _ H _ I h=>wpAny_Constant_int ⟨.int i,H,I.tok _,⟨_,rfl⟩,h⟩
theorem ya9 {b j pos}:PE X (.Constant (.bool b) j pos) (tC (.bl b)):=fun _ _ _ H _ I h=>Constant_bool ⟨.bl b,H,I,rfl,h⟩
theorem ye2 {j pos}:PE X (.Constant .none j pos) (tC .non):=fun _ _ _ H _ I h=>Constant_none ⟨.non,H,I,rfl,h⟩
theorem zc2 {x j pos}:PE X (.Constant (.str x) j pos) (tC (.str x)):=fun _ _ _ H _ I h=>Calls.Constant_str ⟨.str x,H,I.tok _,⟨_,rfl⟩,h⟩
noncomputable def Gl (X:Cx) (x:Str):Prop:=X.env.kindOf x=some .globalImplicit
theorem zz1 {E:Value->Shared->Prop} {pins:List (Addr×Obj)} {s:Shared} {σ:St} {H:Hp} {x:Str} {u:Value} {pos:Pos} {Q:Value->Shared->Prop} (I:Inv X pins σ H s) (hg:Gl X x) (hm:X.mg x=some u) (h:Q u s)
   (hd:(x == ("__debug__" : Str))=false:=by decide):wpAny (model X.prog X.w) X.A (eval (.Name x pos) X.env) Q E s :=
 Calls.Name_function_global I.ok.kind hg (Calls.loadGlobal_global (by rw[I.ok.glob];exact I.mod.glob.keeps I.bk) hm h) hd
theorem zK4 {E:Value->Shared->Prop} {pins:List (Addr×Obj)} {s:Shared} {σ:St} {H:Hp} {x:Str} {u:Value} {pos:Pos} {Q:Value->Shared->Prop} (I:Inv X pins σ H s) (hg:Gl X x) (hm:X.mg x=none) (hv:bootBuiltins x=some u) (h:Q u s)
   (hn:x≠"__name__":=by decide) (hd:(x == ("__debug__" : Str))=false:=by decide):wpAny (model X.prog X.w) X.A (eval (.Name x pos) X.env) Q E s:=by
 obtain ⟨mb,h1,h2⟩:=I.mod.blt
 exact Calls.Name_function_global I.ok.kind hg (Calls.loadGlobal_builtin (by rw[I.ok.glob];exact I.mod.glob.keeps I.bk) hm (by rw[I.ok.blt];exact h1.keeps I.bk) ((h2 x hn).trans hv) h) hd
theorem zs8 {x:Str} {v:V} {u:Value} {pos:Pos} (hg:Gl X x) (hm:X.mg x=some u) (r:RelV v u) (hd:(x == ("__debug__" : Str))=false:=by decide):PE X (.Name x pos) (tC v) :=
 fun _ _ _ H _ I h=>zz1 I hg hm ⟨v,H,I,r,h⟩ hd
theorem yb0 {x:Str} {v:V} {u:Value} {pos:Pos} (hg:Gl X x) (hm:X.mg x=none) (hv:bootBuiltins x=some u) (r:RelV v u) (hn:x≠"__name__":=by decide) (hd:(x == ("__debug__" : Str))=false:=by decide):PE X (.Name x pos) (tC v) :=
 fun _ _ _ H _ I h=>zK4 I hg hm hv ⟨v,H,I,r,h⟩ hn hd
variable {a b:Expr} {ta tb:TE} {pos:Pos}
noncomputable def tB (t:TE):TT:=fun σ H Q=>t σ H fun x H1=>∃ c,x = .bl c/\Q c H1
theorem zh4 {e:Expr} {t:TE} (h:PE X e t) (he:∀ whole,isTrue e X.env whole=(do let v <-whole;standAt e.pos;holding [v] (truthy v)):=by intro _;rfl):PT X e (tB t):=by
 intro pins s σ H Q I hw
 refine isTrue_plain (thn (h pins s σ H _ I hw) fun v s1 ⟨x,H1,I1,r1,q1⟩=>?_) (he _)
 obtain ⟨d,rfl,q⟩:=q1
 cases r1
 exact wpAny_truthy_bool ⟨H1,I1,q⟩
variable {tA tB':TT} {rest:List Expr}
noncomputable def tAnd (t u:TT):TT:=fun σ H Q=>t σ H fun c H1=>if c=true then u σ H1 Q else Q false H1
noncomputable def tOr (t u:TT):TT:=fun σ H Q=>t σ H fun c H1=>if c=true then Q true H1 else u σ H1 Q
noncomputable def tNot (t:TT):TT:=fun σ H Q=>t σ H fun c H1=>Q (!c) H1
theorem zv0 (ha:PT X a tA):PW X (.BoolOp .And [a] pos) tA:=by
 intro wh pins s σ H Q I h
 refine isTrue_and (thn (ha pins s σ H Q I h) fun c s1 e=>?_)
 cases c with
 | true=>exact isTrue_and_nil e
 | false=>exact e
theorem zG5 (ha:PT X a tA):PW X (.BoolOp .Or [a] pos) tA:=by
 intro wh pins s σ H Q I h
 refine isTrue_or (thn (ha pins s σ H Q I h) fun c s1 e=>?_)
 cases c with
 | false=>exact isTrue_or_nil e
 | true=>exact e
theorem zw3 (ha:PT X a tA) (hb:PW X (.BoolOp .And (b::rest) pos) tB'):PW X (.BoolOp .And (a::b::rest) pos) (tAnd tA tB'):=by
 intro wh pins s σ H Q I h
 refine isTrue_and (thn (ha pins s σ H _ I h) fun c s1 ⟨H1,I1,q1⟩=>?_)
 cases c with
 | true=>exact hb wh pins s1 σ H1 Q I1 q1
 | false=>exact⟨H1,I1,q1⟩
theorem zH1 (ha:PT X a tA) (hb:PW X (.BoolOp .Or (b::rest) pos) tB'):PW X (.BoolOp .Or (a::b::rest) pos) (tOr tA tB'):=by
 intro wh pins s σ H Q I h
 refine isTrue_or (thn (ha pins s σ H _ I h) fun c s1 ⟨H1,I1,q1⟩=>?_)
 cases c with
 | true=>exact⟨H1,I1,q1⟩
 | false=>exact hb wh pins s1 σ H1 Q I1 q1
theorem zK5 (ha:PT X a tA):PT X (.UnaryOp .Not a pos) (tNot tA):=by
 intro pins s σ H Q I h
 exact isTrue_not (ha pins s σ H (fun c H1=>Q (!c) H1) I h)
noncomputable def tAndV (ta tb:TE):TE:=fun σ H Q=>ta σ H fun x H1=>∃ c,x = .bl c/\if c=true then tb σ H1 Q else Q (.bl false) H1
noncomputable def tOrV (ta tb:TE):TE:=fun σ H Q=>ta σ H fun x H1=>∃ c,x = .bl c/\if c=true then Q (.bl true) H1 else tb σ H1 Q
noncomputable def tNotV (ta:TE):TE:=fun σ H Q=>ta σ H fun x H1=>∃ c,x = .bl c/\Q (.bl (!c)) H1
theorem ye3 {op} {t:TE} (h:PE X a t):PE X (.BoolOp op [a] pos) t:=fun pins s σ H Q I hw=>BoolOp_one (h pins s σ H Q I hw)
theorem pe_and (ha:PE X a ta) (hb:PE X (.BoolOp .And (b::rest) pos) tb):PE X (.BoolOp .And (a::b::rest) pos) (tAndV ta tb):=by
 intro pins s σ H Q I h
 refine BoolOp_and (thn (ha pins s σ H _ I h) fun v s1 ⟨x,H1,I1,r1,q1⟩=>?_)
 obtain ⟨c,rfl,q1⟩:=q1
 cases r1
 refine wpAny_truthy_bool ?_
 cases c with
 | true=>exact hb pins s1 σ H1 Q I1 q1
 | false=>exact⟨.bl false,H1,I1,rfl,q1⟩
theorem pe_or (ha:PE X a ta) (hb:PE X (.BoolOp .Or (b::rest) pos) tb):PE X (.BoolOp .Or (a::b::rest) pos) (tOrV ta tb):=by
 intro pins s σ H Q I h
 refine BoolOp_or (thn (ha pins s σ H _ I h) fun v s1 ⟨x,H1,I1,r1,q1⟩=>?_)
 obtain ⟨c,rfl,q1⟩:=q1
 cases r1
 refine wpAny_truthy_bool ?_
 cases c with
 | false=>exact hb pins s1 σ H1 Q I1 q1
 | true=>exact⟨.bl true,H1,I1,rfl,q1⟩
theorem pe_not (ha:PE X a ta):PE X (.UnaryOp .Not a pos) (tNotV ta):=by
 intro pins s σ H Q I h
 refine UnaryOp_ (thn (ha pins s σ H _ I h) fun v s1 ⟨x,H1,I1,r1,q1⟩=>?_)
 obtain ⟨c,rfl,q1⟩:=q1
 cases r1
 exact not_of (wpAny_truthy_bool ⟨.bl (!c),H1,I1,rfl,q1⟩)
noncomputable def tIf (t:TT) (ta tb:TE):TE:=fun σ H Q=>t σ H fun c H1=>if c=true then ta σ H1 Q else tb σ H1 Q
theorem zX1 {c:Expr} (hc:PT X c tA) (ha:PE X a ta) (hb:PE X b tb):PE X (.IfExp c a b pos) (tIf tA ta tb):=by
 intro pins s σ H Q I h
 refine wpAny_IfExp (thn (hc pins s σ H _ I h) fun d s1 ⟨H1,I1,q1⟩=>?_)
 cases d with
 | true=>exact ha pins s1 σ H1 Q I1 q1
 | false=>exact hb pins s1 σ H1 Q I1 q1
end
end L2
namespace L2
open PySem PySem.Spec PyProof.Rows
noncomputable def SqL (K:W.Frag) (H:Hp) (a:Addr) (xs:List V):Prop :=
 Rd H a (.lst xs) ∨
   ∃ (o:Obj) (its:Array Value) (n:Nat),K.lookup a=some o/\o.cls = .type "list"/\o.dict=none/\o.data = .seq its n/\its.size<=sizeLine/\Vals xs its.toList
noncomputable def SqT (K:W.Frag) (H:Hp) (a:Addr) (xs:List V):Prop :=
 Rd H a (.tup xs) ∨
   ∃ (o:Obj) (its:Array Value) (n:Nat),K.lookup a=some o/\o.cls = .type "tuple"/\o.data = .seq its n/\its.size<=sizeLine/\Vals xs its.toList
noncomputable def absV:Value->Option V
 | .none=>some .non
 | .bool b=>some (.bl b)
 | .int i _=>some (.int i)
 | .str x _=>some (.str x)
 | .bytes b _=>some (.byt b)
 | .float b _=>some (.flt b)
 | .ref a=>some (.ref a)
 | .type n=>some (.ty n)
 | _=>none
theorem RelV.abs {x:V} {u:Value} (r:RelV x u):absV u=some x:=by
 cases x with
 | non=>cases r;rfl
 | bl _=>cases r;rfl
 | int _=>obtain ⟨t,rfl⟩:=r;rfl
 | str _=>obtain ⟨t,rfl⟩:=r;rfl
 | byt _=>obtain ⟨t,rfl⟩:=r;rfl
 | flt _=>obtain ⟨t,rfl⟩:=r;rfl
 | ref _=>cases r;rfl
 | ty _=>cases r;rfl
theorem RelV.inj {x y:V} {u:Value} (r:RelV x u) (q:RelV y u):x=y:=Option.some.inj (r.abs.symm.trans q.abs)
theorem Vals.inj:∀ {xs ys:List V} {us:List Value},Vals xs us->Vals ys us->xs=ys
 | _,_,_,.nil,.nil=>rfl
 | _,_,_,.cons r t,.cons r' t'=>by rw[r.inj r',Vals.inj t t']
section
variable {X:Cx} {pins:List (Addr×Obj)} {σ:St} {H:Hp} {s:Shared} {a:Addr} {xs ys:List V}
theorem SqL.of {K:W.Frag} (h:H a=some (.lst xs)):SqL K H a xs:=.inl (.inl h)
theorem SqT.of {K:W.Frag} (h:H a=some (.tup xs)):SqT K H a xs:=.inl (.inl h)
theorem Inv.list (I:Inv X pins σ H s) (h:SqL X.K H a xs):∃ its:List Value,Vals xs its/\PlainL s.heap a its.toArray/\xs.length<=sizeLine:=by
 rcases h with h | ⟨o,its,n,hk,hc,hd,hs,hz,r⟩
 . obtain ⟨z,its,n,r,e⟩:=h.ok I.hok
   exact⟨its,r,⟨_,n,e,rfl,rfl,rfl⟩,z⟩
 . refine⟨its.toList,r,⟨o,n,I.kIn a o hk,hc,hd,by simpa using hs⟩,?_⟩
   have e:=r.length
   simp only[Array.length_toList] at e
   omega
theorem Inv.tuple (I:Inv X pins σ H s) (h:SqT X.K H a xs):∃ its:List Value,Vals xs its/\IsTup s.heap a its.toArray/\xs.length<=sizeLine:=by
 rcases h with h | ⟨o,its,n,hk,hc,hs,hz,r⟩
 . obtain ⟨z,its,r,p⟩:=h.ok I.hok
   exact⟨its,r,p.isTup,z⟩
 . refine⟨its.toList,r,⟨o,I.kIn a o hk,hc,n,by simpa using hs⟩,?_⟩
   have e:=r.length
   simp only[Array.length_toList] at e
   omega
theorem Inv.list_inj (I:Inv X pins σ H s) (h:SqL X.K H a xs) (h':SqL X.K H a ys):xs=ys:=by
 obtain ⟨its,r,⟨o,n,e,_,_,d⟩,_⟩:=I.list h
 obtain ⟨its',r',⟨o',n',e',_,_,d'⟩,_⟩:=I.list h'
 rw[e] at e';cases e'
 rw[d] at d'
 injection d' with d1 _
 have:its=its':=by simpa using congrArg Array.toList d1
 subst this
 exact r.inj r'
theorem Inv.tuple_inj (I:Inv X pins σ H s) (h:SqT X.K H a xs) (h':SqT X.K H a ys):xs=ys:=by
 obtain ⟨its,r,⟨o,e,_,n,d⟩,_⟩:=I.tuple h
 obtain ⟨its',r',⟨o',e',_,n',d'⟩,_⟩:=I.tuple h'
 rw[e] at e';cases e'
 rw[d] at d'
 injection d' with d1 _
 have:its=its':=by simpa using congrArg Array.toList d1
 subst this
 exact r.inj r'
end
noncomputable abbrev Cx.wish (X:Cx) (E:Value->Shared->Prop):Cx:={ X with xe:=E }
noncomputable abbrev Cx.nox (X:Cx):Cx:=X.wish fun _ _=>False
theorem Cx.Ok.wish {X:Cx} (ok:X.Ok) (E:Value->Shared->Prop):(X.wish E).Ok :=
 ⟨ok.mod,ok.kind,ok.glob,ok.blt,ok.above,ok.inj,ok.has,ok.cab,ok.hd,ok.frames,ok.stk,ok.exf,ok.bs,ok.bsz,ok.noex,ok.exfs,ok.funs,ok.frf⟩
theorem Cx.Ok.unwish {X:Cx} {E:Value->Shared->Prop} (ok:(X.wish E).Ok):X.Ok :=
 ⟨ok.mod,ok.kind,ok.glob,ok.blt,ok.above,ok.inj,ok.has,ok.cab,ok.hd,ok.frames,ok.stk,ok.exf,ok.bs,ok.bsz,ok.noex,ok.exfs,ok.funs,ok.frf⟩
section
variable {X:Cx} {pins:List (Addr×Obj)} {σ:St} {H:Hp} {s:Shared} {E:Value->Shared->Prop}
theorem Inv.wish (I:Inv X pins σ H s) (E:Value->Shared->Prop):Inv (X.wish E) pins σ H s:=⟨I.ok.wish E,I.os,I.bare,I.base,I.loc,I.cell,I.free,I.freeC,I.pin,I.hok,I.len⟩
theorem Inv.unwish (I:Inv (X.wish E) pins σ H s):Inv X pins σ H s:=⟨I.ok.unwish,I.os,I.bare,I.base,I.loc,I.cell,I.free,I.freeC,I.pin,I.hok,I.len⟩
theorem SP.unwish {D:Ends} {f:Flow} {s':Shared} (h:SP (X.wish E) pins D f s'):SP X pins D f s':=by
 cases f with
 | next=>obtain ⟨σ',H',I,q⟩:=h;exact⟨σ',H',I.unwish,q⟩
 | brk=>obtain ⟨σ',H',I,q⟩:=h;exact⟨σ',H',I.unwish,q⟩
 | cont=>obtain ⟨σ',H',I,q⟩:=h;exact⟨σ',H',I.unwish,q⟩
 | ret u=>obtain ⟨v,σ',H',I,r,q⟩:=h;exact⟨v,σ',H',I.unwish,r,q⟩
theorem PSs.nox {st:List Stmt} {t:TS} (h:PSs X.nox st t):PSs X st t:=fun pins s σ H D I hw =>
 wpAny_mono (h pins s σ H D (I.wish _) hw) (fun _ _ q=>q.unwish) fun _ _ z=>False.elim z
end
section
variable {X:Cx} {st:Stmt} {rest:List Stmt} {t u:TS} {e:Expr} {te:TE} {pos:Pos}
noncomputable def yg8:TS:=fun D σ H=>D.nx σ H
noncomputable def tSeq (t u:TS):TS:=fun D σ H=>t { D with nx:=u D } σ H
theorem zb5:PSs X [] yg8:=fun _ _ σ H _ I h=>wpAny_execs_nil ⟨σ,H,I,h⟩
theorem za4 (h1:PS X st t) (h2:PSs X rest u):PSs X (st::rest) (tSeq t u):=by
 intro pins s σ H D I h
 refine wpAny_execs_cons (thn (h1 pins s σ H { D with nx:=u D } I h) fun f s1 q=>?_)
 cases f with
 | next =>
   obtain ⟨σ',H',I',q⟩:=q
   exact h2 pins s1 σ' H' D I' q
 | ret v=>exact q
 | brk=>exact q
 | cont=>exact q
theorem za6 (h1:PS X st t):PSs X [st] t:=by
 intro pins s σ H D I h
 refine wpAny_execs_cons (thn (h1 pins s σ H D I h) fun f s1 q=>?_)
 cases f with
 | next=>exact wpAny_execs_nil q
 | ret v=>exact q
 | brk=>exact q
 | cont=>exact q
theorem Inv.quiet {pins:List (Addr×Obj)} {σ:St} {H:Hp} {s:Shared} (I:Inv X pins σ H s):interactive X.env=false:=by simp[interactive,I.ok.kind]
noncomputable def tDrop (te:TE):TS:=fun D σ H=>te σ H fun _ H1=>D.nx σ H1
theorem ze7 (he:PE X e te) (hs:swapsWith e none pos.line X.env=pure false:=by rfl):PS X (.Expr e pos) (tDrop te):=by
 intro pins s σ H D I h
 exact wpAny_Expr_any (thn (he pins s σ H _ I h) fun v s1 ⟨x,H1,I1,r1,q1⟩=>⟨σ,H1,I1,q1⟩) I.quiet hs
noncomputable def tRet (te:TE):TS:=fun D σ H=>te σ H D.rt
theorem zb8 (he:PE X e te):PS X (.Return (some e) pos) (tRet te):=by
 intro pins s σ H D I h
 exact wpAny_Return_some (thn (he pins s σ H _ I h) fun v s1 ⟨x,H1,I1,r1,q1⟩=>⟨x,σ,H1,I1,r1,q1⟩)
noncomputable def tIfS (c:TT) (t u:TS):TS:=fun D σ H=>c σ H fun b H1=>if b=true then t D σ H1 else u D σ H1
theorem zd1 {c:Expr} {a b:List Stmt} {tc:TT} (hc:PT X c tc) (ha:PSs X a t) (hb:PSs X b u):PS X (.If c a b pos) (tIfS tc t u):=by
 intro pins s σ H D I h
 refine wpAny_If (thn (hc pins s σ H _ I h) fun d s1 ⟨H1,I1,q1⟩=>?_)
 cases d with
 | true=>exact ha pins s1 σ H1 D I1 q1
 | false=>exact hb pins s1 σ H1 D I1 q1
noncomputable def ye4:TS:=fun _ _ _=>False
theorem zh3:PS X st ye4:=fun _ _ _ _ _ _ h=>h.elim
theorem pss_never {sts:List Stmt}:PSs X sts ye4:=fun _ _ _ _ _ _ h=>h.elim
end
noncomputable abbrev TG:=V->St->Hp->(St->Hp->Prop)->Prop
noncomputable abbrev TGs:=List V->St->Hp->(St->Hp->Prop)->Prop
noncomputable def PG (X:Cx) (target:Expr) (t:TG):Prop :=
 ∀ (pins:List (Addr×Obj)) (s:Shared) (σ:St) (H:Hp) (v:V) (u:Value) (Q:St->Hp->Prop),Inv X pins σ H s->RelV v u->t v σ H Q →
   wpAny (model X.prog X.w) X.A (assign target X.env u) (fun _ s'=>∃ σ' H',Inv X pins σ' H' s'/\Q σ' H') X.xe s
noncomputable def PGs (X:Cx) (ts:List Expr) (t:TGs):Prop :=
 ∀ (pins:List (Addr×Obj)) (s:Shared) (σ:St) (H:Hp) (vs:List V) (us:List Value) (Q:St->Hp->Prop),Inv X pins σ H s->Vals vs us->t vs σ H Q →
   wpAny (model X.prog X.w) X.A (assignInOrder ((assignEach ts X.env).map (·.2)) us) (fun _ s'=>∃ σ' H',Inv X pins σ' H' s'/\Q σ' H') X.xe s
noncomputable abbrev TSet:=V->V->V->Hp->(Hp->Prop)->Prop
noncomputable def PSet (X:Cx) (t:TSet):Prop :=
 ∀ (pins:List (Addr×Obj)) (s:Shared) (σ:St) (H:Hp) (o i v:V) (ov iv u:Value) (Q:Hp->Prop),Inv X pins σ H s->RelV o ov->RelV i iv->RelV v u->t o i v H Q →
   wpAny (model X.prog X.w) X.A (setItem ov iv u) (fun _ s'=>∃ H',Inv X pins σ H' s'/\Q H') X.xe s
section
variable {X:Cx} {pos:Pos}
noncomputable def zr1 (i:Nat):TG:=fun v σ H Q=>Q (σ.set i (some v)) H
theorem zc7 {i:Nat} {x:Str} (hN:X.N.Nodup) (hi:X.N[i]?=some x) (hx:Loc X.env.scope x) (hf:X.fn x=true\/X.env.scope.names.lookup x=some .local:=by first | exact .inl rfl | exact .inr rfl | assumption):PG X (.Name x pos) (zr1 i):=by
 intro pins s σ H v u Q I r h
 exact wpAny_assign_Name (zA7 I hN hi hx r (fun s' I'=>⟨_,H,I',h⟩) hf)
noncomputable def gNil:TGs:=fun vs σ H Q=>vs=[]/\Q σ H
noncomputable def ye5 (t:TG) (u:TGs):TGs:=fun vs σ H Q=>∃ v r,vs=v::r/\t v σ H fun σ' H'=>u r σ' H' Q
theorem zv1:PGs X [] gNil:=by
 intro pins s σ H vs us Q I r h
 obtain ⟨e,h⟩:=h
 subst e
 cases r
 exact assignInOrder_nil ⟨σ,H,I,h⟩
theorem zd8 {e:Expr} {es:List Expr} {t:TG} {u:TGs} (h1:PG X e t) (h2:PGs X es u)
   (hs:(assignEach (e::es) X.env).map (·.2)=assign e X.env::(assignEach es X.env).map (·.2):=by rfl):PGs X (e::es) (ye5 t u):=by
 intro pins s σ H vs us Q I r h
 obtain ⟨v,vr,e1,h⟩:=h
 subst e1
 cases r with
 | cons r rr =>
   rw[hs]
   refine assignInOrder_cons (thn (h1 pins s σ H _ _ _ I r h) fun _ s1 ⟨σ1,H1,I1,q1⟩=>?_)
   exact h2 pins s1 σ1 H1 _ _ Q I1 rr q1
noncomputable def gTup (K:W.Frag) (n:Nat) (t:TGs):TG:=fun v σ H Q=>∃ a xs,v = .ref a/\SqT K H a xs/\xs.length=n/\t xs σ H Q
theorem ye6 {es:List Expr} {k:Nat} {t:TGs} {n:Nat} (hc:X.calm=true) (h:PGs X es t)
   (hn:(assignEach es X.env).length=n:=by rfl) (hst:(assignEach es X.env).findIdx? (·.1)=none:=by rfl):PG X (.Tuple es k pos) (gTup X.K n t):=by
 intro pins s σ H v u Q I r hw
 obtain ⟨a,xs,e1,hq,hl,hw⟩:=hw
 subst e1
 cases r
 obtain ⟨its,rv,ht,hz⟩:=I.tuple hq
 refine assign_Tuple_tuple (I.ok.hd hc) ht (by simp[hn,<-hl,rv.length]) hst fun h' hx=>?_
 have I1:Inv X pins σ H { s with heap:=h' }:=I.kept (t':=s.toks) fun b o e=>hx b o (Nat.ne_of_lt (Heap.lt_size e)) e
 exact h pins _ σ H xs _ Q I1 (by simpa using rv) hw
noncomputable def gSub (to ti:TE) (t:TSet):TG:=fun v σ H Q=>to σ H fun o H1=>ti σ H1 fun i H2=>t o i v H2 fun H3=>Q σ H3
theorem pg_sub {o i:Expr} {to ti:TE} {t:TSet} (ho:PE X o to) (hi:PE X i ti) (hs:PSet X t)
   (ha:∀ v,assign (.Subscript o i pos) X.env v=(do
     let ov <-holding [v] (eval o X.env)
     let iv <-holding [v,ov] (eval i X.env)
     standAt pos
     holding [v,ov,iv] (setItem ov iv v)
     release [v,ov,iv] []):=by intro _;rfl):PG X (.Subscript o i pos) (gSub to ti t):=by
 intro pins s σ H v u Q I r h
 rw[ha]
 refine wpAny_bind (wpAny_holding (thn (ho pins s σ H _ I h) fun ov s1 ⟨x,H1,I1,r1,q1⟩=>?_))
 refine wpAny_bind (wpAny_holding (thn (hi pins s1 σ H1 _ I1 q1) fun iv s2 ⟨y,H2,I2,r2,q2⟩=>?_))
 refine wpAny_bind (wpAny_standAt (wpAny_bind (wpAny_holding (thn (hs pins s2 σ H2 x y v ov iv u _ I2 r1 r2 r q2) fun _ s3 ⟨H3,I3,q3⟩=>?_))))
 exact wpAny_release ⟨σ,H3,I3,q3⟩
noncomputable def tAsg (te:TE) (g:TG):TS:=fun D σ H=>te σ H fun x H1=>g x σ H1 D.nx
theorem zA8 {tg e:Expr} {te:TE} {g:TG} (he:PE X e te) (hg:PG X tg g) (hs:swapsWithSole [tg] e pos.line X.env=pure false:=by rfl) (hw:swappedStores [tg] e X.env=pure none:=by rfl)
   (h1:(assignEach [tg] X.env).map (·.2)=[assign tg X.env]:=by rfl):PS X (.Assign [tg] e pos) (tAsg te g):=by
 intro pins s σ H D I h
 refine wpAny_Assign_stores (thn (he pins s σ H _ I h) fun v s1 ⟨x,H1,I1,r1,q1⟩=>?_) hs hw
 rw[h1]
 exact thn (hg pins s1 σ H1 x v _ I1 r1 q1) fun _ s2 q=>q
theorem zb7 {i:Nat} {x:Str} {e:Expr} {te:TE} {pos':Pos} (hN:X.N.Nodup) (hi:X.N[i]?=some x) (hx:Loc X.env.scope x) (he:PE X e te) (hs:swapsWith e (some (.Name x pos')) pos.line X.env=pure false:=by rfl) (hf:X.fn x=true\/X.env.scope.names.lookup x=some .local:=by first | exact .inl rfl | exact .inr rfl | assumption) :
   PS X (.Assign [.Name x pos'] e pos) (tAsg te (zr1 i)):=by
 intro pins s σ H D I h
 refine wpAny_Assign_Name (thn (he pins s σ H _ I h) fun v s1 ⟨y,H1,I1,r1,q1⟩=>?_) hs
 exact zA7 I1 hN hi hx r1 (fun s2 I2=>⟨_,H1,I2,q1⟩) hf
noncomputable def tPar (i j:Nat) (ta:TA):TS:=fun D σ H=>ta σ H fun vs H1=>∃ v w,vs=[v,w]/\D.nx ((σ.set i (some v)).set j (some w)) H1
theorem ps_par {i j:Nat} {x y:Str} {a b:Expr} {ta:TA} {px py pt:Pos} {kt k2 pt2} (hc:X.calm=true) (hN:X.N.Nodup) (hi:X.N[i]?=some x) (hj:X.N[j]?=some y) (hij:i≠j)
   (hx:X.env.scope.names.lookup x=some .local) (hy:X.env.scope.names.lookup y=some .local) (ha:PA X [a,b] ta)
   (hw:swappedStores [.Tuple [.Name x px,.Name y py] kt pt] (.Tuple [a,b] k2 pt2) X.env=pure (some [x,y]))
   (hs:swapsWithSole [.Tuple [.Name x px,.Name y py] kt pt] (.Tuple [a,b] k2 pt2) pos.line X.env=pure false:=by rfl) :
   PS X (.Assign [.Tuple [.Name x px,.Name y py] kt pt] (.Tuple [a,b] k2 pt2) pos) (tPar i j ta):=by
 intro pins s σ H D I h
 rw[exec_Assign_arm]
 refine wpAny_bind (wpAny_standAt ?_)
 rw[hs]
 refine wpAny_bind (wpAny_pure ?_)
 rw[if_neg (by decide)]
 refine wpAny_bind (Tuple_ (thn (ha _ pins s σ H _ I h) fun us s1 ⟨vs,H1,I1,r1,q1⟩=>?_))
 obtain ⟨v,w,e1,q1⟩:=q1
 subst e1
 obtain ⟨u1,u2,rfl,rv,rw'⟩:∃ u1 u2,us=[u1,u2]/\RelV v u1/\RelV w u2:=by
   cases r1 with
   | cons p q =>
     cases q with
     | cons p' q' =>
       cases q'
       exact⟨_,_,rfl,p,p'⟩
 refine wpAny_newObj_type ?_ (by show 2<=sizeLine;decide)
 have I2:Inv X pins σ H1 { s1 with heap:=s1.heap.push { cls:=.type "tuple",data:=.seq [u1,u2].toArray } }:=I1.kept (t':=s1.toks) fun b o e=>Heap.get?_push_of_some _ e
 rw[hw]
 refine wpAny_bind (wpAny_pure ?_)
 show wpAny (model X.prog X.w) X.A (do rule "assign.swapped-stores";let items <-unpackItems (.ref s1.heap.objs.size) 2 none;assignInOrder [fun v=>bindName X.env y v,fun v=>bindName X.env x v] items.reverse;pure Flow.next) _ _ _
 refine wpAny_bind (wpAny_rule (wpAny_bind (unpackItems_tuple (items:=#[u1,u2]) (I.ok.hd hc) (IsTup.new s1.heap _) fun h' hx'=>?_)))
 have I3:=I2.kept (h':=h') (t':=s1.toks) fun b o e=>hx' b o (Nat.ne_of_lt (Heap.lt_size e)) e
 show wpAny _ _ (assignInOrder [fun v=>bindName X.env y v,fun v=>bindName X.env x v] [u2,u1] >>= fun _=>pure Flow.next) _ _ _
 refine wpAny_bind (assignInOrder_cons (wpAny_bindName (zA7 I3 hN hj (.inl hy) rw' (fun s2 I4=>?_) (.inr hy))))
 refine assignInOrder_cons (wpAny_bindName (zA7 I4 hN hi (.inl hx) rv (fun s3 I5=>assignInOrder_nil (wpAny_pure ?_)) (.inr hx)))
 rw[List.set_comm _ _ (Ne.symm hij)] at I5
 exact⟨_,H1,I5,q1⟩
end
section
variable {X:Cx} {pos:Pos}
end
structure It where
 go:Nat->Hp->Prop
 yld:Nat->Hp->V->Hp->Prop
 stop:Nat->Hp->Prop
noncomputable def FpOk (X:Cx) (pins:List (Addr×Obj)) (H:Hp) (b:Addr):Prop :=
 H b=none/\b≠X.env.locals/\b∉X.fs/\(b∈X.ex\/X.s₀.heap.objs.size<=b)/\(∀ x c,X.env.cells.lookup x=some c->c≠b)/\∀ p∈X.pn++pins,p.1≠b
theorem Inv.fpOk {X:Cx} {pins:List (Addr×Obj)} {σ:St} {H H':Hp} {s:Shared} {b:Addr} (I:Inv X pins σ H s) (hb:s.heap.objs.size<=b) (hn:H' b=none):FpOk X pins H' b:=by
 refine⟨hn,Nat.ne_of_gt (Nat.lt_of_lt_of_le I.lt hb),I.nofs hb,.inr (Nat.le_trans I.sz hb),fun x c e z=>?_,fun p hp z=>?_⟩
 . obtain ⟨v,q⟩:=I.cell x c e
   exact absurd (Nat.lt_of_lt_of_le q.lt (by rw[z];exact hb)) (Nat.lt_irrefl _)
 . exact absurd (Nat.lt_of_lt_of_le (Heap.lt_size (I.pin p hp).1) (by rw[z];exact hb)) (Nat.lt_irrefl _)
structure Turn (P:Program) (w:World) (K:W.Frag) (tg:Expr) (J:It) (fp:List Addr) (it:Addr) (tn:Nat->Heap->Prop):Prop where
 mem:it∈fp
 obj:∀ i h,tn i h->∀ b∈fp,∃ o,h.get? b=some o/\∀ v,o.data≠.cell v
 keep:∀ i h h',tn i h->(∀ b∈fp,∀ o,h.get? b=some o->h'.get? b=some o)->tn i h'
 item:∀ (X:Cx),X.prog=P->X.w=w->X.K=K->X.calm=true->∀ (i:Nat) (pins:List (Addr×Obj)) (s:Shared) (σ:St) (H:Hp) (E:Value->Shared->Prop),Inv X pins σ H s->(∀ b∈fp,FpOk X pins H b)->tn i s.heap->J.go i H →
   wpAny (model P w) X.A (pyNext (.ref it)) (fun r s1=>∃ u,r=some u ∧
     wpAny (model P w) X.A (letOwnedTupleGo tg (.ref it) u) (fun _ s2=>∃ x H',Inv X pins σ H' s2/\RelV x u/\J.yld i H x H'/\tn (i+1) s2.heap/\∀ b∈fp,H' b=none) E s1) E s
 done:∀ (X:Cx),X.prog=P->X.w=w->X.K=K->X.calm=true->∀ (i:Nat) (pins:List (Addr×Obj)) (s:Shared) (σ:St) (H:Hp) (E:Value->Shared->Prop),Inv X pins σ H s->(∀ b∈fp,FpOk X pins H b)->tn i s.heap->J.stop i H →
   wpAny (model P w) X.A (pyNext (.ref it)) (fun r s1=>r=none/\Inv X pins σ H s1) E s
 self:∀ (A:Around) (i:Nat) (s:Shared) (Q:Value->Shared->Prop) (E:Value->Shared->Prop),tn i s.heap->Q (.ref it) s->wpAny (model P w) A (pyIter (.ref it)) Q E s
noncomputable abbrev TI:=St->Hp->(It->Hp->Prop)->Prop
noncomputable def PIE (X:Cx) (pins:List (Addr×Obj)) (σ:St) (tg:Expr) (R:It->Hp->Prop) (itv:Value) (s2:Shared):Prop :=
 ∃ (it:Addr) (fp:List Addr) (tn:Nat->Heap->Prop) (J:It) (H':Hp),itv = .ref it/\Inv X pins σ H' s2/\Turn X.prog X.w X.K tg J fp it tn/\tn 0 s2.heap/\(∀ b∈fp,FpOk X pins H' b)/\R J H'
noncomputable def PI (X:Cx) (tg iter:Expr) (wi:TI):Prop :=
 ∀ (pins:List (Addr×Obj)) (s:Shared) (σ:St) (H:Hp) (R:It->Hp->Prop),Inv X pins σ H s->wi σ H R →
   wpAny (model X.prog X.w) X.A (eval iter X.env) (fun v s1=>wpAny (model X.prog X.w) X.A (pyIter v) (PIE X pins σ tg R) X.xe s1) X.xe s
theorem yb1 {M:Model} {A:Around} {E:Value->Shared->Prop} {s:Shared} {tg:Expr} {it:Addr} {u:Value} {o:Obj} {n:String} {vs:Array Value} {Q:Unit->Shared->Prop} (ho:s.heap.get? it=some o) (hc:o.cls = .type n) (hd:o.data = .fields vs)
   (hn:["enumerate","zip","dict_itemiterator","dict_reverseitemiterator","odict_iterator","itertools.zip_longest","itertools.pairwise"].contains n=false) (hQ:Q () s):wpAny M A (letOwnedTupleGo tg (.ref it) u) Q E s:=by
 unfold letOwnedTupleGo
 cases tg<;>first
   | exact wpAny_pure hQ
   | (cases u<;>first
       | exact wpAny_pure hQ
       | (refine wpAny_bind (wpAny_load ho ?_)
          rw[hc,hd]
          show wpAny M A (if (["enumerate","zip","dict_itemiterator","dict_reverseitemiterator","odict_iterator","itertools.zip_longest","itertools.pairwise"].contains n && vs[0]? == some (rawInt _))=true then _ else _) Q E s
          rw[if_neg (by intro h;rw[hn,Bool.false_and] at h;cases h)]
          exact wpAny_pure hQ))
noncomputable def Itl (K:W.Frag) (a:Addr):It :=
 ⟨fun i H=>∃ xs x,SqL K H a xs/\xs[i]?=some x,fun i H x H'=>H'=H/\∀ xs,SqL K H a xs->xs[i]?=some x,fun i H=>∃ xs,SqL K H a xs/\xs.length<=i⟩
noncomputable def Itt (K:W.Frag) (a:Addr):It :=
 ⟨fun i H=>∃ xs x,SqT K H a xs/\xs[i]?=some x,fun i H x H'=>H'=H/\∀ xs,SqT K H a xs->xs[i]?=some x,fun i H=>∃ xs,SqT K H a xs/\xs.length<=i⟩
noncomputable def Itr (lo:Int) (n:Nat):It:=⟨fun i _=>i<n,fun i H x H'=>H'=H/\x = .int (lo+i),fun i _=>n<=i⟩
theorem zR1 {P:Program} {w:World} {K:W.Frag} {tg:Expr} (a it:Addr):Turn P w K tg (Itl K a) [it] it (fun i h=>h.IsListIter it a i) where
 mem:=by simp
 obj:=fun i h st b hb=>by
   have e:b=it:=by simpa using hb
   subst e
   obtain ⟨o,e,c,d⟩:=st
   exact⟨o,e,fun v z=>by rw[d] at z;cases z⟩
 keep:=fun i h h' st k=>st.at fun o e=>k it (by simp) o e
 item:=by
   intro X hP hw hK hc i pins s σ H E I hf st hg
   subst hP hw hK
   obtain ⟨xs,x,hq,hx⟩:=hg
   obtain ⟨its,rv,p,hz⟩:=I.list hq
   obtain ⟨u,hu,ru⟩:=rv.get hx
   obtain ⟨f0,f1,f2,f3,f4,f5⟩:=hf it (by simp)
   refine wpAny_pyNext_list_item st p.isList (x:=u) (by simpa using hu) fun h' st' sb=>?_
   have I1:Inv X pins σ H { s with heap:=h' }:=I.turned (t':=s.toks) (fun b o hb e=>(sb.2 b hb).trans e) f0 f1 f3 f4 f5
   obtain ⟨o,e,c,d⟩:=id st'
   exact⟨u,rfl,yb1 (s:={ s with heap:=h' }) e c d (by decide) ⟨x,H,I1,ru,⟨rfl,fun ys hy=>by rw[I.list_inj hy hq];exact hx⟩,st',fun b hb=>(hf b hb).1⟩⟩
 done:=by
   intro X hP hw hK hc i pins s σ H E I hf st hg
   subst hP hw hK
   obtain ⟨xs,hq,hx⟩:=hg
   obtain ⟨its,rv,p,hz⟩:=I.list hq
   obtain ⟨f0,f1,f2,f3,f4,f5⟩:=hf it (by simp)
   have hl:=rv.length
   exact wpAny_pyNext_list_end (I.ok.hd hc) st p.isList (by simp;omega) fun h' eb=>⟨rfl,I.turned (t':=s.toks) (fun b o hb e=>eb b o hb e) f0 f1 f3 f4 f5⟩
 self:=fun _ _ _ _ _ st h=>wpAny_pyIter_listiter st h
theorem zO4 {P:Program} {w:World} {K:W.Frag} {tg:Expr} (a it:Addr):Turn P w K tg (Itt K a) [it] it (fun i h=>h.IsTupleIter it a i) where
 mem:=by simp
 obj:=fun i h st b hb=>by
   have e:b=it:=by simpa using hb
   subst e
   obtain ⟨o,e,c,d⟩:=st
   exact⟨o,e,fun v z=>by rw[d] at z;cases z⟩
 keep:=fun i h h' st k=>st.at fun o e=>k it (by simp) o e
 item:=by
   intro X hP hw hK hc i pins s σ H E I hf st hg
   subst hP hw hK
   obtain ⟨xs,x,hq,hx⟩:=hg
   obtain ⟨its,rv,p,hz⟩:=I.tuple hq
   obtain ⟨u,hu,ru⟩:=rv.get hx
   obtain ⟨f0,f1,f2,f3,f4,f5⟩:=hf it (by simp)
   refine wpAny_pyNext_tuple_item st (show s.heap.IsTuple a its.toArray from p) (x:=u) (by simpa using hu) fun h' st' sb=>?_
   have I1:Inv X pins σ H { s with heap:=h' }:=I.turned (t':=s.toks) (fun b o hb e=>(sb.2 b hb).trans e) f0 f1 f3 f4 f5
   obtain ⟨o,e,c,d⟩:=id st'
   exact⟨u,rfl,yb1 (s:={ s with heap:=h' }) e c d (by decide) ⟨x,H,I1,ru,⟨rfl,fun ys hy=>by rw[I.tuple_inj hy hq];exact hx⟩,st',fun b hb=>(hf b hb).1⟩⟩
 done:=by
   intro X hP hw hK hc i pins s σ H E I hf st hg
   subst hP hw hK
   obtain ⟨xs,hq,hx⟩:=hg
   obtain ⟨its,rv,p,hz⟩:=I.tuple hq
   obtain ⟨f0,f1,f2,f3,f4,f5⟩:=hf it (by simp)
   have hl:=rv.length
   exact wpAny_pyNext_tuple_end (I.ok.hd hc) st (show s.heap.IsTuple a its.toArray from p) (by simp;omega) fun h' eb=>⟨rfl,I.turned (t':=s.toks) (fun b o hb e=>eb b o hb e) f0 f1 f3 f4 f5⟩
 self:=fun _ _ _ _ _ st h=>wpAny_pyIter_tupleiter st h
theorem turn_range {P:Program} {w:World} {K:W.Frag} {tg:Expr} (it:Addr) (lo:Int) (n:Nat):Turn P w K tg (Itr lo n) [it] it (fun i h=>IsRangeIter h it (lo+(i:Nat)*1) ((n:Int)-(i:Nat)) 1) where
 mem:=by simp
 obj:=fun i h st b hb=>by
   have e:b=it:=by simpa using hb
   subst e
   exact⟨_,st,fun v z=>by
     have z':Data.fields _=Data.cell v:=z
     cases z'⟩
 keep:=fun i h h' st k=>k it (by simp) _ st
 item:=by
   intro X hP hw hK hc i pins s σ H E I hf st hg
   subst hP hw hK
   obtain ⟨f0,f1,f2,f3,f4,f5⟩:=hf it (by simp)
   have W:=Walks.range (prog:=X.prog) (w:=X.w) (I.ok.hd hc) it lo 1 n
   refine W.item i s _ _ hg st fun v h' tk hv st' kk=>?_
   obtain ⟨t,rfl⟩:=hv
   have I1:Inv X pins σ H { s with heap:=h',toks:=tk }:=I.turned (fun b o hb e=>kk b o (by simpa using hb) e) f0 f1 f3 f4 f5
   refine⟨_,rfl,yb1 (s:={ s with heap:=h',toks:=tk }) (n:="range_iterator") st' rfl rfl (by decide) ⟨.int (lo+i),H,I1,⟨t,?_⟩,⟨rfl,rfl⟩,st',fun b hb=>(hf b hb).1⟩⟩
   rw[Int.mul_one]
 done:=by
   intro X hP hw hK hc i pins s σ H E I hf st hg
   subst hP hw hK
   obtain ⟨f0,f1,f2,f3,f4,f5⟩:=hf it (by simp)
   exact wpAny_pyNext_range_end (I.ok.hd hc) st (by have:n<=i:=hg;omega) fun h' eb=>⟨rfl,I.turned (t':=s.toks) (fun b o hb e=>eb b o hb e) f0 f1 f3 f4 f5⟩
 self:=fun _ _ _ _ _ st h=>wpAny_pyIter_rangeiter st h
end L2
namespace L2
open PySem PySem.Spec PyProof.Rows
section
variable {X:Cx} {tg:Expr}
noncomputable def iList (K:W.Frag) (tl:TE):TI:=fun σ H R=>tl σ H fun x H1=>∃ a,x = .ref a/\(∃ xs,SqL K H1 a xs)/\R (Itl K a) H1
noncomputable def iTup (K:W.Frag) (tl:TE):TI:=fun σ H R=>tl σ H fun x H1=>∃ a,x = .ref a/\(∃ xs,SqT K H1 a xs)/\R (Itt K a) H1
theorem zq8 {l:Expr} {tl:TE} (hl:PE X l tl):PI X tg l (iList X.K tl):=by
 intro pins s σ H R I h
 refine thn (hl pins s σ H _ I h) fun v s1 ⟨x,H1,I1,r1,q1⟩=>?_
 obtain ⟨a,e,⟨xs,hq⟩,q⟩:=q1
 subst e
 cases r1
 obtain ⟨its,rv,p,hz⟩:=I1.list hq
 refine wpAny_pyIter_list p.isList ?_
 refine⟨s1.heap.objs.size,[s1.heap.objs.size],_,_,H1,rfl,I1.kept (t':=s1.toks) fun b o e=>Heap.get?_push_of_some _ e,zR1 a _,⟨_,Heap.get?_push_size _ rfl,rfl,rfl⟩,fun b hb=>?_,q⟩
 have e:b=s1.heap.objs.size:=by simpa using hb
 subst e
 exact I1.fpOk (Nat.le_refl _) (I1.hok.fresh (Nat.le_refl _))
theorem ya0 {l:Expr} {tl:TE} (hl:PE X l tl):PI X tg l (iTup X.K tl):=by
 intro pins s σ H R I h
 refine thn (hl pins s σ H _ I h) fun v s1 ⟨x,H1,I1,r1,q1⟩=>?_
 obtain ⟨a,e,⟨xs,hq⟩,q⟩:=q1
 subst e
 cases r1
 obtain ⟨its,rv,p,hz⟩:=I1.tuple hq
 refine wpAny_pyIter_tuple (show s1.heap.IsTuple a its.toArray from p) ?_
 refine⟨s1.heap.objs.size,[s1.heap.objs.size],_,_,H1,rfl,I1.kept (t':=s1.toks) fun b o e=>Heap.get?_push_of_some _ e,zO4 a _,⟨_,Heap.get?_push_size _ rfl,rfl,rfl⟩,fun b hb=>?_,q⟩
 have e:b=s1.heap.objs.size:=by simpa using hb
 subst e
 exact I1.fpOk (Nat.le_refl _) (I1.hok.fresh (Nat.le_refl _))
theorem zX2 {pins:List (Addr×Obj)} {σ:St} {H:Hp} {s:Shared} {R:It->Hp->Prop} {E:Value->Shared->Prop} {lo hi:Int} {t u v:Tok} {tk:Nat} (I:Inv X pins σ H s) (h1:-(2 ^ 62)<=lo) (h2:lo<2 ^ 62) (h3:-(2 ^ 62)<=hi) (h4:hi<2 ^ 62)
   (q:R (Itr lo (hi-lo).toNat) H):wpAny (model X.prog X.w) X.A (pyIter (.ref s.heap.objs.size)) (PIE X pins σ tg R) E { s with heap:=s.heap.push { cls:=.type "range",data:=.fields #[.int lo t,.int hi u,.int 1 v] },toks:=tk }:=by
 refine wpAny_pyIter_range (IsRange.new ..) (small_one h1 h2 h3 h4) ?_
 have I1:Inv X pins σ H { s with heap:=s.heap.push { cls:=.type "range",data:=.fields #[.int lo t,.int hi u,.int 1 v] },toks:=tk }:=I.kept fun b o e=>Heap.get?_push_of_some _ e
 refine⟨(s.heap.push { cls:=.type "range",data:=.fields #[.int lo t,.int hi u,.int 1 v] }).objs.size,[(s.heap.push { cls:=.type "range",data:=.fields #[.int lo t,.int hi u,.int 1 v] }).objs.size],_,_,H,rfl,
   I1.kept (t':=tk) fun b o e=>Heap.get?_push_of_some _ e,turn_range _ lo (hi-lo).toNat,?_,fun b hb=>?_,q⟩
 . have e1:lo+((0:Nat):Int)*1=lo:=by simp
   have e2:(((hi-lo).toNat:Nat):Int)-((0:Nat):Int)=Builtin.Range.rangeSize lo hi 1:=by rw[rangeSize_one];split<;>omega
   show IsRangeIter _ _ (lo+((0:Nat):Int)*1) ((((hi-lo).toNat:Nat):Int)-((0:Nat):Int)) 1
   rw[e1,e2]
   exact Heap.get?_push_size _ rfl
 . have e:b=(s.heap.push { cls:=.type "range",data:=.fields #[.int lo t,.int hi u,.int 1 v] }).objs.size:=by simpa using hb
   subst e
   exact I1.fpOk (Nat.le_refl _) (I1.hok.fresh (Nat.le_refl _))
noncomputable def iRng1 (ta:TA):TI:=fun σ H R=>ta σ H fun vs H1=>∃ j:Int,vs=[.int j]/\-(2 ^ 62)<=j/\j<2 ^ 62/\R (Itr 0 j.toNat) H1
noncomputable def iRng2 (ta:TA):TI:=fun σ H R=>ta σ H fun vs H1=>∃ i j:Int,vs=[.int i,.int j]/\(-(2 ^ 62)<=i/\i<2 ^ 62/\-(2 ^ 62)<=j/\j<2 ^ 62)/\R (Itr i (j-i).toNat) H1
theorem zo2 {a:Expr} {ta:TA} {p pos:Pos} (hg:Gl X "range") (hm:X.mg "range" = none) (ha:PA X [a] ta) (hs:starEach [a] X.env=[(false,eval a X.env)]:=by rfl):PI X tg (.Call (.Name "range" p) [a] [] pos) (iRng1 ta):=by
 intro pins s σ H R I h
 refine Call_ (zK4 I hg hm boot_range (PyProof.Rows.callWith_type1 (thn (ha pos pins s σ H _ I h) fun us s1 ⟨vs,H1,I1,r1,q1⟩=>?_) hs rfl))
 obtain ⟨j,e,q1,q2,q⟩:=q1
 subst e
 cases r1 with
 | cons r rr =>
   cases rr
   obtain ⟨t,rfl⟩:=r
   exact call_range_1 (zX2 I1 (by omega) (by omega) q1 q2 (by simpa using q))
theorem zD4 {a b:Expr} {ta:TA} {p pos:Pos} (hg:Gl X "range") (hm:X.mg "range" = none) (ha:PA X [a,b] ta) (hs:starEach [a,b] X.env=[(false,eval a X.env),(false,eval b X.env)]:=by rfl) (hs2:starEach [b] X.env=[(false,eval b X.env)]:=by rfl) :
   PI X tg (.Call (.Name "range" p) [a,b] [] pos) (iRng2 ta):=by
 intro pins s σ H R I h
 refine Call_ (zK4 I hg hm boot_range (PyProof.Rows.callWith_type1 (thn (ha pos pins s σ H _ I h) fun us s1 ⟨vs,H1,I1,r1,q1⟩=>?_) (by rw[hs,hs2]) (by rw[hs2];rfl)))
 obtain ⟨i,j,e,⟨q1,q2,q3,q4⟩,q⟩:=q1
 subst e
 cases r1 with
 | cons r rr =>
   cases rr with
   | cons r' rr =>
     cases rr
     obtain ⟨t,rfl⟩:=r
     obtain ⟨t',rfl⟩:=r'
     exact call_range_2 (zX2 I1 q1 q2 q3 q4 q)
noncomputable def tFor (wi:TI) (g:TG) (tb:TS):TS:=fun D σ H=>wi σ H fun J H1=>∃ W:Nat->Nat->St->Hp->Prop,(∃ m,W 0 m σ H1)/\∀ i m σ H,W i m σ H →
 (J.stop i H/\D.nx σ H)\/(J.go i H/\∃ N:St->Hp->Prop,(∀ σ' H',N σ' H'->∃ m',m'<m/\W (i+1) m' σ' H')/\∀ x H',J.yld i H x H'->g x σ H' fun σ2 H2=>tb { D with nx:=N,ct:=N,bk:=D.nx } σ2 H2)
noncomputable def zK6 (fp:List Addr) (h:Heap):List (Addr×Obj):=fp.filterMap fun b=>(h.get? b).map fun o=>(b,o)
theorem zz2 {fp:List Addr} {h:Heap} {b:Addr} {o:Obj} (hb:b∈fp) (e:h.get? b=some o):(b,o)∈zK6 fp h:=List.mem_filterMap.mpr ⟨b,hb,by rw[e];rfl⟩
theorem of_pinsAt {fp:List Addr} {h:Heap} {p:Addr×Obj} (hp:p∈zK6 fp h):p.1∈fp/\h.get? p.1=some p.2:=by
 obtain ⟨b,hb,e⟩:=List.mem_filterMap.mp hp
 cases q:h.get? b with
 | none=>rw[q] at e;cases e
 | some o =>
   rw[q] at e
   have e':(b,o)=p:=Option.some.inj e
   subst e'
   exact⟨hb,q⟩
theorem Inv.pinned {pins:List (Addr×Obj)} {σ:St} {H:Hp} {s:Shared} {fp:List Addr} (I:Inv X pins σ H s) (hf:∀ b∈fp,FpOk X pins H b) (ho:∀ b∈fp,∃ o,s.heap.get? b=some o/\∀ v,o.data≠.cell v):Inv X (pins++zK6 fp s.heap) σ H s :=
 I.pins_of fun p hp=>(List.mem_append.mp hp).elim (fun z=>I.pin p (List.mem_append_right _ z)) fun z=>by
   obtain ⟨hb,e⟩:=of_pinsAt z
   obtain ⟨f0,f1,f2,_⟩:=hf p.1 hb
   obtain ⟨o,e',d⟩:=ho p.1 hb
   rw[e] at e';cases e'
   exact⟨e,f0,f1,f2,d⟩
theorem Inv.unpinned {pins pl:List (Addr×Obj)} {σ:St} {H:Hp} {s:Shared} (I:Inv X (pins++pl) σ H s):Inv X pins σ H s:=I.pins_of fun p hp=>I.pin p (List.mem_append_right _ (List.mem_append_left _ hp))
theorem zn9 {iter:Expr} {body:List Stmt} {wi:TI} {g:TG} {tb:TS} {pos:Pos} (hp:PassesOwn (model X.prog X.w) X.A X.env X.xe) (hc:X.calm=true) (hi:PI X tg iter wi) (hg:PG X tg g) (hb:PSs X body tb)
   (hs:∀ x,foldedSetIterable iter X.env x=pure x:=by intro _;rfl):PS X (.For tg iter body [] pos) (tFor wi g tb):=by
 intro pins s σ H D I h
 refine wpAny_For (thn (hi pins s σ H _ I h) fun v s1 h1=>thn h1 fun itv s2 h2=>?_) hs
 obtain ⟨it,fp,tn,J,H2,e,I2,T,st2,f2,W,⟨m0,w0⟩,turn⟩:=h2
 subst e
 have stat:∀ {H':Hp},(∀ b∈fp,H' b=none)->∀ b∈fp,FpOk X pins H' b:=fun hn b hb=>⟨hn b hb,(f2 b hb).2⟩
 refine codeAny_forLoop_any (fun n s'=>∃ i σ' H',Inv X pins σ' H' s'/\tn i s'.heap/\(∀ b∈fp,H' b=none)/\W i n σ' H') ?_ m0 ⟨0,σ,H2,I2,st2,fun b hb=>(f2 b hb).1,w0⟩
 rintro n s3 ⟨i,σ3,H3,I3,st3,fr3,w3⟩
 rcases turn i n σ3 H3 w3 with ⟨stop,qn⟩ | ⟨go,N,hN,step⟩
 . refine wpAny_passesOwn hp (thn (T.done X rfl rfl rfl hc i pins s3 σ3 H3 X.xe I3 (stat fr3) st3 stop) fun r s4 ⟨hr,I4⟩=>?_)
   subst hr
   exact wpAny_execs_nil ⟨σ3,H3,I4,qn⟩
 . refine wpAny_passesOwn hp (thn (T.item X rfl rfl rfl hc i pins s3 σ3 H3 X.xe I3 (stat fr3) st3 go) fun r s4 ⟨u,hr,h4⟩=>?_)
   subst hr
   refine wpAny_passesOwn hp (thn h4 fun _ s5 ⟨x,H5,I5,r5,y5,st5,fr5⟩=>?_)
   have I5':=I5.pinned (stat fr5) (T.obj _ _ st5)
   refine wpAny_passesOwn hp (thn (hg _ s5 σ3 H5 x u _ I5' r5 (step x H5 y5)) fun _ s6 ⟨σ6,H6,I6,q6⟩=>?_)
   refine wpAny_passesOwn hp (thn (hb _ s6 σ6 H6 _ I6 q6) fun f s7 q7=>?_)
   have again:∀ {σ7:St} {H7:Hp},Inv X (pins++zK6 fp s5.heap) σ7 H7 s7->N σ7 H7->∃ m,m<n/\∃ i σ' H',Inv X pins σ' H' s7/\tn i s7.heap/\(∀ b∈fp,H' b=none)/\W i m σ' H':=fun {σ7 H7} I7 n7=>by
     obtain ⟨m',hm,w7⟩:=hN σ7 H7 n7
     refine⟨m',hm,i+1,σ7,H7,I7.unpinned,T.keep _ _ _ st5 fun b hb o e=>(I7.pin (b,o) (List.mem_append_right _ (List.mem_append_right _ (zz2 hb e)))).1,fun b hb=>?_,w7⟩
     obtain ⟨o,e,d⟩:=T.obj _ _ st5 b hb
     exact (I7.pin (b,o) (List.mem_append_right _ (List.mem_append_right _ (zz2 hb e)))).2.1
   cases f with
   | next=>obtain ⟨σ7,H7,I7,n7⟩:=q7;exact again I7 n7
   | cont=>obtain ⟨σ7,H7,I7,n7⟩:=q7;exact again I7 n7
   | brk=>obtain ⟨σ7,H7,I7,q7⟩:=q7;exact⟨σ7,H7,I7.unpinned,q7⟩
   | ret v=>obtain ⟨x7,σ7,H7,I7,r7,q7⟩:=q7;exact⟨x7,σ7,H7,I7.unpinned,r7,q7⟩
end
theorem zA9 {K:W.Frag} {a:Addr} {xs:List V} {g:TG} {tb:TS} {D:Ends} {σ:St} {H:Hp} (Pv:Nat->St->Hp->Prop) (h0:Pv 0 σ H) (hl:∀ i σ H,i<=xs.length->Pv i σ H->SqL K H a xs)
   (hs:∀ i x σ H,xs[i]?=some x->Pv i σ H->g x σ H fun σ2 H2=>tb { D with nx:=Pv (i+1),ct:=Pv (i+1),bk:=D.nx } σ2 H2) (hd:∀ σ H,Pv xs.length σ H->D.nx σ H) :
   ∃ W:Nat->Nat->St->Hp->Prop,(∃ m,W 0 m σ H)/\∀ i m σ H,W i m σ H →
     ((Itl K a).stop i H/\D.nx σ H)\/((Itl K a).go i H/\∃ N:St->Hp->Prop,(∀ σ' H',N σ' H'->∃ m',m'<m/\W (i+1) m' σ' H')/\∀ x H',(Itl K a).yld i H x H'->g x σ H' fun σ2 H2=>tb { D with nx:=N,ct:=N,bk:=D.nx } σ2 H2):=by
 refine⟨fun i m σ H=>m=xs.length-i/\i<=xs.length/\Pv i σ H,⟨xs.length,by simp,Nat.zero_le _,h0⟩,?_⟩
 rintro i m σ H ⟨rfl,hi,p⟩
 have q:=hl i σ H hi p
 by_cases hlt:i<xs.length
 . refine .inr ⟨⟨xs,xs[i],q,by simp[hlt]⟩,Pv (i+1),fun σ' H' p'=>⟨xs.length-(i+1),by omega,rfl,hlt,p'⟩,fun x H' y=>?_⟩
   obtain ⟨e,y⟩:=y
   subst e
   exact hs i x σ _ (y xs q) p
 . have e:i=xs.length:=by omega
   subst e
   exact .inl ⟨⟨xs,q,Nat.le_refl _⟩,hd σ H p⟩
theorem zV4 {K:W.Frag} {a:Addr} {xs:List V} {g:TG} {tb:TS} {D:Ends} {σ:St} {H:Hp} (Pv:Nat->St->Hp->Prop) (h0:Pv 0 σ H) (hl:∀ i σ H,i<=xs.length->Pv i σ H->SqT K H a xs)
   (hs:∀ i x σ H,xs[i]?=some x->Pv i σ H->g x σ H fun σ2 H2=>tb { D with nx:=Pv (i+1),ct:=Pv (i+1),bk:=D.nx } σ2 H2) (hd:∀ σ H,Pv xs.length σ H->D.nx σ H) :
   ∃ W:Nat->Nat->St->Hp->Prop,(∃ m,W 0 m σ H)/\∀ i m σ H,W i m σ H →
     ((Itt K a).stop i H/\D.nx σ H)\/((Itt K a).go i H/\∃ N:St->Hp->Prop,(∀ σ' H',N σ' H'->∃ m',m'<m/\W (i+1) m' σ' H')/\∀ x H',(Itt K a).yld i H x H'->g x σ H' fun σ2 H2=>tb { D with nx:=N,ct:=N,bk:=D.nx } σ2 H2):=by
 refine⟨fun i m σ H=>m=xs.length-i/\i<=xs.length/\Pv i σ H,⟨xs.length,by simp,Nat.zero_le _,h0⟩,?_⟩
 rintro i m σ H ⟨rfl,hi,p⟩
 have q:=hl i σ H hi p
 by_cases hlt:i<xs.length
 . refine .inr ⟨⟨xs,xs[i],q,by simp[hlt]⟩,Pv (i+1),fun σ' H' p'=>⟨xs.length-(i+1),by omega,rfl,hlt,p'⟩,fun x H' y=>?_⟩
   obtain ⟨e,y⟩:=y
   subst e
   exact hs i x σ _ (y xs q) p
 . have e:i=xs.length:=by omega
   subst e
   exact .inl ⟨⟨xs,q,Nat.le_refl _⟩,hd σ H p⟩
theorem zk2 {lo:Int} {n:Nat} {g:TG} {tb:TS} {D:Ends} {σ:St} {H:Hp} (Pv:Nat->St->Hp->Prop) (h0:Pv 0 σ H)
   (hs:∀ i σ H,i<n->Pv i σ H->g (.int (lo+i)) σ H fun σ2 H2=>tb { D with nx:=Pv (i+1),ct:=Pv (i+1),bk:=D.nx } σ2 H2) (hd:∀ σ H,Pv n σ H->D.nx σ H) :
   ∃ W:Nat->Nat->St->Hp->Prop,(∃ m,W 0 m σ H)/\∀ i m σ H,W i m σ H →
     ((Itr lo n).stop i H/\D.nx σ H)\/((Itr lo n).go i H/\∃ N:St->Hp->Prop,(∀ σ' H',N σ' H'->∃ m',m'<m/\W (i+1) m' σ' H')/\∀ x H',(Itr lo n).yld i H x H'->g x σ H' fun σ2 H2=>tb { D with nx:=N,ct:=N,bk:=D.nx } σ2 H2):=by
 refine⟨fun i m σ H=>m=n-i/\i<=n/\Pv i σ H,⟨n,by simp,Nat.zero_le _,h0⟩,?_⟩
 rintro i m σ H ⟨rfl,hi,p⟩
 by_cases hlt:i<n
 . refine .inr ⟨hlt,Pv (i+1),fun σ' H' p'=>⟨n-(i+1),by omega,rfl,hlt,p'⟩,fun x H' y=>?_⟩
   obtain ⟨e,y⟩:=y
   subst e y
   exact hs i σ _ hlt p
 . have e:i=n:=by omega
   subst e
   exact .inl ⟨Nat.le_refl _,hd σ H p⟩
end L2
namespace L2
open PySem PySem.Spec PyProof.Rows
noncomputable abbrev R2:=V->V->Hp->VK->Prop
noncomputable def OpR (X:Cx) (f:Value->Value->Sem Value) (r:R2):Prop :=
 ∀ (pins:List (Addr×Obj)) (s:Shared) (σ:St) (H:Hp) (x y:V) (v u:Value) (Q:VK),Inv X pins σ H s->RelV x v->RelV y u->r x y H Q →
   wpAny (model X.prog X.w) X.A (f v u) (EP X pins σ Q) X.xe s
noncomputable def UnR (X:Cx) (f:Value->Sem Value) (r:V->Hp->VK->Prop):Prop :=
 ∀ (pins:List (Addr×Obj)) (s:Shared) (σ:St) (H:Hp) (x:V) (v:Value) (Q:VK),Inv X pins σ H s->RelV x v->r x H Q →
   wpAny (model X.prog X.w) X.A (f v) (EP X pins σ Q) X.xe s
noncomputable def zs4 (X:Cx) (f:Value) (r:List V->Hp->VK->Prop):Prop :=
 ∀ (pins:List (Addr×Obj)) (s:Shared) (σ:St) (H:Hp) (xs:List V) (us:List Value) (Q:VK),Inv X pins σ H s->Vals xs us->r xs H Q →
   wpAny (model X.prog X.w) X.A (call f us) (EP X pins σ Q) X.xe s
noncomputable def tOp (r:R2) (ta tb:TE):TE:=fun σ H Q=>ta σ H fun x H1=>tb σ H1 fun y H2=>r x y H2 Q
noncomputable def tUn (r:V->Hp->VK->Prop) (ta:TE):TE:=fun σ H Q=>ta σ H fun x H1=>r x H1 Q
noncomputable def rI (C:Int->Int->Prop) (g:Int->Int->V):R2:=fun x y H Q=>∃ i j,x = .int i/\y = .int j/\C i j/\Q (g i j) H
noncomputable def rI0 (g:Int->Int->V):R2:=fun x y H Q=>∃ i j,x = .int i/\y = .int j/\Q (g i j) H
noncomputable def rU (g:Int->V):V->Hp->VK->Prop:=fun x H Q=>∃ i,x = .int i/\Q (g i) H
section
variable {X:Cx} {a b c:Expr} {ta tb tc:TE} {pos:Pos}
theorem binT (ha:PE X a ta) (hb:PE X b tb) {pins:List (Addr×Obj)} {s:Shared} {σ:St} {H:Hp} {R:V->V->Hp->Prop} (I:Inv X pins σ H s)
   (h:ta σ H fun x H1=>tb σ H1 fun y H2=>R x y H2) {Q:Value->Shared->Prop} {f:Value->Value->Sem Value}
   (hf:∀ v u s2 x y H2,Inv X pins σ H2 s2->RelV x v->RelV y u->R x y H2->wpAny (model X.prog X.w) X.A (f v u) Q X.xe s2) :
   wpAny (model X.prog X.w) X.A (eval a X.env) (fun v s₁=>wpAny (model X.prog X.w) X.A (eval b X.env) (fun u s₂=>wpAny (model X.prog X.w) X.A (f v u) Q X.xe s₂) X.xe s₁) X.xe s:=by
 refine thn (ha pins s σ H _ I h) fun v s1 ⟨x,H1,I1,r1,q1⟩=>?_
 refine thn (hb pins s1 σ H1 _ I1 q1) fun u s2 ⟨y,H2,I2,r2,q2⟩=>?_
 exact hf v u s2 x y H2 I2 r1 r2 q2
theorem zb0 {op:Operator} {r:R2} (ho:OpR X (binaryOp op) r) (ha:PE X a ta) (hb:PE X b tb):PE X (.BinOp a op b pos) (tOp r ta tb):=by
 intro pins s σ H Q I h
 exact wpAny_BinOp (binT ha hb I h fun v u s2 x y H2 I2 rx ry q=>ho pins s2 σ H2 x y v u Q I2 rx ry q)
theorem zn1 {op:UnaryOp} {r:V->Hp->VK->Prop} (ho:UnR X (unaryOp op) r) (ha:PE X a ta):PE X (.UnaryOp op a pos) (tUn r ta):=by
 intro pins s σ H Q I h
 exact UnaryOp_ (thn (ha pins s σ H _ I h) fun v s1 ⟨x,H1,I1,r1,q1⟩=>ho pins s1 σ H1 x v Q I1 r1 q1)
theorem opI {f:Value->Value->Sem Value} {C:Int->Int->Prop} {g:Int->Int->Int}
   (rule:∀ (i j:Int) (t u:Tok) (s:Shared) (Q:Value->Shared->Prop) (E:Value->Shared->Prop),C i j->Q (.int (g i j) s.toks) { s with toks:=s.toks+1 }->wpAny (model X.prog X.w) X.A (f (.int i t) (.int j u)) Q E s) :
   OpR X f (rI C fun i j=>.int (g i j)):=by
 intro pins s σ H x y v u Q I rx ry h
 obtain ⟨i,j,rfl,rfl,hc,q⟩:=h
 obtain ⟨t,rfl⟩:=rx
 obtain ⟨t',rfl⟩:=ry
 exact rule i j t t' s _ _ hc ⟨.int (g i j),H,I.tok _,⟨_,rfl⟩,q⟩
theorem opI0 {f:Value->Value->Sem Value} {g:Int->Int->Int}
   (rule:∀ (i j:Int) (t u:Tok) (s:Shared) (Q:Value->Shared->Prop) (E:Value->Shared->Prop),Q (.int (g i j) s.toks) { s with toks:=s.toks+1 }->wpAny (model X.prog X.w) X.A (f (.int i t) (.int j u)) Q E s) :
   OpR X f (rI0 fun i j=>.int (g i j)):=by
 intro pins s σ H x y v u Q I rx ry h
 obtain ⟨i,j,rfl,rfl,q⟩:=h
 obtain ⟨t,rfl⟩:=rx
 obtain ⟨t',rfl⟩:=ry
 exact rule i j t t' s _ _ ⟨.int (g i j),H,I.tok _,⟨_,rfl⟩,q⟩
theorem opB0 {f:Value->Value->Sem Value} {g:Int->Int->Bool}
   (rule:∀ (i j:Int) (t u:Tok) (s:Shared) (Q:Value->Shared->Prop) (E:Value->Shared->Prop),Q (.bool (g i j)) s->wpAny (model X.prog X.w) X.A (f (.int i t) (.int j u)) Q E s) :
   OpR X f (rI0 fun i j=>.bl (g i j)):=by
 intro pins s σ H x y v u Q I rx ry h
 obtain ⟨i,j,rfl,rfl,q⟩:=h
 obtain ⟨t,rfl⟩:=rx
 obtain ⟨t',rfl⟩:=ry
 exact rule i j t t' s _ _ ⟨.bl (g i j),H,I,rfl,q⟩
noncomputable def CDiv (i j:Int):Prop:=0<j/\j<1073741824
noncomputable def CMul (i j:Int):Prop:=(-(2 ^ 64)<i/\i<2 ^ 64)\/(-(2 ^ 64)<j/\j<2 ^ 64)
theorem CMul.ok {i j:Int} (h:CMul i j):IntMulOk i j:=by
 rcases h with ⟨h1,h2⟩ | ⟨h1,h2⟩
 . exact .of_left (intBits_le_64 h1 h2)
 . exact .of_right (intBits_le_64 h1 h2)
theorem ze8:OpR X (binaryOp .Add) (rI0 fun i j=>.int (i+j)):=opI0 fun _ _ _ _ _ _ _ q=>add_int q
theorem zh1:OpR X (binaryOp .Sub) (rI0 fun i j=>.int (i-j)):=opI0 fun _ _ _ _ _ _ _ q=>sub_int q
theorem zl5:OpR X (binaryOp .Mult) (rI CMul fun i j=>.int (i*j)):=opI fun _ _ _ _ _ _ _ hc q=>mul_int q hc.ok
theorem zi3:OpR X (binaryOp .FloorDiv) (rI CDiv fun i j=>.int (i / j)):=opI fun i j _ _ _ _ _ hc q=>by
 have h1:(0:Int)<j:=hc.1
 have h2:j<1073741824:=hc.2
 exact floordiv_int (by omega) (by rw[Int.fdiv_eq_ediv_of_nonneg i (by omega)];exact q) (.inl (PyProof.noPylong_small (by omega)))
theorem ze5:OpR X (binaryOp .Mod) (rI (fun _ j=>0<j) fun i j=>.int (i % j)):=opI fun i j _ _ _ _ _ hc q=>by
 have h1:(0:Int)<j:=hc
 exact mod_int' (by omega) (by rw[Int.fmod_eq_emod_of_nonneg i (by omega)];exact q)
theorem unI {f:Value->Sem Value} {g:Int->Int}
   (rule:∀ (i:Int) (t:Tok) (s:Shared) (Q:Value->Shared->Prop) (E:Value->Shared->Prop),Q (.int (g i) s.toks) { s with toks:=s.toks+1 }->wpAny (model X.prog X.w) X.A (f (.int i t)) Q E s) :
   UnR X f (rU fun i=>.int (g i)):=by
 intro pins s σ H x v Q I rx h
 obtain ⟨i,rfl,q⟩:=h
 obtain ⟨t,rfl⟩:=rx
 exact rule i t s _ _ ⟨.int (g i),H,I.tok _,⟨_,rfl⟩,q⟩
theorem zh8:UnR X (unaryOp .USub) (rU fun i=>.int (-i)):=unI fun _ _ _ _ _ q=>neg_int q
end
noncomputable def scal:V->V->Bool
 | .non,.non=>true | .non,.int _=>true | .int _,.non=>true | .non,.bl _=>true | .bl _,.non=>true | .non,.str _=>true | .str _,.non=>true
 | .int _,.int _=>true | .bl _,.bl _=>true | .str _,.str _=>true | .byt _,.byt _=>true
 | .int _,.str _=>true | .str _,.int _=>true | .bl _,.str _=>true | .str _,.bl _=>true
 | _,_=>false
noncomputable def rEq:R2:=fun x y H Q=>scal x y=true/\Q (.bl (decide (x=y))) H
noncomputable def rNe:R2:=fun x y H Q=>scal x y=true/\Q (.bl (!decide (x=y))) H
theorem zV5 {i j:Int}:decide (V.int i=V.int j)=(i == j):=by
 rw[Bool.eq_iff_iff]
 simp
theorem ya1 {i j:Bool}:decide (V.bl i=V.bl j)=(i == j):=by
 rw[Bool.eq_iff_iff]
 simp
theorem zV6 {i j:Str}:decide (V.str i=V.str j)=(i == j):=by
 rw[Bool.eq_iff_iff]
 simp
theorem yb2 {i j:Array UInt8}:decide (V.byt i=V.byt j)=(i.toList == j.toList):=by
 rw[Bool.eq_iff_iff]
 cases i
 cases j
 simp
section
variable {X:Cx} {a b c:Expr} {ta tb tc:TE} {pos:Pos}
theorem ze9 {pins:List (Addr×Obj)} {σ:St} {H:Hp} {s:Shared} {Q:VK} {k k':Bool} (I:Inv X pins σ H s) (q:Q (.bl k) H) (e:k=k'):EP X pins σ Q (.bool k') s:=by
 subst e
 exact⟨.bl k,H,I,rfl,q⟩
theorem zg3:OpR X (compareOp .Eq) rEq:=by
 intro pins s σ H x y v u Q I rx ry h
 obtain ⟨hs,q⟩:=h
 cases x with
 | non =>
   cases rx
   cases y with
   | non=>cases ry;exact PySem.EqNone.eq_none_none (ze9 I q (by simp))
   | bl j=>cases ry;exact PySem.EqNone.eq_none_bool (ze9 I q (by simp))
   | int j=>obtain ⟨t',rfl⟩:=ry;exact PySem.EqNone.eq_none_int (ze9 I q (by simp))
   | str j=>obtain ⟨t',rfl⟩:=ry;exact PySem.EqNone.eq_none_str (ze9 I q (by simp))
   | _=>exact absurd (show false=true from hs) Bool.false_ne_true
 | bl i =>
   cases rx
   cases y with
   | non=>cases ry;exact PySem.EqNone.eq_bool_none (ze9 I q (by simp))
   | bl j=>cases ry;exact eq_bool (ze9 I q ya1)
   | str j=>obtain ⟨t',rfl⟩:=ry;exact PySem.EqMixed.eq_bool_str (ze9 I q (by simp))
   | _=>exact absurd (show false=true from hs) Bool.false_ne_true
 | int i =>
   obtain ⟨t,rfl⟩:=rx
   cases y with
   | non=>cases ry;exact PySem.EqNone.eq_int_none (ze9 I q (by simp))
   | int j=>obtain ⟨t',rfl⟩:=ry;exact eq_int (ze9 I q zV5)
   | str j=>obtain ⟨t',rfl⟩:=ry;exact PySem.EqMixed.eq_int_str (ze9 I q (by simp))
   | _=>exact absurd (show false=true from hs) Bool.false_ne_true
 | str i =>
   obtain ⟨t,rfl⟩:=rx
   cases y with
   | non=>cases ry;exact PySem.EqNone.eq_str_none (ze9 I q (by simp))
   | bl j=>cases ry;exact PySem.EqMixed.eq_str_bool (ze9 I q (by simp))
   | int j=>obtain ⟨t',rfl⟩:=ry;exact PySem.EqMixed.eq_str_int (ze9 I q (by simp))
   | str j=>obtain ⟨t',rfl⟩:=ry;exact eq_str (ze9 I q zV6)
   | _=>exact absurd (show false=true from hs) Bool.false_ne_true
 | byt i =>
   obtain ⟨t,rfl⟩:=rx
   cases y with
   | byt j=>obtain ⟨t',rfl⟩:=ry;exact W.eq_bytes (ze9 I q yb2)
   | _=>exact absurd (show false=true from hs) Bool.false_ne_true
 | _=>cases y<;>exact absurd (show false=true from hs) Bool.false_ne_true
theorem zr2:OpR X (compareOp .NotEq) rNe:=by
 intro pins s σ H x y v u Q I rx ry h
 obtain ⟨hs,q⟩:=h
 cases x with
 | non =>
   cases rx
   cases y with
   | non=>cases ry;exact PySem.EqNone.ne_none_none (ze9 I q (by simp))
   | bl j=>cases ry;exact PySem.EqNone.ne_none_bool (ze9 I q (by simp))
   | int j=>obtain ⟨t',rfl⟩:=ry;exact PySem.EqNone.ne_none_int (ze9 I q (by simp))
   | str j=>obtain ⟨t',rfl⟩:=ry;exact PySem.EqNone.ne_none_str (ze9 I q (by simp))
   | _=>exact absurd (show false=true from hs) Bool.false_ne_true
 | bl i =>
   cases rx
   cases y with
   | non=>cases ry;exact PySem.EqNone.ne_bool_none (ze9 I q (by simp))
   | bl j=>cases ry;exact ne_bool (ze9 I q (congrArg not ya1))
   | str j=>obtain ⟨t',rfl⟩:=ry;exact PySem.EqMixed.ne_bool_str (ze9 I q (by simp))
   | _=>exact absurd (show false=true from hs) Bool.false_ne_true
 | int i =>
   obtain ⟨t,rfl⟩:=rx
   cases y with
   | non=>cases ry;exact PySem.EqNone.ne_int_none (ze9 I q (by simp))
   | int j=>obtain ⟨t',rfl⟩:=ry;exact ne_int (ze9 I q (congrArg not zV5))
   | str j=>obtain ⟨t',rfl⟩:=ry;exact PySem.EqMixed.ne_int_str (ze9 I q (by simp))
   | _=>exact absurd (show false=true from hs) Bool.false_ne_true
 | str i =>
   obtain ⟨t,rfl⟩:=rx
   cases y with
   | non=>cases ry;exact PySem.EqNone.ne_str_none (ze9 I q (by simp))
   | bl j=>cases ry;exact PySem.EqMixed.ne_str_bool (ze9 I q (by simp))
   | int j=>obtain ⟨t',rfl⟩:=ry;exact PySem.EqMixed.ne_str_int (ze9 I q (by simp))
   | str j=>obtain ⟨t',rfl⟩:=ry;exact ne_str (ze9 I q (congrArg not zV6))
   | _=>exact absurd (show false=true from hs) Bool.false_ne_true
 | byt i =>
   obtain ⟨t,rfl⟩:=rx
   cases y with
   | byt j=>obtain ⟨t',rfl⟩:=ry;exact W.ne_bytes (ze9 I q (congrArg not yb2))
   | _=>exact absurd (show false=true from hs) Bool.false_ne_true
 | _=>cases y<;>exact absurd (show false=true from hs) Bool.false_ne_true
theorem zH2:OpR X (compareOp .Lt) (rI0 fun i j=>.bl (decide (i<j))):=opB0 fun _ _ _ _ _ _ _ q=>lt_int q
theorem ye7:OpR X (compareOp .LtE) (rI0 fun i j=>.bl (decide (i<=j))):=opB0 fun _ _ _ _ _ _ _ q=>le_int q
theorem zv2:OpR X (compareOp .Gt) (rI0 fun i j=>.bl (decide (j<i))):=opB0 fun _ _ _ _ _ _ _ q=>gt_int q
theorem zX3:OpR X (compareOp .GtE) (rI0 fun i j=>.bl (decide (j<=i))):=opB0 fun _ _ _ _ _ _ _ q=>ge_int q
theorem op_in_str:OpR X (compareOp .In) (fun x y H Q=>∃ i j,x = .str i/\y = .str j/\Q (.bl (!(Builtin.Str.occurrences j i 0 j.length 1).isEmpty)) H):=by
 intro pins s σ H x y v u Q I rx ry h
 obtain ⟨i,j,rfl,rfl,q⟩:=h
 obtain ⟨t,rfl⟩:=rx
 obtain ⟨t',rfl⟩:=ry
 exact in_str (ze9 I q rfl)
theorem op_notN:OpR X (compareOp .IsNot) (fun x y H Q=>y = .non/\Q (.bl (!decide (x = .non))) H):=by
 intro pins s σ H x y v u Q I rx ry h
 obtain ⟨rfl,q⟩:=h
 cases ry
 refine isnot_none_gen (ze9 I q ?_)
 cases x<;>first
   | (cases rx;rfl)
   | (obtain ⟨t,rfl⟩:=rx;rfl)
theorem zb9 (b:Expr) {op:CmpOp} (h:op≠.In:=by decide) (h2:op≠.NotIn:=by decide):behindInMarks op b=false:=by
 have e1:(op == CmpOp.In)=false:=by cases op<;>first | rfl | exact absurd rfl h
 have e2:(op == CmpOp.NotIn)=false:=by cases op<;>first | rfl | exact absurd rfl h2
 cases b<;>simp[behindInMarks,e1,e2]
theorem zq9 {op:CmpOp} {r:R2} (ho:OpR X (compareOp op) r) (ha:PE X a ta) (hb:PE X b tb) (hm:behindInMarks op b=false):PE X (.Compare a [op] [b] pos) (tOp r ta tb):=by
 intro pins s σ H Q I h
 exact wpAny_Compare1 (binT ha hb I h fun v u s2 x y H2 I2 rx ry q=>ho pins s2 σ H2 x y v u Q I2 rx ry q) hm
noncomputable def tTest (t:TE):TT:=fun σ H Q=>t σ H fun x H'=>∃ k,x = .bl k/\Q k H'
theorem zb3 {op:CmpOp} {r:R2} (ho:OpR X (compareOp op) r) (ha:PE X a ta) (hb:PE X b tb) (hm:behindInMarks op b=false):PT X (.Compare a [op] [b] pos) (tTest (tOp r ta tb)):=by
 intro pins s σ H Q I h
 refine wpAny_isTrue_Compare1 (thn (ha pins s σ H _ I h) fun v s1 ⟨x,H1,I1,r1,q1⟩=>thn (hb pins s1 σ H1 _ I1 q1) fun u s2 ⟨y,H2,I2,r2,q2⟩ =>
   thn (ho pins s2 σ H2 x y v u _ I2 r1 r2 q2) fun c s3 ⟨z,H3,I3,r3,k,e,q3⟩=>?_) hm
 subst e
 cases r3
 exact wpAny_truthy_bool ⟨H3,I3,q3⟩
theorem zK7:(sizeLine:Nat)<2 ^ 63:=by rw[sizeLine_eq];decide
theorem zd3:OpR X (binaryOp .Add) (fun x y H Q=>∃ i j,x = .str i/\y = .str j/\i.length+j.length<=sizeLine/\Q (.str (i++j)) H):=by
 intro pins s σ H x y v u Q I rx ry h
 obtain ⟨i,j,rfl,rfl,hz,q⟩:=h
 obtain ⟨t,rfl⟩:=rx
 obtain ⟨t',rfl⟩:=ry
 exact add_str (fun t' tk=>⟨.str (i++j),H,I.tok _,⟨_,rfl⟩,q⟩) hz
theorem zB0 {x:V} {us:List Value} (r:Vals [x] us):∃ u,us=[u]/\RelV x u:=by
 cases r with
 | cons r1 r2=>cases r2;exact⟨_,rfl,r1⟩
theorem yb3 {x y:V} {us:List Value} (r:Vals [x,y] us):∃ u w',us=[u,w']/\RelV x u/\RelV y w':=by
 cases r with
 | cons r1 r2 =>
   cases r2 with
   | cons r3 r4=>cases r4;exact⟨_,_,rfl,r1,r3⟩
theorem zt7:zs4 X (.builtin "abs") (fun xs H Q=>∃ i,xs=[.int i]/\Q (.int (if i<0 then -i else i)) H):=by
 intro pins s σ H xs us Q I r h
 obtain ⟨i,rfl,q⟩:=h
 obtain ⟨u,rfl,t,rfl⟩:=zB0 r
 exact call_abs_int fun u tk=>⟨.int (if i<0 then -i else i),H,I.tok _,⟨_,rfl⟩,q⟩
theorem zR2 (hc:X.calm=true):zs4 X (.builtin "max") (fun xs H Q=>∃ i j,xs=[.int i,.int j]/\Q (.int (if j>i then j else i)) H):=by
 intro pins s σ H xs us Q I r h
 obtain ⟨i,j,rfl,q⟩:=h
 obtain ⟨u,w',rfl,⟨t,rfl⟩,⟨t',rfl⟩⟩:=yb3 r
 refine max_two_ints (I.ok.hd hc) fun h' tk k=>⟨_,H,I.kept k,?_,q⟩
 by_cases hj:j>i
 . rw[if_pos hj,if_pos hj];exact⟨_,rfl⟩
 . rw[if_neg hj,if_neg hj];exact⟨_,rfl⟩
theorem zK8 (hc:X.calm=true):zs4 X (.builtin "min") (fun xs H Q=>∃ i j,xs=[.int i,.int j]/\Q (.int (if j<i then j else i)) H):=by
 intro pins s σ H xs us Q I r h
 obtain ⟨i,j,rfl,q⟩:=h
 obtain ⟨u,w',rfl,⟨t,rfl⟩,⟨t',rfl⟩⟩:=yb3 r
 refine min_two_ints (I.ok.hd hc) fun h' tk k=>⟨_,H,I.kept k,?_,q⟩
 by_cases hj:j<i
 . rw[if_pos hj,if_pos hj];exact⟨_,rfl⟩
 . rw[if_neg hj,if_neg hj];exact⟨_,rfl⟩
theorem call_int1:zs4 X (.type "int") (fun xs H Q=>(∃ i,xs=[.int i]/\Q (.int i) H)\/∃ k,xs=[.bl k]/\Q (.int (if k then 1 else 0)) H):=by
 intro pins s σ H xs us Q I r h
 rcases h with ⟨i,rfl,q⟩ | ⟨k,rfl,q⟩
 . obtain ⟨u,rfl,t,rfl⟩:=zB0 r
   exact call_int_int ⟨.int i,H,I,⟨_,rfl⟩,q⟩
 . obtain ⟨u,rfl,r1⟩:=zB0 r
   cases r1
   exact call_int_bool ⟨.int (if k then 1 else 0),H,I.tok _,⟨_,rfl⟩,q⟩
theorem zf7:zs4 X (.type "str") (fun xs H Q=>∃ i,xs=[.int i]/\i.natAbs.log2<1920/\Q (.str (toString i)) H):=by
 intro pins s σ H xs us Q I r h
 obtain ⟨i,rfl,hz,q⟩:=h
 obtain ⟨u,rfl,t,rfl⟩:=zB0 r
 exact PySem.P.str_of_int hz ⟨.str _,H,I.tok _,⟨_,rfl⟩,q⟩
end
end L2
namespace L2
open PySem PySem.Spec PyProof.Rows
structure ObjM (h:Heap) (x dx C:Addr) (mA:Str->Option Value):Prop where
 obj:h.get? x=some (W.instObj C dx)
 ns:h.Ns1 dx mA
 ne:dx≠x
theorem zR3 {h:Heap} {dx:Addr} {mA:Str->Option Value} (n:h.Ns1 dx mA):∃ od,h.get? dx=some od/\∀ name,W.lookIn name od=some (mA name):=by
 obtain ⟨o,es,ep,ho,hd,hk,_,hm⟩:=n
 refine⟨o,ho,fun name=>?_⟩
 have e:=hm name
 unfold nsFind findBy at e
 rw[<-Array.find?_toList] at e
 unfold W.lookIn
 rw[hd]
 dsimp only
 split
 . rename_i y q
   rw[q] at e
   exact congrArg some e
 . rename_i q
   rw[q] at e
   have a:es.toList.any (·.refKey)=false:=by
     rw[List.any_eq_false]
     intro y hy
     obtain ⟨z,t,hkey⟩:=hk y (Array.mem_toList_iff.mp hy)
     simp[DictEntry.refKey,hkey]
   have a':¬ es.toList.any (·.refKey)=true:=by rw[a];exact Bool.false_ne_true
   rw[if_neg a']
   exact congrArg some e
theorem ObjM.look {h:Heap} {x dx C:Addr} {mA:Str->Option Value} (I:ObjM h x dx C mA):∃ od,W.InstAt h x (W.instObj C dx) C (some od)/\∀ name,W.lookIn name od=some (mA name) :=
 let ⟨od,ho,hl⟩:=zR3 I.ns
 ⟨od,⟨I.obj,rfl,rfl,ho⟩,hl⟩
section
variable {prog:Program} {w:World} {A:Around} {E:Value->Shared->Prop} {s:Shared} {K:W.Frag} {x dx C f:Addr} {mA:Str->Option Value} {name:Str} {v:Value}
theorem get_map {expr:Bool} {Q:Value->Shared->Prop} (X:K.In s.heap) (I:ObjM s.heap x dx C mA) (hg:W.plainGet K C name=true) (hh:W.hasDictIn K C=true)
   (ha:W.findIn K (.ref C) name=some none) (hv:mA name=some v) (hv':W.handedIn v=true) (h:Q v { s with toks:=s.toks+1 }) :
   wpAny (model prog w) A (getAttr (.ref x) name expr) Q E s:=by
 obtain ⟨od,J,hl⟩:=I.look
 exact W.get_value X J (W.plainGet_of hg).1 (W.findObj_own hh ha rfl (by rw[hl,hv])) hv' h
theorem get_meth {pl:Sem Bool} {Q:Value×List Value->Shared->Prop} (X:K.In s.heap) (I:ObjM s.heap x dx C mA) (hg:W.plainGet K C name=true)
   (hf:W.findIn K (.ref C) name=some (some (.ref f))) (ht:W.isFn K (.ref f)=true) (hv:mA name=none) (h:Q (.ref f,[.ref x]) s) :
   wpAny (model prog w) A (getMethod (.ref x) name pl) Q E s:=by
 obtain ⟨od,J,hl⟩:=I.look
 exact W.method_fn X J (W.plainGet_of hg).1 (W.plainGet_of hg).2 hf (beq_iff_eq.mp ht) (by show (W.lookIn name od).map (·.isSome)=some false;rw[hl,hv];rfl) h
theorem set_map {ns:List Str} {Q:Unit->Shared->Prop} (X:K.In s.heap) (I:ObjM s.heap x dx C mA)
   (hs:W.findIn K (.ref C) "__setattr__" = some (some (.builtin "object.__setattr__"))) (hp:W.plainOver K C=true) (ht:W.takerIn K C name=some none) (hh:W.hasDictIn K C=true)
   (hw:PySem.Within mA ns) (hsz:ns.length<=sizeLine)
   (h:∀ h',ObjM h' x dx C (fun y=>if y=name then some v else mA y)->Heap.SameBut dx s.heap h'->Q () { s with heap:=h',toks:=s.toks+2 }) :
   wpAny (model prog w) A (setAttr (.ref x) name v) Q E s:=by
 obtain ⟨od,J,hl⟩:=I.look
 refine W.set_plain X J hs (W.osa_open (s:={ s with toks:=s.toks+1 }) (r:=none) X J hp ht fun b=>?_)
 obtain ⟨cd,hc,hd'⟩:=W.any_some hh
 have hx:s.heap.get? x=some ⟨.ref C,some dx,.plain,#[]⟩:=I.obj
 refine wpAny_bind (wpAny_pure (wpAny_bind (wpAny_bind (wpAny_loadPart hx (wpAny_bind (W.Looks.here (s:={ s with toks:=s.toks+1 }) (W.looks_clsIn X hc) ?_))))))
 rw[hd']
 refine wpAny_pure (a:=some dx) (wpAny_bind (wpAny_pure (wpAny_bind ?_)))
 refine wpAny_nsSet1 (s:={ s with toks:=s.toks+1 }) I.ns fun h' hn2 hs2=>?_
 obtain ⟨oD,esD,epD,hoD,hdD,hcD⟩:=hn2.count (PySem.Within.cons name v hw)
 refine wpAny_bind (wpAny_lookBehind hoD (by rw[hdD];exact pastItsLine_dict (Nat.le_trans hcD (by rw[List.length_cons];omega))) ?_)
 exact wpAny_pure (h _ ⟨(hs2.2 _ (Ne.symm I.ne)).trans I.obj,hn2,I.ne⟩ hs2)
theorem make_map {R:Result->Shared->Prop} {vs:List Value} {kw:List (Str×Value)} (X:K.In s.heap) (hm:W.makesIn K C=true)
   (hi:W.findIn K (.ref C) "__init__" = some (some (.ref f))) (hf:W.typeIn K (.ref f)=some (.type "function"))
   (h:codeAny (model prog w) (A.under (.builtin "type.__call__" ⟨.ref C::vs,kw⟩)) (.call (.ref f) ⟨.ref (s.heap.objs.size+1)::vs,kw⟩) (W.InitBack (s.heap.objs.size+1) R)
     { s with heap:=(s.heap.push W.emptyDict).push (W.instObj C s.heap.objs.size) }) :
   codeAny (model prog w) A (.call (.ref C) ⟨vs,kw⟩) R s:=by
 obtain ⟨hh,g,d,t,os⟩:=s
 exact W.make_core (W.makes_of X hm) (W.looks_findIn X hi) (fun self=>W.bind_fn X self hf) (.inl rfl) h
end
noncomputable def putF (f:Str) (v:V):List (Str×V)->List (Str×V)
 | []=>[(f,v)]
 | (g,x)::r=>if g=f then (g,v)::r else (g,x)::putF f v r
theorem zd2 (f g:Str) (v:V):∀ fs:List (Str×V),(putF f v fs).lookup g=if g=f then some v else fs.lookup g
 | []=>by
   show List.lookup g [(f,v)]=_
   by_cases h:g=f
   . have hb:(g == f)=true:=beq_iff_eq.mpr h
     simp only[List.lookup,hb,if_pos h]
   . have hb:(g == f)=false:=beq_eq_false_iff_ne.mpr h
     simp only[List.lookup,hb,if_neg h]
 | (k,x)::r=>by
   have ih:=zd2 f g v r
   rw[show putF f v ((k,x)::r)=(if k=f then (k,v)::r else (k,x)::putF f v r) from rfl]
   by_cases hk:k=f
   . rw[if_pos hk]
     by_cases h:g=k
     . have hb:(g == k)=true:=beq_iff_eq.mpr h
       simp only[List.lookup,hb,if_pos (h.trans hk)]
     . have hb:(g == k)=false:=beq_eq_false_iff_ne.mpr h
       simp only[List.lookup,hb,if_neg (fun e:g=f=>h (e.trans hk.symm))]
   . rw[if_neg hk]
     by_cases h:g=k
     . have hb:(g == k)=true:=beq_iff_eq.mpr h
       simp only[List.lookup,hb,if_neg (fun e:g=f=>hk (h.symm.trans e))]
     . have hb:(g == k)=false:=beq_eq_false_iff_ne.mpr h
       simp only[List.lookup,hb]
       exact ih
theorem zx0 (f:Str) (v:V):∀ fs:List (Str×V),f∈(putF f v fs).map (·.1)/\∀ g,g∈fs.map (·.1)->g∈(putF f v fs).map (·.1)
 | []=>⟨by simp[putF],fun g h=>by simp at h⟩
 | (k,x)::r=>by
   obtain ⟨i1,i2⟩:=zx0 f v r
   rw[show putF f v ((k,x)::r)=(if k=f then (k,v)::r else (k,x)::putF f v r) from rfl]
   by_cases hk:k=f
   . rw[if_pos hk]
     subst hk
     exact⟨by simp,fun g h=>by simpa using h⟩
   . rw[if_neg hk]
     refine⟨?_,fun g h=>?_⟩
     . rw[List.map_cons]
       exact List.mem_cons_of_mem _ i1
     . rw[List.map_cons] at h ⊢
       rcases List.mem_cons.mp h with e | e
       . exact List.mem_cons.mpr (.inl e)
       . exact List.mem_cons_of_mem _ (i2 g e)
theorem zr3 (f:Str) (v:V):∀ fs:List (Str×V),(putF f v fs).length<=fs.length+1
 | []=>by simp[putF]
 | (k,x)::r=>by
   have ih:=zr3 f v r
   rw[show putF f v ((k,x)::r)=(if k=f then (k,v)::r else (k,x)::putF f v r) from rfl]
   by_cases hk:k=f
   . rw[if_pos hk,List.length_cons,List.length_cons];omega
   . rw[if_neg hk,List.length_cons,List.length_cons];omega
theorem RelO.some_of {v:V} {o:Option Value} (r:RelO (some v) o):∃ u,o=some u/\RelV v u:=by
 cases o with
 | none=>exact (show False from r).elim
 | some u=>exact⟨u,rfl,r⟩
theorem RelO.none_of {o:Option Value} (r:RelO none o):o=none:=by
 cases o with
 | none=>rfl
 | some u=>exact (show False from r).elim
theorem zR4 {v:V} {u:Value} (r:RelV v u):W.handedIn u=true:=by
 cases v with
 | non=>cases (show u=Value.none from r);rfl
 | bl b=>cases (show u=Value.bool b from r);rfl
 | int i=>obtain ⟨t,e⟩:=(show ∃ t,u=Value.int i t from r);cases e;rfl
 | str x=>obtain ⟨t,e⟩:=(show ∃ t,u=Value.str x t from r);cases e;rfl
 | byt b=>obtain ⟨t,e⟩:=(show ∃ t,u=Value.bytes b t from r);cases e;rfl
 | flt b=>obtain ⟨t,e⟩:=(show ∃ t,u=Value.float b t from r);cases e;rfl
 | ref a=>cases (show u=Value.ref a from r);rfl
 | ty n=>cases (show u=Value.type n from r);rfl
section
variable {P:Program} {w:World} {H H':Hp} {h h':Heap} {a C dx:Addr} {fs fs':List (Str×V)}
theorem zN2 (hok:HOk P w H h) (e:H a=some (.ins C dx fs)):∃ mA,ObjM h a dx C mA/\(∀ f,RelO (fs.lookup f) (mA f))/\PySem.Within mA (fs.map (·.1))/\fs.length<=1000/\H dx=some (.own a):=by
 obtain ⟨d,z,ne,ob,mA,n,r,q⟩:=(show zk1 P w H h a (.ins C dx fs) from hok a _ e)
 exact⟨mA,⟨ob,n,ne⟩,r,q,z,d⟩
end
structure Cls (K:W.Frag) (C:Addr):Prop where
 pg:W.plainGet K C Str.empty=true
 hd:W.hasDictIn K C=true
 po:W.plainOver K C=true
 sa:W.findIn K (.ref C) "__setattr__" = some (some (.builtin "object.__setattr__"))
theorem Cls.get {K:W.Frag} {C:Addr} (c:Cls K C) (f:Str):W.plainGet K C f=true:=c.pg
noncomputable def ze1 (K:W.Frag) (C:Addr) (f:Str):Prop:=W.findIn K (.ref C) f=some none
theorem ze1.taker {K:W.Frag} {C:Addr} {f:Str} (n:ze1 K C f):W.takerIn K C f=some none:=by
 unfold W.takerIn
 rw[show W.findIn K (.ref C) f=some none from n]
 rfl
structure Meth (K:W.Frag) (C:Addr) (m:Str) (f:Addr):Prop where
 at_:W.findIn K (.ref C) m=some (some (.ref f))
 fn:W.isFn K (.ref f)=true
 kp:W.keepIn K (.ref f)=true
section
variable {X:Cx} {pins:List (Addr×Obj)} {σ:St} {H:Hp} {s:Shared} {a C dx:Addr} {fs:List (Str×V)} {f:Str} {v:V} {A:Around} {E:Value->Shared->Prop}
theorem getattr_ok {b:Bool} {Q:Value->Shared->Prop} (I:Inv X pins σ H s) (e:H a=some (.ins C dx fs)) (c:Cls X.K C) (n:ze1 X.K C f) (l:fs.lookup f=some v)
   (h:∀ u s',Inv X pins σ H s'->RelV v u->Q u s'):wpAny (model X.prog X.w) A (getAttr (.ref a) f b) Q E s:=by
 obtain ⟨mA,O,r,_,_,_⟩:=zN2 I.hok e
 obtain ⟨u,hu,ru⟩:=RelO.some_of (v:=v) (o:=mA f) (by rw[<-l];exact r f)
 exact get_map I.kIn O (c.get f) c.hd n hu (zR4 ru) (h u _ (I.tok _) ru)
theorem zO5 {m:Str} {g:Addr} {pl:Sem Bool} {Q:Value×List Value->Shared->Prop} (I:Inv X pins σ H s) (e:H a=some (.ins C dx fs)) (c:Cls X.K C) (k:Meth X.K C m g) (l:fs.lookup m=none)
   (h:Q (.ref g,[.ref a]) s):wpAny (model X.prog X.w) A (getMethod (.ref a) m pl) Q E s:=by
 obtain ⟨mA,O,r,_,_,_⟩:=zN2 I.hok e
 have hn:mA m=none:=RelO.none_of (by rw[<-l];exact r m)
 exact get_meth I.kIn O (c.get m) k.at_ k.fn hn h
theorem setattr_ok {y:V} {u:Value} {Q:Unit->Shared->Prop} (I:Inv X pins σ H s) (e:H a=some (.ins C dx fs)) (c:Cls X.K C) (n:ze1 X.K C f) (hl:fs.length<1000) (ry:RelV y u)
   (h:∀ s',Inv X pins σ (upd H a (.ins C dx (putF f y fs))) s'->Q () s'):wpAny (model X.prog X.w) A (setAttr (.ref a) f u) Q E s:=by
 obtain ⟨mA,O,r,wi,_,ho⟩:=zN2 I.hok e
 have hz:(fs.map (·.1)).length<=sizeLine:=by rw[List.length_map,sizeLine_eq];omega
 refine set_map I.kIn O c.sa c.po n.taker c.hd wi hz fun h' O' sb=>h _ ?_
 have hd:∃ o,h'.get? dx=some o:=let ⟨o,_,_,e',_⟩:=O'.ns;⟨o,e'⟩
 refine I.write (x:=a) (e:=dx) (by rw[e];exact True.intro) (.inr ho) (fun b q hb z=>(sb.2 b hb).trans z) hd ?_
 refine⟨by rw[za8 O.ne];exact ho,?_,O.ne,O'.obj,_,O'.ns,fun g=>?_,fun g hg=>?_⟩
 . have:=zr3 f y fs;omega
 . show RelO ((putF f y fs).lookup g) (if g=f then some u else mA g)
   rw[zd2]
   by_cases q:g=f
   . rw[if_pos q,if_pos q];exact ry
   . rw[if_neg q,if_neg q];exact r g
 . by_cases q:g=f
   . rw[q];exact (zx0 f y fs).1
   . refine (zx0 f y fs).2 g (wi g fun z=>hg ?_)
     show (if g=f then some u else mA g)=none
     rw[if_neg q];exact z
theorem Inv.made (I:Inv X pins σ H s):Inv X pins σ (upd (upd H s.heap.objs.size (.own (s.heap.objs.size+1))) (s.heap.objs.size+1) (.ins C s.heap.objs.size []))
   { s with heap:=(s.heap.push W.emptyDict).push (W.instObj C s.heap.objs.size) }:=by
 have e1:(s.heap.push W.emptyDict).get? s.heap.objs.size=some W.emptyDict:=Heap.get?_push_size s.heap rfl
 have e2:((s.heap.push W.emptyDict).push (W.instObj C s.heap.objs.size)).get? (s.heap.objs.size+1)=some (W.instObj C s.heap.objs.size):=by
   have:=Heap.get?_push_size (s.heap.push W.emptyDict) (o:=W.instObj C s.heap.objs.size) rfl
   rwa [Heap.size_push] at this
 have e3:(s.heap.push W.emptyDict).Ns s.heap.objs.size (fun _=>none):=⟨W.emptyDict,#[],_,e1,rfl,(fun e he=>absurd he (by simp)),fun _=>rfl⟩
 have I1:=I.laid (a:=s.heap.objs.size) (o:=.own (s.heap.objs.size+1)) (h':=s.heap.push W.emptyDict) (t':=s.toks) (fun b u q=>Heap.get?_push_of_some _ q) (Nat.le_refl _) ⟨_,e1⟩
 refine I1.laid (a:=s.heap.objs.size+1) (o:=.ins C s.heap.objs.size []) (t':=s.toks) (fun b u q=>Heap.get?_push_of_some _ q) (Nat.le_of_eq (Heap.size_push _ _)) ?_
 have ne:s.heap.objs.size≠s.heap.objs.size+1:=Nat.ne_of_lt (Nat.lt_succ_self _)
 refine⟨by rw[za8 ne,za3],Nat.zero_le _,ne,e2,fun _=>none,(Heap.Ns1.of_empty e3).at fun o q=>Heap.get?_push_of_some _ q,fun _=>True.intro,fun y hy=>absurd rfl hy⟩
theorem yb4 {prog:Program} {w:World} {env:Env} {e:Expr} {f:Str} {pos:Pos} {s:Shared} {Q:Value->Shared->Prop} (hb:attributeBase e f env (eval e env)=eval e env)
   (h:wpAny (model prog w) A (eval e env) (fun o s₁=>wpAny (model prog w) A (getAttr o f true) Q E s₁) E s):wpAny (model prog w) A (eval (.Attribute e f pos) env) Q E s :=
 Attribute_any_ h (by rw[arm_eval_Attribute,hb])
end
noncomputable def tFld (K:W.Frag) (ta:TE) (f:Str):TE:=fun σ H Q=>ta σ H fun x H1=>∃ a C dx fs v,x = .ref a/\H1 a=some (.ins C dx fs)/\Cls K C/\ze1 K C f/\fs.lookup f=some v/\Q v H1
noncomputable def sFld (K:W.Frag) (ta tv:TE) (f:Str):TS:=fun D σ H=>tv σ H fun y H1=>ta σ H1 fun x H2=>∃ a C dx fs,x = .ref a/\H2 a=some (.ins C dx fs)/\Cls K C/\ze1 K C f/\fs.length<1000 ∧
 D.nx σ (upd H2 a (.ins C dx (putF f y fs)))
section
variable {X:Cx} {o e value:Expr} {f:Str} {pos pos' tpos:Pos} {ta tv:TE}
theorem zg1 (he:PE X e ta) (hb:attributeBase e f X.env (eval e X.env)=eval e X.env):PE X (.Attribute e f pos) (tFld X.K ta f):=by
 intro pins s σ H Q I h
 refine yb4 hb (thn (he pins s σ H _ I h) fun u s1 ⟨x,H1,I1,rx,a,C,dx,fs,v,ex,ea,c,n,l,q⟩=>?_)
 subst ex
 obtain rfl:u=Value.ref a:=rx
 exact getattr_ok I1 ea c n l fun u' s2 I2 ru=>⟨v,H1,I2,ru,q⟩
theorem zw4 (ha:PE X o ta) (hv:PE X value tv) (hs:swapsWith value (some (.Attribute o f pos')) pos.line X.env=pure false):PS X (.Assign [.Attribute o f pos'] value pos) (sFld X.K ta tv f):=by
 intro pins s σ H D I h
 refine plainObj_wpAny_Assign_Attribute (thn (hv pins s σ H _ I h) fun u s1 ⟨y,H1,I1,ry,q⟩=>thn (ha pins s1 σ H1 _ I1 q) fun ov s2 ⟨x,H2,I2,rx,a,C,dx,fs,ex,ea,c,n,l,q2⟩=>?_) hs
 subst ex
 obtain rfl:ov=Value.ref a:=rx
 exact setattr_ok I2 ea c n l ry fun s3 I3=>⟨σ,_,I3,q2⟩
end
section
variable {X:Cx} {pins:List (Addr×Obj)} {σ:St} {H:Hp} {s:Shared} {A:Around} {E:Value->Shared->Prop} {Q:Value->Shared->Prop} {c:Value} {b:Bool}
inductive TyOf (K:W.Frag) (H:Hp):V->Value->Prop where
 | non:TyOf K H .non (.type "NoneType")
 | bl (x:Bool):TyOf K H (.bl x) (.type "bool")
 | int (i:Int):TyOf K H (.int i) (.type "int")
 | str (x:Str):TyOf K H (.str x) (.type "str")
 | flt (x:UInt64):TyOf K H (.flt x) (.type "float")
 | lst {a:Addr} {xs:List V} (e:H a=some (.lst xs)):TyOf K H (.ref a) (.type "list")
 | frz {a:Addr} {o:Obj} {xs:List V} (e:H a=some (.frz o (.lst xs))):TyOf K H (.ref a) (.type "list")
 | tup {a:Addr} {xs:List V} (e:H a=some (.tup xs)):TyOf K H (.ref a) (.type "tuple")
 | dK {a:Addr} {kvs:List (Key×V)} (e:H a=some (.dK kvs)):TyOf K H (.ref a) (.type "dict")
 | dT {a:Addr} {kvs:List (List Key×V)} (e:H a=some (.dT kvs)):TyOf K H (.ref a) (.type "dict")
 | ins {a C dx:Addr} {fs:List (Str×V)} (e:H a=some (.ins C dx fs)) (cl:Cls K C) (ha:W.findIn K (.ref C) "__class__" = some (some (.builtin "object.__class__")))
     (hn:W.specialIn K (.builtin "object.__class__") "__get__" = some (some (.builtin "getset_descriptor.__get__"))) (htk:W.takesIn K (.builtin "object.__class__")=some true)
     (hm:W.mroIn K C (.type "object")=some true):TyOf K H (.ref a) (.ref C)
theorem isinst_ok {x:V} {u t:Value} (I:Inv X pins σ H s) (rx:RelV x u) (ty:TyOf X.K H x t) (e:W.kitOne X.K t c=some b) (h:∀ tk,Q (.bool b) { s with toks:=tk }) :
   wpAny (model X.prog X.w) A (call (.builtin "isinstance") [u,c]) Q E s:=by
 cases ty with
 | non=>cases (show u=Value.none from rx);exact W.kia_one W.kitx_none I.kIn True.intro e (fun z=>nomatch z) h
 | bl y=>cases (show u=Value.bool y from rx);exact W.kia_one W.kitx_bool I.kIn True.intro e (fun z=>nomatch z) h
 | int i=>obtain ⟨t,q⟩:=(show ∃ t,u=Value.int i t from rx);cases q;exact W.kia_one W.kitx_int I.kIn True.intro e (fun z=>nomatch z) h
 | str y=>obtain ⟨t,q⟩:=(show ∃ t,u=Value.str y t from rx);cases q;exact W.kia_one W.kitx_str I.kIn True.intro e (fun z=>nomatch z) h
 | flt y=>obtain ⟨t,q⟩:=(show ∃ t,u=Value.float y t from rx);cases q;exact W.kia_one W.kitx_float I.kIn True.intro e (fun z=>nomatch z) h
 | @lst a xs ea =>
   cases (show u=Value.ref a from rx)
   obtain ⟨_,_,n,_,h1⟩:=(show zk1 X.prog X.w H s.heap a (.lst xs) from I.hok a _ ea)
   exact W.kia_one W.kitx_list I.kIn ⟨_,h1,rfl⟩ e (fun z=>nomatch z) h
 | @frz a ob xs ea =>
   cases (show u=Value.ref a from rx)
   obtain ⟨_,_,_,n,_,h1⟩:=(show zk1 X.prog X.w H s.heap a (.frz ob (.lst xs)) from I.hok a _ ea)
   exact W.kia_one W.kitx_list I.kIn ⟨_,h1,rfl⟩ e (fun z=>nomatch z) h
 | @tup a xs ea =>
   cases (show u=Value.ref a from rx)
   obtain ⟨_,_,_,p⟩:=(show zk1 X.prog X.w H s.heap a (.tup xs) from I.hok a _ ea)
   obtain ⟨o,h1,h2,_⟩:=p
   exact W.kia_one W.kitx_tuple I.kIn ⟨o,h1,h2⟩ e (fun z=>nomatch z) h
 | @dK a kvs ea =>
   cases (show u=Value.ref a from rx)
   obtain ⟨_,_,vs,_,p⟩:=(show zk1 X.prog X.w H s.heap a (.dK kvs) from I.hok a _ ea)
   obtain ⟨o,es,ep,h1,h2,_⟩:=p
   exact W.kia_one W.kitx_dict I.kIn ⟨o,h1,h2.1⟩ e (fun z=>nomatch z) h
 | @dT a kvs ea =>
   cases (show u=Value.ref a from rx)
   obtain ⟨_,_,xs,_,o,es,ep,h1,h2,_⟩:=(show zk1 X.prog X.w H s.heap a (.dT kvs) from I.hok a _ ea)
   exact W.kia_one W.kitx_dict I.kIn ⟨o,h1,h2.1⟩ e (fun z=>nomatch z) h
 | @ins a C dx fs ea cl ha hn htk hm =>
   cases (show u=Value.ref a from rx)
   obtain ⟨mA,O,_⟩:=zN2 I.hok ea
   obtain ⟨od,J,_⟩:=O.look
   exact W.kia_one (W.kitx_own (cl.get _) cl.hd ha hn htk hm) I.kIn J e (fun z=>nomatch z) h
end
end L2
namespace L2
open PySem PySem.Spec PyProof.Rows
structure Room (k:Nat) (A:Around):Prop where
 hd:A.handled=none
 dp:A.depth+3*k+5<recursionLimit
 un:A.units+16*k+200<cLine
theorem Room.mono {j k:Nat} {A:Around} (r:Room k A) (h:j<=k):Room j A:=⟨r.hd,by have:=r.dp;omega,by have:=r.un;omega⟩
theorem Room.deeper {k:Nat} {A:Around} (r:Room (k+1) A) (env:Env):Room k (A.deeper env) :=
 ⟨r.hd,by have:=r.dp;show A.depth+1+3*k+5<_;omega,by have:=r.un;show A.units+3+16*k+200<_;omega⟩
theorem make_depth {A:Around} {C:Addr} {us:List Value} {kw:List (Str×Value)}:(A.under (.builtin "type.__call__" ⟨.ref C::us,kw⟩)).depth=A.depth+1:=by
 first | rfl | simp[Around.under,Code.weight,Code.isCreation,Code.isGuard,Code.isCaller,Code.frames,Code.isFrame,guardIds]
theorem make_units {A:Around} {C:Addr} {us:List Value} {kw:List (Str×Value)}:(A.under (.builtin "type.__call__" ⟨.ref C::us,kw⟩)).units=A.units+1:=by
 first | rfl | simp[Around.under,Code.cUnits,Code.frames,Code.isFrame]
theorem Room.make {k:Nat} {A:Around} (r:Room (k+1) A) (C:Addr) (us:List Value) (kw:List (Str×Value)):Room k (A.under (.builtin "type.__call__" ⟨.ref C::us,kw⟩)) :=
 ⟨r.hd,by have:=r.dp;rw[make_depth];omega,by have:=r.un;rw[make_units];omega⟩
theorem Room.depth {k:Nat} {A:Around} (r:Room k A):A.depth<recursionLimit:=by have:=r.dp;omega
theorem Room.units {k:Nat} {A:Around} (r:Room k A):A.units+64<cLine:=by have:=r.un;omega
noncomputable def tNil:TA:=fun _ H Q=>Q [] H
noncomputable def ye8 (ta:TE) (tr:TA):TA:=fun σ H Q=>ta σ H fun x H1=>tr σ H1 fun xs H2=>Q (x::xs) H2
section
variable {X:Cx} {e:Expr} {es:List Expr} {te:TE} {t:TA} {pos:Pos}
theorem za2:PA X [] tNil:=fun _ _ _ _ H Q I h=>Calls.spliced_nil ⟨[],H,I,.nil,h⟩
theorem za0 (ha:PE X e te) (hr:PA X es t) (hs:starEach (e::es) X.env=(false,eval e X.env)::starEach es X.env:=by rfl):PA X (e::es) (ye8 te t):=by
 intro pos pins s σ H Q I h
 rw[hs]
 show wpAny _ _ (spliced ((false,eval e X.env)::backTo pos (starEach es X.env))) _ _ s
 refine Calls.spliced_cons (thn (ha pins s σ H _ I h) fun u s1 ⟨x,H1,I1,r1,q1⟩=>?_)
 exact thn (hr pos pins s1 σ H1 _ I1 q1) fun us s2 ⟨xs,H2,I2,r2,q2⟩=>⟨x::xs,H2,I2,.cons r1 r2,q2⟩
noncomputable def tTup (t:TA):TE:=fun σ H Q=>t σ H fun xs H1=>xs.length<=sizeLine/\∀ p,H1 p=none->Q (.ref p) (upd H1 p (.tup xs))
noncomputable def tLst (t:TA):TE:=fun σ H Q=>t σ H fun xs H1=>xs.length<=sizeLine/\∀ p,H1 p=none->Q (.ref p) (upd H1 p (.lst xs))
theorem zp9 {x1} (h:PA X es t):PE X (.Tuple es x1 pos) (tTup t):=by
 intro pins s σ H Q I hq
 refine wpAny_Tuple_spliced (thn (h pos pins s σ H _ I hq) fun us s1 ⟨xs,H1,I1,r,z,q⟩=>⟨by rw[<-r.length];exact z,?_⟩)
 have hf:H1 s1.heap.objs.size=none:=I1.hok.fresh (Nat.le_refl _)
 refine⟨.ref s1.heap.objs.size,upd H1 s1.heap.objs.size (.tup xs),I1.laid (t':=s1.toks) (fun b u e=>Heap.get?_push_of_some _ e) (Nat.le_refl _) ?_,rfl,q _ hf⟩
 exact⟨z,us,r,⟨_,Heap.get?_push_size _ rfl,rfl,rfl,_,rfl⟩⟩
theorem ze6 (h:PA X es t):PE X (.List es pos) (tLst t):=by
 intro pins s σ H Q I hq
 refine wpAny_List_spliced (thn (h pos pins s σ H _ I hq) fun us s1 ⟨xs,H1,I1,r,z,q⟩=>⟨by rw[<-r.length];exact z,?_⟩)
 have hf:H1 s1.heap.objs.size=none:=I1.hok.fresh (Nat.le_refl _)
 refine⟨.ref s1.heap.objs.size,upd H1 s1.heap.objs.size (.lst xs),I1.laid (t':=s1.toks) (fun b u e=>Heap.get?_push_of_some _ e) (Nat.le_refl _) ?_,rfl,q _ hf⟩
 exact⟨z,us,0,r,Heap.get?_push_size _ rfl⟩
end
noncomputable abbrev Sp:=List V->Hp->VK->XK->Prop
noncomputable abbrev CXT:=List Env->Hp->Shared->XK->Value->Shared->Prop
structure Env0 (P:Program) (w:World) (K:W.Frag) (mg:Str->Option Value) (base:Heap) (A:Around) (outer:List Env) (s:Shared) (H:Hp):Prop where
 frames:A.frames=some outer
 mod:Mod K mg base
 bs:∀ b o,base.get? b=some o->s.heap.get? b=some o/\H b=none
 bsz:base.objs.size<=s.heap.objs.size
 funs:s.heap.FunFrames base outer
 frf:∀ b∈frs outer,H b=none
 hok:HOk P w H s.heap
 bare:AllBare s.gens
noncomputable def CE (outer:List Env) (P:Program) (w:World) (H:Hp) (s:Shared) (Q:VK) (u:Value) (s':Shared):Prop :=
 ∃ v H',s'.os=s.os/\AllBare s'.gens/\Un (frs outer) [] H H' s.heap s'.heap/\HOk P w H' s'.heap/\RelV v u/\Q v H'
noncomputable def CR (CX:CXT) (outer:List Env) (P:Program) (w:World) (H:Hp) (s:Shared) (Q:VK) (E:XK) (r:Result) (s':Shared):Prop :=
 match r with
 | .ok (.ret u)=>CE outer P w H s Q u s'
 | .ok _=>False
 | .error e=>CX outer H s E e s'
structure FnOk (P:Program) (w:World) (K:W.Frag) (mg:Str->Option Value) (base:Heap) (CX:CXT) (k:Nat) (f:Addr) (fd:FuncData) (ps:List Str) (sp:Sp):Prop where
 len:∀ vs H Q E,sp vs H Q E->vs.length=ps.length
 run:∀ (A:Around) (outer:List Env) (s:Shared) (H:Hp) (args:Args) (us:List Value) (vs:List V) (Q:VK) (E:XK),Room k A->Env0 P w K mg base A outer s H->BindsTo s fd args (ps.zip us)->Vals vs us->sp vs H Q E →
   codeAny (model P w) A (.call (.ref f) args) (CR CX outer P w H s Q E) s
theorem Env0.make {P:Program} {w:World} {K:W.Frag} {mg:Str->Option Value} {base:Heap} {A:Around} {outer:List Env} {s:Shared} {H:Hp} (e:Env0 P w K mg base A outer s H) (C:Addr) (us:List Value) (kw:List (Str×Value)) :
 Env0 P w K mg base (A.under (.builtin "type.__call__" ⟨.ref C::us,kw⟩)) outer s H:=⟨by first | exact e.frames | (simpa [Around.under,Code.envs,Code.isFrame,pushEnvs] using e.frames),e.mod,e.bs,e.bsz,e.funs,e.frf,e.hok,e.bare⟩
section
variable {X:Cx} {pins:List (Addr×Obj)} {σ:St} {H:Hp} {s s':Shared}
theorem Inv.env0 (I:Inv X pins σ H s):Env0 X.prog X.w X.K X.mg X.base X.A X.stack s H :=
 ⟨I.ok.frames,I.ok.mod,I.bs,Nat.le_trans I.ok.bsz I.sz,I.stack,I.stkFree,I.hok,I.bare⟩
theorem Inv.after {Q:VK} {u:Value} (I:Inv X pins σ H s) (h:CE X.stack X.prog X.w H s Q u s'):EP X pins σ Q u s':=by
 obtain ⟨v,H',os,bare,un,hok,r,q⟩:=h
 obtain ⟨hh,g,d,t,os'⟩:=s'
 obtain rfl:os'=s.os:=os
 exact⟨v,H',I.call (h':=hh) (g':=g) (d':=d) (t':=t) (ch:=[]) un hok bare (fun b z=>absurd z (by simp)),r,q⟩
end
noncomputable def yg9 (sp:Sp) (dvs:List V) (E:XK) (t:TA):TE:=fun σ H Q=>t σ H fun vs H1=>sp (vs++dvs) H1 Q E
noncomputable def yh0 (C:Addr) (m:Str) (sp:Sp) (dvs:List V) (E:XK) (ta:TE) (t:TA):TE:=fun σ H Q=>ta σ H fun x H1=>∃ a dx fs,x = .ref a/\H1 a=some (.ins C dx fs)/\fs.lookup m=none ∧
 t σ H1 fun vs H2=>sp (x::(vs++dvs)) H2 Q E
noncomputable def tMake (C:Addr) (sp:Sp) (dvs:List V) (E:XK) (t:TA):TE:=fun σ H Q=>t σ H fun vs H1=>∀ x dx,H1 x=none->H1 dx=none->dx≠x →
 sp (.ref x::(vs++dvs)) (upd (upd H1 dx (.own x)) x (.ins C dx [])) (fun v H2=>v = .non/\Q (.ref x) H2) E
noncomputable def zc4 (K:W.Frag) (fd:FuncData) (ps:List Str) (ds:List Value):Prop :=
 ∀ (s:Shared) (us:List Value),K.In s.heap->(us++ds).length=ps.length->BindsTo s fd ⟨us,[]⟩ (ps.zip (us++ds))
theorem zc4.all {K:W.Frag} {fd:FuncData} {ps:List Str} (h:∀ us:List Value,us.length=ps.length->bindArgs fd ⟨us,[]⟩=pure (ps.zip us)):zc4 K fd ps []:=fun s us _ hl=>by
 rw[List.append_nil] at hl ⊢
 exact .of_eq (h us hl)
noncomputable def zt8 (CX:CXT) (X:Cx) (E:XK):Prop:=∀ (pins:List (Addr×Obj)) (σ:St) (H:Hp) (s:Shared) (e:Value) (s':Shared),Inv X pins σ H s->CX X.stack H s E e s'->X.xe e s'
section
variable {X:Cx} {CX:CXT} {k:Nat} {f C:Addr} {fd:FuncData} {ps:List Str} {sp:Sp} {dvs:List V} {ds:List Value} {E:XK} {x m:Str} {p pos apos:Pos} {e o:Expr} {es:List Expr} {ta:TE} {t:TA}
theorem zV7 {pins:List (Addr×Obj)} {σ:St} {H:Hp} {s:Shared} {Q:VK} {us:List Value} {vs:List V} (F:FnOk X.prog X.w X.K X.mg X.base CX k f fd ps sp) (hr:Room k X.A) (hb:zc4 X.K fd ps ds) (hd:Vals dvs ds) (hx:zt8 CX X E)
   (I:Inv X pins σ H s) (r:Vals vs us) (h:sp (vs++dvs) H Q E):wpAny (model X.prog X.w) X.A (call (.ref f) us) (EP X pins σ Q) X.xe s:=by
 have r2:Vals (vs++dvs) (us++ds):=r.append hd
 have hl:(us++ds).length=ps.length:=by rw[<-r2.length];exact F.len _ _ _ _ h
 refine wpAny_call (codeAny_mono (F.run X.A X.stack s H ⟨us,[]⟩ (us++ds) (vs++dvs) Q E hr I.env0 (hb s us I.kIn hl) r2 h) fun r s' hq=>?_)
 cases r with
 | error e=>exact hx pins σ H s e s' I hq
 | ok fl =>
   cases fl with
   | ret u=>exact I.after hq
   | next=>exact False.elim hq
   | brk=>exact False.elim hq
   | cont=>exact False.elim hq
theorem za7 (F:FnOk X.prog X.w X.K X.mg X.base CX k f fd ps sp) (hr:Room k X.A) (hg:Gl X x) (hm:X.mg x=some (.ref f)) (hk:W.keepIn X.K (.ref f)=true) (hb:zc4 X.K fd ps ds) (hd:Vals dvs ds) (hx:zt8 CX X E)
   (ha:PA X (e::es) t) (hdb:(x == ("__debug__" : Str))=false:=by decide) (he:starEach (e::es) X.env=(false,eval e X.env)::starEach es X.env:=by rfl) (hpl:(backTo pos (starEach es X.env)).any (·.1)=false:=by rfl) :
   PE X (.Call (.Name x p) (e::es) [] pos) (yg9 sp dvs E t):=by
 intro pins s σ H Q I h
 refine wpAny_Call_Name_kw (zz1 I hg hm ?_ hdb)
 refine W.callWith_K (h₀:=X.base) I.ok.mod.kin hk (thn (ha pos pins s σ H _ I h) fun us s1 ⟨vs,H1,I1,r,q⟩=>⟨I1.kIn,?_⟩) he hpl
 exact zV7 F hr hb hd hx I1 r q
theorem pe_meth {pl:Sem Bool} (he:PE X o ta) (c:Cls X.K C) (hm:Meth X.K C m f) (F:FnOk X.prog X.w X.K X.mg X.base CX k f fd ps sp) (hr:Room k X.A) (hb:zc4 X.K fd ps ds) (hd:Vals dvs ds) (hx:zt8 CX X E) (ha:PA X (e::es) t)
   (hst:starEach (e::es) X.env=(false,eval e X.env)::starEach es X.env:=by rfl) (hpl:(backTo pos (starEach es X.env)).any (·.1)=false:=by rfl)
   (ht:eval (.Call (.Attribute o m apos) (e::es) [] pos) X.env=(do
     let ov <-eval o X.env
     standAt apos.atName
     let (f,first) <-holding [ov] (getMethod ov m pl)
     callWith pos f first (backTo pos (starEach (e::es) X.env)) (backToKw pos (keywordEach [] X.env))):=by rfl) :
   PE X (.Call (.Attribute o m apos) (e::es) [] pos) (yh0 C m sp dvs E ta t):=by
 intro pins s σ H Q I h
 refine W.methodCall_KW (pl:=pl) (thn (he pins s σ H _ I h) fun u s1 ⟨x,H1,I1,rx,a,dx,fs,ex,ea,l,q⟩=>?_) ht
 subst ex
 obtain rfl:u=Value.ref a:=rx
 refine zO5 I1 ea c hm l ?_
 refine W.callWith_K (first:=[.ref a]) (h₀:=X.base) I.ok.mod.kin hm.kp (thn (ha pos pins s1 σ H1 _ I1 q) fun us s2 ⟨vs,H2,I2,r,q2⟩=>⟨I2.kIn,?_⟩) hst hpl
 exact zV7 (us:=.ref a::us) (vs:=.ref a::vs) F hr hb hd hx I2 (.cons rfl r) q2
theorem pe_meth0 {pl:Sem Bool} (he:PE X o ta) (c:Cls X.K C) (hm:Meth X.K C m f) (F:FnOk X.prog X.w X.K X.mg X.base CX k f fd ps sp) (hr:Room k X.A) (hb:zc4 X.K fd ps ds) (hd:Vals dvs ds) (hx:zt8 CX X E)
   (ht:eval (.Call (.Attribute o m apos) [] [] pos) X.env=(do
     let ov <-eval o X.env
     standAt apos.atName
     let (f,first) <-holding [ov] (getMethod ov m pl)
     callWith pos f first (backTo pos (starEach [] X.env)) (backToKw pos (keywordEach [] X.env))):=by rfl) :
   PE X (.Call (.Attribute o m apos) [] [] pos) (yh0 C m sp dvs E ta tNil):=by
 intro pins s σ H Q I h
 refine W.methodCall_KW (pl:=pl) (thn (he pins s σ H _ I h) fun u s1 ⟨x,H1,I1,rx,a,dx,fs,ex,ea,l,q⟩=>?_) ht
 subst ex
 obtain rfl:u=Value.ref a:=rx
 refine zO5 I1 ea c hm l ?_
 exact W.callWith_K0 (first:=[.ref a]) I1.kIn hm.kp (zV7 (us:=[.ref a]) (vs:=[.ref a]) F hr hb hd hx I1 (.cons rfl .nil) q)
structure Mk (K:W.Frag) (C f:Addr):Prop where
 makes:W.makesIn K C=true
 init:W.findIn K (.ref C) "__init__" = some (some (.ref f))
 fn:W.isFn K (.ref f)=true
 kp:W.keepIn K (.ref C)=true
theorem run_make {pins:List (Addr×Obj)} {σ:St} {H:Hp} {s:Shared} {Q:VK} {us:List Value} {vs:List V} (M:Mk X.K C f) (F:FnOk X.prog X.w X.K X.mg X.base CX k f fd ps sp) (hr:Room (k+1) X.A) (hb:zc4 X.K fd ps ds) (hd:Vals dvs ds)
   (hx:zt8 CX X E) (I:Inv X pins σ H s) (r:Vals vs us)
   (h:∀ x dx,H x=none->H dx=none->dx≠x->sp (.ref x::(vs++dvs)) (upd (upd H dx (.own x)) x (.ins C dx [])) (fun v H2=>v = .non/\Q (.ref x) H2) E) :
   wpAny (model X.prog X.w) X.A (call (.ref C) us) (EP X pins σ Q) X.xe s:=by
 have hq:=h (s.heap.objs.size+1) s.heap.objs.size (I.hok.fresh (Nat.le_succ _)) (I.hok.fresh (Nat.le_refl _)) (Nat.ne_of_lt (Nat.lt_succ_self _))
 have I2:=Inv.made (C:=C) I
 have r2:Vals (V.ref (s.heap.objs.size+1)::(vs++dvs)) (Value.ref (s.heap.objs.size+1)::(us++ds)):=.cons rfl (r.append hd)
 have hl:(Value.ref (s.heap.objs.size+1)::us++ds).length=ps.length:=by
   have e:=r2.length
   rw[F.len _ _ _ _ hq] at e
   exact e.symm
 refine wpAny_call (make_map (f:=f) I.kIn M.makes M.init (beq_iff_eq.mp M.fn) (codeAny_mono (F.run _ X.stack _ _ ⟨Value.ref (s.heap.objs.size+1)::us,[]⟩ (Value.ref (s.heap.objs.size+1)::(us++ds)) _ _ E (hr.make C us [])
   (I2.env0.make C us []) (hb _ (Value.ref (s.heap.objs.size+1)::us) I2.kIn hl) r2 hq) fun r s' hq'=>?_))
 cases r with
 | error e=>exact hx pins σ _ _ e s' I2 hq'
 | ok fl =>
   cases fl with
   | ret u =>
     obtain ⟨v,H',I3,rv,ev,q3⟩:=I2.after hq'
     subst ev
     exact⟨rv,⟨V.ref (s.heap.objs.size+1),H',I3,rfl,q3⟩⟩
   | next=>exact False.elim hq'
   | brk=>exact False.elim hq'
   | cont=>exact False.elim hq'
theorem yb5 (M:Mk X.K C f) (F:FnOk X.prog X.w X.K X.mg X.base CX k f fd ps sp) (hr:Room (k+1) X.A) (hg:Gl X x) (hm:X.mg x=some (.ref C)) (hb:zc4 X.K fd ps ds) (hd:Vals dvs ds) (hx:zt8 CX X E)
   (ha:PA X (e::es) t) (hdb:(x == ("__debug__" : Str))=false:=by decide) (he:starEach (e::es) X.env=(false,eval e X.env)::starEach es X.env:=by rfl) (hpl:(backTo pos (starEach es X.env)).any (·.1)=false:=by rfl) :
   PE X (.Call (.Name x p) (e::es) [] pos) (tMake C sp dvs E t):=by
 intro pins s σ H Q I h
 refine wpAny_Call_Name_kw (zz1 I hg hm ?_ hdb)
 refine W.callWith_K (h₀:=X.base) I.ok.mod.kin M.kp (thn (ha pos pins s σ H _ I h) fun us s1 ⟨vs,H1,I1,r,q⟩=>⟨I1.kIn,?_⟩) he hpl
 exact run_make M F hr hb hd hx I1 r q
end
section
variable {X:Cx} {CX:CXT} {k:Nat} {f C:Addr} {fd:FuncData} {ps ks:List Str} {sp:Sp} {E:XK} {x m:Str} {p pos apos kpos:Pos} {e o:Expr} {es:List Expr} {kws:List Keyword} {te ta:TE} {t tk:TA} {nm:Option Str}
variable {g:List Value->List Value->List Value} {gV:List V->List V->List V}
end
structure zb6 (N P:List Str) (sc:Scope):Prop where
 kind:sc.kind = .function
 co:sc.isCoroutine=false
 gen:sc.isGenerator=false
 nd:N.Nodup
 pre:N.take P.length=P
 par:∀ x∈P,sc.names.lookup x=some .local\/sc.names.lookup x=some .cell
 nofree:∀ y∈sc.names,y.2≠.free
theorem zR5 {kindOf:Str->Option NameKind} {x:Str}:∀ {binds:List (Str×Value)} {m:Str->Option Value},(∀ v,(x,v)∉binds)->bindL kindOf binds m x=m x
 | [],_,_=>rfl
 | (n,v)::r,m,h=>by
   unfold bindL
   rw[zR5 fun w hw=>h w (List.mem_cons_of_mem _ hw)]
   split
   . have:x≠n:=by rintro rfl;exact h v List.mem_cons_self
     simp[this]
   . rfl
theorem zR6 {kindOf:Str->Option NameKind} {x:Str}:∀ {binds:List (Str×Value)} {m:Str->Option Value},(∀ v,(x,v)∉binds)->bindC kindOf binds m x=m x
 | [],_,_=>rfl
 | (n,v)::r,m,h=>by
   unfold bindC
   rw[zR6 fun w hw=>h w (List.mem_cons_of_mem _ hw)]
   split
   . rfl
   . have:x≠n:=by rintro rfl;exact h v List.mem_cons_self
     simp[this]
theorem zR7 {kindOf:Str->Option NameKind} {x:Str} {v:Value}:∀ {P:List Str} {vs:List Value} {i:Nat} {m:Str->Option Value},P.Nodup->P[i]?=some x->vs[i]?=some v->kindOf x=some .local →
   bindL kindOf (P.zip vs) m x=some v
 | [],_,_,_,_,h,_,_=>by simp at h
 | _::_,[],_,_,_,_,h,_=>by simp at h
 | p::P,w::vs,0,m,nd,h1,h2,hk=>by
   simp at h1 h2;subst h1;subst h2
   show bindL kindOf ((p,w)::P.zip vs) m p=_
   unfold bindL
   rw[zR5 fun v hv=>(List.nodup_cons.mp nd).1 (List.of_mem_zip hv).1,if_pos hk]
   simp
 | p::P,w::vs,i+1,m,nd,h1,h2,hk=>by
   show bindL kindOf ((p,w)::P.zip vs) m x=_
   unfold bindL
   exact zR7 (i:=i) (List.nodup_cons.mp nd).2 (by simpa using h1) (by simpa using h2) hk
theorem zR8 {kindOf:Str->Option NameKind} {x:Str} {v:Value}:∀ {P:List Str} {vs:List Value} {i:Nat} {m:Str->Option Value},P.Nodup->P[i]?=some x->vs[i]?=some v->kindOf x≠some .local →
   bindC kindOf (P.zip vs) m x=some v
 | [],_,_,_,_,h,_,_=>by simp at h
 | _::_,[],_,_,_,_,h,_=>by simp at h
 | p::P,w::vs,0,m,nd,h1,h2,hk=>by
   simp at h1 h2;subst h1;subst h2
   show bindC kindOf ((p,w)::P.zip vs) m p=_
   unfold bindC
   rw[zR6 fun v hv=>(List.nodup_cons.mp nd).1 (List.of_mem_zip hv).1,if_neg hk]
   simp
 | p::P,w::vs,i+1,m,nd,h1,h2,hk=>by
   show bindC kindOf ((p,w)::P.zip vs) m x=_
   unfold bindC
   exact zR8 (i:=i) (List.nodup_cons.mp nd).2 (by simpa using h1) (by simpa using h2) hk
noncomputable def start (N:List Str) (vs:List V):St:=vs.map some++List.replicate (N.length-vs.length) none
noncomputable def cxOf (CX:CXT) (P:Program) (w:World) (K:W.Frag) (mg:Str->Option Value) (base:Heap) (N:List Str) (qual:Str) (scope:Scope) (f:Addr) (cd:Value) (A:Around) (outer:List Env) (s:Shared) (H:Hp) (E:XK):Cx where
 prog:=P
 w:=w
 K:=K
 mg:=mg
 base:=base
 A:=A.deeper (envOfC qual scope s.heap.objs.size f cd)
 N:=N
 s₀:=s
 H₀:=H
 env:=envOfC qual scope s.heap.objs.size f cd
 outer:=outer
 stack:=envOfC qual scope s.heap.objs.size f cd::outer
 ex:=[]
 calm:=true
 fn:=fun _=>true
 pn:=[]
 xe:=fun e s'=>wpAny (model P w) (A.deeper (envOfC qual scope s.heap.objs.size f cd)) («leaving» (envOfC qual scope s.heap.objs.size f cd) e) (fun _ s''=>CX outer H s E e s'') (fun e' s''=>CX outer H s E e' s'') s'
theorem zX4 {sc:Scope} {n:Nat} {x:Str} (h:sc.names.lookup x=some .cell):∃ c,(cellsFrom n sc.names []).lookup x=some c:=by
 have q:=W.cellsFrom_some sc.names n [] (.inl h)
 exact Option.isSome_iff_exists.mp q
theorem inv_start {CX:CXT} {P:Program} {w:World} {K:W.Frag} {mg:Str->Option Value} {base:Heap} {N ps:List Str} {qual:Str} {scope:Scope} {f:Addr} {cd:Value} {A:Around} {outer:List Env} {s s1:Shared} {H:Hp} {E:XK} {us:List Value} {vs:List V}
   (S:zb6 N ps scope) (hd:A.handled=none) (e0:Env0 P w K mg base A outer s H) (hl:vs.length=ps.length) (r:Vals vs us)
   (x:InCallC s s.heap.objs.size (bindL (envOfC qual scope s.heap.objs.size f cd).kindOf (ps.zip us) fun _=>none) (cellsFrom (s.heap.objs.size+1) scope.names []) (bindC (envOfC qual scope s.heap.objs.size f cd).kindOf (ps.zip us) fun _=>none) s1) :
   Inv (cxOf CX P w K mg base N qual scope f cd A outer s H E) [] (start N vs) H s1:=by
 have hpl:ps.length<=N.length:=by have:=congrArg List.length S.pre;rw[List.length_take] at this;omega
 obtain ⟨h1,tk,rfl,hk⟩:=x.done
 have noA:∀ b:Addr,b∉(cxOf CX P w K mg base N qual scope f cd A outer s H E).ex:=fun b z=>absurd (show b∈([]:List Addr) from z) (by simp)
 refine⟨⟨e0.mod,S.kind,rfl,rfl,Nat.le_refl _,fun y z c h1 h2=>?_,fun y hy=>?_,fun y c _ h=>?_,fun _=>hd,Around.frames_deeper e0.frames,.inr ⟨rfl,rfl⟩,fun b z=>absurd z (noA b),e0.bs,e0.bsz,fun b _ _=>noA b,fun b z=>absurd z (noA b),e0.funs,e0.frf⟩,
   rfl,e0.bare,Un.kept hk,⟨_,x.toInCall.ns,fun i y v h1 h2 h3=>?_⟩,fun y c h=>⟨_,x.cell y c h⟩,e0.hok.fresh (Nat.le_refl _),fun y c h=>?_,fun p hp=>absurd (show p∈([]:List (Addr×Obj)) from hp) (by simp),e0.hok.kept hk,?_⟩
 . exact name_of_addr x.apart (PySem.mem_of_lookup h1) (PySem.mem_of_lookup h2)
 . have hy:scope.names.lookup y=some .cell\/scope.names.lookup y=some .free:=hy
   rcases hy with hy | hy
   . exact zX4 hy
   . exact absurd rfl (S.nofree _ (PySem.mem_of_lookup hy))
 . exact Nat.le_of_lt (x.above y c (PySem.mem_of_lookup h))
 . have hi:i<vs.length:=by
     unfold start at h2
     by_cases hi:i<vs.length
     . exact hi
     . rw[List.getElem?_append_right (by simpa using hi)] at h2
       rw[List.getElem?_replicate] at h2
       split at h2<;>cases h2
   have ha:vs[i]?=some v:=by
     unfold start at h2
     rw[List.getElem?_append_left (by simpa using hi),List.getElem?_map] at h2
     cases e:vs[i]? with
     | none=>rw[e] at h2;cases h2
     | some a=>rw[e] at h2;cases h2;rfl
   obtain ⟨u,hu,rv⟩:=r.get ha
   have hp:ps[i]?=some y:=by
     rw[<-S.pre,List.getElem?_take_of_lt (by omega)];exact h1
   have ndP:ps.Nodup:=by rw[<-S.pre];exact S.nd.sublist (List.take_sublist _ _)
   refine⟨u,rv,?_⟩
   rcases S.par y (List.mem_of_getElem? hp) with k | k
   . exact .inl ⟨k,zR7 ndP hp hu k⟩
   . obtain ⟨c,e⟩:=zX4 (n:=s.heap.objs.size+1) k
     refine .inr ⟨.inl k,c,e,?_⟩
     have q:=x.cell y c e
     rw[zR8 ndP hp hu (by show scope.names.lookup y≠_;rw[k];decide)] at q
     exact q
 . exact e0.hok.fresh (Nat.le_of_lt (x.above y c (PySem.mem_of_lookup h)))
 . unfold start
   show _=N.length
   rw[List.length_append,List.length_map,List.length_replicate]
   omega
theorem ye9 {CX:CXT} {P:Program} {w:World} {K:W.Frag} {mg:Str->Option Value} {base:Heap} {k:Nat} {f:Addr} {name qual:Str} {params:Arguments} {body:List Stmt} {scope:Scope} {dV kV doc pm cdv ct oc:Value} {an od:Option Addr}
   {osl:Array (Option Value)} {N ps:List Str} {sp:Sp} (lk:K.lookup f=some ⟨oc,od,.func (W.fnOf name qual params body scope dV kV doc pm an cdv ct),osl⟩) (hcd:W.codeIn K cdv qual=true) (S:zb6 N ps scope)
   (len:∀ vs H Q E,sp vs H Q E->vs.length=ps.length)
   (hbody:∀ (A:Around) (outer:List Env) (s:Shared) (H:Hp) (vs:List V) (Q:VK) (E:XK),Room k (A.deeper (envOfC qual scope s.heap.objs.size f cdv))->sp vs H Q E →
     ∃ t,PSs (cxOf CX P w K mg base N qual scope f cdv A outer s H E) body t/\t { nx:=fun _ H'=>Q .non H',rt:=Q } (start N vs) H) :
   FnOk P w K mg base CX (k+1) f (W.fnOf name qual params body scope dV kV doc pm an cdv ct) ps sp:=by
 refine⟨len,fun A outer s H args us vs Q E hr e0 hb r hsp=>?_⟩
 have hl:=len _ _ _ _ hsp
 have KX:K.In s.heap:=e0.mod.kin.keeps fun b o e=>(e0.bs b o e).1
 have lim:s.heap.NoLimit:=e0.mod.nolimit.keeps fun b o e=>(e0.bs b o e).1
 have hkind:∀ y∈ps.zip us,scope.names.lookup y.1=some .local\/(scope.names.lookup y.1=some .cell/\((cellsFrom (s.heap.objs.size+1) scope.names []).lookup y.1).isSome=true):=fun ⟨n,v⟩ hy=>by
   rcases S.par n (List.of_mem_zip hy).1 with q | q
   . exact .inl q
   . exact .inr ⟨q,W.cellsFrom_some _ _ _ (.inl q)⟩
 refine codeAny_call_function hr.depth (KX _ _ lk) rfl S.co S.gen rfl (W.codeRec_of KX hcd) (hb _ _ _ _ ?_)
 refine wpAny_newFunctionEnv_cells S.kind hkind fun env he s1 x=>?_
 subst he
 refine⟨lim.keeps x.toInCall.keep,codeAny_func ?_⟩
 obtain ⟨t,ht,hq⟩:=hbody A outer s H vs Q E (hr.deeper _) hsp
 have I:Inv (cxOf CX P w K mg base N qual scope f cdv A outer s H E) [] (start N vs) H s1:=inv_start S hr.hd e0 hl r x
 refine wpAny_mono (ht [] s1 (start N vs) H _ I hq) (fun fl s' hs=>?_) fun e s' hs=>hs
 have fin:∀ {σ':St} {H':Hp} {v:V} {u:Value},Inv (cxOf CX P w K mg base N qual scope f cdv A outer s H E) [] σ' H' s'->RelV v u->Q v H'->CE outer P w H s Q u s' :=
   fun {σ' H' v u} J rv q=>⟨v,H',J.os,J.bare,J.base,J.hok,rv,q⟩
 cases fl with
 | ret u =>
   obtain ⟨v,σ',H',J,rv,q⟩:=hs
   exact fin J rv q
 | next =>
   obtain ⟨σ',H',J,q⟩:=hs
   exact fin (v:=V.non) (u:=Value.none) J rfl q
 | brk =>
   obtain ⟨_,_,_,q⟩:=hs
   exact False.elim q
 | cont =>
   obtain ⟨_,_,_,q⟩:=hs
   exact False.elim q
end L2
namespace L2
open PySem PySem.Spec PyProof.Rows
section
variable {X:Cx} {x:Str} {p pos:Pos} {e:Expr} {es:List Expr} {t:TA} {id T:String} {r:List V->Hp->VK->Prop}
noncomputable def tCB (r:List V->Hp->VK->Prop) (t:TA):TE:=fun σ H Q=>t σ H fun vs H1=>r vs H1 Q
theorem zc3 (hc:zs4 X (.builtin id) r) (hg:Gl X x) (hm:X.mg x=none) (hv:bootBuiltins x=some (.builtin id)) (ha:PA X (e::es) t) (hn:x≠"__name__":=by decide) (hdb:(x == ("__debug__" : Str))=false:=by decide)
   (he:starEach (e::es) X.env=(false,eval e X.env)::starEach es X.env:=by rfl) (hpl:(backTo pos (starEach es X.env)).any (·.1)=false:=by rfl):PE X (.Call (.Name x p) (e::es) [] pos) (tCB r t):=by
 intro pins s σ H Q I h
 refine wpAny_Call_Name_kw (zK4 I hg hm hv ?_ hn hdb)
 exact PyProof.Rows.callWith_builtin1 (thn (ha pos pins s σ H _ I h) fun us s1 ⟨vs,H1,I1,r1,q1⟩=>hc pins s1 σ H1 vs us Q I1 r1 q1) he hpl
theorem zd9 (hc:zs4 X (.type T) r) (hg:Gl X x) (hm:X.mg x=none) (hv:bootBuiltins x=some (.type T)) (ha:PA X (e::es) t) (hn:x≠"__name__":=by decide) (hdb:(x == ("__debug__" : Str))=false:=by decide)
   (he:starEach (e::es) X.env=(false,eval e X.env)::starEach es X.env:=by rfl) (hpl:(backTo pos (starEach es X.env)).any (·.1)=false:=by rfl):PE X (.Call (.Name x p) (e::es) [] pos) (tCB r t):=by
 intro pins s σ H Q I h
 refine wpAny_Call_Name_kw (zK4 I hg hm hv ?_ hn hdb)
 exact PyProof.Rows.callWith_type1 (thn (ha pos pins s σ H _ I h) fun us s1 ⟨vs,H1,I1,r1,q1⟩=>hc pins s1 σ H1 vs us Q I1 r1 q1) he hpl
end
end L2
namespace HT
open PySem PyProof.Rows
section
open PySem.SeqAt
open PySem.AutoSeq1 (wpAny_loadPart')
open PySem.MeetsSeq PySem.MeetsSeq2 PySem.MeetsSeq3
end
section
variable {prog:Program} {w:World} {A:Around} {E:Value->Shared->Prop} {s:Shared}
theorem cat_tup {t b:Addr} {vs ws:List Value} {Q:Value->Shared->Prop} (ht:IsTup s.heap t vs.toArray) (hb:IsTup s.heap b ws.toArray) (hv:vs≠[])
   (h1:ws=[]->Q (.ref t) s) (h2:ws≠[]->Q (.ref s.heap.objs.size) { s with heap:=s.heap.push { cls:=.type "tuple",data:=.seq (vs++ws).toArray } })
   (hsz:vs.length+ws.length<=sizeLine):wpAny (model prog w) A (binaryOp .Add (.ref t) (.ref b)) Q E s:=by
 obtain ⟨⟨cls,dd,data,sl⟩,ho,hc,n,hd⟩:=id ht
 obtain ⟨⟨cls2,dd2,data2,sl2⟩,ho2,hc2,n2,hd2⟩:=id hb
 simp only at hc hd hc2 hd2
 subst hc hd hc2 hd2
 have e:vs.toArray++ws.toArray=(vs++ws).toArray:=by simp
 by_cases hw:ws=[]
 . exact concat_meets ⟨_,ho,rfl⟩ ⟨_,ho2,rfl⟩ noFill_tuple_add seq_tuple_add PySem.F.slot_tuple_add PySem.F.entry_tuple_add (PySem.F.args_tuple_add_2 _ _)
     (tuple_addW1 t b vs.toArray ws.toArray n n2 dd dd2 sl sl2 (by simpa using hv) (by simp[hw])) ⟨ho,ho2,h1 hw⟩
 . refine concat_meets ⟨_,ho,rfl⟩ ⟨_,ho2,rfl⟩ noFill_tuple_add seq_tuple_add PySem.F.slot_tuple_add PySem.F.entry_tuple_add (PySem.F.args_tuple_add_2 _ _)
     (tuple_addW2 t b vs.toArray ws.toArray n n2 dd dd2 sl sl2 (by simpa using hv) (by simpa using hw) (by rw[List.size_toArray,List.size_toArray];exact hsz)) ⟨ho,ho2,?_⟩
   rw[e]
   exact h2 hw
noncomputable def sIx (n d:Nat):Option Int->Nat
 | none=>d
 | some v=>if v<0 then (v+(n:Int)).toNat else min v.toNat n
theorem sIx_none (n d:Nat):sIx n d none=d:=rfl
theorem sIx_nat (n d k:Nat):sIx n d (some (k:Int))=min k n:=by
 show (if (k:Int)<0 then ((k:Int)+(n:Int)).toNat else min (k:Int).toNat n)=min k n
 rw[if_neg (by omega),Int.toNat_natCast]
theorem sIx_le (n d:Nat) (hd:d<=n) (o:Option Int):sIx n d o<=n:=by
 cases o with
 | none=>exact hd
 | some v =>
   show (if v<0 then (v+(n:Int)).toNat else min v.toNat n)<=n
   by_cases hv:v<0
   . rw[if_pos hv];omega
   . rw[if_neg hv];exact Nat.min_le_right _ _
theorem yb6 (v:Int) (n d:Nat):(if v<0 then max (v+(n:Int)) 0 else min v (n:Int))=((sIx n d (some v):Nat):Int):=by
 show (if v<0 then max (v+(n:Int)) 0 else min v (n:Int))=(((if v<0 then (v+(n:Int)).toNat else min v.toNat n):Nat):Int)
 by_cases hv:v<0
 . simp only[if_pos hv];omega
 . simp only[if_neg hv];omega
theorem adjust_gen (lo hi:Option Int) (n:Nat):Builtin.Slice.sliceAdjust lo hi 1 (n:Int)=(((sIx n 0 lo:Nat):Int),((sIx n n hi:Nat):Int)):=by
 have h1:¬ ((1:Int)<0):=by omega
 unfold Builtin.Slice.sliceAdjust
 simp only[h1,if_false]
 refine Prod.ext ?_ ?_
 . cases lo with
   | none=>rfl
   | some v=>exact yb6 v n 0
 . cases hi with
   | none=>rfl
   | some v=>exact yb6 v n n
theorem places_gen (i j:Nat):Builtin.Slice.slicePlaces (i:Int) (j:Int) 1=j-i:=by
 unfold Builtin.Slice.slicePlaces
 have h1:(1:Int)>0:=by omega
 simp only[h1,if_true,Int.ediv_one]
 split<;>omega
theorem zO6 {v:Value} {o:Option Int} {Q:Option Int->Shared->Prop} (p:IsPart v o) (h:Q o s):wpAny (model prog w) A (Builtin.Slice.slicePartIndex v) Q E s:=by
 cases p with
 | none=>exact slicePart_none h
 | int i t=>exact slicePart_int h
theorem sliceApplied_gen {sl:Addr} {vl vu:Value} {lo hi:Option Int} {n:Nat} {Q:Int×Int×Nat->Shared->Prop} (hs:s.heap.IsSliceOf sl vl vu .none) (pl:IsPart vl lo) (pu:IsPart vu hi)
   (h:Q (((sIx n 0 lo:Nat):Int),1,sIx n n hi-sIx n 0 lo) s):wpAny (model prog w) A (Builtin.Slice.sliceApplied (.ref sl) (pure (n:Int))) Q E s:=by
 obtain ⟨os,hos,hcs,hds⟩:=id hs
 unfold Builtin.Slice.sliceApplied Builtin.Slice.sliceFields
 refine wpAny_bind (wpAny_bind (wpAny_field hos hds (x:=vl) rfl (wpAny_bind (wpAny_field hos hds (x:=vu) rfl (wpAny_bind (wpAny_field hos hds (x:=.none) rfl (wpAny_pure ?_)))))))
 refine wpAny_bind (slicePart_none ?_)
 show wpAny _ _ (if ((1:Int) == 0)=true then _ else _) _ _ s
 rw[if_neg (by decide)]
 refine wpAny_bind (zO6 pl (wpAny_bind (zO6 pu (wpAny_bind (wpAny_pure ?_)))))
 show wpAny _ _ (match Builtin.Slice.sliceAdjust lo hi 1 (n:Int) with | (lo,hi)=>pure (lo,(1:Int),Builtin.Slice.slicePlaces lo hi 1)) _ _ s
 rw[adjust_gen lo hi n]
 show wpAny _ _ (pure (((sIx n 0 lo:Nat):Int),(1:Int),Builtin.Slice.slicePlaces ((sIx n 0 lo:Nat):Int) ((sIx n n hi:Nat):Int) 1)) _ _ s
 rw[places_gen]
 exact wpAny_pure h
theorem pick_gen (xs:Array Value) (i k:Nat):((List.range k).filterMap fun (m:Nat)=>xs[((i:Int)+(m:Int)*1).toNat]?).toArray=((xs.toList.drop i).take k).toArray:=by
 have e:(fun (m:Nat)=>xs[((i:Int)+(m:Int)*1).toNat]?)=fun m=>xs[i+m]?:=by
   funext m
   have:((i:Int)+(m:Int)*1).toNat=i+m:=by omega
   rw[this]
 rw[e]
 have:=pick_run xs i k
 rw[List.filterMap_map] at this
 have e2:((fun x=>xs[x]?) ∘ fun x=>i+x)=fun m=>xs[i+m]?:=rfl
 rw[e2] at this
 rw[this]
theorem getItem_tuple_cut {t sl:Addr} {items:Array Value} {vl vu:Value} {lo hi:Option Int} {Q:Value->Shared->Prop} (ht:IsTup s.heap t items) (hs:s.heap.IsSliceOf sl vl vu .none) (pl:IsPart vl lo) (pu:IsPart vu hi)
   (hw:¬ (sIx items.size 0 lo=0/\sIx items.size items.size hi=items.size))
   (h:Q (.ref s.heap.objs.size) { s with heap:=s.heap.push { cls:=.type "tuple",data:=.seq ((items.toList.drop (sIx items.size 0 lo)).take (sIx items.size items.size hi-sIx items.size 0 lo)).toArray } })
   (hsz:items.size<=sizeLine):wpAny (model prog w) A (getItem (.ref t) (.ref sl)) Q E s:=by
 have htake:sizeOk (.seq ((items.toList.drop (sIx items.size 0 lo)).take (sIx items.size items.size hi-sIx items.size 0 lo)).toArray):=by
   show ((items.toList.drop (sIx items.size 0 lo)).take (sIx items.size items.size hi-sIx items.size 0 lo)).toArray.size<=sizeLine
   rw[List.size_toArray,List.length_take,List.length_drop,Array.length_toList]
   omega
 have hj:sIx items.size items.size hi<=items.size:=sIx_le _ _ (Nat.le_refl _) hi
 obtain ⟨os,hos,hcs,hds⟩:=id hs
 have hTs:s.TypeIs (.ref sl) "slice":=⟨os,hos,hcs⟩
 unfold getItem
 try with_reducible refine wpAny_holding ?_
 first | refine wpAny_bind (wpAny_pure ?_) | skip
 refine wpAny_bind (wpAny_sequenceKey ht.typeIs (by decide) ?_)
 refine wpAny_bind (wpAny_callSpecial?_slot (name:=Str.ofString "__getitem__") ht.typeIs PyProof.Rows.slot_tuple_getitem
   (wpAny_call_entry PyProof.Rows.slot_tuple_getitem ht.typeIs entry_tuple_getitem ?_ (args_tuple_getitem _ _)))
 show wpAny _ _ (Builtin.Tuple.tupleItemsOf (.ref t) >>= _) _ _ s
 refine wpAny_bind (tupleItemsOf_ ht ?_)
 refine wpAny_bind (wpAny_typeOf hTs ?_)
 rw[if_pos (by decide)]
 refine wpAny_bind (sliceApplied_gen hs pl pu ?_)
 have hno:¬ ((((sIx items.size 0 lo:Nat):Int) == 0 && (1:Int) == 1 && (sIx items.size items.size hi-sIx items.size 0 lo) == items.size)=true):=by
   intro q
   rw[Bool.and_eq_true,Bool.and_eq_true] at q
   have q1:((sIx items.size 0 lo:Nat):Int)=0:=eq_of_beq q.1.1
   have q2:sIx items.size items.size hi-sIx items.size 0 lo=items.size:=eq_of_beq q.2
   exact hw ⟨by omega,by omega⟩
 show wpAny _ _ (if (((sIx items.size 0 lo:Nat):Int) == 0 && (1:Int) == 1 && (sIx items.size items.size hi-sIx items.size 0 lo) == items.size)=true then _ else _) _ _ s
 rw[if_neg hno,pick_gen]
 first
   | exact wpAny_bind (m:=Builtin.Tuple.tupleExact _) (wpAny_newObj_type (wpAny_pure ⟨_,rfl,wpAny_pure h⟩) htake)
   | exact wpAny_bind (m:=Builtin.Tuple.tupleExact _) (wpAny_newObj_type (wpAny_bind (wpAny_pure (wpAny_pure ⟨_,rfl,wpAny_pure h⟩))) htake)
   | exact wpAny_bind (wpAny_bind (m:=Builtin.Tuple.tupleExact _) (wpAny_newObj_type (wpAny_pure (wpAny_pure ⟨_,rfl,wpAny_pure h⟩)) htake))
   | exact wpAny_bind (wpAny_bind (m:=Builtin.Tuple.tupleExact _) (wpAny_newObj_type (wpAny_pure ⟨_,rfl,wpAny_pure h⟩) htake))
end
end HT
namespace L2
open PySem PySem.Spec PyProof.Rows
noncomputable abbrev TO:=St->Hp->(Option Int->Hp->Prop)->Prop
noncomputable def PO (X:Cx) (e:Option Expr) (t:TO):Prop :=
 ∀ (pins:List (Addr×Obj)) (s:Shared) (σ:St) (H:Hp) (Q:Option Int->Hp->Prop),Inv X pins σ H s->t σ H Q →
   wpAny (model X.prog X.w) X.A (evalPart e X.env) (fun u s'=>∃ o H',Inv X pins σ H' s'/\IsPart u o/\Q o H') X.xe s
noncomputable def tNoPart:TO:=fun _ H Q=>Q none H
noncomputable def tPart (t:TE):TO:=fun σ H Q=>t σ H fun x H1=>∃ i,x = .int i/\Q (some i) H1
theorem zG6 {ns:List Int}:∀ {us:List Value},Vals (ns.map V.int) us->IntsAre us ns:=by
 induction ns with
 | nil=>intro us r;rw[List.map_nil] at r;cases r;exact .nil
 | cons n ns ih =>
   intro us r
   rw[List.map_cons] at r
   cases r with
   | cons r1 r2 =>
     obtain ⟨t,e⟩:=r1
     subst e
     exact .cons n t (ih r2)
section
variable {X:Cx} {e:Expr} {te:TE} {lo hi:Option Expr} {tl th:TO} {pos p2:Pos}
theorem zn6:PO X none tNoPart:=by
 intro pins s σ H Q I h
 rw[evalPart_none]
 exact wpAny_pure ⟨none,H,I,.none,h⟩
theorem zl1 (h:PE X e te):PO X (some e) (tPart te):=by
 intro pins s σ H Q I hw
 rw[evalPart_some]
 refine thn (h pins s σ H _ I hw) fun u s1 ⟨x,H1,I1,r1,q1⟩=>?_
 obtain ⟨i,rfl,q⟩:=q1
 obtain ⟨t,rfl⟩:=r1
 exact⟨some i,H1,I1,.int i t,q⟩
noncomputable def SlR (X:Cx) (r:V->Option Int->Option Int->Hp->VK->Prop):Prop :=
 ∀ (pins:List (Addr×Obj)) (s:Shared) (σ:St) (H:Hp) (x:V) (v vl vu:Value) (lo hi:Option Int) (sl:Addr) (Q:VK),Inv X pins σ H s->RelV x v->s.heap.IsSliceOf sl vl vu .none->IsPart vl lo->IsPart vu hi->r x lo hi H Q →
   ∃ T id,typeLookup (.type T) "__getitem__" = pure (some (.builtin id))/\s.TypeIs v T/\wpAny (model X.prog X.w) X.A (getItem v (.ref sl)) (EP X pins σ Q) X.xe s
noncomputable def tSl (r:V->Option Int->Option Int->Hp->VK->Prop) (te:TE) (tl th:TO):TE:=fun σ H Q=>te σ H fun x H1=>tl σ H1 fun l H2=>th σ H2 fun u H3=>r x l u H3 Q
theorem zi4 {r:V->Option Int->Option Int->Hp->VK->Prop} (hr:SlR X r) (he:PE X e te) (hl:PO X lo tl) (hu:PO X hi th):PE X (.Subscript e (.Slice lo hi none p2) pos) (tSl r te tl th):=by
 intro pins s σ H Q I h
 refine Subscript_ (thn (he pins s σ H _ I h) fun v s1 ⟨x,H1,I1,r1,q1⟩=>?_)
 refine wpAny_Slice (thn (hl pins s1 σ H1 _ I1 q1) fun vl s2 ⟨l,H2,I2,pl,q2⟩=>thn (hu pins s2 σ H2 _ I2 q2) fun vu s3 ⟨u,H3,I3,pu,q3⟩=>?_)
 rw[evalPart_none]
 refine wpAny_pure ?_
 have I4:Inv X pins σ H3 { s3 with heap:=s3.heap.push { cls:=.type "slice",data:=.fields #[vl,vu,.none] } }:=I3.kept (t':=s3.toks) fun b ob q=>Heap.get?_push_of_some _ q
 obtain ⟨T,id,hT,ht,hg⟩:=hr pins { s3 with heap:=s3.heap.push { cls:=.type "slice",data:=.fields #[vl,vu,.none] } } σ H3 x v vl vu l u s3.heap.objs.size Q I4 r1 (Heap.IsSliceOf.new ..) pl pu q3
 show wpAny (model X.prog X.w) X.A (subscriptTail e (.Slice lo hi none p2) v (.ref s3.heap.objs.size)) (EP X pins σ Q) X.xe { s3 with heap:=s3.heap.push { cls:=.type "slice",data:=.fields #[vl,vu,.none] } }
 exact tail_any (ops:=[.ref s3.heap.objs.size,v]) ht hT hg (by with_unfolding_all rfl)
noncomputable def cutV (xs:List V) (lo hi:Option Int):List V:=(xs.drop (HT.sIx xs.length 0 lo)).take (HT.sIx xs.length xs.length hi-HT.sIx xs.length 0 lo)
theorem zl6 (xs:List V) (lo hi:Option Int):(cutV xs lo hi).length<=xs.length:=by
 unfold cutV
 rw[List.length_take,List.length_drop]
 omega
noncomputable def rSlT (K:W.Frag):V->Option Int->Option Int->Hp->VK->Prop:=fun x lo hi H Q=>∃ a xs,x = .ref a/\SqT K H a xs ∧
 ¬ (HT.sIx xs.length 0 lo=0/\HT.sIx xs.length xs.length hi=xs.length)/\∀ p,H p=none->Q (.ref p) (upd H p (.tup (cutV xs lo hi)))
theorem zB1:SlR X (rSlT X.K):=by
 intro pins s σ H x v vl vu lo hi sl Q I rx hs pl pu h
 obtain ⟨a,xs,rfl,hx,hw,q⟩:=h
 cases rx
 obtain ⟨its,r,ht,hz⟩:=I.tuple hx
 have hlen:its.toArray.size=xs.length:=by rw[List.size_toArray];exact r.length.symm
 refine⟨"tuple",_,PyProof.Rows.slot_tuple_getitem.lookup,ht.typeIs,?_⟩
 refine HT.getItem_tuple_cut ht hs pl pu (by rw[hlen];exact hw) ?_ (by rw[hlen];exact hz)
 rw[hlen]
 refine⟨.ref s.heap.objs.size,_,I.laid (t':=s.toks) (o:=.tup (cutV xs lo hi)) (fun b ob q=>Heap.get?_push_of_some _ q) (Nat.le_refl _) ?_,rfl,q _ (I.hok.fresh (Nat.le_refl _))⟩
 exact⟨Nat.le_trans (zl6 xs lo hi) hz,_,(r.drop (HT.sIx xs.length 0 lo)).take (HT.sIx xs.length xs.length hi-HT.sIx xs.length 0 lo),TupD.new _ _⟩
noncomputable def rCatT (K:W.Frag):R2:=fun x y H Q=>∃ a b xs ys,x = .ref a/\y = .ref b/\SqT K H a xs/\SqT K H b ys/\xs≠[]/\xs.length+ys.length<=sizeLine ∧
 (ys=[]->Q (.ref a) H)/\(ys≠[]->∀ p,H p=none->Q (.ref p) (upd H p (.tup (xs++ys))))
theorem Vals.nil_iff {xs:List V} {us:List Value} (r:Vals xs us):us=[]↔xs=[]:=by
 cases r with
 | nil=>simp
 | cons _ _=>simp
theorem op_catT:OpR X (binaryOp .Add) (rCatT X.K):=by
 intro pins s σ H x y v u Q I rx ry h
 obtain ⟨a,b,xs,ys,rfl,rfl,ha,hb,hx,hz,q1,q2⟩:=h
 cases rx
 cases ry
 obtain ⟨its,r1,p1,_⟩:=I.tuple ha
 obtain ⟨its2,r2,p2,_⟩:=I.tuple hb
 refine HT.cat_tup p1 p2 (fun z=>hx (r1.nil_iff.mp z)) (fun z=>⟨.ref a,H,I,rfl,q1 (r2.nil_iff.mp z)⟩) (fun z=>?_) (by rw[<-r1.length,<-r2.length];exact hz)
 refine⟨.ref s.heap.objs.size,_,I.laid (t':=s.toks) (o:=.tup (xs++ys)) (fun b ob q=>Heap.get?_push_of_some _ q) (Nat.le_refl _) ?_,rfl,q2 (fun w=>z (r2.nil_iff.mpr w)) _ (I.hok.fresh (Nat.le_refl _))⟩
 exact⟨by rw[List.length_append];exact hz,_,r1.append r2,TupD.new _ _⟩
end
end L2
namespace L2
open PySem PySem.Spec PyProof.Rows
noncomputable def ixN (n:Nat) (i:Int):Option Nat:=if 0<=i then (if i<n then some i.toNat else none) else if -(n:Int)<=i then some (i+n).toNat else none
noncomputable def atI {α:Type} (xs:List α) (i:Int):Option α:=(ixN xs.length i).bind fun j=>xs[j]?
theorem yb7 {n:Nat} {i:Int} {j:Nat} (h:ixN n i=some j):seqIndex? i n=some j/\j<n/\-(n:Int)<=i/\i<n:=by
 unfold ixN at h
 by_cases h0:0<=i
 . rw[if_pos h0] at h
   by_cases h1:i<n
   . rw[if_pos h1] at h
     have e:i.toNat=j:=Option.some.inj h
     exact⟨by rw[seqIndex_of h0 h1,e],by omega,by omega,h1⟩
   . rw[if_neg h1] at h;cases h
 . rw[if_neg h0] at h
   by_cases h1:-(n:Int)<=i
   . rw[if_pos h1] at h
     have e:(i+n).toNat=j:=Option.some.inj h
     exact⟨by rw[seqIndex_neg (by omega) h1,e],by omega,h1,by omega⟩
   . rw[if_neg h1] at h;cases h
theorem zV8 {α:Type} {xs:List α} {i:Int} {v:α} (h:atI xs i=some v):∃ j,seqIndex? i xs.length=some j/\xs[j]?=some v/\j<xs.length/\-(xs.length:Int)<=i/\i<xs.length:=by
 unfold atI at h
 cases e:ixN xs.length i with
 | none=>rw[e] at h;cases h
 | some j =>
   rw[e] at h
   obtain ⟨h1,h2,h3,h4⟩:=yb7 e
   exact⟨j,h1,h,h2,h3,h4⟩
theorem zD5 {α:Type} {xs:List α} {j:Nat} {v:α} (h:xs[j]?=some v):atI xs (j:Int)=some v:=by
 have hj:j<xs.length:=(List.getElem?_eq_some_iff.mp h).1
 have e:ixN xs.length (j:Int)=some j:=by
   unfold ixN
   rw[if_pos (by omega),if_pos (by omega)];simp
 unfold atI;rw[e];exact h
noncomputable def yb8 (b:Expr):Prop:=∀ o i,subscripted b false o i=operate [o,i] (getItem o i)
noncomputable def IxR (X:Cx) (r:R2):Prop :=
 ∀ (value slice:Expr) (pins:List (Addr×Obj)) (s:Shared) (σ:St) (H:Hp) (x y:V) (v u:Value) (Q:VK),Inv X pins σ H s->RelV x v->RelV y u->r x y H Q →
   subscripted slice false v u=operate [v,u] (getItem v u)->wpAny (model X.prog X.w) X.A (subscriptTail value slice v u) (EP X pins σ Q) X.xe s
noncomputable def MtR (X:Cx) (id:String) (r:V->List V->Hp->VK->Prop):Prop :=
 ∀ (pins:List (Addr×Obj)) (s:Shared) (σ:St) (H:Hp) (x:V) (xs:List V) (v:Value) (us:List Value) (Q:VK),Inv X pins σ H s->RelV x v->Vals xs us->r x xs H Q →
   wpAny (model X.prog X.w) X.A (call (.builtin id) (v::us)) (EP X pins σ Q) X.xe s
section
variable {X:Cx} {a b:Expr} {ta tb:TE} {pos:Pos}
theorem IxR.or {r r':R2} (h:IxR X r) (h':IxR X r'):IxR X (fun x y H Q=>r x y H Q\/r' x y H Q):=by
 intro value slice pins s σ H x y v u Q I rx ry q hs
 rcases q with q | q
 . exact h value slice pins s σ H x y v u Q I rx ry q hs
 . exact h' value slice pins s σ H x y v u Q I rx ry q hs
theorem zc6 {r:R2} (hr:IxR X r) (ha:PE X a ta) (hb:PE X b tb) (hs:yb8 b):PE X (.Subscript a b pos) (tOp r ta tb):=by
 intro pins s σ H Q I h
 exact Subscript_ (binT ha hb I h fun v u s2 x y H2 I2 rx ry q=>hr a b pins s2 σ H2 x y v u Q I2 rx ry q (hs _ _))
noncomputable def rIxL (K:W.Frag):R2:=fun x y H Q=>∃ p xs i v,x = .ref p/\y = .int i/\SqL K H p xs/\atI xs i=some v/\Q v H
noncomputable def rIxT (K:W.Frag):R2:=fun x y H Q=>∃ p xs i v,x = .ref p/\y = .int i/\SqT K H p xs/\atI xs i=some v/\Q v H
noncomputable def rIxS:R2:=fun x y H Q=>∃ z i c,x = .str z/\y = .int i/\z.length<=sizeLine/\atI z.cps.toList i=some c/\Q (.str ⟨#[c]⟩) H
theorem zd4:IxR X (rIxL X.K):=by
 intro value slice pins s σ H x y v u Q I rx ry h hs
 obtain ⟨p,xs,i,z,rfl,rfl,hq,he,q⟩:=h
 cases rx
 obtain ⟨t,rfl⟩:=ry
 obtain ⟨its,r,pl,hz⟩:=I.list hq
 obtain ⟨j,h1,h2,h3,h4,h5⟩:=zV8 he
 obtain ⟨w,ew,rw'⟩:=r.get h2
 have hl:=r.length
 have hn:=zK7
 have fin:EP X pins σ Q w s:=⟨z,H,I,rw',q⟩
 by_cases h0:0<=i
 . have hj:i.toNat=j:=by
     rw[seqIndex_of h0 h5] at h1
     exact Option.some.inj h1
   exact item_listR pl.isList h0 (by omega) (by rw[hj];simpa using ew) fin hs
 . have hj:(i+(its.toArray.size:Int)).toNat=j:=by
     rw[seqIndex_neg (by omega) h4] at h1
     rw[List.size_toArray,<-hl]
     exact Option.some.inj h1
   exact subscriptTail_builtinR (x:=w) pl.isList.typeIs slot_list_getitem.lookup
     (wpAny_getItem_list_neg (Q:=fun r s'=>r=w/\EP X pins σ Q r s') pl.isList (by omega) (by rw[List.size_toArray]<;>omega) (by omega) (by rw[hj];simpa using ew) ⟨rfl,fin⟩) hs
theorem zf4:IxR X (rIxT X.K):=by
 intro value slice pins s σ H x y v u Q I rx ry h hs
 obtain ⟨p,xs,i,z,rfl,rfl,hq,he,q⟩:=h
 cases rx
 obtain ⟨t,rfl⟩:=ry
 obtain ⟨its,r,pl,hz⟩:=I.tuple hq
 obtain ⟨j,h1,h2,h3,h4,h5⟩:=zV8 he
 obtain ⟨w,ew,rw'⟩:=r.get h2
 have hl:=r.length
 have hn:=zK7
 have fin:EP X pins σ Q w s:=⟨z,H,I,rw',q⟩
 exact subscriptTail_builtinR (x:=w) pl.typeIs slot_tuple_getitem.lookup
   (getItem_tuple (j:=j) (Q:=fun r s'=>r=w/\EP X pins σ Q r s') pl (by omega) (by omega) (by rw[List.size_toArray,<-hl];exact h1) (by simpa using ew) ⟨rfl,fin⟩) hs
theorem ix_str:IxR X rIxS:=by
 intro value slice pins s σ H x y v u Q I rx ry h hs
 obtain ⟨z,i,c,rfl,rfl,hz,he,q⟩:=h
 obtain ⟨t,rfl⟩:=rx
 obtain ⟨t',rfl⟩:=ry
 obtain ⟨j,h1,h2,h3,h4,h5⟩:=zV8 he
 have hl:z.cps.toList.length=z.length:=by simp[Str.length]
 rw[hl] at h1 h4 h5
 have hn:=zK7
 exact tail_any (typeIs_str s z t) slot_str_getitem.lookup (getItem_str (c:=c) (by
   have e1:decide (i < -(2 ^ 63:Int))=false:=decide_eq_false (by omega)
   have e2:decide (i≥2 ^ 63)=false:=decide_eq_false (by omega)
   rw[e1,e2,Bool.or_false]) (by rw[h1];simpa using h2) ⟨.str ⟨#[c]⟩,H,I.tok _,⟨_,rfl⟩,q⟩) hs
noncomputable def rIx (K:W.Frag):R2:=fun x y H Q=>rIxL K x y H Q\/rIxT K x y H Q\/rIxS x y H Q
theorem zw5:IxR X (rIx X.K):=zd4.or (zf4.or ix_str)
theorem mapSeq_set (its:List Value) (n j:Nat) (u:Value):Obj.mapSeq (·.setIfInBounds j u) { cls:=.type "list",data:=.seq its.toArray n } = { cls:=.type "list",data:=.seq (its.set j u).toArray n }:=by
 simp[Obj.mapSeq]
theorem Inv.lst {pins:List (Addr×Obj)} {σ:St} {H:Hp} {s:Shared} {p:Addr} {xs:List V} (I:Inv X pins σ H s) (h:H p=some (.lst xs)) :
   ∃ (its:List Value) (n:Nat),Vals xs its/\s.heap.get? p=some { cls:=.type "list",data:=.seq its.toArray n }/\xs.length<=sizeLine:=by
 obtain ⟨z,its,n,r,e⟩:=I.hok p _ h
 exact⟨its,n,r,e,z⟩
theorem Inv.lstUpd {pins:List (Addr×Obj)} {σ:St} {H:Hp} {s:Shared} {p:Addr} {xs ys:List V} {its its':List Value} {n n':Nat} {f:Obj->Obj} (I:Inv X pins σ H s) (h:H p=some (.lst xs))
   (ho:s.heap.get? p=some { cls:=.type "list",data:=.seq its.toArray n }) (hf:f { cls:=.type "list",data:=.seq its.toArray n } = { cls:=.type "list",data:=.seq its'.toArray n' }) (r:Vals ys its') (hz:ys.length<=sizeLine) (t:Nat) :
   Inv X pins σ (upd H p (.lst ys)) { s with heap:=s.heap.update p f,toks:=t }:=by
 have e:(s.heap.update p f).get? p=some { cls:=.type "list",data:=.seq its'.toArray n' }:=by
   rw[Heap.get?_update_self f ho (by rw[hf]<;>rfl),hf]
 refine I.write (x:=p) (e:=p) (by rw[h];trivial) (.inl rfl) (fun b u hb q=>(Heap.get?_update_other _ _ (Ne.symm hb)).trans q) ⟨_,e⟩ ?_
 exact⟨hz,its',n',r,e⟩
noncomputable def rSetL:V->V->V->Hp->(Hp->Prop)->Prop:=fun o i v H Q=>∃ p xs k j,o = .ref p/\i = .int k/\H p=some (.lst xs)/\ixN xs.length k=some j/\Q (upd H p (.lst (xs.set j v)))
theorem set_list:PSet X rSetL:=by
 intro pins s σ H o i v ov iv u Q I ro ri rv h
 obtain ⟨p,xs,k,j,rfl,rfl,hp,hj,q⟩:=h
 cases ro
 obtain ⟨t,rfl⟩:=ri
 obtain ⟨its,n,r,ho,hz⟩:=I.lst hp
 obtain ⟨h1,h2,h3,h4⟩:=yb7 hj
 have hl:=r.length
 have hn:=zK7
 have I':Inv X pins σ (upd H p (.lst (xs.set j v))) { s with heap:=s.heap.update p (Obj.mapSeq (·.setIfInBounds j u)) } :=
   I.lstUpd hp ho (mapSeq_set its n j u) (r.set rv j) (by rw[List.length_set];exact hz) s.toks
 by_cases h0:0<=k
 . have hk:k.toNat=j:=by
     rw[seqIndex_of h0 h4] at h1
     exact Option.some.inj h1
   exact W.ki_setAt ho h0 (by omega) (by rw[List.size_toArray,<-hl];exact h4) (by rw[hk];exact⟨_,I',q⟩)
 . have hk:(k+(its.toArray.size:Int)).toNat=j:=by
     rw[seqIndex_neg (by omega) h3] at h1
     rw[List.size_toArray,<-hl]
     exact Option.some.inj h1
   exact W.ki_setBack ho (by omega) (by rw[List.size_toArray,<-hl];exact h3) (by omega) (by rw[hk];exact⟨_,I',q⟩)
theorem slice_bounds (lo hi:Option Int) (n:Nat):(sliceBounds lo hi none n).1=((HT.sIx n 0 lo:Nat):Int)/\(sliceBounds lo hi none n).2.1=((HT.sIx n n hi:Nat):Int)/\(sliceBounds lo hi none n).2.2=1:=by
 refine⟨?_,?_,rfl⟩
 . cases lo with
   | none=>simp[sliceBounds,HT.sIx]
   | some i =>
     simp only[sliceBounds,HT.sIx,Option.getD_none,show (1:Int)>0 by decide,if_true]
     by_cases h:i<0
     . simp only[h,if_true]<;>omega
     . simp only[h,if_false]<;>omega
 . cases hi with
   | none=>simp[sliceBounds,HT.sIx]
   | some i =>
     simp only[sliceBounds,HT.sIx,Option.getD_none,show (1:Int)>0 by decide,if_true]
     by_cases h:i<0
     . simp only[h,if_true]<;>omega
     . simp only[h,if_false]<;>omega
theorem slicePick_cut (its:List Value) (lo hi:Option Int):slicePick its.toArray lo hi none=((its.drop (HT.sIx its.length 0 lo)).take (HT.sIx its.length its.length hi-HT.sIx its.length 0 lo)).toArray:=by
 obtain ⟨h1,h2,h3⟩:=slice_bounds lo hi its.toArray.size
 unfold slicePick
 rw[h1,h2,h3]
 simp only[sliceRange_one,pick_run,List.size_toArray]<;>rfl
noncomputable def rSlL (K:W.Frag):V->Option Int->Option Int->Hp->VK->Prop:=fun x lo hi H Q=>∃ a xs,x = .ref a/\SqL K H a xs/\∀ p,H p=none->Q (.ref p) (upd H p (.lst (cutV xs lo hi)))
theorem zN3:SlR X (rSlL X.K):=by
 intro pins s σ H x v vl vu lo hi sl Q I rx hs pl pu h
 obtain ⟨a,xs,rfl,hx,q⟩:=h
 cases rx
 obtain ⟨its,r,ht,hz⟩:=I.list hx
 have hlen:=r.length
 refine⟨"list",_,slot_list_getitem.lookup,ht.isList.typeIs,?_⟩
 refine wpAny_getItem_list_slice ht.isList hs pl pu .none (by simp) ?_ (by rw[List.size_toArray]<;>omega)
 rw[slicePick_cut,<-hlen]
 refine⟨.ref s.heap.objs.size,_,I.laid (t':=s.toks) (o:=.lst (cutV xs lo hi)) (fun b ob q=>Heap.get?_push_of_some _ q) (Nat.le_refl _) ?_,rfl,q _ (I.hok.fresh (Nat.le_refl _))⟩
 exact⟨Nat.le_trans (zl6 xs lo hi) hz,_,0,(r.drop (HT.sIx xs.length 0 lo)).take (HT.sIx xs.length xs.length hi-HT.sIx xs.length 0 lo),Heap.get?_push_size _ rfl⟩
theorem zc1:zs4 X (.builtin "len") (fun xs H Q=>∃ p ys,xs=[.ref p]/\(SqL X.K H p ys\/SqT X.K H p ys)/\Q (.int ys.length) H):=by
 intro pins s σ H xs us Q I r h
 obtain ⟨p,ys,rfl,hq,q⟩:=h
 obtain ⟨u,rfl,rx⟩:=zB0 r
 cases rx
 have hn:=zK7
 rcases hq with hq | hq
 . obtain ⟨its,r',pl,hz⟩:=I.list hq
   have hlen:=r'.length
   exact Calls.call_len_list pl.isList (by simp only[List.size_toArray]<;>omega) ⟨.int ys.length,H,I.tok _,⟨s.toks+1,by rw[List.size_toArray,hlen]⟩,q⟩
 . obtain ⟨its,r',pl,hz⟩:=I.tuple hq
   have hlen:=r'.length
   exact len_tuple pl (by simp only[List.size_toArray]<;>omega) ⟨.int ys.length,H,I.tok _,⟨s.toks+1,by rw[List.size_toArray,hlen]⟩,q⟩
theorem zH3:zs4 X (.builtin "len") (fun xs H Q=>∃ z,xs=[.str z]/\z.length<=sizeLine/\Q (.int z.length) H):=by
 intro pins s σ H xs us Q I r h
 obtain ⟨z,rfl,hz,q⟩:=h
 obtain ⟨u,rfl,t,rfl⟩:=zB0 r
 have hn:=zK7
 exact len_str (by omega) ⟨.int z.length,H,I.tok _,⟨_,rfl⟩,q⟩
theorem zH4:zs4 X (.type "list") (fun xs H Q=>∃ p ys,xs=[.ref p]/\(SqL X.K H p ys\/SqT X.K H p ys)/\∀ l,H l=none->Q (.ref l) (upd H l (.lst ys))):=by
 intro pins s σ H xs us Q I r h
 obtain ⟨p,ys,rfl,hq,q⟩:=h
 obtain ⟨u,rfl,rx⟩:=zB0 r
 cases rx
 have fin:∀ (its:List Value),Vals ys its->ys.length<=sizeLine->∀ (h':Heap) (c':Nat),(∀ b o',s.heap.get? b=some o'->h'.get? b=some o') →
     h'.get? s.heap.objs.size=some { cls:=.type "list",dict:=none,data:=.seq its.toArray c',slots:=#[] }->EP X pins σ Q (.ref s.heap.objs.size) { s with heap:=h' }:=fun its r' hz h' c' kp e =>
   ⟨.ref s.heap.objs.size,_,I.laid (t':=s.toks) kp (Nat.le_refl _) (show zk1 X.prog X.w _ h' _ (.lst ys) from ⟨hz,its,c',r',e⟩),rfl,q _ (I.hok.fresh (Nat.le_refl _))⟩
 rcases hq with hq | hq
 . obtain ⟨its,r',pl,hz⟩:=I.list hq
   have hlen:=r'.length
   obtain ⟨o,ho,hc,n,hd⟩:=pl.isList
   exact call_list_seq p (.inl rfl) ho hc hd (fun h' c' kp e=>fin its r' hz h' c' kp e) (by simp only[List.size_toArray]<;>omega)
 . obtain ⟨its,r',pl,hz⟩:=I.tuple hq
   have hlen:=r'.length
   obtain ⟨o,ho,hc,n,hd⟩:=pl
   exact call_list_seq p (.inr rfl) ho hc hd (fun h' c' kp e=>fin its r' hz h' c' kp e) (by simp only[List.size_toArray]<;>omega)
theorem zn4:zs4 X (.type "tuple") (fun xs H Q=>∃ p ys,xs=[.ref p]/\((SqL X.K H p ys/\∀ l,H l=none->Q (.ref l) (upd H l (.tup ys)))\/(SqT X.K H p ys/\Q (.ref p) H))):=by
 intro pins s σ H xs us Q I r h
 obtain ⟨p,ys,rfl,h⟩:=h
 obtain ⟨u,rfl,rx⟩:=zB0 r
 cases rx
 rcases h with ⟨hq,q⟩ | ⟨hq,q⟩
 . obtain ⟨its,r',pl,hz⟩:=I.list hq
   have hlen:=r'.length
   refine call_tuple_list pl.isList (fun h' kp=>?_) (by simp only[List.size_toArray]<;>omega)
   have I1:Inv X pins σ H { s with heap:=h' }:=I.kept (t':=s.toks) kp
   have I2:Inv X pins σ (upd H h'.objs.size (.tup ys)) { s with heap:=h'.push { cls:=.type "tuple",data:=.seq its.toArray } } :=
     I1.laid (t':=s.toks) (fun b o e=>Heap.get?_push_of_some _ e) (Nat.le_refl _) (show zk1 X.prog X.w _ _ _ (.tup ys) from ⟨hz,its,r',TupD.new _ _⟩)
   exact⟨.ref h'.objs.size,_,I2,rfl,q _ (I1.hok.fresh (Nat.le_refl _))⟩
 . obtain ⟨its,r',pl,hz⟩:=I.tuple hq
   exact call_tuple_same pl ⟨.ref p,H,I,rfl,q⟩
noncomputable def tyV (K:W.Frag) (T:String) (x:V) (H:Hp):Prop:=match x with
 | .str _=>T = "str"
 | .int _=>T = "int"
 | .ref p=>(T = "list"/\∃ xs,SqL K H p xs)\/(T = "tuple"/\∃ o,K.lookup p=some o/\o.cls = .type "tuple"/\o.dict=none) ∨
     (T = "dict"/\((∃ kvs,H p=some (.dK kvs))\/∃ kvs,H p=some (.dT kvs)))\/(T = "set"/\∃ S n,H p=some (.set S n))
 | _=>False
theorem yf0 {pins:List (Addr×Obj)} {σ:St} {H:Hp} {s:Shared} {T:String} {x:V} {v:Value} (I:Inv X pins σ H s) (r:RelV x v) (ty:tyV X.K T x H) :
   s.TypeIs v T/\∀ a,v = .ref a->∃ ob,s.heap.get? a=some ob/\ob.dict=none:=by
 cases x with
 | str z =>
   obtain ⟨t,rfl⟩:=r
   cases (show T = "str" from ty)
   exact⟨typeIs_str s z t,fun _ e=>nomatch e⟩
 | int i =>
   obtain ⟨t,rfl⟩:=r
   cases (show T = "int" from ty)
   exact⟨typeIs_int s i t,fun _ e=>nomatch e⟩
 | ref p =>
   cases r
   rcases ty with ⟨rfl,xs,hq⟩ | ⟨rfl,o,hk,hc,hd⟩ | ⟨rfl,hk⟩ | ⟨rfl,S,n,hk⟩
   . obtain ⟨its,_,pl,_⟩:=I.list hq
     refine⟨pl.isList.typeIs,fun a e=>?_⟩
     cases e
     obtain ⟨o,n,e,c,hd,_⟩:=pl
     exact⟨o,e,hd⟩
   . refine⟨⟨o,I.kIn p o hk,hc⟩,fun a e=>?_⟩
     cases e
     exact⟨o,I.kIn _ o hk,hd⟩
   . have z:∃ o,s.heap.get? p=some o/\o.ExactDict:=by
       rcases hk with ⟨kvs,hk⟩ | ⟨kvs,hk⟩
       . obtain ⟨_,_,_,_,o,_,_,e,ex,_⟩:=I.hok p _ hk
         exact⟨o,e,ex⟩
       . obtain ⟨_,_,_,_,o,_,_,e,ex,_⟩:=I.hok p _ hk
         exact⟨o,e,ex⟩
     obtain ⟨o,e,ex⟩:=z
     refine⟨⟨o,e,ex.1⟩,fun a e2=>?_⟩
     cases e2
     exact⟨o,e,ex.2.1⟩
   . obtain ⟨o,_,_,_,e,ex,_⟩:=I.hok p _ hk
     refine⟨⟨o,e,ex.1⟩,fun a e2=>?_⟩
     cases e2
     exact⟨o,e,ex.2.1⟩
 | _=>exact False.elim ty
noncomputable def tBM0 (K:W.Frag) (T:String) (r:V->List V->Hp->VK->Prop) (to:TE):TE:=fun σ H Q=>to σ H fun x H1=>tyV K T x H1/\r x [] H1 Q
noncomputable def tBM (K:W.Frag) (T:String) (r:V->List V->Hp->VK->Prop) (to:TE) (t:TA):TE:=fun σ H Q=>to σ H fun x H1=>tyV K T x H1/\t σ H1 fun xs H2=>r x xs H2 Q
variable {o e:Expr} {es:List Expr} {to:TE} {t:TA} {name:Str} {apos cpos:Pos} {T id:String} {r:V->List V->Hp->VK->Prop}
theorem yf1 (pa:PlainAttrs T) (slot:Slot T name id) (hty:typeOf (.builtin id)=pure (.type "method_descriptor")) (hm:MtR X id r) (ho:PE X o to)
   (hbase:attributeBase o name X.env (eval o X.env)=eval o X.env:=by rfl) (hline:(apos.endLine == cpos.line)=true:=by rfl):PE X (.Call (.Attribute o name apos) [] [] cpos) (tBM0 X.K T r to):=by
 intro pins s σ H Q I h
 refine wpAny_Call_method0_late hbase hline (thn (ho pins s σ H _ I h) fun v s1 ⟨x,H1,I1,r1,ty,q1⟩=>?_)
 obtain ⟨h1,h2⟩:=yf0 I1 r1 ty
 exact⟨T,id,pa,slot,hty,h1,h2,Calls.callWith_builtin rfl (PySem.evalArgs_none (hm pins s1 σ H1 x [] v [] Q I1 r1 .nil q1))⟩
theorem zl7 (pa:PlainAttrs T) (slot:Slot T name id) (hty:typeOf (.builtin id)=pure (.type "method_descriptor")) (hm:MtR X id r) (ho:PE X o to) (ha:PA X (e::es) t)
   (hbase:attributeBase o name X.env (eval o X.env)=eval o X.env:=by rfl)
   (hfew:((backTo cpos (starEach (e::es) X.env)).all (fun x=>!x.1) && (backToKw cpos (keywordEach [] X.env)).all (fun x=>x.1.isSome)
     && decide ((e::es).length+([]:List Keyword).length+(if ([]:List Keyword).isEmpty then 0 else 1)<30))=true:=by rfl)
   (hline:(apos.endLine == cpos.line)=true:=by rfl) (hs:starEach (e::es) X.env=(false,eval e X.env)::starEach es X.env:=by rfl) (hplain:(backTo cpos (starEach es X.env)).any (·.1)=false:=by rfl) :
   PE X (.Call (.Attribute o name apos) (e::es) [] cpos) (tBM X.K T r to t):=by
 intro pins s σ H Q I h
 refine wpAny_Call_method_late hbase hfew hline rfl (thn (ho pins s σ H _ I h) fun v s1 ⟨x,H1,I1,r1,ty,q1⟩=>?_)
 obtain ⟨h1,h2⟩:=yf0 I1 r1 ty
 refine⟨T,id,pa,slot,hty,h1,h2,?_⟩
 have hA:=ha cpos pins s1 σ H1 _ I1 q1
 rw[hs] at hA ⊢
 refine Calls.callWith_builtin (by show (false || (backTo cpos (starEach es X.env)).any (·.1))=false;rw[hplain]<;>rfl) (Calls.evalArgs_plain ?_)
 exact thn hA fun us s2 ⟨vs,H2,I2,r2,q2⟩=>hm pins s2 σ H2 x vs v us Q I2 r1 r2 q2
/- xs.append(e),list.index on a module's tuple .. are MtR facts of 06m -/
end
end L2
namespace L2
open PySem PySem.Spec PyProof.Rows
noncomputable def MtM (X:Cx) (id:String) (r:V->List V->Hp->VK->Prop):Prop :=
 ∀ (pins:List (Addr×Obj)) (s:Shared) (σ:St) (H:Hp) (x:V) (xs:List V) (v:Value) (us:List Value) (Q:VK),Inv X pins σ H s->RelV x v->Vals xs us->r x xs H Q →
   wpAny (model X.prog X.w) X.A (call (.builtin id) (v::us)) (EP X pins σ Q) X.xe s
theorem Vals.one:∀ {x:V} {us:List Value},Vals [x] us->∃ u,us=[u]/\RelV x u
 | _,_,.cons r .nil=>⟨_,rfl,r⟩
theorem Vals.zero:∀ {us:List Value},Vals [] us->us=[]
 | _,.nil=>rfl
theorem Vals.dropLast {xs:List V} {us:List Value} (h:Vals xs us):Vals xs.dropLast us.dropLast:=by
 induction h with
 | nil=>exact .nil
 | cons r t ih =>
   cases t with
   | nil=>exact .nil
   | cons q t'=>exact .cons r ih
theorem Vals.rep {xs:List V} {us:List Value} (h:Vals xs us):∀ k:Nat,Vals (List.replicate k xs).flatten (List.replicate k us).flatten
 | 0=>.nil
 | k+1=>by
   rw[List.replicate_succ,List.replicate_succ,List.flatten_cons,List.flatten_cons]
   exact Vals.append h (Vals.rep h k)
theorem erase_last {α:Type} (l:List α):l.eraseIdx (l.length-1)=l.dropLast:=by
 induction l with
 | nil=>rfl
 | cons a r ih =>
   cases r with
   | nil=>rfl
   | cons b r =>
     have e:(a::b::r).length-1=((b::r).length-1)+1:=by
       have h1:(a::b::r).length=r.length+2:=rfl
       have h2:(b::r).length=r.length+1:=rfl
       omega
     rw[e,List.eraseIdx_cons_succ,ih]
     all_goals rfl
theorem zR9 (its:List Value):∀ (k:Nat) (acc:List Value),
   List.foldl (fun x1 x2=>x1++x2) acc.toArray (List.replicate k its.toArray)=(acc++(List.replicate k its).flatten).toArray
 | 0,acc=>by simp
 | k+1,acc=>by
   have e:acc.toArray++its.toArray=(acc++its).toArray:=by simp
   have e2:(acc++its)++(List.replicate k its).flatten=acc++(List.replicate (k+1) its).flatten:=by
     rw[List.replicate_succ,List.flatten_cons,List.append_assoc]
   rw[<-e2,<-zR9 its k (acc++its),<-e,List.replicate_succ,List.foldl_cons]
section
variable {X:Cx} {pins:List (Addr×Obj)} {σ:St} {H:Hp} {s:Shared} {l b:Addr} {xs ys zs:List V}
theorem Inv.lset {its its':List Value} {n:Nat} {f:Array Value->Array Value} {t':Nat} (I:Inv X pins σ H s) (hH:H l=some (.lst xs))
   (e:s.heap.get? l=some { cls:=.type "list",data:=.seq its.toArray n }) (hf:f its.toArray=its'.toArray) (hv:Vals ys its') (hz:ys.length<=sizeLine) :
   Inv X pins σ (upd H l (.lst ys)) { s with heap:=s.heap.update l (Obj.mapSeq f),toks:=t' }:=by
 have q:=PySem.IsL.update e f
 rw[hf] at q
 refine I.write (x:=l) (e:=l) (by rw[hH];exact trivial) (.inl rfl) (fun b' u hb hu=>(Heap.get?_update_other s.heap (Obj.mapSeq f) (Ne.symm hb)).trans hu) ⟨_,q⟩ ?_
 exact⟨hz,its',_,hv,q⟩
theorem Inv.lnew {its:List Value} {t':Nat} (I:Inv X pins σ H s) (hv:Vals ys its) (hz:ys.length<=sizeLine) :
   Inv X pins σ (upd H s.heap.objs.size (.lst ys)) { s with heap:=s.heap.push { cls:=.type "list",data:=.seq its.toArray },toks:=t' } :=
 I.laid (fun _ _ q=>Heap.get?_push_of_some _ q) (Nat.le_refl _) ⟨hz,its,0,hv,Heap.get?_push_size _ rfl⟩
theorem Inv.fresh (I:Inv X pins σ H s):H s.heap.objs.size=none:=I.hok.fresh (Nat.le_refl _)
theorem Inv.lstM (I:Inv X pins σ H s) (hH:H l=some (.lst xs)):xs.length<=sizeLine/\∃ (its:List Value) (n:Nat),Vals xs its/\xs.length=its.length/\s.heap.get? l=some { cls:=.type "list",data:=.seq its.toArray n }:=by
 obtain ⟨z,its,n,r,e⟩:=I.hok l _ hH
 exact⟨z,its,n,r,r.length,e⟩
theorem zX5 {n:Nat} (h:n<=sizeLine):Builtin.List.listTooLong n=false:=by
 unfold Builtin.List.listTooLong
 exact decide_eq_false (by omega)
end
section
variable {X:Cx}
noncomputable def rAppend:V->List V->Hp->VK->Prop:=fun x vs H Q=>∃ l xs y,x = .ref l/\vs=[y]/\H l=some (.lst xs)/\xs.length<sizeLine/\Q .non (upd H l (.lst (xs++[y])))
theorem zk3:MtM X "list.append" rAppend:=by
 intro pins s σ H x vs v us Q I rx rv h
 obtain ⟨l,xs,y,rfl,rfl,hH,hz,q⟩:=h
 cases rx
 obtain ⟨u,rfl,ru⟩:=rv.one
 obtain ⟨z,its,n,r,hl,e⟩:=I.lstM hH
 refine call_meets F.slot_list_append ⟨_,e,rfl⟩ F.entry_list_append (F.args_list_append_2 _ _) (PySem.list_append l its.toArray n u (by rw[List.size_toArray];omega)) ⟨e,?_⟩
 refine⟨.non,_,I.lset (its':=its++[u]) hH e (by simp) (r.append (.cons ru .nil)) ?_,rfl,q⟩
 rw[List.length_append,List.length_singleton]
 omega
noncomputable def rExtend:V->List V->Hp->VK->Prop:=fun x vs H Q=>∃ l b xs zs,x = .ref l/\vs=[.ref b]/\H l=some (.lst xs)/\H b=some (.lst zs)/\xs.length+zs.length<=sizeLine/\Q .non (upd H l (.lst (xs++zs)))
theorem mt_extend:MtM X "list.extend" rExtend:=by
 intro pins s σ H x vs v us Q I rx rv h
 obtain ⟨l,b,xs,zs,rfl,rfl,hH,hB,hz,q⟩:=h
 cases rx
 obtain ⟨u,rfl,ru⟩:=rv.one
 cases ru
 obtain ⟨z,its,n,r,hl,e⟩:=I.lstM hH
 obtain ⟨z2,its2,n2,r2,hl2,e2⟩:=I.lstM hB
 have hsz:its.toArray.size+its2.toArray.size<=sizeLine:=by rw[List.size_toArray,List.size_toArray];omega
 have hlong:¬ (!its.toArray.isEmpty && Builtin.List.listTooLong (its.toArray.size+its2.toArray.size))=true:=by
   rw[zX5 hsz,Bool.and_false]
   exact Bool.false_ne_true
 refine call_meets F.slot_list_extend ⟨_,e,rfl⟩ F.entry_list_extend (F.args_list_extend_2 _ _)
   (AutoSeq1.list_extend_list_list_0 l its.toArray n b its2.toArray n2 hlong (by rw[List.size_toArray];omega) (by omega)) ⟨e,e2,?_⟩
 refine⟨.non,_,I.lset (its':=its++its2) hH e (by simp) (r.append r2) ?_,rfl,q⟩
 rw[List.length_append]
 omega
noncomputable def rPop:V->List V->Hp->VK->Prop:=fun x vs H Q=>∃ l xs y,x = .ref l/\vs=[]/\H l=some (.lst xs)/\xs[xs.length-1]?=some y/\Q y (upd H l (.lst xs.dropLast))
theorem yf2:MtM X "list.pop" rPop:=by
 intro pins s σ H x vs v us Q I rx rv h
 obtain ⟨l,xs,y,rfl,rfl,hH,hy,q⟩:=h
 cases rx
 have hus:=rv.zero
 subst hus
 obtain ⟨z,its,n,r,hl,e⟩:=I.lstM hH
 obtain ⟨u,hu,ru⟩:=r.get hy
 have hy':its.toArray[its.toArray.size-1]?=some u:=by
   show its.toArray[its.length-1]?=some u
   rw[<-Array.getElem?_toList,<-hl]
   exact hu
 refine call_meets F.slot_list_pop ⟨_,e,rfl⟩ F.entry_list_pop (F.args_list_pop_1 _) (MeetsSeq.list_pop_last l its.toArray n u hy' (by rw[List.size_toArray];omega)) ⟨e,?_⟩
 refine⟨y,_,I.lset (its':=its.dropLast) hH e ?_ r.dropLast ?_,ru,q⟩
 . show its.toArray.eraseIdxIfInBounds (its.toArray.size-1)=its.dropLast.toArray
   rw[List.size_toArray,List.eraseIdxIfInBounds_toArray,erase_last]
 . rw[List.length_dropLast]
   omega
noncomputable def rCat:R2:=fun x y H Q=>∃ l b xs zs,x = .ref l/\y = .ref b/\H l=some (.lst xs)/\H b=some (.lst zs)/\xs.length+zs.length<=sizeLine/\∀ p,H p=none->Q (.ref p) (upd H p (.lst (xs++zs)))
theorem yf3:OpR X (binaryOp .Add) rCat:=by
 intro pins s σ H x y v u Q I rx ry h
 obtain ⟨l,b,xs,zs,rfl,rfl,hH,hB,hz,q⟩:=h
 cases rx
 cases ry
 obtain ⟨z,its,n,r,hl,e⟩:=I.lstM hH
 obtain ⟨z2,its2,n2,r2,hl2,e2⟩:=I.lstM hB
 refine PySem.P.add_list e e2 ?_ (by rw[List.size_toArray,List.size_toArray];omega)
 have ea:its.toArray++its2.toArray=(its++its2).toArray:=by simp
 rw[ea]
 exact⟨.ref _,_,I.lnew (t':=s.toks) (r.append r2) (by rw[List.length_append];omega),rfl,q _ I.fresh⟩
noncomputable def rRep:R2:=fun x y H Q=>∃ l k xs,x = .ref l/\y = .int k/\H l=some (.lst xs)/\-(2 ^ 63)<=k/\k<2 ^ 63/\xs.length*k.toNat<=sizeLine ∧
 ∀ p,H p=none->Q (.ref p) (upd H p (.lst (List.replicate k.toNat xs).flatten))
theorem zV9 {α:Type} (xs:List α) (k:Nat):(List.replicate k xs).flatten.length=k*xs.length:=by
 induction k with
 | zero=>simp
 | succ k ih=>rw[List.replicate_succ,List.flatten_cons,List.length_append,ih,Nat.succ_mul,Nat.add_comm]
theorem zW0:OpR X (binaryOp .Mult) rRep:=by
 intro pins s σ H x y v u Q I rx ry h
 obtain ⟨l,k,xs,rfl,rfl,hH,h1,h2,hz,q⟩:=h
 cases rx
 obtain ⟨t,rfl⟩:=ry
 obtain ⟨z,its,n,r,hl,e⟩:=I.lstM hH
 have hlen:its.toArray.size*k.toNat<=sizeLine:=by rw[List.size_toArray,<-hl];exact hz
 have hcap:¬ its.toArray.size*k.toNat>(2 ^ 63-1) / 8:=by
   have:(sizeLine:Nat)<=(2 ^ 63-1) / 8:=by decide
   omega
 have hfit:¬ (!Builtin.List.listFitsIndex k)=true:=by
   rw[fitsIndex_both h1 h2]
   exact Bool.false_ne_true
 have hlong:¬ Builtin.List.listTooLong (its.toArray.size*k.toNat)=true:=by
   rw[zX5 hlen]
   exact Bool.false_ne_true
 have hnew:List.foldl (fun x1 x2=>x1++x2) #[] (List.replicate (if its.toArray.isEmpty=true then 0 else k.toNat) its.toArray)=(List.replicate k.toNat its).flatten.toArray:=by
   have f0:∀ m:Nat,List.foldl (fun x1 x2=>x1++x2) #[] (List.replicate m its.toArray)=(List.replicate m its).flatten.toArray:=fun m=>by
     have:=zR9 its m []
     rw[List.nil_append] at this
     exact this
   rw[f0]
   cases its with
   | nil=>simp
   | cons a r'=>rw[if_neg (by simp)]
 refine wpAny_binaryOp_repeat_ref (T:="list") (U:="int") (by decide) ⟨_,e,rfl⟩ (fun s'=>typeIs_int s' k t) noFill_list_mul F.fills_int_mul F.slot_int_rmul repeat_list F.slot_int_index.lookup
   (call_meets F.slot_int_rmul (typeIs_int s k t) F.entry_int_rmul (F.args_int_rmul_2 _ _) (int___rmul___int_list k t l its.toArray n)
     ⟨e,rfl,⟨_,e,rfl⟩,call_meets F.slot_list_mul ⟨_,e,rfl⟩ F.entry_list_mul (F.args_list_mul_2 _ _) (AutoListH.list___mul___list_int_3 l its.toArray n k t hfit hcap hlong) ⟨e,?_⟩⟩)
 rw[hnew]
 exact⟨.ref _,_,I.lnew (t':=s.toks) (r.rep k.toNat) (by rw[zV9,Nat.mul_comm];exact hz),rfl,q _ I.fresh⟩
end
section
variable {prog:Program} {w:World} {A:Around} {E:Value->Shared->Prop} {s:Shared}
end
section
variable {X:Cx}
end
end L2
namespace Att
open PySem PySem.W PySem.Calls PyProof.Rows
theorem ints_of_wellAll {P:Params} {h:Heap}:∀ (ns:List Int) (vs:List Value),WellAll P h vs (ns.map WData.int)->IntsAre vs ns:=by
 intro ns
 induction ns with
 | nil =>
   intro vs w
   rw[List.map_nil] at w
   cases w
   exact .nil
 | cons n ns ih =>
   intro vs w
   rw[List.map_cons] at w
   cases w with
   | cons a b =>
     cases a
     exact .cons _ _ (ih _ b)
theorem script_of {l:OpenLaw} {n:Nat} (hn:l.most=some n) {P:Params} {h:Heap} {args:List WData} {vals:List Value}
   (hpre:l.row.toRowW.claim.pre args=true) (hwl:WellAll P h vals args) :
   ∃ a vs ns,vals=[Value.ref a]/\args=[WData.list (ns.map WData.int)]/\h.get? a=some { cls:=.type "list",data:=.seq vs.toArray }/\IntsAre vs ns/\ns.length<=n:=by
 have hsh:WShape.hasAll [] args [.list .int]=true:=(pre_splitW hpre).1
 have hc:l.pre.holds [] { args:=args }=true:=(pre_splitW hpre).2
 obtain ⟨d,r,rfl,h1,h2⟩:=hasAllW_cons hsh
 obtain rfl:=hasAllW_nil h2
 obtain ⟨xs,rfl,h3⟩:=hasW_list h1
 obtain ⟨ns,rfl⟩:=items_int h3
 have hlen:ns.length<=n:=by
   unfold OpenLaw.pre at hc
   have h4:(WTm.not (.lt (.lit (.int (n:Int))) (.len (.arg 0)))).holds [] { args:=[.list (ns.map .int)] }=true:=by
     have h4:=(holds_andW hc).1
     rw[hn] at h4
     exact h4
   have h5:=condW_of h4 (w_not (w_lt w_lit (w_len_list (w_arg rfl))))
   rw[List.length_map] at h5
   refine Nat.le_of_not_lt fun q=>?_
   have q':(n:Int)<((ns.length:Nat):Int):=by omega
   first
     | (rw[decide_eq_true q'] at h5;exact absurd h5 (by decide))
     | (simp at h5;omega)
 cases hwl with
 | cons w1 w2 =>
   cases w2
   cases w1 with
   | list ho hall=>exact⟨_,_,ns,rfl,rfl,ho,ints_of_wellAll ns _ hall,hlen⟩
theorem post_true (l:OpenLaw) (args:List WData):l.row.toRowW.claim.post args (.bool true) args=true :=
 postW_of (r:=l.row.toRowW) (X:=(true == true))
   (show WShape.has [] (.bool true) .bool=true by first | rfl | decide | simp[WShape.has,WShape.arms,WShape.armsAll])
   (show (WTm.eq .res (.lit (.bool true))).value [] { args:=args,res:=some (.bool true),after:=args }=some (.bool (true == true)) from w_eq_bool (w_res rfl) w_lit) rfl
theorem attach_call {l:OpenLaw} {n:Nat} {q:Program} {loose:List Str} {XP:(Str->Option Value)->Heap->Prop} {YP:World->Heap->Prop} {d:DefRec}
   (hn:l.most=some n) (hdf:d.params.defaults=[])
   (call:∀ (w:World) (s₀ s₁:Shared) (mg mb:Str->Option Value) (fa:Addr) (o:Obj) (pm cd doc:Value) (a:Addr) (vs:List Value) (ns:List Int),
     Ground q loose [] XP w s₀ mg mb s₁.heap->YP w s₁.heap →
     s₁.heap.get? fa=some o->o.data = .func (docDef d.name d.params d.body d.scope pm cd doc)->s₁.heap.CodeRec cd d.name->mg d.name=some (.ref fa) →
     s₁.heap.get? a=some { cls:=.type "list",data:=.seq vs.toArray }->IntsAre vs ns->ns.length<=n->s₁.gens = #[] →
     codeAny (model l.prog w) callerA (.call (.ref fa) ⟨[.ref a],[]⟩) (fun r s'=>r = .ok (.ret (.bool true))/\OldK s₁.heap s'.heap/\s'.os=s₁.os/\AllBare s'.gens) s₁) :
   WalkO q loose XP YP l.row.toRowW d [] (fun f vs=>PySem.call f vs):=by
 intro w s₀ s₁ mg mb G Y fa o pm cd doc dV kV ho hd hcd hD hmg hg args vals as hpre hlay hrd hwl hlo
 obtain rfl:dV = .none:=Dflts.none hD hdf
 obtain rfl:kV = .none:=Dflts.noKw hD
 obtain ⟨a,vs,ns,rfl,rfl,hobj,hints,hlen⟩:=script_of hn hpre hwl
 refine enter_call (codeAny_mono (call w s₀ s₁ mg mb fa o pm cd doc a vs ns G Y ho (fd_plain hd) hcd hmg hobj hints hlen hg) fun r s' hq=>?_)
 obtain ⟨rfl,h2,h3,h4⟩:=hq
 exact⟨.inl ⟨.bool true,.bool true,[],rfl,fun _=>rfl,.bool true,post_true l _,fun _=>⟨List.Pairwise.nil,fun _ hm=>(nomatch hm)⟩⟩,h2,h3,h4⟩
section
variable {prog:Program} {w:World} {A:Around} {E:Value->Shared->Prop} {s:Shared} {K:Frag}
end
end Att
namespace L2
open PySem PySem.Spec PyProof.Rows
theorem zS0:∀ {vs:List Value} {ns:List Int},IntsAre vs ns->Vals (ns.map V.int) vs
 | _,_,.nil=>.nil
 | _,_,.cons n t h=>.cons ⟨t,rfl⟩ (zS0 h)
noncomputable def Only (H:Hp):Prop:=∀ b,H b=none\/∃ o xs,H b=some (.frz o (.lst xs))
theorem law_call {P:Program} {w:World} {K:W.Frag} {mg mb:Str->Option Value} {CX:CXT} {k:Nat} {fa a:Addr} {fd:FuncData} {x:Str} {sp:Sp} {s₁:Shared} {vs:List Value} {ns:List Int}
   (KX:K.In s₁.heap) (hns:s₁.heap.Ns mainGlobals mg) (hb:s₁.heap.Ns builtinsNs mb) (hbb:∀ x:Str,x≠"__name__"->mb x=bootBuiltins x) (hlim:s₁.heap.NoLimit) (hg:s₁.gens = #[])
   (ha:s₁.heap.get? a=some { cls:=.type "list",data:=.seq vs.toArray }) (hi:IntsAre vs ns) (hl:ns.length<=sizeLine) (hr:Room k callerA)
   (F:∀ base:Heap,K.In base->base.Ns mainGlobals mg->FnOk P w K mg base CX k fa fd [x] sp) (hbind:∀ (s:Shared) (u:Value),BindsTo s fd ⟨[u],[]⟩ [(x,u)])
   (hsp:∀ H:Hp,Only H->SqL K H a (ns.map V.int)->sp [.ref a] H (fun v _=>v = .bl true) fun _ _ _=>False)
   (hCX:∀ H e s',CX [] H s₁ (fun _ _ _=>False) e s'->False) :
   codeAny (model P w) callerA (.call (.ref fa) ⟨[.ref a],[]⟩) (fun r s'=>r = .ok (.ret (.bool true))/\OldK s₁.heap s'.heap/\s'.os=s₁.os/\AllBare s'.gens) s₁:=by
 have rv:=zS0 hi
 have lenV:=hi.length
 have core:∀ H:Hp,Only H->SqL K H a (ns.map V.int)->HOk P w H s₁.heap->(∀ b,H b≠none->b=a)->(H a≠none->K.lookup a=none) →
     codeAny (model P w) callerA (.call (.ref fa) ⟨[.ref a],[]⟩) (fun r s'=>r = .ok (.ret (.bool true))/\OldK s₁.heap s'.heap/\s'.os=s₁.os/\AllBare s'.gens) s₁:=by
   intro H hO hS hok hA hK
   have base_of:∀ {b:Addr} {o:Obj},s₁.heap.get? b=some o->H b=none->(hidT s₁.heap H).get? b=some o:=fun e n=>hidT_get e n
   have noA:∀ {b:Addr} {o:Obj} {es:Array DictEntry} {ep:Nat},s₁.heap.get? b=some o->o.data = .dict es ep->H b=none:=fun {b o es ep} e d=>by
     cases q:H b with
     | none=>rfl
     | some u =>
       have e':b=a:=hA b (by rw[q];simp)
       subst e'
       rw[ha] at e;cases e
       have d':Data.seq vs.toArray _=Data.dict es ep:=d
       cases d'
   have nsK:∀ {b:Addr} {m:Str->Option Value},s₁.heap.Ns b m->(hidT s₁.heap H).Ns b m:=fun {b m} ⟨o,es,ep,e,d,r⟩=>⟨o,es,ep,base_of e (noA e d),d,r⟩
   have hKb:K.In (hidT s₁.heap H):=fun b o e=>base_of (KX b o e) (by
     cases q:H b with
     | none=>rfl
     | some u =>
       have e':b=a:=hA b (by rw[q];simp)
       subst e'
       rw[hK (by rw[q];simp)] at e;cases e)
   have hM:Mod K mg (hidT s₁.heap H):=⟨hKb,nsK hns,⟨mb,nsK hb,hbb⟩,let ⟨mc,h1,h2⟩:=hlim;⟨mc,nsK h1,h2⟩⟩
   have e0:Env0 P w K mg (hidT s₁.heap H) callerA [] s₁ H:=⟨rfl,hM,fun b o e=>of_hidT e,Nat.le_of_eq (hidT_size _ _),trivial,fun b hb=>absurd (show b∈([]:List Addr) from hb) (by simp),hok,.of_eq hg⟩
   refine codeAny_mono ((F _ hKb (nsK hns)).run callerA [] s₁ H ⟨[.ref a],[]⟩ [.ref a] [.ref a] _ _ hr e0 (hbind s₁ (.ref a)) (.cons rfl .nil) (hsp H hO hS)) fun r s' h=>?_
   cases r with
   | error e=>exact (hCX H e s' h).elim
   | ok fl =>
     cases fl with
     | next=>exact False.elim h
     | brk=>exact False.elim h
     | cont=>exact False.elim h
     | ret u =>
       obtain ⟨v,H',os,bare,un,hok',r',q⟩:=h
       have q':v = .bl true:=q
       subst q'
       obtain rfl:u=Value.bool true:=r'
       refine⟨rfl,OldK.of_keep fun b o e=>?_,os,bare⟩
       cases q:H b with
       | none=>exact un.keep b o e q (by intro z;exact absurd (show b∈([]:List Addr) from z) (by simp)) (by simp)
       | some u =>
         rcases hO b with z | ⟨ob,xs,z⟩
         . rw[q] at z;cases z
         . have z2:=un.frzs b ob _ z
           obtain ⟨e1,_⟩:=hok b _ z
           obtain ⟨e2,_⟩:=hok' b _ z2
           rw[e] at e1;cases e1
           exact e2
 cases hk:K.lookup a with
 | some o =>
   have e:=KX a o hk
   rw[ha] at e
   cases e
   refine core (fun _=>none) (fun _=>.inl rfl) (.inr ⟨_,vs.toArray,_,hk,rfl,rfl,rfl,by rw[List.size_toArray,lenV];exact hl,by simpa using rv⟩) (fun b u z=>by have z':(none:Option HO)=some u:=z;cases z') (fun b z=>absurd rfl z) fun z=>absurd rfl z
 | none =>
   refine core (fun b=>if b=a then some (.frz { cls:=.type "list",data:=.seq vs.toArray } (.lst (ns.map V.int))) else none) (fun b=>?_) (.inl (.inr ⟨{ cls:=.type "list",data:=.seq vs.toArray },if_pos rfl⟩)) (fun b u z=>?_) (fun b z=>?_) fun _=>hk
   . by_cases hb:b=a
     . exact .inr ⟨_,_,if_pos hb⟩
     . exact .inl (if_neg hb)
   . by_cases hb:b=a
     . have z':=(if_pos hb).symm.trans z
       cases z'
       subst hb
       exact⟨ha,by rw[List.length_map];exact hl,vs,_,rv,ha⟩
     . have z':=(if_neg hb).symm.trans z
       cases z'
   . by_cases hb:b=a
     . exact hb
     . exact absurd (if_neg hb) z
end L2
namespace L2
open PySem PySem.Spec PyProof.Rows
theorem walk_of {l:W.OpenLaw} {n k:Nat} {q:Program} {loose:List Str} {XP:(Str->Option Value)->Heap->Prop} {YP:World->Heap->Prop} {d:DefRec} {K:Params->W.Frag} {CX:World->CXT} {sp:World->Sp} {x:Str}
   (hn:l.most=some n) (hn2:n<=sizeLine) (hdf:d.params.defaults=[]) (hr:Room k callerA)
   (hY:∀ (w:World) (h:Heap),YP w h->(K w.params).In h)
   (F:∀ (w:World) (mg:Str->Option Value) (fa:Addr) (h:Heap),(K w.params).In h->h.Ns mainGlobals mg->mg d.name=some (.ref fa) →
     ∃ fd:FuncData,(∀ (s:Shared) (u:Value),BindsTo s fd ⟨[u],[]⟩ [(x,u)]) ∧
       ∀ base:Heap,(K w.params).In base->base.Ns mainGlobals mg->FnOk l.prog w (K w.params) mg base (CX w) k fa fd [x] (sp w))
   (hsp:∀ (w:World) (H:Hp) (a:Addr) (ns:List Int),ns.length<=n->Only H->SqL (K w.params) H a (ns.map V.int)->sp w [.ref a] H (fun v _=>v = .bl true) fun _ _ _=>False)
   (hCX:∀ (w:World) (H:Hp) (s:Shared) (e:Value) (s':Shared),CX w [] H s (fun _ _ _=>False) e s'->False) :
   W.WalkO q loose XP YP l.row.toRowW d [] (fun f vs=>PySem.call f vs):=by
 refine Att.attach_call hn hdf fun w s₀ s₁ mg mb fa o pm cd doc a vs ns G Y ho hd hcd hmg hobj hints hlen hg=>?_
 have KX:=hY w _ Y
 obtain ⟨fd,hb,hF⟩:=F w mg fa _ KX G.T.g hmg
 exact law_call KX G.T.g G.T.b G.T.builtins G.T.nolimit hg hobj hints (Nat.le_trans hlen hn2) hr hF hb (fun H hO hS=>hsp w H a ns hlen hO hS) fun H e s'=>hCX w H s₁ e s'
end L2
namespace L2
open PySem PySem.Spec PyProof.Rows
noncomputable def zm2 (s:Stmt) (j:Nat):Stmt:=match s with
 | .ClassDef _ _ _ body _ _ _ _ _ _ _=>body.getD j (.Pass ⟨0,0,0,0⟩)
 | _=>.Pass ⟨0,0,0,0⟩
noncomputable def zb2 (s:Stmt):Arguments:=match s with
 | .FunctionDef _ a _ _ _ _ _ _ _ _=>a
 | _=>{ posonlyargs:=[],args:=[],vararg:=none,kwonlyargs:=[],kw_defaults:=[],kwarg:=none,defaults:=[] }
noncomputable def za9 (s:Stmt):List Stmt:=match s with
 | .FunctionDef _ _ b _ _ _ _ _ _ _=>b
 | _=>[]
noncomputable def za5 (s:Stmt):Scope:=match s with
 | .FunctionDef _ _ _ _ _ _ sc _ _ _=>sc
 | _=>{ kind:=.function,names:=[],isGenerator:=false,isCoroutine:=false }
noncomputable abbrev CX0:CXT:=fun _ _ _ _ _ _=>False
noncomputable abbrev E0:XK:=fun _ _ _=>False
theorem zb4 {X:Cx}:zt8 CX0 X E0:=fun _ _ _ _ _ _ _ h=>h.elim
structure Fun (K:W.Frag) (x qual:Str) (st:Stmt) (f:Addr) (fd:FuncData):Prop where
 ex:∃ (oc:Value) (od:Option Addr) (kV doc pm:Value) (an:Option Addr) (cdv ct:Value) (osl:Array (Option Value)),
   fd=W.fnOf x qual (zb2 st) (za9 st) (za5 st) .none kV doc pm an cdv ct/\K.lookup f=some ⟨oc,od,.func fd,osl⟩/\W.codeIn K cdv qual=true
 kp:W.keepIn K (.ref f)=true
section
variable {P:Program} {w:World} {K:W.Frag} {mg:Str->Option Value} {base:Heap}
theorem Fun.ok {x qual:Str} {st:Stmt} {f:Addr} {fd:FuncData} {N ps:List Str} {k:Nat} {sp:Sp} (F:Fun K x qual st f fd) (S:zb6 N ps (za5 st)) (len:∀ vs H Q E,sp vs H Q E->vs.length=ps.length)
   (hbody:∀ (cdv:Value) (A:Around) (outer:List Env) (s:Shared) (H:Hp) (vs:List V) (Q:VK) (E:XK),Room k (A.deeper (envOfC qual (za5 st) s.heap.objs.size f cdv))->sp vs H Q E →
     ∃ t,PSs (cxOf CX0 P w K mg base N qual (za5 st) f cdv A outer s H E).nox (za9 st) t/\t { nx:=fun _ H'=>Q .non H',rt:=Q } (start N vs) H):FnOk P w K mg base CX0 (k+1) f fd ps sp:=by
 obtain ⟨oc,od,kV,doc,pm,an,cdv,ct,osl,rfl,lk,hcd⟩:=F.ex
 refine ye9 lk hcd S len fun A outer s H vs Q E hr hsp=>?_
 obtain ⟨t,h,q⟩:=hbody cdv A outer s H vs Q E hr hsp
 exact⟨t,h.nox,q⟩
theorem Fun.binds {x qual:Str} {st:Stmt} {f:Addr} {fd:FuncData} {ps:List Str} (F:Fun K x qual st f fd)
   (h:∀ (kV doc pm:Value) (an:Option Addr) (cdv ct:Value) (us:List Value),us.length=ps.length->bindArgs (W.fnOf x qual (zb2 st) (za9 st) (za5 st) .none kV doc pm an cdv ct) ⟨us,[]⟩=pure (ps.zip us)):zc4 K fd ps []:=by
 obtain ⟨oc,od,kV,doc,pm,an,cdv,ct,osl,rfl,lk,hcd⟩:=F.ex
 exact .all (h kV doc pm an cdv ct)
theorem zc8 {x qual:Str} {st:Stmt} {f:Addr} {oc:Value} {od an:Option Addr} {osl:Array (Option Value)} {kV doc pm cdv ct:Value} (l:K.lookup f=some ⟨oc,od,.func (W.fnOf x qual (zb2 st) (za9 st) (za5 st) .none kV doc pm an cdv ct),osl⟩)
 (c:W.codeIn K cdv qual=true) (k:W.keepIn K (.ref f)=true):Fun K x qual st f (W.fnOf x qual (zb2 st) (za9 st) (za5 st) .none kV doc pm an cdv ct):=⟨⟨oc,od,kV,doc,pm,an,cdv,ct,osl,rfl,l,c⟩,k⟩
end
theorem yb9 {A:Around} {k:Nat} (hr:Room k A):A.units+1<cLine:=Nat.lt_of_le_of_lt (Nat.add_le_add_left (by decide:1<=64) _) hr.units
theorem zd0 {n:Nat} (h:n<=1000):n<sizeLine:=Nat.lt_of_le_of_lt h (by decide)
section
variable {X:Cx}
theorem pv (i:Nat) {x:Str} {pos:Pos} (hN:X.N[i]?=some x:=by rfl) (hv:Vis X.env.scope x:=by first | exact Or.inl rfl | exact Or.inr (Or.inl rfl) | exact Or.inr (Or.inr rfl)) (hd:(x == ("__debug__" : Str))=false:=by decide)
 (hcd:(x == ("__classdict__" : Str))=false:=by decide):PE X (.Name x pos) (tVar i):=pe_var hN hv hd hcd
end
theorem iteF {A B:Prop} (h:B):if false=true then A else B:=by
 rw[if_neg Bool.false_ne_true]
 exact h
theorem iteT {A B:Prop} (h:A):if true=true then A else B:=by
 rw[if_pos rfl]
 exact h
theorem ite2 {c A B:Prop} [Decidable c] (h1:c->A) (h2:¬ c->B):if c then A else B:=by
 by_cases h:c
 . rw[if_pos h]
   exact h1 h
 . rw[if_neg h]
   exact h2 h
noncomputable def Same (H H':Hp):Prop:=∀ b o,H b=some o->H' b=some o
theorem Same.refl (H:Hp):Same H H:=fun _ _ h=>h
theorem Same.trans {H H1 H2:Hp} (a:Same H H1) (b:Same H1 H2):Same H H2:=fun c o h=>b c o (a c o h)
theorem Same.free {H H':Hp} (e:Same H H') {l:Addr} (h:H' l=Option.none):H l=Option.none:=by
 cases q:H l with
 | none=>rfl
 | some o =>
   rw[e l o q] at h
   cases h
theorem Same.seq {K:W.Frag} {H H':Hp} {a:Addr} {xs:List V} (e:Same H H') (h:SqL K H a xs):SqL K H' a xs:=by
 rcases h with (h | ⟨o,h⟩) | h
 . exact .inl (.inl (e _ _ h))
 . exact .inl (.inr ⟨o,e _ _ h⟩)
 . exact .inr h
end L2
namespace L2
open PySem PySem.Spec PyProof.Rows
section
variable {prog:Program} {w:World} {A:Around} {R:Result->Shared->Prop} {s:Shared}
theorem compLoop_go {elt target iter:Expr} {ifs:List Expr} {scope:Scope} {pos:Pos} {it acc:Value} {env:Env} (I:Nat->Shared->Prop)
   (turn:∀ n s,I n s->wpAny (model prog w) A (pyNext it) (fun r s1=>match r with
     | none=>R (.ok .next) s1
     | some v=>wpAny (model prog w) A (letOwnedTupleGo target it v) (fun _ s1'=>wpAny (model prog w) A (assign target env v) (fun _ s2 =>
         wpAny (model prog w) A (forIn ifs true fun c r=>if r=true then do let ok <-isTrue c env (eval c env);pure (ForInStep.yield ok) else pure (ForInStep.yield r)) (fun ok s3 =>
           if ok=true then wpAny (model prog w) A (eval elt env) (fun x s4 =>
             wpAny (model prog w) A (call (.builtin "list.append") [acc,x]) (fun _ s5=>∃ m,m<n/\I m s5) (fun _ _=>False) s4) (fun _ _=>False) s3
           else ∃ m,m<n/\I m s3) (fun _ _=>False) s2) (fun _ _=>False) s1') (fun _ _=>False) s1) (fun _ _=>False) s)
   (n:Nat) (h:I n s) :
   codeAny (model prog w) A (.compLoop (.ListComp elt [⟨target,iter,ifs,0⟩] scope pos) 0 it acc env) R s:=by
 refine codeAny_loop rfl I (fun n s hI=>?_) n h
 show wpAny _ A ((compTurn (.ListComp elt [⟨target,iter,ifs,0⟩] scope pos) 0 it acc env).onRaise (fun x=>do noteFrame x env;theTreesLotGoes x)) _ _ s
 refine wpAny_noted ?_
 rw[compTurn_list]
 refine wpAny_bind (wpAny_standAt (wpAny_bind (wpAny_mono (turn n s hI) (fun r s1 h1=>?_) fun _ _ h'=>h'.elim)))
 cases r with
 | none=>exact wpAny_pure h1
 | some v =>
   refine wpAny_bind (wpAny_mono h1 (fun _ s1' h1'=>?_) fun _ _ h'=>h'.elim)
   refine wpAny_bind (wpAny_mono h1' (fun _ s2 h2=>wpAny_bind (wpAny_mono h2 (fun ok s3 h3=>?_) fun _ _ h'=>h'.elim)) fun _ _ h'=>h'.elim)
   cases ok with
   | false=>exact wpAny_pure ⟨rfl,h3⟩
   | true=>exact wpAny_bind (wpAny_bind (wpAny_mono h3 (fun x s4 h4=>wpAny_bind (wpAny_mono h4 (fun _ s5 h5=>wpAny_pure (wpAny_pure ⟨rfl,h5⟩)) fun _ _ h'=>h'.elim)) fun _ _ h'=>h'.elim))
end
theorem zO7 {scope:Scope} {env:Env} (h:∀ y∈scope.names,y.2 = .free->∃ c,env.cells.lookup y.1=some c) :
   ∃ cl,closureFor scope env=pure cl/\(∀ x c,cl.lookup x=some c->env.cells.lookup x=some c)/\∀ y∈scope.names,y.2 = .free->∃ c,cl.lookup y.1=some c:=by
 have all:∀ (names:List (Str×NameKind)) (acc:List (Str×Addr)) (f:Str×NameKind->List (Str×Addr)->Sem (ForInStep (List (Str×Addr)))),
     (∀ n k c,f (n,k) c=if k == .free then (do let a <-cellOf env n;pure (.yield ((n,a)::c))) else pure (.yield c)) →
     (∀ y∈names,y.2 = .free->∃ c,env.cells.lookup y.1=some c)->(∀ x c,acc.lookup x=some c->env.cells.lookup x=some c) →
     ∃ cl,forIn names acc f=pure cl/\(∀ x c,cl.lookup x=some c->env.cells.lookup x=some c)/\(∀ x c,acc.lookup x=some c->∃ c',cl.lookup x=some c')/\∀ y∈names,y.2 = .free->∃ c,cl.lookup y.1=some c:=by
   intro names
   induction names with
   | nil=>intro acc f _ _ ha;exact⟨acc,by rw[List.forIn_nil],ha,fun x c e=>⟨c,e⟩,fun y hy=>nomatch hy⟩
   | cons y r ih =>
     intro acc f hf hy ha
     obtain ⟨n,k⟩:=y
     rw[List.forIn_cons,hf]
     by_cases hk:k = .free
     . subst hk
       obtain ⟨c,hc⟩:=hy (n,.free) List.mem_cons_self rfl
       have hc':env.cells.lookup n=some c:=hc
       have ec:cellOf env n=pure c:=by unfold cellOf;rw[hc']
       rw[if_pos (by decide),ec,pure_bind,pure_bind]
       obtain ⟨cl,e,h1,h2,h3⟩:=ih ((n,c)::acc) f hf (fun y hy'=>hy y (List.mem_cons_of_mem _ hy')) (fun x c' e=>by
         rw[List.lookup_cons] at e
         cases hx:x == n with
         | true=>rw[hx] at e;cases e;rw[eq_of_beq hx];exact hc'
         | false=>rw[hx] at e;exact ha x c' e)
       refine⟨cl,e,h1,fun x c' e'=>?_,fun y hy' hk'=>?_⟩
       . cases hx:x == n with
         | true=>exact h2 x c (by rw[List.lookup_cons,hx])
         | false=>exact h2 x c' (by rw[List.lookup_cons,hx];exact e')
       . rcases List.mem_cons.mp hy' with z | z
         . subst z;exact h2 n c (by rw[List.lookup_cons];simp)
         . exact h3 y z hk'
     . have hb:(k == NameKind.free)=false:=by simpa using hk
       rw[hb]
       rw[if_neg (by decide),pure_bind]
       obtain ⟨cl,e,h1,h2,h3⟩:=ih acc f hf (fun y hy'=>hy y (List.mem_cons_of_mem _ hy')) ha
       refine⟨cl,e,h1,h2,fun y hy' hk'=>?_⟩
       rcases List.mem_cons.mp hy' with z | z
       . subst z;exact absurd hk' hk
       . exact h3 y z hk'
 have fin:∀ f:Str×NameKind->List (Str×Addr)->Sem (ForInStep (List (Str×Addr))),
     (∀ n k c,f (n,k) c=if k == .free then (do let a <-cellOf env n;pure (.yield ((n,a)::c))) else pure (.yield c)) →
     ∃ cl,(forIn scope.names [] f >>= fun r=>pure r)=pure cl/\(∀ x c,cl.lookup x=some c->env.cells.lookup x=some c)/\∀ y∈scope.names,y.2 = .free->∃ c,cl.lookup y.1=some c:=fun f hf=>by
   obtain ⟨cl,e,h1,_,h3⟩:=all scope.names [] f hf h (fun x c e=>by cases e)
   exact⟨cl,by rw[e,pure_bind],h1,h3⟩
 unfold closureFor
 exact fin _ (fun n k c=>by cases hk:k == NameKind.free<;>simp[hk])
noncomputable def Cx.comp (X:Cx) (scope:Scope) (cl:List (Str×Addr)) (C:Addr) (N':List Str) (s0:Shared) (H0:Hp) (fp:List Addr):Cx :=
 { X with N:=N',s₀:=s0,H₀:=H0,env:=compEnvC scope cl C X.env,outer:=X.stack,ex:=fp,fn:=fun _=>false,pn:=[],xe:=fun _ _=>False }
noncomputable def selS (ix:List (Option Nat)) (σ:St):St:=ix.map fun o=>o.bind fun j=>(σ[j]?).join
structure zf0 (ON:List Str) (osc scope:Scope) (N':List Str) (ix:List (Option Nat)):Prop where
 kind:scope.kind = .function
 nocell:∀ y∈scope.names,y.2≠.cell
 names:∀ y∈scope.names,y.2 = .local->scope.names.lookup y.1=some .local
 frees:∀ y∈scope.names,y.2 = .free->osc.names.lookup y.1=some .cell
 len:ix.length=N'.length
 nd:N'.Nodup
 chk:((ix.zip N').all fun p=>match p.1 with | none=>true | some j=>decide (ON[j]?=some p.2) && decide (scope.names.lookup p.2=some .free))=true
theorem zf0.sel {ON:List Str} {osc scope:Scope} {N':List Str} {ix:List (Option Nat)} (S:zf0 ON osc scope N' ix) (i j:Nat) (x:Str) (h1:ix[i]?=some (some j)) (h2:N'[i]?=some x):ON[j]?=some x/\scope.names.lookup x=some .free:=by
 have hz:(ix.zip N')[i]?=some (some j,x):=by rw[List.getElem?_zip_eq_some];exact⟨h1,h2⟩
 have:=List.all_eq_true.mp S.chk _ (List.mem_of_getElem? hz)
 simp only[Bool.and_eq_true,decide_eq_true_eq] at this
 exact this
theorem zH5 {env:Env}:∀ {names:List (Str×NameKind)} {x:Str},names.lookup x=some .free →
   ((names.map fun (n,k)=>if (k == NameKind.free && env.scope.kind == .function && env.kindOf n == some .cell) then (n,NameKind.cell) else (n,k)).lookup x=some .cell ∨
    (names.map fun (n,k)=>if (k == NameKind.free && env.scope.kind == .function && env.kindOf n == some .cell) then (n,NameKind.cell) else (n,k)).lookup x=some .free)
 | [],_,h=>by simp at h
 | (n,k)::r,x,h=>by
   have ih:=@zH5 env r x
   rw[List.map_cons]
   cases hx:x == n with
   | true =>
     rw[List.lookup_cons,hx] at h
     cases h
     by_cases hc:(NameKind.free == NameKind.free && env.scope.kind == .function && env.kindOf n == some .cell)=true
     . left;simp only[hc,if_true,List.lookup_cons,hx]
     . right
       have hc':(NameKind.free == NameKind.free && env.scope.kind == .function && env.kindOf n == some .cell)=false:=by simpa using hc
       simp only[hc',Bool.false_eq_true,if_false,List.lookup_cons,hx]
   | false =>
     rw[List.lookup_cons,hx] at h
     have ih':=ih h
     by_cases hc:(k == NameKind.free && env.scope.kind == .function && env.kindOf n == some .cell)=true
     . simp only[hc,if_true,List.lookup_cons,hx];exact ih'
     . have hc':(k == NameKind.free && env.scope.kind == .function && env.kindOf n == some .cell)=false:=by simpa using hc
       simp only[hc',Bool.false_eq_true,if_false,List.lookup_cons,hx];exact ih'
theorem zH6 {env:Env}:∀ {names:List (Str×NameKind)} {x:Str},(∀ y∈names,y.2≠.cell) →
   ((names.map fun (n,k)=>if (k == NameKind.free && env.scope.kind == .function && env.kindOf n == some .cell) then (n,NameKind.cell) else (n,k)).lookup x=some .cell ∨
    (names.map fun (n,k)=>if (k == NameKind.free && env.scope.kind == .function && env.kindOf n == some .cell) then (n,NameKind.cell) else (n,k)).lookup x=some .free)->(x,NameKind.free)∈names
 | [],_,_,h=>by simp at h
 | (n,k)::r,x,hn,h=>by
   have ih:=@zH6 env r x fun y hy=>hn y (List.mem_cons_of_mem _ hy)
   rw[List.map_cons] at h
   cases hx:x == n with
   | true =>
     have e:=eq_of_beq hx
     subst e
     by_cases hc:(k == NameKind.free && env.scope.kind == .function && env.kindOf x == some .cell)=true
     . have hk:k = .free:=by
         have:=(Bool.and_eq_true_iff.mp (Bool.and_eq_true_iff.mp hc).1).1
         exact eq_of_beq this
       subst hk;exact List.mem_cons_self
     . have hc':(k == NameKind.free && env.scope.kind == .function && env.kindOf x == some .cell)=false:=by simpa using hc
       simp only[hc',Bool.false_eq_true,if_false,List.lookup_cons,beq_self_eq_true] at h
       rcases h with h | h
       . have hk:k = .cell:=Option.some.inj h
         exact absurd hk (hn (x,k) List.mem_cons_self)
       . have hk:k = .free:=Option.some.inj h
         subst hk;exact List.mem_cons_self
   | false =>
     refine List.mem_cons_of_mem _ (ih ?_)
     by_cases hc:(k == NameKind.free && env.scope.kind == .function && env.kindOf n == some .cell)=true
     . simp only[hc,if_true,List.lookup_cons,hx] at h;exact h
     . have hc':(k == NameKind.free && env.scope.kind == .function && env.kindOf n == some .cell)=false:=by simpa using hc
       simp only[hc',Bool.false_eq_true,if_false,List.lookup_cons,hx] at h;exact h
section
variable {X:Cx} {pins:List (Addr×Obj)} {σ:St} {H:Hp} {s:Shared}
theorem Inv.comp {scope:Scope} {N':List Str} {ix:List (Option Nat)} {cl:List (Str×Addr)} {fp:List Addr} {h':Heap} {t':Nat} (I:Inv X pins σ H s) (S:zf0 X.N X.env.scope scope N' ix) (hfp:∀ b∈fp,FpOk X pins H b) (hlt:∀ b∈fp,b<s.heap.objs.size)
   (c1:∀ x c,cl.lookup x=some c->X.env.cells.lookup x=some c) (c2:∀ y∈scope.names,y.2 = .free->∃ c,cl.lookup y.1=some c)
   (ns:h'.Ns s.heap.objs.size fun _=>none) (sb:∀ b o,s.heap.get? b=some o->h'.get? b=some o) :
   Inv (X.comp scope cl s.heap.objs.size N' s H fp) [] (selS ix σ) H { s with heap:=h',toks:=t' }:=by
 have fpne:∀ b∈fp,b≠s.heap.objs.size:=fun b hb=>Nat.ne_of_lt (hlt b hb)
 have cin:∀ x c,cl.lookup x=some c->∃ v,s.heap.IsCell c v:=fun x c e=>I.cell x c (c1 x c e)
 refine⟨⟨I.ok.mod,S.kind,I.ok.glob,I.ok.blt,Nat.le_refl _,fun x y c e1 e2=>I.ok.inj x y c (c1 x c e1) (c1 y c e2),fun x hx=>?_,fun x c z=>(by cases z),I.ok.hd,I.ok.frames,.inl rfl,fun b hb=>⟨fpne b hb,fun x c e=>?_⟩,I.bs,Nat.le_trans I.ok.bsz I.sz,fun b o e hb=>?_,fun b hb hf=>?_,I.stack,I.stkFree⟩,
   rfl,I.bare,Un.kept sb,⟨_,ns,fun i x v e1 e2 e3=>?_⟩,fun x c e=>?_,I.hok.fresh (Nat.le_refl _),fun x c e=>I.freeC x c (c1 x c e),fun p hp=>(by cases hp),I.hok.kept sb,?_⟩
 . obtain ⟨c,e⟩:=c2 (x,.free) (zH6 S.nocell hx) rfl
   exact⟨c,e⟩
 . exact (hfp b hb).2.2.2.2.1 x c (c1 x c e)
 . rcases (hfp b hb).2.2.2.1 with z | z
   . exact I.ok.noex b o e z
   . exact absurd (Nat.lt_of_lt_of_le (Heap.lt_size (I.ok.bs b o e).1) z) (Nat.lt_irrefl _)
 . rcases List.mem_cons.mp (I.stkSub b hf) with z | z
   . exact (hfp b hb).2.1 z
   . exact (hfp b hb).2.2.1 z
 . -- what the block sees
   have e2':ix[i]?.map (fun o=>o.bind fun j=>(σ[j]?).join)=some (some v):=by
     have:=e2
     unfold selS at this
     rwa [List.getElem?_map] at this
   cases hi:ix[i]? with
   | none=>rw[hi] at e2';cases e2'
   | some o =>
     rw[hi] at e2'
     cases o with
     | none=>cases e2'
     | some j =>
       have e4:(σ[j]?).join=some v:=Option.some.inj e2'
       have e5:σ[j]?=some (some v):=by
         cases q:σ[j]? with
         | none=>rw[q] at e4;cases e4
         | some z=>rw[q] at e4;have:z=some v:=e4;rw[this]
       obtain ⟨hN,hfr⟩:=S.sel i j x hi e1
       have hk:=S.frees (x,.free) (PySem.mem_of_lookup hfr) rfl
       obtain ⟨m,_,hl⟩:=I.loc
       obtain ⟨u,r,lk⟩:=hl j x v hN e5 (.inr (.inl hk))
       refine⟨u,r,.inr ?_⟩
       rcases lk with ⟨k1,_⟩ | ⟨_,c,ec,hc⟩
       . exact absurd (k1.symm.trans hk) (by decide)
       . obtain ⟨c',ec'⟩:=c2 (x,.free) (PySem.mem_of_lookup hfr) rfl
         have:=c1 x c' ec'
         rw[ec] at this
         cases this
         refine⟨zH5 hfr,c,ec',?_⟩
         obtain ⟨o,ho,hd⟩:=hc
         exact⟨o,sb c o ho,hd⟩
 . obtain ⟨v,o,ho,hd⟩:=cin x c e
   exact⟨v,o,sb c o ho,hd⟩
 . show (selS ix σ).length=N'.length
   unfold selS
   rw[List.length_map]
   exact S.len
theorem Inv.uncomp {scope:Scope} {N':List Str} {cl:List (Str×Addr)} {fp:List Addr} {C:Addr} {σ':St} {H':Hp} {s':Shared} (I:Inv X pins σ H s) (hfp:∀ b∈fp,FpOk X pins H b) (hC:s.heap.objs.size<=C)
   (J:Inv (X.comp scope cl C N' s H fp) [] σ' H' s'):Inv X pins σ H' s' :=
 I.call' (ch:=fp) J.os J.base J.hok J.bare fun b hb=>by
   obtain ⟨f0,f1,f2,f3,f4,f5⟩:=hfp b hb
   exact⟨f3,f1,f4,f5⟩
end
noncomputable def zr4 (D:Addr) (telt:TE) (N:St->Hp->Prop):St->Hp->Prop:=fun σ H=>telt σ H fun v H1=>∃ acc,H1 D=some (.lst acc)/\acc.length<sizeLine/\N σ (upd H1 D (.lst (acc++[v])))
noncomputable def yh1 (wi:TI) (ix:List (Option Nat)) (g:TG) (tif:TT) (telt:TE):TE:=fun σ H Q=>wi σ H fun J H1=>∀ D,H1 D=none->∃ W:Nat->Nat->St->Hp->Prop,(∃ m,W 0 m (selS ix σ) (upd H1 D (.lst []))) ∧
 ∀ i m σ' H',W i m σ' H'->(J.stop i H'/\Q (.ref D) H')\/(J.go i H'/\∃ N:St->Hp->Prop,(∀ σ2 H2,N σ2 H2->∃ m',m'<m/\W (i+1) m' σ2 H2) ∧
   ∀ x H2,J.yld i H' x H2->g x σ' H2 fun σ3 H3=>tif σ3 H3 fun b H4=>if b=true then zr4 D telt N σ3 H4 else N σ3 H4)
noncomputable def PIfs (X:Cx) (ifs:List Expr) (t:TT):Prop :=
 ∀ (pins:List (Addr×Obj)) (s:Shared) (σ:St) (H:Hp) (Q:Bool->Hp->Prop),Inv X pins σ H s->t σ H Q →
   wpAny (model X.prog X.w) X.A (forIn ifs true fun c r=>if r=true then do let ok <-isTrue c X.env (eval c X.env);pure (ForInStep.yield ok) else pure (ForInStep.yield r)) (TP X pins σ Q) X.xe s
noncomputable def zv3:TT:=fun _ H Q=>Q true H
theorem zn5 {X:Cx}:PIfs X [] zv3:=fun _ _ _ H _ I h=>wpAny_tests_nil ⟨H,I,h⟩
theorem zO8 {X:Cx} {c:Expr} {t:TT} (hc:PT X c t):PIfs X [c] t:=fun pins s σ H Q I h=>wpAny_tests_one (hc pins s σ H Q I h)
section
variable {X:Cx} {scope:Scope} {N':List Str} {ix:List (Option Nat)} {tg iter elt:Expr} {ifs:List Expr} {pos:Pos} {wi:TI} {g:TG} {tif:TT} {telt:TE}
theorem zO9 {RR:Value->Addr->Result->Shared->Prop} {pins:List (Addr×Obj)} {σ:St} {s2:Shared} {H2:Hp} {it:Addr} {fp:List Addr} {tn:Nat->Heap->Prop} {J:It} {cl:List (Str×Addr)} {Q:VK} {E:Value->Shared->Prop}
   (hc:X.calm=true) (S:zf0 X.N X.env.scope scope N' ix)
   (c1:∀ x c,cl.lookup x=some c->X.env.cells.lookup x=some c) (c2:∀ y∈scope.names,y.2 = .free->∃ c,cl.lookup y.1=some c)
   (hg:∀ cl C s0 H0 fp,PG (X.comp scope cl C N' s0 H0 fp) tg g) (hif:∀ cl C s0 H0 fp,PIfs (X.comp scope cl C N' s0 H0 fp) ifs tif) (he:∀ cl C s0 H0 fp,PE (X.comp scope cl C N' s0 H0 fp) elt telt)
   (I2:Inv X pins σ H2 s2) (T:Turn X.prog X.w X.K tg J fp it tn) (st2:tn 0 s2.heap) (f2:∀ b∈fp,FpOk X pins H2 b)
   (body:∀ D,H2 D=none->∃ W:Nat->Nat->St->Hp->Prop,(∃ m,W 0 m (selS ix σ) (upd H2 D (.lst []))) ∧
     ∀ i m σ' H',W i m σ' H'->(J.stop i H'/\Q (.ref D) H')\/(J.go i H'/\∃ N:St->Hp->Prop,(∀ σ2 H2,N σ2 H2->∃ m',m'<m/\W (i+1) m' σ2 H2) ∧
       ∀ x H2,J.yld i H' x H2->g x σ' H2 fun σ3 H3=>tif σ3 H3 fun b H4=>if b=true then zr4 D telt N σ3 H4 else N σ3 H4))
   (hRR:∀ D C s3 s' H' m,Inv X pins σ H' s'->s2.heap.objs.size<=s3->s3<=C->s'.heap.Ns C m->FpOk X pins H' C->HOk X.prog X.w H' s'.heap->Q (.ref D) H'->RR (.ref D) C (.ok .next) s') :
   wpAny (model X.prog X.w) X.A (newList []) (fun acc s3=>wpAny (model X.prog X.w) X.A (newFunctionEnv scope X.env.globals cl [] X.env.qual none .none (some X.env)) (fun cenv s4 =>
     codeAny (model X.prog X.w) X.A (.compStart (.ListComp elt [⟨tg,iter,ifs,0⟩] scope pos) 0 (.ref it) acc { cenv with scope:=relabel scope X.env }) (RR acc cenv.locals) s4) E s3) E s2:=by
 have hlt2:∀ b∈fp,b<s2.heap.objs.size:=fun b hb=>by
   obtain ⟨o,e,_⟩:=T.obj _ _ st2 b hb
   exact Heap.lt_size e
 obtain ⟨W,⟨m0,w0⟩,turn⟩:=body s2.heap.objs.size I2.fresh
 refine wpAny_newObj_type (wpAny_newFunctionEnv S.nocell (by intro y hy;simp at hy) (fun h1 hns1 hsb1=>?_) S.kind)
 dsimp only at hns1 hsb1 ⊢
 have I3:Inv X pins σ (upd H2 s2.heap.objs.size (.lst [])) { s2 with heap:=s2.heap.push { cls:=.type "list",dict:=none,data:=.seq ([]:List Value).toArray } } :=
   Inv.lnew (its:=[]) (t':=s2.toks) I2 .nil (Nat.zero_le _)
 generalize hs3:({ s2 with heap:=s2.heap.push { cls:=.type "list",dict:=none,data:=.seq ([]:List Value).toArray } }:Shared)=s3 at I3
 have hh3:s3.heap=s2.heap.push { cls:=.type "list",dict:=none,data:=.seq ([]:List Value).toArray }:=by rw[<-hs3]
 have hsz3:s3.heap.objs.size=s2.heap.objs.size+1:=by rw[hh3,Heap.size_push]
 have hsh:({ s2 with heap:=h1,toks:=s2.toks+([]:List (Str×Value)).length }:Shared) = { s3 with heap:=h1,toks:=s2.toks+([]:List (Str×Value)).length }:=by rw[<-hs3]
 rw[<-hh3] at hns1 hsb1 ⊢
 have fpD:∀ b∈fp,b≠s2.heap.objs.size:=fun b hb=>Nat.ne_of_lt (hlt2 b hb)
 have f3:∀ b∈fp,FpOk X pins (upd H2 s2.heap.objs.size (.lst [])) b:=fun b hb=>⟨by rw[za8 (fpD b hb)];exact (f2 b hb).1,(f2 b hb).2⟩
 have old:∀ b o,s3.heap.get? b=some o->h1.get? b=some o:=fun b o e=>hsb1.extBut b o (Nat.ne_of_lt (Heap.lt_size e)) (Heap.get?_push_of_some _ e)
 have J4:Inv (X.comp scope cl s3.heap.objs.size N' s3 (upd H2 s2.heap.objs.size (.lst [])) fp) [] (selS ix σ) (upd H2 s2.heap.objs.size (.lst [])) { s3 with heap:=h1,toks:=s2.toks+([]:List (Str×Value)).length } :=
   I3.comp S f3 (fun b hb=>Nat.lt_of_lt_of_le (hlt2 b hb) (by rw[hsz3];exact Nat.le_succ _)) c1 c2 hns1 old
 have st4:tn 0 h1:=T.keep _ _ _ st2 fun b hb o e=>old b o (by rw[hh3];exact Heap.get?_push_of_some _ e)
 generalize hCC:s3.heap.objs.size=C at *
 generalize hX':X.comp scope cl C N' s3 (upd H2 s2.heap.objs.size (.lst [])) fp=X' at J4
 have stat:∀ {H':Hp},(∀ b∈fp,H' b=none)->∀ b∈fp,FpOk X' [] H' b:=fun {H'} hn b hb=>by
   subst hX'
   refine⟨hn b hb,(J4.ok.exf b hb).1,J4.ok.exfs b hb,.inl hb,(J4.ok.exf b hb).2,fun p hp=>(by cases hp)⟩
 rw[hsh]
 have loop:codeAny (model X.prog X.w) X.A (.compLoop (.ListComp elt [⟨tg,iter,ifs,0⟩] scope pos) 0 (.ref it) (.ref s2.heap.objs.size) (compEnvC scope cl C X.env)) (RR (.ref s2.heap.objs.size) C) { s3 with heap:=h1,toks:=s2.toks+([]:List (Str×Value)).length }:=by
   refine compLoop_go (fun n s'=>∃ i σ' H',Inv X' [] σ' H' s'/\tn i s'.heap/\(∀ b∈fp,H' b=none)/\W i n σ' H') ?_ m0 ⟨0,_,_,J4,st4,fun b hb=>(f3 b hb).1,w0⟩
   rintro n s5 ⟨i,σ5,H5,I5,st5,fr5,w5⟩
   rcases turn i n σ5 H5 w5 with ⟨stop,qn⟩ | ⟨go,N,hN,step⟩
   . have td:=T.done X' (by subst hX';rfl) (by subst hX';rfl) (by subst hX';rfl) (by subst hX';exact hc) i [] s5 σ5 H5 (fun _ _=>False) I5 (stat fr5) st5 stop
     have eA:X'.A=X.A:=by subst hX';rfl
     rw[eA] at td
     refine thn td fun r s6 ⟨hr,I6⟩=>?_
     subst hr
     subst hX'
     obtain ⟨m,hnm,_⟩:=I6.loc
     have I7:Inv X pins σ H5 s6:=I3.uncomp f3 (Nat.le_of_eq hCC) I6
     refine hRR s2.heap.objs.size C s3.heap.objs.size s6 H5 m I7 (by omega) (by omega) hnm ?_ I6.hok qn
     have q:=I3.fpOk (H':=H5) (b:=C) (by omega) I6.free
     exact q
   . have ti:=T.item X' (by subst hX';rfl) (by subst hX';rfl) (by subst hX';rfl) (by subst hX';exact hc) i [] s5 σ5 H5 (fun _ _=>False) I5 (stat fr5) st5 go
     have eA:X'.A=X.A:=by subst hX';rfl
     rw[eA] at ti
     refine thn ti fun r s6 ⟨u,hr,h6⟩=>?_
     subst hr
     refine thn h6 fun _ s7 ⟨x,H7,I7,r7,y7,st7,fr7⟩=>?_
     have I7':=I7.pinned (stat fr7) (T.obj _ _ st7)
     have again:∀ {pl:List (Addr×Obj)} {σ8:St} {H8:Hp} {s8:Shared},Inv X' ([]++zK6 fp s7.heap) σ8 H8 s8->N σ8 H8->∃ m,m<n/\∃ i σ' H',Inv X' [] σ' H' s8/\tn i s8.heap/\(∀ b∈fp,H' b=none)/\W i m σ' H':=fun {pl σ8 H8 s8} I8 n8=>by
       obtain ⟨m',hm,w8⟩:=hN σ8 H8 n8
       refine⟨m',hm,i+1,σ8,H8,I8.unpinned,T.keep _ _ _ st7 fun b hb o e=>(I8.pin (b,o) (List.mem_append_right _ (List.mem_append_right _ (zz2 hb e)))).1,fun b hb=>?_,w8⟩
       obtain ⟨o,e,d⟩:=T.obj _ _ st7 b hb
       exact (I8.pin (b,o) (List.mem_append_right _ (List.mem_append_right _ (zz2 hb e)))).2.1
     have eE:X'.env=compEnvC scope cl C X.env:=by subst hX';rfl
     have eP:X'.prog=X.prog:=by subst hX';rfl
     have eW:X'.w=X.w:=by subst hX';rfl
     have eX:X'.xe=fun _ _=>False:=by subst hX';rfl
     have hg':PG X' tg g:=by subst hX';exact hg _ _ _ _ _
     have hif':PIfs X' ifs tif:=by subst hX';exact hif _ _ _ _ _
     have he':PE X' elt telt:=by subst hX';exact he _ _ _ _ _
     have a1:=hg' _ s7 σ5 H7 x u _ I7' r7 (step x H7 y7)
     rw[eE,eP,eW,eA,eX] at a1
     refine thn a1 fun _ s8 ⟨σ8,H8,I8,q8⟩=>?_
     have a2:=hif' _ s8 σ8 H8 _ I8 q8
     rw[eE,eP,eW,eA,eX] at a2
     refine thn a2 fun ok s9 ⟨H9,I9,q9⟩=>?_
     cases ok with
     | false=>exact again (pl:=[]) I9 q9
     | true =>
       have q9':zr4 s2.heap.objs.size telt N σ8 H9:=q9
       have a3:=he' _ s9 σ8 H9 _ I9 q9'
       rw[eE,eP,eW,eA,eX] at a3
       show wpAny _ _ _ _ _ _
       refine thn a3 fun y s10 ⟨v,H10,I10,r10,acc,hD,hl,n10⟩=>?_
       obtain ⟨hz,its,k,rv,hgD⟩:=I10.hok s2.heap.objs.size _ hD
       have hlen:=rv.length
       refine wpAny_list_append_plain (hsz:=by rw[List.size_toArray,<-hlen];exact Nat.le_of_lt hl) ⟨k,hgD⟩ fun h11 hl11 hs11=>?_
       obtain ⟨k',hk'⟩:=hl11
       have ep:(its.toArray.push y)=(its++[y]).toArray:=by simp
       rw[ep] at hk'
       have I11:Inv X' ([]++zK6 fp s7.heap) σ8 (upd H10 s2.heap.objs.size (.lst (acc++[v]))) { s10 with heap:=h11 } :=
         I10.write (x:=s2.heap.objs.size) (e:=s2.heap.objs.size) (t':=s10.toks) (by rw[hD];exact trivial) (.inl rfl) (fun b o hb e=>hs11.extBut b o hb e) ⟨_,hk'⟩ ⟨by rw[List.length_append];exact hl,its++[y],k',rv.append (.cons r10 .nil),hk'⟩
       exact again (pl:=[]) I11 n10
 exact codeAny_compStart_list loop (T.self _ 0 _ _ _ st4 loop)
theorem zr0 (hc:X.calm=true) (S:zf0 X.N X.env.scope scope N' ix) (hi:PI X tg iter wi)
   (hg:∀ cl C s0 H0 fp,PG (X.comp scope cl C N' s0 H0 fp) tg g) (hif:∀ cl C s0 H0 fp,PIfs (X.comp scope cl C N' s0 H0 fp) ifs tif) (he:∀ cl C s0 H0 fp,PE (X.comp scope cl C N' s0 H0 fp) elt telt)
   (hs:∀ x,foldedSetIterable iter X.env x=pure x:=by intro _;rfl):PE X (.ListComp elt [⟨tg,iter,ifs,0⟩] scope pos) (yh1 wi ix g tif telt):=by
 intro pins s σ H Q I h
 obtain ⟨cl,hcl,c1,c2⟩:=zO7 (scope:=scope) (env:=X.env) fun y hy hk=>I.ok.has y.1 (.inl (S.frees y hy hk))
 rw[eval_ListComp]
 refine wpAny_comprehension_free (use:=none) rfl hs hcl S.kind S.names (thn (hi pins s σ H _ I h) fun xv s1 h1=>thn h1 fun itv s2 h2=>?_)
 obtain ⟨it,fp,tn,J,H2,e,I2,T,st2,f2,body⟩:=h2
 subst e
 refine zO9 (RR:=fun acc C=>compPost (model X.prog X.w) X.A X.xe none (EP X pins σ Q) acc C) (Q:=Q) hc S c1 c2 hg hif he I2 T st2 f2 body ?_
 intro D C s3 s' H' m I' h1 h2 hm hf hok q
 obtain ⟨f0,f1,f2',f3,f4,f5⟩:=hf
 refine⟨m,hm,fun h' sb=>⟨.ref D,H',?_,rfl,q⟩⟩
 exact I'.turned (t':=s'.toks) (fun b o hb e=>sb.extBut b o hb e) f0 f1 f3 f4 f5
theorem zW1 {i:Nat} {y:Str} {py spos:Pos} (hc:X.calm=true) (S:zf0 X.N X.env.scope scope N' ix) (hi:PI X tg iter wi)
   (hg:∀ cl C s0 H0 fp,PG (X.comp scope cl C N' s0 H0 fp) tg g) (hif:∀ cl C s0 H0 fp,PIfs (X.comp scope cl C N' s0 H0 fp) ifs tif) (he:∀ cl C s0 H0 fp,PE (X.comp scope cl C N' s0 H0 fp) elt telt)
   (hN:X.N.Nodup) (hy:X.N[i]?=some y) (hx:X.env.scope.names.lookup y=some .local)
   (hsw:swapsWith (.ListComp elt [⟨tg,iter,ifs,0⟩] scope pos) (some (.Name y py)) spos.line X.env=pure true:=by rfl)
   (hs:∀ x,foldedSetIterable iter X.env x=pure x:=by intro _;rfl):PS X (.Assign [.Name y py] (.ListComp elt [⟨tg,iter,ifs,0⟩] scope pos) spos) (tAsg (yh1 wi ix g tif telt) (zr1 i)):=by
 intro pins s σ H D0 I h
 obtain ⟨cl,hcl,c1,c2⟩:=zO7 (scope:=scope) (env:=X.env) fun y hy hk=>I.ok.has y.1 (.inl (S.frees y hy hk))
 rw[exec_Assign_Name_used _ _ _ _ hsw]
 refine wpAny_bind (wpAny_standAt (wpAny_bind ?_))
 show wpAny _ _ (do let _ <-comprehension (.ListComp elt [⟨tg,iter,ifs,0⟩] scope pos) scope X.env _ (newList []) false (eval iter X.env) (some (assign (.Name y py) X.env))) _ _ s
 refine wpAny_bind (wpAny_mono (wpAny_comprehension_free (use:=some (assign (.Name y py) X.env)) (Q:=fun _ s'=>SP X pins D0 .next s') rfl hs hcl S.kind S.names
   (thn (hi pins s σ H _ I h) fun xv s1 h1=>thn h1 fun itv s2 h2=>?_)) (fun _ s' hq=>wpAny_pure (wpAny_pure hq)) fun _ _ e=>e)
 obtain ⟨it,fp,tn,J,H2,e,I2,T,st2,f2,body⟩:=h2
 subst e
 refine zO9 (RR:=fun acc C=>compPost (model X.prog X.w) X.A X.xe (some (assign (.Name y py) X.env)) (fun _ s'=>SP X pins D0 .next s') acc C) (Q:=fun v H1=>zr1 i v σ H1 D0.nx) hc S c1 c2 hg hif he I2 T st2 f2 body ?_
 intro D C s3 s' H' m I' h1 h2 hm hf hok q
 obtain ⟨f0,f1,f2',f3,f4,f5⟩:=hf
 show wpAny _ _ (assign (.Name y py) X.env (.ref D)) _ _ _
 refine wpAny_assign_Name (zR0 I' hN hy (.inl hx) (v:=.ref D) rfl (fun s4 I4 ⟨a,sb,ha⟩=>?_) (.inr hx))
 have hCa:C≠a:=by
   rcases ha with z | z
   . rw[z];exact f1
   . exact Ne.symm (f4 y a z)
 refine⟨m,hm.sameBut sb hCa,fun h' sb'=>⟨_,H',?_,q⟩⟩
 exact I4.turned (t':=s4.toks) (fun b o hb e=>sb'.extBut b o hb e) f0 f1 f3 f4 f5
end
end L2
namespace L2
open PySem PySem.Spec PyProof.Rows
section
variable {X:Cx}
noncomputable def rCountL (K:W.Frag):V->List V->Hp->VK->Prop:=fun x vs H Q=>∃ (l:Addr) (ns:List Int) (k:Int),x = .ref l/\vs=[.int k]/\SqL K H l (ns.map V.int)/\Q (.int (ns.count k:Nat)) H
theorem mt_countL:MtR X "list.count" (rCountL X.K):=by
 intro pins s σ H x vs v us Q I rx rv h
 obtain ⟨l,ns,k,rfl,rfl,hS,q⟩:=h
 cases rx
 obtain ⟨u,rfl,t,rfl⟩:=rv.one
 obtain ⟨its,r,p,hz⟩:=I.list hS
 exact count_list_ints p.isList (zG6 r) ⟨.int (ns.count k:Nat),H,I.tok _,⟨_,rfl⟩,q⟩
noncomputable def yc0 (K:W.Frag):V->List V->Hp->VK->Prop:=fun x vs H Q=>∃ (l:Addr) (ns:List Int) (k:Int),x = .ref l/\vs=[.int k]/\SqT K H l (ns.map V.int)/\Q (.int (ns.count k:Nat)) H
theorem zD6:MtR X "tuple.count" (yc0 X.K):=by
 intro pins s σ H x vs v us Q I rx rv h
 obtain ⟨l,ns,k,rfl,rfl,hS,q⟩:=h
 cases rx
 obtain ⟨u,rfl,t,rfl⟩:=rv.one
 obtain ⟨its,r,⟨⟨cls,dd,data,sl⟩,ho,hc,n,hd⟩,hz⟩:=I.tuple hS
 simp only at hc hd
 subst hc hd
 have hi:=zG6 r
 refine call_meets PySem.F.slot_tuple_count ⟨_,ho,rfl⟩ PySem.F.entry_tuple_count (PySem.F.args_tuple_count_2 _ _) (SeqAt.tuple_countAt l its.toArray n dd sl (.int k t) (isInt k)) ⟨ho,fun y hy=>(eq_isInt k t hi y (by simpa using hy)).at _ _,?_⟩
 rw[show its.toArray.toList=its from rfl,countP_isInt k hi]
 exact⟨.int (ns.count k:Nat),H,I.tok _,⟨_,rfl⟩,q⟩
noncomputable def tTM (r:V->List V->Hp->VK->Prop) (to:TE) (t:TA):TE:=fun σ H Q=>to σ H fun x H1=>(∃ p ys,x = .ref p/\H1 p=some (.tup ys))/\t σ H1 fun xs H2=>r x xs H2 Q
variable {o e:Expr} {es:List Expr} {to:TE} {t:TA} {name:Str} {apos cpos:Pos} {id:String} {r:V->List V->Hp->VK->Prop}
theorem yc1 (slot:Slot "tuple" name id) (hty:typeOf (.builtin id)=pure (.type "method_descriptor")) (hm:MtR X id r) (ho:PE X o to) (ha:PA X (e::es) t)
   (hbase:attributeBase o name X.env (eval o X.env)=eval o X.env:=by rfl)
   (hfew:((backTo cpos (starEach (e::es) X.env)).all (fun x=>!x.1) && (backToKw cpos (keywordEach [] X.env)).all (fun x=>x.1.isSome)
     && decide ((e::es).length+([]:List Keyword).length+(if ([]:List Keyword).isEmpty then 0 else 1)<30))=true:=by rfl)
   (hline:(apos.endLine == cpos.line)=true:=by rfl) (hs:starEach (e::es) X.env=(false,eval e X.env)::starEach es X.env:=by rfl) (hplain:(backTo cpos (starEach es X.env)).any (·.1)=false:=by rfl) :
   PE X (.Call (.Attribute o name apos) (e::es) [] cpos) (tTM r to t):=by
 intro pins s σ H Q I h
 refine wpAny_Call_method_late hbase hfew hline rfl (thn (ho pins s σ H _ I h) fun v s1 ⟨x,H1,I1,r1,⟨p,ys,ex,hp⟩,q1⟩=>?_)
 subst ex
 cases r1
 obtain ⟨_,its,_,ob,eo,ec,ed,_⟩:=I1.hok p _ hp
 refine⟨"tuple",id,PySem.F.plainAttrs_tuple,slot,hty,⟨ob,eo,ec⟩,fun a ea=>by cases ea;exact⟨ob,eo,ed⟩,?_⟩
 have hA:=ha cpos pins s1 σ H1 _ I1 q1
 rw[hs] at hA ⊢
 refine Calls.callWith_builtin (by show (false || (backTo cpos (starEach es X.env)).any (·.1))=false;rw[hplain]<;>rfl) (Calls.evalArgs_plain ?_)
 exact thn hA fun us s2 ⟨vs,H2,I2,r2,q2⟩=>hm pins s2 σ H2 (.ref p) vs _ us Q I2 rfl r2 q2
inductive ClsV:V->Value->Prop where
 | ty (n:String):ClsV (.ty n) (.type n)
 | own (C:Addr):ClsV (.ref C) (.ref C)
noncomputable def rIsi (K:W.Frag):List V->Hp->VK->Prop:=fun xs H Q=>∃ x cv t c b,xs=[x,cv]/\ClsV cv c/\TyOf K H x t/\W.kitOne K t c=some b/\Q (.bl b) H
theorem zX6:zs4 X (.builtin "isinstance") (rIsi X.K):=by
 intro pins s σ H xs us Q I r h
 obtain ⟨x,cv,t,c,b,rfl,hc,ty,e,q⟩:=h
 obtain ⟨u,w',rfl,ru,rw'⟩:=yb3 r
 have ew:w'=c:=by
   cases hc with
   | ty n=>exact rw'
   | own C=>exact rw'
 subst ew
 exact isinst_ok I ru ty e fun tk=>⟨.bl b,H,I.tok tk,rfl,q⟩
theorem zS1 {prog:Program} {w:World} {A:Around} {E:Value->Shared->Prop} {it t:Addr} {items:Array Value} (hne:t≠it):∀ (n i:Nat) (s:Shared) (Q:List Value->Shared->Prop),s.heap.IsListIter it t i->s.heap.IsList t items->i+n<=items.size →
   (∀ h',h'.IsListIter it t (i+n)->Heap.SameBut it s.heap h'->Q ((items.toList.drop i).take n) { s with heap:=h' })->wpAny (model prog w) A (draw (.ref it) n) Q E s
 | 0,i,s,Q,hit,_,_,hQ=>by
   show wpAny _ _ (pure []) Q E s
   exact wpAny_pure (by simpa using hQ s.heap hit (Heap.SameBut.refl ..))
 | n+1,i,s,Q,hit,ht,hle,hQ=>by
   have hlt:i<items.size:=by omega
   show wpAny _ _ (pyNext (.ref it) >>= _) Q E s
   refine wpAny_bind (wpAny_pyNext_list_item hit ht (x:=items[i]) (by simp[hlt]) fun h1 hit1 hs1=>?_)
   refine wpAny_bind (wpAny_holding (zS1 hne n (i+1) _ _ hit1 (ht.extBut hs1.extBut hne) (by omega) fun h2 hit2 hs2=>wpAny_pure ?_))
   have hd:items.toList.drop i=items[i]::items.toList.drop (i+1):=by simp[List.drop_eq_getElem_cons,hlt]
   have:=hQ h2 (by rw[show i+(n+1)=i+1+n by omega];exact hit2) (hs1.trans hs2)
   rw[hd,List.take_succ_cons] at this
   exact this
theorem unpackItems_list {prog:Program} {w:World} {A:Around} {E:Value->Shared->Prop} {s:Shared} {t:Addr} {items:Array Value} {Q:List Value->Shared->Prop} (hh:A.handled=none) (ht:s.heap.IsList t items)
   (hQ:∀ h',Heap.ExtBut s.heap.objs.size s.heap h'->Q items.toList { s with heap:=h' }):wpAny (model prog w) A (unpackItems (.ref t) items.size none) Q E s:=by
 have hlt:t≠s.heap.objs.size:=by obtain ⟨o,ho,_⟩:=ht;exact Nat.ne_of_lt (Heap.lt_size ho)
 unfold unpackItems
 refine wpAny_bind ?_
 . unfold notIterableAtAll
   refine wpAny_bind (wpAny_specialOf ht.typeIs slot_list_iter.lookup ?_)
   refine wpAny_pure ?_
   simp only[Bool.false_eq_true,if_false]
   refine wpAny_bind (wpAny_holding (wpAny_pyIter_list ht ?_))
   refine wpAny_bind (wpAny_holding (zS1 hlt items.size 0 _ _ ⟨_,Heap.get?_push_size _ rfl,rfl,rfl⟩ (ht.push _) (by omega) fun h1 hit1 hs1=>?_))
   have hall:List.take items.size (List.drop 0 items.toList)=items.toList:=by
     rw[List.drop_zero];exact List.take_of_length_le (by simp)
   rw[hall]
   rw[if_neg (by simp)]
   have ht1:h1.IsList t items:=(ht.push _).extBut hs1.extBut hlt
   refine wpAny_bind (wpAny_holding (wpAny_pyNext_list_end hh hit1 ht1 (by simp) fun h2 he2=>?_))
   simp only[Option.isSome_none,Bool.false_eq_true,if_false]
   refine wpAny_pure (hQ h2 fun b o hb e=>he2 b o hb (hs1.extBut b o hb (Heap.get?_push_of_some _ e)))
noncomputable def gLst (K:W.Frag) (n:Nat) (t:TGs):TG:=fun v σ H Q=>∃ a xs,v = .ref a/\SqL K H a xs/\xs.length=n/\t xs σ H Q
theorem zK9 {es:List Expr} {k:Nat} {t:TGs} {n:Nat} {pos:Pos} (hc:X.calm=true) (h:PGs X es t)
   (hn:(assignEach es X.env).length=n:=by rfl) (hst:(assignEach es X.env).findIdx? (·.1)=none:=by rfl):PG X (.Tuple es k pos) (gLst X.K n t):=by
 intro pins s σ H v u Q I r hw
 obtain ⟨a,xs,e1,hq,hl,hw⟩:=hw
 subst e1
 cases r
 obtain ⟨its,rv,ht,hz⟩:=I.list hq
 have hln:=rv.length
 rw[assign_Tuple]
 refine wpAny_bind (wpAny_standAt ?_)
 unfold unpack
 have esz:(assignEach es X.env).length=its.toArray.size:=by rw[hn,<-hl,hln,List.size_toArray]
 rw[esz,hst]
 refine wpAny_bind (wpAny_holding (unpackItems_list (I.ok.hd hc) ht.isList fun h' hx=>?_))
 have I1:Inv X pins σ H { s with heap:=h' }:=I.kept (t':=s.toks) fun b o e=>hx b o (Nat.ne_of_lt (Heap.lt_size e)) e
 exact h pins _ σ H xs _ Q I1 (by simpa using rv) hw
theorem zF3:∀ {us:List Value} {ns:List Int},IntsAre us ns->∃ ps:List (Int×Tok),us=ps.map (fun p=>Value.int p.1 p.2)/\ps.map (·.1)=ns
 | _,_,.nil=>⟨[],rfl,rfl⟩
 | _,_,.cons n t h=>by
   obtain ⟨ps,e1,e2⟩:=zF3 h
   exact⟨(n,t)::ps,by rw[List.map_cons,e1],by rw[List.map_cons,e2]⟩
noncomputable def iSeq (K:W.Frag) (tl:TE):TI:=fun σ H R=>tl σ H fun x H1=>∃ a,x = .ref a/\(((∃ xs,SqL K H1 a xs)/\R (Itl K a) H1)\/((∃ xs,SqT K H1 a xs)/\R (Itt K a) H1))
theorem pi_seq {tg l:Expr} {tl:TE} (hl:PE X l tl):PI X tg l (iSeq X.K tl):=by
 intro pins s σ H R I h
 refine thn (hl pins s σ H _ I h) fun v s1 ⟨x,H1,I1,r1,q1⟩=>?_
 obtain ⟨a,e,q⟩:=q1
 subst e
 cases r1
 rcases q with ⟨⟨xs,hq⟩,q⟩ | ⟨⟨xs,hq⟩,q⟩
 . obtain ⟨its,rv,p,hz⟩:=I1.list hq
   refine wpAny_pyIter_list p.isList ?_
   refine⟨s1.heap.objs.size,[s1.heap.objs.size],_,_,H1,rfl,I1.kept (t':=s1.toks) fun b o e=>Heap.get?_push_of_some _ e,zR1 a _,⟨_,Heap.get?_push_size _ rfl,rfl,rfl⟩,fun b hb=>?_,q⟩
   have e:b=s1.heap.objs.size:=by simpa using hb
   subst e
   exact I1.fpOk (Nat.le_refl _) (I1.hok.fresh (Nat.le_refl _))
 . obtain ⟨its,rv,p,hz⟩:=I1.tuple hq
   refine wpAny_pyIter_tuple (show s1.heap.IsTuple a its.toArray from p) ?_
   refine⟨s1.heap.objs.size,[s1.heap.objs.size],_,_,H1,rfl,I1.kept (t':=s1.toks) fun b o e=>Heap.get?_push_of_some _ e,zO4 a _,⟨_,Heap.get?_push_size _ rfl,rfl,rfl⟩,fun b hb=>?_,q⟩
   have e:b=s1.heap.objs.size:=by simpa using hb
   subst e
   exact I1.fpOk (Nat.le_refl _) (I1.hok.fresh (Nat.le_refl _))
noncomputable def stE:Stmt->Expr
 | .Assign _ v _=>v
 | .Return (some v) _=>v
 | .Expr v _=>v
 | _=>.Constant .none 0 ⟨0,0,0,0⟩
noncomputable def zM5 (e:Expr) (j:Nat):Expr:=match e with
 | .Call _ as _ _=>as.getD j (.Constant .none 0 ⟨0,0,0,0⟩)
 | _=>.Constant .none 0 ⟨0,0,0,0⟩
noncomputable def zm3:Expr->Scope
 | .ListComp _ _ sc _=>sc
 | _=>{ kind:=.function,names:=[],isGenerator:=false,isCoroutine:=false }
noncomputable def stAt (l:List Stmt) (i:Nat):Stmt:=l.getD i (.Pass ⟨0,0,0,0⟩)
noncomputable def stBody:Stmt->List Stmt
 | .If _ b _ _=>b
 | .For _ _ b _ _=>b
 | .While _ b _ _=>b
 | _=>[]
end
end L2
namespace L2
open PySem PySem.Spec PyProof.Rows
theorem iteB {c:Bool} {A B:Prop} (e:c=false) (h:B):if c=true then A else B:=by
 subst e;exact iteF h
theorem iteA {c:Bool} {A B:Prop} (e:c=true) (h:A):if c=true then A else B:=by
 subst e;exact iteT h
theorem zB2 {a lo hi:Int} (h1:lo<=a) (h2:a<=hi):(decide (a<lo) || decide (hi<a))=false:=by
 rw[decide_eq_false (by omega),decide_eq_false (by omega)];rfl
theorem zP0 {a b:Int} (h:b<=a):decide (a<b)=false:=decide_eq_false (by omega)
theorem fl0 {f:Str} {v:V}:(putF f v []).length<=1:=zr3 f v []
theorem flS {f:Str} {v:V} {fs:List (Str×V)} {k:Nat} (h:fs.length<=k):(putF f v fs).length<=k+1:=Nat.le_trans (zr3 f v fs) (Nat.succ_le_succ h)
theorem zB3 {fs:List (Str×V)} {k:Nat} (h:fs.length<=k) (hk:k<1000:=by decide):fs.length<1000:=Nat.lt_of_le_of_lt h hk
noncomputable def zr5 (p:Addr) (H H':Hp):Prop:=∀ b o,H b=some o->b≠p->H' b=some o
theorem Same.upd {H:Hp} {l:Addr} {o:HO} (h:H l=none):Same H (upd H l o):=fun b u e=>by
 rw[za8 (zc0 e h)];exact e
theorem Same.updT {H H1:Hp} {l:Addr} {o:HO} (s:Same H H1) (h:H1 l=none):Same H (L2.upd H1 l o):=s.trans (Same.upd h)
theorem Same.tup {K:W.Frag} {H H':Hp} {a:Addr} {xs:List V} (e:Same H H') (h:SqT K H a xs):SqT K H' a xs:=by
 rcases h with (h | ⟨o,h⟩) | h
 . exact .inl (.inl (e _ _ h))
 . exact .inl (.inr ⟨o,e _ _ h⟩)
 . exact .inr h
theorem Same.put {H H1:Hp} {l:Addr} {o:HO} (s:Same H H1) (h:H l=none):Same H (L2.upd H1 l o):=fun b u e=>by
 rw[za8 (zc0 e h)];exact s b u e
theorem upd_id {H:Hp} {m:Addr} {o:HO} (h:H m=some o):L2.upd H m o=H:=by
 funext b
 by_cases hb:b=m
 . subst hb;rw[za3,h]
 . rw[za8 hb]
theorem mt_countTK {X:Cx} (K:W.Frag) (h:X.K=K):MtR X "tuple.count" (yc0 K):=h▸zD6
theorem zH7 {X:Cx} (K:W.Frag) (h:X.K=K):IxR X (rIxT K):=h▸zf4
theorem zz3 {xs:List Int} {i:Nat} {v:V} (h:(xs.map V.int)[i]?=some v):∃ z,v = .int z/\xs[i]?=some z:=by
 rw[List.getElem?_map] at h
 cases e:xs[i]? with
 | none=>rw[e] at h;cases h
 | some z=>rw[e] at h;exact⟨z,(Option.some.inj h).symm,rfl⟩
theorem zN4 {xs:List Int} {j:Nat} {z:Int} (h:xs[j]?=some z):atI (xs.map V.int) (j:Int)=some (V.int z):=zD5 (by rw[List.getElem?_map,h];rfl)
theorem zf3 {xs:List Int} {i:Int} (h0:0<=i) (h1:i<xs.length):atI (xs.map V.int) i=some (.int (xs.getD i.toNat 0)):=by
 obtain ⟨j,rfl⟩:∃ j:Nat,i=j:=⟨i.toNat,by omega⟩
 have hj:j<xs.length:=by omega
 rw[zN4 (z:=xs[j]) (by simp[hj])]
 simp[hj]
theorem zf6 {a b:Int}:decide (V.int a=V.int b)=decide (a=b):=by
 by_cases h:a=b
 . subst h;simp
 . rw[decide_eq_false h,decide_eq_false];intro e;cases e;exact h rfl
theorem zX7 {J:It} {H1:Hp} {D:Addr} {n:Nat} {x:Nat->V} {f:Nat->V} {j:Nat} {σc:St} {telt:TE} {Q:Hp->Prop} (hn:n<=sizeLine)
   (go:∀ i acc,i<n->J.go i (upd H1 D (.lst acc))) (st:∀ acc,J.stop n (upd H1 D (.lst acc))) (yl:∀ i acc v H',i<n->J.yld i (upd H1 D (.lst acc)) v H'->H'=upd H1 D (.lst acc)/\v=x i)
   (el:∀ i acc R,i<n->R (f i) (upd H1 D (.lst acc))->telt (σc.set j (some (x i))) (upd H1 D (.lst acc)) R) (q:Q (upd H1 D (.lst ((List.range n).map f)))) :
   ∃ W:Nat->Nat->St->Hp->Prop,(∃ m,W 0 m σc (upd H1 D (.lst []))) ∧
     ∀ i m σ' H',W i m σ' H'->(J.stop i H'/\Q H')\/(J.go i H'/\∃ N:St->Hp->Prop,(∀ σ2 H2,N σ2 H2->∃ m',m'<m/\W (i+1) m' σ2 H2) ∧
       ∀ v H2,J.yld i H' v H2->zr1 j v σ' H2 fun σ3 H3=>zv3 σ3 H3 fun b H4=>if b=true then zr4 D telt N σ3 H4 else N σ3 H4):=by
 refine⟨fun i m σ' H'=>m=n-i/\i<=n/\(∀ v,σ'.set j (some v)=σc.set j (some v))/\H'=upd H1 D (.lst ((List.range i).map f)),⟨n,by simp,Nat.zero_le _,fun _=>rfl,rfl⟩,?_⟩
 rintro i m σ' H' ⟨rfl,hi,hσ,rfl⟩
 by_cases hlt:i<n
 . refine .inr ⟨go i _ hlt,fun σ2 H2=>(∀ v,σ2.set j (some v)=σc.set j (some v))/\H2=upd H1 D (.lst ((List.range (i+1)).map f)),fun σ2 H2 ⟨h1,h2⟩=>⟨n-(i+1),by omega,rfl,hlt,h1,h2⟩,fun v H2 y=>?_⟩
   obtain ⟨rfl,rfl⟩:=yl i _ v H2 hlt y
   dsimp only[zr1,zv3]
   refine iteT ?_
   dsimp only[zr4]
   rw[hσ]
   refine el i _ _ hlt ⟨_,za3,?_,?_,?_⟩
   . rw[List.length_map,List.length_range];omega
   . intro v;simp
   . rw[zj6,List.range_succ,List.map_append];rfl
 . have e:i=n:=by omega
   subst e
   exact .inl ⟨st _,q⟩
theorem zW2 {K:W.Frag} {H:Hp} {a D:Addr} {xs:List V} {o:HO} (h:SqL K H a xs) (n:H D=none):SqL K (upd H D o) a xs:=(Same.upd n).seq h
theorem zW3 {K:W.Frag} {H:Hp} {a D:Addr} {xs:List V} {o:HO} (h:SqT K H a xs) (n:H D=none):SqT K (upd H D o) a xs:=(Same.upd n).tup h
theorem zF4 {α β:Type} (xs:List α) (d:α) (f:α->β):(List.range xs.length).map (fun i=>f (xs.getD i d))=xs.map f:=by
 apply List.ext_getElem
 . simp
 . intro i h1 h2
   simp at h1 h2
   simp[h1]
theorem zX8 {K:W.Frag} {H1:Hp} {a D:Addr} {xs:List V} {f:V->V} {j:Nat} {σc:St} {telt:TE} {Q:Hp->Prop} (h:SqT K H1 a xs) (hD:H1 D=none) (hn:xs.length<=sizeLine)
   (el:∀ x acc R,x∈xs->R (f x) (upd H1 D (.lst acc))->telt (σc.set j (some x)) (upd H1 D (.lst acc)) R) (q:Q (upd H1 D (.lst (xs.map f)))) :
   ∃ W:Nat->Nat->St->Hp->Prop,(∃ m,W 0 m σc (upd H1 D (.lst []))) ∧
     ∀ i m σ' H',W i m σ' H'->((Itt K a).stop i H'/\Q H')\/((Itt K a).go i H'/\∃ N:St->Hp->Prop,(∀ σ2 H2,N σ2 H2->∃ m',m'<m/\W (i+1) m' σ2 H2) ∧
       ∀ v H2,(Itt K a).yld i H' v H2->zr1 j v σ' H2 fun σ3 H3=>zv3 σ3 H3 fun b H4=>if b=true then zr4 D telt N σ3 H4 else N σ3 H4):=by
 refine zX7 (J:=Itt K a) (n:=xs.length) (x:=fun i=>xs.getD i .non) (f:=fun i=>f (xs.getD i .non)) hn (fun i acc hi=>⟨xs,xs[i],zW3 h hD,by simp[hi]⟩) (fun acc=>⟨xs,zW3 h hD,Nat.le_refl _⟩) (fun i acc v H' hi y=>?_) (fun i acc R hi r=>?_) ?_
 . obtain ⟨e,y⟩:=y
   have:=y xs (zW3 h hD)
   exact⟨e,by rw[List.getD_eq_getElem?_getD,this];rfl⟩
 . refine el _ acc R ?_ r
   rw[List.getD_eq_getElem?_getD,List.getElem?_eq_getElem hi]
   exact List.getElem_mem hi
 . rw[zF4];exact q
theorem comp_list {K:W.Frag} {H1:Hp} {a D:Addr} {xs:List V} {f:V->V} {j:Nat} {σc:St} {telt:TE} {Q:Hp->Prop} (h:SqL K H1 a xs) (hD:H1 D=none) (hn:xs.length<=sizeLine)
   (el:∀ x acc R,x∈xs->R (f x) (upd H1 D (.lst acc))->telt (σc.set j (some x)) (upd H1 D (.lst acc)) R) (q:Q (upd H1 D (.lst (xs.map f)))) :
   ∃ W:Nat->Nat->St->Hp->Prop,(∃ m,W 0 m σc (upd H1 D (.lst []))) ∧
     ∀ i m σ' H',W i m σ' H'->((Itl K a).stop i H'/\Q H')\/((Itl K a).go i H'/\∃ N:St->Hp->Prop,(∀ σ2 H2,N σ2 H2->∃ m',m'<m/\W (i+1) m' σ2 H2) ∧
       ∀ v H2,(Itl K a).yld i H' v H2->zr1 j v σ' H2 fun σ3 H3=>zv3 σ3 H3 fun b H4=>if b=true then zr4 D telt N σ3 H4 else N σ3 H4):=by
 refine zX7 (J:=Itl K a) (n:=xs.length) (x:=fun i=>xs.getD i .non) (f:=fun i=>f (xs.getD i .non)) hn (fun i acc hi=>⟨xs,xs[i],zW2 h hD,by simp[hi]⟩) (fun acc=>⟨xs,zW2 h hD,Nat.le_refl _⟩) (fun i acc v H' hi y=>?_) (fun i acc R hi r=>?_) ?_
 . obtain ⟨e,y⟩:=y
   have:=y xs (zW2 h hD)
   exact⟨e,by rw[List.getD_eq_getElem?_getD,this];rfl⟩
 . refine el _ acc R ?_ r
   rw[List.getD_eq_getElem?_getD,List.getElem?_eq_getElem hi]
   exact List.getElem_mem hi
 . rw[zF4];exact q
end L2
namespace L2
open PySem PySem.Spec PyProof.Rows
section
variable {prog:Program} {w:World} {A:Around} {E:Value->Shared->Prop} {s:Shared}
theorem zP1 {it l:Addr} {i:Nat} {its:Array Value} {x:Value} {Q:Value->Shared->Prop} (hit:s.heap.IsTupleIter it l i) (hl:s.heap.IsTuple l its) (hx:its[i]?=some x)
   (hQ:∀ h',h'.IsTupleIter it l (i+1)->Heap.SameBut it s.heap h'->Q x { s with heap:=h' }):wpAny (model prog w) A (Builtin.SmallTypes.nextOf (.ref it)) Q E s:=by
 obtain ⟨oi,hoi,hci,hdi⟩:=id hit
 obtain ⟨os,hos,_,ns,hds⟩:=hl
 unfold Builtin.SmallTypes.nextOf
 refine wpAny_bind (wpAny_callSpecial?_slot (name:=Str.ofString "__next__") hit.typeIs F.slot_tuple_iterator_next (wpAny_call_entry F.slot_tuple_iterator_next hit.typeIs F.entry_tuple_iterator_next ?_ (F.args_tuple_iterator_next_1 _)))
 show wpAny _ _ (field (.ref it) 0 >>= _) _ _ s
 refine wpAny_bind (wpAny_field hoi hdi (x:=.ref l) rfl ?_);show wpAny _ _ (if (Value.ref l == Value.none)=true then _ else _) _ _ s
 rw[if_neg (show ¬ ((Value.ref l == Value.none)=true) from Bool.false_ne_true)];show wpAny _ _ (field (.ref it) 1 >>= _) _ _ s
 refine wpAny_bind (wpAny_field hoi hdi (x:=.int i 0) rfl ?_);show wpAny _ _ (seqItems? (.ref l) >>= _) _ _ s
 refine wpAny_bind (wpAny_seqItems hos hds ?_);simp only[Int.toNat_natCast,hx]
 refine wpAny_bind (wpAny_setField hoi hdi (by simp) (wpAny_pure ⟨x,rfl,wpAny_pure (hQ _ ?_ (Heap.SameBut.update ..))⟩))
 refine⟨_,Heap.get?_update_self _ hoi (Obj.isFreed_of_fields (Obj.data_mapFields hdi _)),(Obj.cls_mapFields ..).trans hci,?_⟩;rw[Obj.data_mapFields hdi];simp[rawInt]
theorem nextOf_tup_end {it l:Addr} {i:Nat} {its:Array Value} {Q:Value->Shared->Prop} (hh:A.handled=none) (hit:s.heap.IsTupleIter it l i) (hl:s.heap.IsTuple l its) (hx:its[i]?=none)
   (hE:∀ h' e,Heap.ExtBut it s.heap h'->(∃ o,h'.get? e=some o/\o.cls = .type "StopIteration")->E (.ref e) { s with heap:=h' }):wpAny (model prog w) A (Builtin.SmallTypes.nextOf (.ref it)) Q E s:=by
 obtain ⟨oi,hoi,hci,hdi⟩:=id hit
 obtain ⟨os,hos,_,ns,hds⟩:=hl
 unfold Builtin.SmallTypes.nextOf
 refine wpAny_bind (wpAny_callSpecial?_slot (name:=Str.ofString "__next__") hit.typeIs F.slot_tuple_iterator_next (wpAny_call_entry F.slot_tuple_iterator_next hit.typeIs F.entry_tuple_iterator_next ?_ (F.args_tuple_iterator_next_1 _)))
 show wpAny _ _ (field (.ref it) 0 >>= _) _ _ s
 refine wpAny_bind (wpAny_field hoi hdi (x:=.ref l) rfl ?_);show wpAny _ _ (if (Value.ref l == Value.none)=true then _ else _) _ _ s
 rw[if_neg (show ¬ ((Value.ref l == Value.none)=true) from Bool.false_ne_true)];show wpAny _ _ (field (.ref it) 1 >>= _) _ _ s
 refine wpAny_bind (wpAny_field hoi hdi (x:=.int i 0) rfl ?_);show wpAny _ _ (seqItems? (.ref l) >>= _) _ _ s
 refine wpAny_bind (wpAny_seqItems hos hds ?_);simp only[Int.toNat_natCast,hx]
 refine wpAny_bind (wpAny_rule (wpAny_bind (wpAny_setField hoi hdi (by simp) ?_)));show wpAny _ _ (newExc (.type "StopIteration") [] >>= _) _ _ _
 refine wpAny_bind ?_;simp only[newExc,newTuple]
 refine wpAny_bind (wpAny_newObj_type ?_ (by size_fits))
 refine wpAny_bind (m:=firstArgMember _ _) (wpAny_of_eq (a:=Value.none) (by first | rfl | (simp only[firstArgMember];rfl)) ?_)
 refine wpAny_newObj_type ?_ (by size_fits);simp only[raiseNew]
 refine wpAny_bind (wpAny_handled ?_);first | rw[show A.in1.handled=none from hh] | rw[hh]
 refine wpAny_bind (wpAny_pure (wpAny_throw ?_))
 exact hE _ _ (((Heap.SameBut.update ..).extBut.push _).push _) ⟨_,Heap.get?_push_size _ rfl,rfl⟩
structure ya2 (z TI TO i1 i2:Addr):Prop where
 TIz:TI≠z
 TOz:TO≠z
 i1z:i1≠z
 i2z:i2≠z
 TITO:TI≠TO
 TIi1:TI≠i1
 TIi2:TI≠i2
 TOi1:TO≠i1
 TOi2:TO≠i2
 i12:i1≠i2
structure ZAt (h:Heap) (z TI TO i1 i2 l1 l2:Addr) (f0:Value) (i:Nat):Prop where
 hz:IsZip h z TI TO f0
 hTI:IsPair h TI (.ref i1) (.ref i2)
 hTO:∃ a b,IsPair h TO a b
 h1:h.IsTupleIter i1 l1 i
 h2:h.IsTupleIter i2 l2 i
theorem zip_item {z TI TO i1 i2 l1 l2:Addr} {k:Nat} {xs ys:Array Value} {x y:Value} {Q:Option Value->Shared->Prop} (D:ya2 z TI TO i1 i2) (L:∀ l,l=l1\/l=l2->l≠z/\l≠TO/\l≠i1/\l≠i2) (Z:ZAt s.heap z TI TO i1 i2 l1 l2 .none k)
   (hl1:s.heap.IsTuple l1 xs) (hl2:s.heap.IsTuple l2 ys) (hx:xs[k]?=some x) (hy:ys[k]?=some y)
   (hQ:∀ h',ZAt h' z TI TO i1 i2 l1 l2 (rawInt s.heap.objs.size) (k+1)->IsPair h' s.heap.objs.size x y →
     (∀ c o,c≠z->c≠TO->c≠i1->c≠i2->s.heap.get? c=some o->h'.get? c=some o)->Q (some (.ref s.heap.objs.size)) { s with heap:=h' }) :
   wpAny (model prog w) A (pyNext (.ref z)) Q E s:=by
 obtain ⟨hz,hTI,⟨a,b,hTO⟩,h1,h2⟩:=Z
 obtain ⟨l1z,l1TO,l1i1,l1i2⟩:=L l1 (.inl rfl)
 obtain ⟨l2z,l2TO,l2i1,l2i2⟩:=L l2 (.inr rfl)
 have hT:s.TypeIs (.ref z) "zip":=⟨_,hz,rfl⟩
 unfold pyNext
 refine wpAny_bind (wpAny_attempt (wpAny_callSpecial?_slot (name:=Str.ofString "__next__") hT F.slot_zip_next (wpAny_call_entry F.slot_zip_next hT F.entry_zip_next ?_ (F.args_zip_next_1 _))))
 show wpAny _ _ (field (.ref z) 2 >>= _) _ _ _
 refine wpAny_bind (wpAny_field hz rfl (x:=.bool false) rfl ?_);show wpAny _ _ (field (.ref z) 3 >>= _) _ _ _
 refine wpAny_bind (wpAny_field hz rfl (x:=.ref TI) rfl ?_)
 refine wpAny_bind (wpAny_seqItems hTI rfl ?_);show wpAny _ _ (Builtin.SmallTypes.ownedTupleIsFree (.ref z) >>= _) _ _ _
 refine wpAny_bind ?_;unfold Builtin.SmallTypes.ownedTupleIsFree
 refine wpAny_bind (wpAny_field hz rfl (x:=.none) rfl (wpAny_pure ?_));simp only[if_true]
 refine wpAny_bind (wpAny_rule (wpAny_bind (wpAny_field hz rfl (x:=.ref TO) rfl ?_)))
 refine wpAny_bind (wpAny_setField_rec hz (by simp) fun g1 z1 e1=>?_)
 replace z1:IsZip g1 z TI TO .ellipsis:=z1
 refine wpAny_bind ?_;simp only[List.zipIdx_cons,List.zipIdx_nil,List.forIn_cons,List.forIn_nil]
 refine wpAny_bind (wpAny_bind (wpAny_onRaise ?_));show wpAny _ _ (Builtin.SmallTypes.nextOf (.ref i1) >>= _) _ _ _
 refine wpAny_bind (zP1 (h1.extBut e1.extBut D.i1z) (hl1.extBut e1.extBut l1z) hx fun g2 j1 e2=>wpAny_pure ?_)
 have t2:IsPair g2 TO a b:=e2.extBut _ _ D.TOi1 (e1.extBut _ _ D.TOz hTO)
 refine wpAny_bind (wpAny_seqItems t2 rfl (wpAny_bind (wpAny_updateSeq_pair t2 fun g3 t3 e3=>?_)))
 replace t3:IsPair g3 TO x b:=t3
 refine wpAny_bind (wpAny_letGo (wpAny_pure ?_))
 refine wpAny_bind (wpAny_bind (wpAny_onRaise ?_));show wpAny _ _ (Builtin.SmallTypes.nextOf (.ref i2) >>= _) _ _ _
 refine wpAny_bind (zP1 (((h2.extBut e1.extBut D.i2z).extBut e2.extBut D.i12.symm).extBut e3.extBut D.TOi2.symm) (((hl2.extBut e1.extBut l2z).extBut e2.extBut l2i1).extBut e3.extBut l2TO) hy fun g4 j2 e4=>wpAny_pure ?_)
 have t4:IsPair g4 TO x b:=e4.extBut _ _ D.TOi2 t3
 refine wpAny_bind (wpAny_seqItems t4 rfl (wpAny_bind (wpAny_updateSeq_pair t4 fun g5 t5 e5=>?_)))
 replace t5:IsPair g5 TO x y:=t5
 refine wpAny_bind (wpAny_letGo (wpAny_pure (wpAny_pure ?_)))
 refine wpAny_bind (wpAny_seqItems t5 rfl (wpAny_bind (wpAny_newTuple ?_)))
 have sz:g5.objs.size=s.heap.objs.size:=by rw[e5.1,e4.1,e3.1,e2.1,e1.1]
 have z5:IsZip g5 z TI TO .ellipsis:=e5.extBut _ _ D.TOz.symm (e4.extBut _ _ D.i2z.symm (e3.extBut _ _ D.TOz.symm (e2.extBut _ _ D.i1z.symm z1)))
 have k5:∀ c o,c≠z->c≠TO->c≠i1->c≠i2->s.heap.get? c=some o->g5.get? c=some o:=fun c o c1 c2 c3 c4 e=>e5.extBut _ _ c2 (e4.extBut _ _ c4 (e3.extBut _ _ c2 (e2.extBut _ _ c3 (e1.extBut _ _ c1 e))))
 have m1:g5.IsTupleIter i1 l1 (k+1):=((j1.extBut e3.extBut D.TOi1.symm).extBut e4.extBut D.i12).extBut e5.extBut D.TOi1.symm
 have m2:g5.IsTupleIter i2 l2 (k+1):=j2.extBut e5.extBut D.TOi2.symm
 have zl:z<g5.objs.size:=Heap.lt_size z5
 show wpAny _ _ (Builtin.SmallTypes.ownedTupleHandOut (.ref z) (.ref g5.objs.size) >>= _) _ _ _
 refine wpAny_bind ?_;unfold Builtin.SmallTypes.ownedTupleHandOut
 have z6:IsZip (g5.push { cls:=.type "tuple",data:=.seq #[x,y] }) z TI TO .ellipsis:=Heap.get?_push_of_some _ z5
 refine wpAny_bind (wpAny_setField_rec z6 (by simp) fun g7 z7 e7=>?_)
 replace z7:IsZip g7 z TI TO (rawInt g5.objs.size):=z7
 refine wpAny_setField_rec z7 (by simp) fun g8 z8 e8=>?_
 replace z8:IsZip g8 z TI TO (rawInt g5.objs.size):=z8
 have up:∀ c o,c≠z->g5.get? c=some o->g8.get? c=some o:=fun c o c1 e=>e8.extBut _ _ c1 (e7.extBut _ _ c1 (Heap.get?_push_of_some _ e))
 have t8:IsPair g8 g5.objs.size x y:=e8.extBut _ _ (Nat.ne_of_gt zl) (e7.extBut _ _ (Nat.ne_of_gt zl) (Heap.get?_push_size _ rfl))
 rw[sz] at z8 t8
 refine wpAny_pure ⟨_,rfl,wpAny_pure ?_⟩
 show Q (some (.ref g5.objs.size)) _
 rw[sz]
 have at1:∀ {it l:Addr} {i:Nat},g5.IsTupleIter it l i->it≠z->g8.IsTupleIter it l i:=fun q ne=>let ⟨o,ho,r⟩:=q;⟨o,up _ o ne ho,r⟩
 exact hQ g8 ⟨z8,up _ _ D.TIz (k5 _ _ D.TIz D.TITO D.TIi1 D.TIi2 hTI),⟨x,y,up _ _ D.TOz t5⟩,at1 m1 D.i1z,at1 m2 D.i2z⟩ t8 fun c o c1 c2 c3 c4 e=>up c o c1 (k5 c o c1 c2 c3 c4 e)
theorem zip_end {z TI TO i1 i2 l1 l2:Addr} {k:Nat} {xs:Array Value} {Q:Option Value->Shared->Prop} (hh:A.handled=none) (D:ya2 z TI TO i1 i2) (L:l1≠z) (Z:ZAt s.heap z TI TO i1 i2 l1 l2 .none k)
   (hl1:s.heap.IsTuple l1 xs) (hx:xs[k]?=none)
   (hQ:∀ h',(∀ c o,c≠z->c≠TO->c≠i1->c≠i2->s.heap.get? c=some o->h'.get? c=some o)->Q none { s with heap:=h' }):wpAny (model prog w) A (pyNext (.ref z)) Q E s:=by
 obtain ⟨hz,hTI,⟨a,b,hTO⟩,h1,h2⟩:=Z
 have hT:s.TypeIs (.ref z) "zip":=⟨_,hz,rfl⟩
 unfold pyNext
 refine wpAny_bind (wpAny_attempt (wpAny_callSpecial?_slot (name:=Str.ofString "__next__") hT F.slot_zip_next (wpAny_call_entry F.slot_zip_next hT F.entry_zip_next ?_ (F.args_zip_next_1 _))))
 show wpAny _ _ (field (.ref z) 2 >>= _) _ _ _
 refine wpAny_bind (wpAny_field hz rfl (x:=.bool false) rfl ?_);show wpAny _ _ (field (.ref z) 3 >>= _) _ _ _
 refine wpAny_bind (wpAny_field hz rfl (x:=.ref TI) rfl ?_)
 refine wpAny_bind (wpAny_seqItems hTI rfl ?_);show wpAny _ _ (Builtin.SmallTypes.ownedTupleIsFree (.ref z) >>= _) _ _ _
 refine wpAny_bind ?_;unfold Builtin.SmallTypes.ownedTupleIsFree
 refine wpAny_bind (wpAny_field hz rfl (x:=.none) rfl (wpAny_pure ?_));simp only[if_true]
 refine wpAny_bind (wpAny_rule (wpAny_bind (wpAny_field hz rfl (x:=.ref TO) rfl ?_)))
 refine wpAny_bind (wpAny_setField_rec hz (by simp) fun g1 z1 e1=>?_)
 replace z1:IsZip g1 z TI TO .ellipsis:=z1
 refine wpAny_bind ?_;simp only[List.zipIdx_cons,List.zipIdx_nil,List.forIn_cons,List.forIn_nil]
 refine wpAny_bind (wpAny_bind (wpAny_onRaise ?_));show wpAny _ _ (Builtin.SmallTypes.nextOf (.ref i1) >>= _) _ _ _
 refine wpAny_bind (nextOf_tup_end hh (h1.extBut e1.extBut D.i1z) (hl1.extBut e1.extBut L) hx fun g2 e e2 he=>?_)
 obtain ⟨oe,hoe,hce⟩:=he
 have z2:IsZip g2 z TI TO .ellipsis:=e2 _ _ D.i1z.symm z1
 have nez:e≠z:=fun q=>by subst q;rw[z2] at hoe;cases hoe;simp at hce
 refine wpAny_setField_rec z2 (by simp) fun g3 _ e3=>?_
 refine wpAny_bind (wpAny_isInstance (T:="StopIteration") (b:=true) ⟨oe,e3.extBut _ _ nez hoe,hce⟩ isSubtype_stop ?_)
 exact wpAny_pure (hQ _ fun c o c1 _ c3 _ q=>e3.extBut _ _ c1 (e2 _ _ c3 (e1.extBut _ _ c1 q)))
noncomputable abbrev zp1 (h:Heap) (l1:Addr):Heap:=h.push { cls:=.type "tuple_iterator",data:=.fields #[.ref l1,.int 0 0] }
noncomputable abbrev zp2 (h:Heap) (l1 l2:Addr):Heap:=(zp1 h l1).push { cls:=.type "tuple_iterator",data:=.fields #[.ref l2,.int 0 0] }
noncomputable abbrev zp3 (h:Heap) (l1 l2:Addr):Heap:=(zp2 h l1 l2).push { cls:=.type "tuple",data:=.seq #[.ref h.objs.size,.ref (zp1 h l1).objs.size] }
noncomputable abbrev zp4 (h:Heap) (l1 l2:Addr):Heap:=(zp3 h l1 l2).push { cls:=.type "tuple",data:=.seq #[.none,.none] }
noncomputable abbrev zp5 (h:Heap) (l1 l2:Addr):Heap:=(zp4 h l1 l2).push { cls:=.type "zip",data:=.fields #[.none,.bool false,.bool false,.ref (zp2 h l1 l2).objs.size,.ref (zp3 h l1 l2).objs.size] }
theorem zip_made (l1 l2:Addr) (xs ys:Array Value) :
   Meets (Builtin.«zip.__new__» ⟨[.type "zip",.ref l1,.ref l2],[]⟩) (fun _ R s=>s.heap.IsTuple l1 xs/\s.heap.IsTuple l2 ys/\R (.ok (.ret (.ref (zp4 s.heap l1 l2).objs.size))) { s with heap:=zp5 s.heap l1 l2 }) :=
 .of_wp fun prog w A R s h=>by
   obtain ⟨hp,g,d,tk,os⟩:=s
   obtain ⟨hl1,hl2,h⟩:=h
   have hsub:=sub_zip
   have q1:Heap.IsTuple (Shared.heap ⟨hp,g,d,tk,os⟩) l1 xs:=hl1
   have q2:Heap.IsTuple (Shared.heap ⟨hp.push { cls:=.type "tuple_iterator",data:=.fields #[.ref l1,.int 0 0] },g,d,tk,os⟩) l2 ys:=Heap.IsTuple.push hl2 _
   wp_walk using wpAny_pyIter_tuple q1,wpAny_pyIter_tuple q2
   exact⟨_,rfl,h⟩
theorem zip_call {l1 l2:Addr} {xs ys:Array Value} {Q:Value->Shared->Prop} (hl1:s.heap.IsTuple l1 xs) (hl2:s.heap.IsTuple l2 ys)
   (h:∀ h',ZAt h' (s.heap.objs.size+4) (s.heap.objs.size+2) (s.heap.objs.size+3) s.heap.objs.size (s.heap.objs.size+1) l1 l2 .none 0 →
     (∀ c o,s.heap.get? c=some o->h'.get? c=some o)->Q (.ref (s.heap.objs.size+4)) { s with heap:=h' }):wpAny (model prog w) A (call (.type "zip") [.ref l1,.ref l2]) Q E s:=by
 refine callType_new F.called_zip (by decide) (F.typeCall_zip_2 _ _) (F.newCall_zip_2 _ _) (fun obj=>F.args_object_init_3 obj _ _) F.entry_zip_new (zip_made l1 l2 xs ys) ⟨hl1,hl2,?_⟩
 have n1:(zp1 s.heap l1).objs.size=s.heap.objs.size+1:=Heap.size_push ..
 have n2:(zp2 s.heap l1 l2).objs.size=s.heap.objs.size+2:=by rw[Heap.size_push,n1]
 have n3:(zp3 s.heap l1 l2).objs.size=s.heap.objs.size+3:=by rw[Heap.size_push,n2]
 have n4:(zp4 s.heap l1 l2).objs.size=s.heap.objs.size+4:=by rw[Heap.size_push,n3]
 have p5:(zp5 s.heap l1 l2).get? (zp4 s.heap l1 l2).objs.size=some _:=Heap.get?_push_size _ rfl
 have p4:(zp5 s.heap l1 l2).get? (zp3 s.heap l1 l2).objs.size=some _:=Heap.get?_push_of_some _ (Heap.get?_push_size _ rfl)
 have p3:(zp5 s.heap l1 l2).get? (zp2 s.heap l1 l2).objs.size=some _:=Heap.get?_push_of_some _ (Heap.get?_push_of_some _ (Heap.get?_push_size _ rfl))
 have p2:(zp5 s.heap l1 l2).get? (zp1 s.heap l1).objs.size=some _:=Heap.get?_push_of_some _ (Heap.get?_push_of_some _ (Heap.get?_push_of_some _ (Heap.get?_push_size _ rfl)))
 have p1:(zp5 s.heap l1 l2).get? s.heap.objs.size=some _:=Heap.get?_push_of_some _ (Heap.get?_push_of_some _ (Heap.get?_push_of_some _ (Heap.get?_push_of_some _ (Heap.get?_push_size _ rfl))))
 show _/\_
 rw[n2,n3,n4] at p5
 rw[n1,n2] at p3
 rw[n3] at p4
 rw[n1] at p2
 rw[n4]
 refine⟨⟨_,p5,rfl⟩,h _ ⟨p5,p3,⟨_,_,p4⟩,⟨_,p1,rfl,rfl⟩,⟨_,p2,rfl,rfl⟩⟩ fun c o x=>?_⟩
 exact Heap.get?_push_of_some _ (Heap.get?_push_of_some _ (Heap.get?_push_of_some _ (Heap.get?_push_of_some _ (Heap.get?_push_of_some _ x))))
end
noncomputable def Itz (l1 l2:Addr):It :=
 ⟨fun i H=>∃ xs ys x y,H l1=some (.tup xs)/\H l2=some (.tup ys)/\xs[i]?=some x/\ys[i]?=some y,
  fun i H v H'=>∃ p xs ys x y,H p=none/\v = .ref p/\H l1=some (.tup xs)/\H l2=some (.tup ys)/\xs[i]?=some x/\ys[i]?=some y/\H'=upd H p (.tup [x,y]),
  fun i H=>∃ xs ys,H l1=some (.tup xs)/\H l2=some (.tup ys)/\xs.length<=i⟩
theorem turn_zip {P:Program} {w:World} {K:W.Frag} {es:List Expr} {k0:Nat} {tp:Pos} {l1 l2 z TI TO i1 i2:Addr} (D:ya2 z TI TO i1 i2) :
   Turn P w K (.Tuple es k0 tp) (Itz l1 l2) [z,TI,TO,i1,i2] z (fun i h=>ZAt h z TI TO i1 i2 l1 l2 .none i) where
 mem:=by simp
 obj:=fun i h Z b hb=>by
   obtain ⟨hz,hTI,⟨a,c,hTO⟩,⟨o1,e1,c1,d1⟩,⟨o2,e2,c2,d2⟩⟩:=Z
   simp only[List.mem_cons,List.not_mem_nil,or_false] at hb
   rcases hb with rfl | rfl | rfl | rfl | rfl
   . exact⟨_,hz,fun v q=>by cases (show Data.fields _=Data.cell v from q)⟩
   . exact⟨_,hTI,fun v q=>by cases (show Data.seq _ _=Data.cell v from q)⟩
   . exact⟨_,hTO,fun v q=>by cases (show Data.seq _ _=Data.cell v from q)⟩
   . exact⟨o1,e1,fun v q=>by rw[d1] at q;cases q⟩
   . exact⟨o2,e2,fun v q=>by rw[d2] at q;cases q⟩
 keep:=fun i h h' Z k=>by
   obtain ⟨hz,hTI,⟨a,c,hTO⟩,⟨o1,e1,r1⟩,⟨o2,e2,r2⟩⟩:=Z
   exact⟨k z (by simp) _ hz,k TI (by simp) _ hTI,⟨a,c,k TO (by simp) _ hTO⟩,⟨o1,k i1 (by simp) _ e1,r1⟩,⟨o2,k i2 (by simp) _ e2,r2⟩⟩
 item:=by
   intro X hP hw hK hc i pins s σ H E I hf Z hg
   subst hP hw hK
   obtain ⟨xs,ys,x,y,hx,hy,ex,ey⟩:=hg
   obtain ⟨_,vx,rx,tx⟩:=I.hok l1 _ hx
   obtain ⟨_,vy,ry,ty⟩:=I.hok l2 _ hy
   obtain ⟨u,hu,ru⟩:=rx.get ex
   obtain ⟨v,hv,rv⟩:=ry.get ey
   have hfree:∀ b∈[z,TI,TO,i1,i2],H b=none:=fun b hb=>(hf b hb).1
   have L:∀ l,l=l1\/l=l2->l≠z/\l≠TO/\l≠i1/\l≠i2:=fun l hl=>by
     have hs:∃ o,H l=some o:=by
       rcases hl with e | e
       . exact⟨_,by rw[e];exact hx⟩
       . exact⟨_,by rw[e];exact hy⟩
     obtain ⟨o,ho⟩:=hs
     exact⟨zc0 ho (hfree z (by simp)),zc0 ho (hfree TO (by simp)),zc0 ho (hfree i1 (by simp)),zc0 ho (hfree i2 (by simp))⟩
   refine zip_item D L Z (show s.heap.IsTuple l1 vx.toArray from tx.isTup) (show s.heap.IsTuple l2 vy.toArray from ty.isTup) (x:=u) (y:=v) (by simpa using hu) (by simpa using hv) fun h' Z' hp kk=>?_
   refine⟨_,rfl,wpAny_letOwnedTupleGo_zip Z'.hz fun h2 hz2 sb=>?_⟩
   have kk2:∀ c o,c∉[z,TO,i1,i2]->s.heap.get? c=some o->h2.get? c=some o:=fun c o hc e=>sb.extBut _ _ (fun q=>hc (by simp[q])) (kk c o (fun q=>hc (by simp[q])) (fun q=>hc (by simp[q])) (fun q=>hc (by simp[q])) (fun q=>hc (by simp[q])) e)
   have nb:∀ c o,H c=some o->c∉[z,TO,i1,i2]:=fun c o e hm=>by
     have:H c=none:=hfree c (by simp only[List.mem_cons,List.not_mem_nil,or_false] at hm ⊢;rcases hm with q | q | q | q<;>simp[q])
     rw[this] at e;cases e
   have zlt:z<s.heap.objs.size:=Heap.lt_size Z.hz
   have hp2:IsPair h2 s.heap.objs.size u v:=sb.extBut _ _ (Nat.ne_of_gt zlt) hp
   have fr:H s.heap.objs.size=none:=I.fresh
   have I2:Inv X pins σ (upd H s.heap.objs.size (.tup [x,y])) { s with heap:=h2 }:=by
     refine I.step (g':=s.gens) (d':=s.drawn) (t':=s.toks) (ch:=[z,TO,i1,i2]) (fun b hb=>?_) (fun b o _ _ hc e _=>kk2 b o hc e) (fun b o _ _ hc e _=>⟨o.slots,kk2 b o hc e⟩)
       (fun b o _ e n=>by rw[za8 (Nat.ne_of_lt (Heap.lt_size e))];exact n)
       (fun b o hc e=>⟨o,kk2 b o hc e⟩) (fun b zs e=>by rw[za8 (zc0 e fr)];exact e) (fun b o zs e=>by rw[za8 (zc0 e fr)];exact e) (fun b ps e=>⟨#[],by rw[za8 (zc0 e fr),e];simp⟩) (fun m hm=>?_) (fun b o e=>?_) I.bare
     . obtain ⟨f0,f1,f2,f3,f4,f5⟩:=hf b (by simp only[List.mem_cons,List.not_mem_nil,or_false] at hb ⊢;rcases hb with q | q | q | q<;>simp[q])
       exact⟨f3,f1,f4,f5⟩
     . obtain ⟨o,es',ep,ho,r⟩:=hm
       refine⟨o,es',ep,kk2 _ o (fun hm=>?_) ho,r⟩
       exact (hf X.env.locals (by simp only[List.mem_cons,List.not_mem_nil,or_false] at hm ⊢;rcases hm with q | q | q | q<;>simp[q])).2.1 rfl
     . by_cases hb:b=s.heap.objs.size
       . subst hb
         rw[za3] at e
         cases e
         exact⟨(by show 2<=sizeLine;decide),[u,v],.cons ru (.cons rv .nil),⟨_,hp2,rfl,rfl,_,rfl⟩⟩
       . rw[za8 hb] at e
         refine (I.hok b o e).stay (fun c v hc q=>kk2 c v ?_ q) (fun c q=>by rw[za8 (zc0 q fr)];exact q) fun c zs q=>by rw[za8 (zc0 q fr)];exact q
         rcases hc with rfl | hc
         . exact nb _ _ e
         . exact nb _ _ hc
   exact⟨.ref s.heap.objs.size,_,I2,rfl,⟨_,xs,ys,x,y,fr,rfl,hx,hy,ex,ey,rfl⟩,⟨hz2,sb.extBut _ _ D.TIz Z'.hTI,(let ⟨a,c,q⟩:=Z'.hTO;⟨a,c,sb.extBut _ _ D.TOz q⟩),Z'.h1.extBut sb.extBut D.i1z,Z'.h2.extBut sb.extBut D.i2z⟩,fun b hb=>by
     rw[za8]
     . exact hfree b hb
     . obtain ⟨o,e,_⟩:∃ o,s.heap.get? b=some o/\True:=by
         simp only[List.mem_cons,List.not_mem_nil,or_false] at hb
         obtain ⟨hz,hTI,⟨a,c,hTO⟩,⟨o1,e1,_⟩,⟨o2,e2,_⟩⟩:=Z
         rcases hb with rfl | rfl | rfl | rfl | rfl
         . exact⟨_,hz,trivial⟩
         . exact⟨_,hTI,trivial⟩
         . exact⟨_,hTO,trivial⟩
         . exact⟨_,e1,trivial⟩
         . exact⟨_,e2,trivial⟩
       exact Nat.ne_of_lt (Heap.lt_size e)⟩
 done:=by
   intro X hP hw hK hc i pins s σ H E I hf Z hg
   subst hP hw hK
   obtain ⟨xs,ys,hx,hy,hle⟩:=hg
   obtain ⟨_,vx,rx,tx⟩:=I.hok l1 _ hx
   have hln:=rx.length
   have hfree:∀ b∈[z,TI,TO,i1,i2],H b=none:=fun b hb=>(hf b hb).1
   refine zip_end (I.ok.hd hc) D (zc0 hx (hfree z (by simp))) Z (show s.heap.IsTuple l1 vx.toArray from tx.isTup) (by simp;omega) fun h' kk=>⟨rfl,?_⟩
   have kk2:∀ c o,c∉[z,TO,i1,i2]->s.heap.get? c=some o->h'.get? c=some o:=fun c o hc e=>kk c o (fun q=>hc (by simp[q])) (fun q=>hc (by simp[q])) (fun q=>hc (by simp[q])) (fun q=>hc (by simp[q])) e
   have nb:∀ c o,H c=some o->c∉[z,TO,i1,i2]:=fun c o e hm=>by
     have:H c=none:=hfree c (by simp only[List.mem_cons,List.not_mem_nil,or_false] at hm ⊢;rcases hm with q | q | q | q<;>simp[q])
     rw[this] at e;cases e
   refine I.step (g':=s.gens) (d':=s.drawn) (t':=s.toks) (ch:=[z,TO,i1,i2]) (fun b hb=>?_) (fun b o _ _ hc e _=>kk2 b o hc e) (fun b o _ _ hc e _=>⟨o.slots,kk2 b o hc e⟩) (fun _ _ _ _ n=>n)
     (fun b o hc e=>⟨o,kk2 b o hc e⟩) (fun _ _ e=>e) (fun _ _ _ e=>e) (fun b ps e=>⟨#[],by rw[e];simp⟩) (fun m hm=>?_) (fun b o e=>?_) I.bare
   . obtain ⟨f0,f1,f2,f3,f4,f5⟩:=hf b (by simp only[List.mem_cons,List.not_mem_nil,or_false] at hb ⊢;rcases hb with q | q | q | q<;>simp[q])
     exact⟨f3,f1,f4,f5⟩
   . obtain ⟨o,es',ep,ho,r⟩:=hm
     refine⟨o,es',ep,kk2 _ o (fun hm=>?_) ho,r⟩
     exact (hf X.env.locals (by simp only[List.mem_cons,List.not_mem_nil,or_false] at hm ⊢;rcases hm with q | q | q | q<;>simp[q])).2.1 rfl
   . refine (I.hok b o e).stay (fun c v hc q=>kk2 c v ?_ q) (fun _ q=>q) fun _ _ q=>q
     rcases hc with rfl | hc
     . exact nb _ _ e
     . exact nb _ _ hc
 self:=fun _ _ _ _ _ Z h=>wpAny_pyIter_zip Z.hz h
section
variable {X:Cx} {es:List Expr} {k0:Nat} {tp:Pos}
noncomputable def iZip (ta:TA):TI:=fun σ H R=>ta σ H fun vs H1=>∃ l1 l2 xs ys,vs=[.ref l1,.ref l2]/\H1 l1=some (.tup xs)/\H1 l2=some (.tup ys)/\R (Itz l1 l2) H1
theorem pi_zip {a b:Expr} {ta:TA} {p pos:Pos} (hg:Gl X "zip") (hm:X.mg "zip" = none) (ha:PA X [a,b] ta) (hs:starEach [a,b] X.env=[(false,eval a X.env),(false,eval b X.env)]:=by rfl) (hs2:starEach [b] X.env=[(false,eval b X.env)]:=by rfl) :
   PI X (.Tuple es k0 tp) (.Call (.Name "zip" p) [a,b] [] pos) (iZip ta):=by
 intro pins s σ H R I h
 refine Call_ (zK4 I hg hm boot_zip (PyProof.Rows.callWith_type1 (thn (ha pos pins s σ H _ I h) fun us s1 ⟨vs,H1,I1,r1,q1⟩=>?_) (by rw[hs,hs2]) (by rw[hs2];rfl)))
 obtain ⟨l1,l2,xs,ys,e,hx,hy,q⟩:=q1
 subst e
 obtain ⟨u1,u2,rfl,r1',r2'⟩:=yb3 r1
 cases r1'
 cases r2'
 obtain ⟨_,vx,rx,tx⟩:=I1.hok l1 _ hx
 obtain ⟨_,vy,ry,ty⟩:=I1.hok l2 _ hy
 refine zip_call (show s1.heap.IsTuple l1 vx.toArray from tx.isTup) (show s1.heap.IsTuple l2 vy.toArray from ty.isTup) fun h' Z kk=>?_
 refine wpAny_pyIter_zip Z.hz ?_
 have I2:Inv X pins σ H1 { s1 with heap:=h' }:=I1.kept (t':=s1.toks) kk
 have ne:∀ i j:Nat,i≠j->s1.heap.objs.size+i≠s1.heap.objs.size+j:=fun i j hij=>by omega
 refine⟨_,_,_,_,H1,rfl,I2,turn_zip (es:=es) (k0:=k0) (tp:=tp) (TI:=s1.heap.objs.size+2) (TO:=s1.heap.objs.size+3) (i1:=s1.heap.objs.size) (i2:=s1.heap.objs.size+1) ⟨ne 2 4 (by decide),ne 3 4 (by decide),ne 0 4 (by decide),ne 1 4 (by decide),ne 2 3 (by decide),ne 2 0 (by decide),ne 2 1 (by decide),ne 3 0 (by decide),ne 3 1 (by decide),ne 0 1 (by decide)⟩,Z,fun b hb=>?_,q⟩
 have hge:s1.heap.objs.size<=b:=by
   simp only[List.mem_cons,List.not_mem_nil,or_false] at hb
   rcases hb with rfl | rfl | rfl | rfl | rfl<;>first | exact Nat.le_add_right _ _ | exact Nat.le_refl _
 exact I1.fpOk hge (I1.hok.fresh hge)
theorem call_sum (hc:X.calm=true):zs4 X (.builtin "sum") (fun xs H Q=>∃ l ns,xs=[.ref l]/\SqL X.K H l (ns.map V.int)/\PySem.SumFits ns/\Q (.int ns.sum) H):=by
 intro pins s σ H xs us Q I r h
 obtain ⟨l,ns,rfl,hS,hfit,q⟩:=h
 obtain ⟨u,rfl,ru⟩:=zB0 r
 cases ru
 obtain ⟨its,rv,p,hz⟩:=I.list hS
 obtain ⟨ps,e1,e2⟩:=zF3 (zG6 rv)
 have ei:its.toArray=intItems ps.toArray:=by
   unfold intItems
   rw[e1]
   simp
 have hl:=p.isList
 rw[ei] at hl
 have num:∀ j,numAt ps.toArray j=ns.getD j 0:=fun j=>by
   unfold numAt
   rw[<-e2]
   simp[List.getD_eq_getElem?_getD,List.getElem?_map]
 have pre:∀ j,j<=ns.length->preSum (numAt ps.toArray) j=(ns.take j).sum:=by
   intro j
   induction j with
   | zero=>intro _;rfl
   | succ j ih =>
     intro hj
     show preSum (numAt ps.toArray) j+numAt ps.toArray j=_
     rw[ih (by omega),num,List.take_succ,List.sum_append]
     have:ns[j]?=some (ns[j]'(by omega)):=by simp
     rw[List.getD_eq_getElem?_getD,this]
     simp
 have hlen:ps.toArray.size=ns.length:=by rw[<-e2];simp
 refine sum_intList (I.ok.hd hc) hl (fun j hj=>?_) fun h' tk t' kk=>?_
 . have hj':j<ns.length:=by omega
   obtain ⟨f1,f2⟩:=hfit j hj'
   rw[num,pre (j+1) (by omega)]
   exact⟨f1,f2⟩
 . rw[hlen,pre ns.length (Nat.le_refl _),List.take_length]
   exact⟨.int ns.sum,H,I.kept kk,⟨_,rfl⟩,q⟩
theorem pg_tupK {es:List Expr} {k:Nat} {t:TGs} {n:Nat} {pos:Pos} (K:W.Frag) (hK:X.K=K) (hc:X.calm=true) (h:PGs X es t)
 (hn:(assignEach es X.env).length=n:=by rfl) (hst:(assignEach es X.env).findIdx? (·.1)=none:=by rfl):PG X (.Tuple es k pos) (gTup K n t):=hK▸ye6 hc h hn hst
end
theorem comp_zip {K:W.Frag} {H1:Hp} {l1 l2 D:Addr} {xs ys:List V} {f:V->V->V} {rest:St} {telt:TE} {Q:Hp->Prop} (hx:H1 l1=some (.tup xs)) (hy:H1 l2=some (.tup ys)) (hl:xs.length=ys.length) (hD:H1 D=none) (hn:xs.length<=sizeLine)
   (el:∀ (i:Nat) x y H' R,xs[i]?=some x->ys[i]?=some y->Same H1 H'->R (f x y) H'->telt (some x::some y::rest) H' R) (q:∀ H',Same H1 H'->H' D=some (.lst (List.zipWith f xs ys))->Q H') :
   ∃ W:Nat->Nat->St->Hp->Prop,(∃ m,W 0 m (none::none::rest) (upd H1 D (.lst []))) ∧
     ∀ i m σ' H',W i m σ' H'->((Itz l1 l2).stop i H'/\Q H')\/((Itz l1 l2).go i H'/\∃ N:St->Hp->Prop,(∀ σ2 H2,N σ2 H2->∃ m',m'<m/\W (i+1) m' σ2 H2) ∧
       ∀ v H2,(Itz l1 l2).yld i H' v H2->gTup K 2 (ye5 (zr1 0) (ye5 (zr1 1) gNil)) v σ' H2 fun σ3 H3=>zv3 σ3 H3 fun b H4=>if b=true then zr4 D telt N σ3 H4 else N σ3 H4):=by
 have hz:(List.zipWith f xs ys).length=xs.length:=by rw[List.length_zipWith,hl,Nat.min_self]
 refine⟨fun i m σ' H'=>m=xs.length-i/\i<=xs.length/\(∃ a b,σ'=a::b::rest)/\Same H1 H'/\H' D=some (.lst ((List.zipWith f xs ys).take i)),⟨xs.length,by simp,Nat.zero_le _,⟨_,_,rfl⟩,Same.upd hD,by rw[za3];rfl⟩,?_⟩
 rintro i m σ' H' ⟨rfl,hi,⟨a,b,rfl⟩,s,hd⟩
 by_cases hlt:i<xs.length
 . have ex:xs[i]?=some xs[i]:=by simp[hlt]
   have ey:ys[i]?=some (ys[i]'(by omega)):=by simp
   refine .inr ⟨⟨xs,ys,_,_,s _ _ hx,s _ _ hy,ex,ey⟩,fun σ2 H2=>(∃ a b,σ2=a::b::rest)/\Same H1 H2/\H2 D=some (.lst ((List.zipWith f xs ys).take (i+1))),fun σ2 H2 h=>⟨xs.length-(i+1),by omega,rfl,hlt,h.1,h.2.1,h.2.2⟩,?_⟩
   rintro v H2 ⟨p,xs',ys',x',y',fp,rfl,hx',hy',ex',ey',rfl⟩
   have e1:xs'=xs:=by have:=(s _ _ hx).symm.trans hx';cases this;rfl
   have e2:ys'=ys:=by have:=(s _ _ hy).symm.trans hy';cases this;rfl
   subst e1 e2
   have nDp:D≠p:=fun z=>by rw[z,fp] at hd;cases hd
   refine⟨p,_,rfl,SqT.of za3,rfl,_,_,rfl,_,_,rfl,rfl,?_⟩
   dsimp only[zv3]
   refine iteT ?_
   show zr4 D telt _ (some x'::some y'::rest) _
   refine el i x' y' _ _ ex' ey' (s.updT fp) ⟨_,by rw[za8 nDp];exact hd,?_,⟨_,_,rfl⟩,(s.updT fp).put hD,?_⟩
   . rw[List.length_take];omega
   . rw[za3,List.take_succ,List.getElem?_zipWith,ex',ey']
     rfl
 . have e:i=xs.length:=by omega
   subst e
   refine .inl ⟨⟨xs,ys,s _ _ hx,s _ _ hy,Nat.le_refl _⟩,q H' s ?_⟩
   rw[hd,<-hz,List.take_length]
end L2
namespace L2
open PySem PySem.Spec PyProof.Rows
noncomputable abbrev bmV:List Value:=[.type "ValueError",.type "Exception",.type "BaseException",.type "object"]
noncomputable def MroV (bm:List Value):Prop:=bm=bmV\/∃ D:Addr,bm = .ref D::bmV
theorem MroV.has {bm:List Value} (m:MroV bm) {T:String} {b:Bool} (h:bmV.contains (.type T)=b):bm.contains (.type T)=b:=by
 rcases m with rfl | ⟨D,rfl⟩
 . exact h
 . rw[List.contains_cons,h];rfl
theorem MroV.self {bm:List Value} (m:MroV bm) (C:Addr) {T:String} {b:Bool} (h:bmV.contains (.type T)=b):(Value.ref C::bm).contains (.type T)=b:=by
 rw[List.contains_cons,m.has h];rfl
theorem MroV.passes {bm:List Value} (m:MroV bm) (v:Value):refuseLoop v "__setattr__" bm=pure ():=by
 rcases m with rfl | ⟨D,rfl⟩
 . exact PySem.F.store_ValueError.passes v
 . rw[refuseLoop_ref];exact PySem.F.store_ValueError.passes v
section
variable {prog:Program} {w:World} {A:Around} {E:Value->Shared->Prop} {R:Result->Shared->Prop} {h:Heap} {g:Array GenState} {d:Drawn} {t:Nat} {os:OsState}
variable {nm q:Str} {C N:Addr} {bs bm:List Value} {hdct:Bool} {sn:List Str} {sub:List Value} {ab:Bool} {col:Option Bool} {dd:Option Addr} {k0 k1 k2 k3 k5:Option Value}
theorem xnew_check {M:Model} (m:MroV bm) {rest:List Value} {Q:Unit->Shared->Prop} (hC:h.get? C=some (excClassObj nm q C N bs bm hdct sn sub ab col dd k0 k1 k2 k3 k5 "ValueError.__new__"))
   (hq:Q () ⟨h,g,d,t,os⟩):wpAny M A (checkBuiltinCall "ValueError.__new__" ⟨.ref C::rest,[]⟩) Q E ⟨h,g,d,t,os⟩:=by
 have hin:=m.self C PySem.F.excBase_ValueError.hasB
 have hst:=PySem.F.excBase_ValueError.noStar
 simp only[checkBuiltinCall,PySem.F.excBase_ValueError.newKind,PySem.F.excBase_ValueError.newSplit,PySem.F.excBase_ValueError.newRow]
 repeat (first | refine wpAny_loadPart_at hC ?_ | (refine wpAny_isSubtype_exc hC ?_;rw[hin]) | refine wpAny_staticBase_exc hC ?_ | refine wpAny_madeBy_exc hC ?_ | simp only[bne_self_eq_false,Bool.false_eq_true,if_false] | wp_step)
 exact hq
theorem xnew_code (m:MroV bm) {rest:List Value} (hC:h.get? C=some (excClassObj nm q C N bs bm hdct sn sub ab col dd k0 k1 k2 k3 k5 "ValueError.__new__"))
   (hq:R (.ok (.ret (.ref (h.objs.size+1)))) ⟨(h.push { cls:=.type "tuple",data:=.seq rest.toArray }).push { cls:=.ref C,data:=.fields #[.ref h.objs.size,.none,.none,.none,.bool false,.none] },g,d,t,os⟩)
   (hrest:rest.length<=sizeLine):codeAny (model prog w) A (.builtin "ValueError.__new__" ⟨.ref C::rest,[]⟩) R ⟨h,g,d,t,os⟩:=by
 have hends:=PySem.F.excBase_ValueError.ends
 have c1:=m.self C PySem.F.excBase_ValueError.hasB
 have c2:=m.self C PySem.F.excBase_ValueError.noAttr
 have c3:=m.self C PySem.F.excBase_ValueError.noName
 refine codeAny_builtinAt PySem.F.excBase_ValueError.entry ?_;unfold Builtin.«BaseException.__new__»
 refine PySem.wpAt_bind ?_;show PySem.wpAt _ _ _ (stack >>= _) _ _ _
 refine PySem.wpAt_bind (PySem.wpAt_stack fun p below=>PySem.wpAt_of_wpAny ?_);wp_walk
 refine PySem.wpAt_of_wpAny ?_;rw[PySem.F.excBase_ValueError.owner]
 repeat (first | with_reducible refine wpAny_madeHere_exc PySem.F.excBase_ValueError.canon hC ?_ | with_reducible refine wpAny_loadPart_at hC ?_ | (with_reducible refine wpAny_isSubtype_exc hC ?_;first | rw[c1] | rw[c2] | rw[c3]) | wp_step)
 show R _ _;rw[Heap.size_push];exact hq
theorem xcall {K:W.Frag} (X:K.In h) (m:MroV bm) {rest:List Value} {fI:Addr} {Q:Value->Shared->Prop} (hC:h.get? C=some (excClassObj nm q C N bs bm hdct sn sub ab col dd k0 k1 k2 k3 k5 "ValueError.__new__"))
   (hi:W.findIn K (.ref C) "__init__" = some (some (.ref fI))) (hf:W.isFn K (.ref fI)=true) (hrest:rest.length<=sizeLine)
   (hq:wpAny (model prog w) (A.under (.builtin "type.__call__" ⟨.ref C::rest,[]⟩)) (call (.ref fI) (.ref (h.objs.size+1)::rest)) (fun r s'=>r = .none/\Q (.ref (h.objs.size+1)) s') E
     ⟨(h.push { cls:=.type "tuple",data:=.seq rest.toArray }).push { cls:=.ref C,data:=.fields #[.ref h.objs.size,.none,.none,.none,.bool false,.none] },g,d,t,os⟩) :
   wpAny (model prog w) A (call (.ref C) rest) Q E ⟨h,g,d,t,os⟩:=by
 have f1:=tc_lookup
 have f2:=tc_bind (.ref C)
 have hT:(⟨h,g,d,t,os⟩:Shared).TypeIs (.ref C) "type":=⟨_,hC,rfl⟩
 refine wpAny_call (codeAny_of_tree ?_);show wpAny _ _ (callAny (.ref C) _) _ _ _
 repeat (any_goals (first | assumption | with_reducible refine wpAny_loadPart_at hC ?_ | wp_step))
 refine⟨rfl,?_⟩
 refine codeAny_call_builtin_at (Code.quiet_builtin _ (by decide +kernel)) entry_typeCall (wpAny_check_type_call_sub hC ?_)
 repeat (first | with_reducible refine wpAny_loadPart_at hC ?_ | with_reducible refine wpAny_madeBy_exc hC ?_ | wp_step)
 refine codeAny_call_builtin_code (Code.quiet_builtin _ PySem.F.excBase_ValueError.quiet) (xnew_check m hC (xnew_code m hC ?_ hrest))
 show wpAny _ _ _ _ _ _
 have kp:∀ b o,h.get? b=some o->((h.push { cls:=.type "tuple",data:=.seq rest.toArray }).push { cls:=.ref C,data:=.fields #[.ref h.objs.size,.none,.none,.none,.bool false,.none] }).get? b=some o:=fun b o e=>Heap.get?_push_of_some _ (Heap.get?_push_of_some _ e)
 have hC1:=kp _ _ hC
 have X1:K.In ((h.push { cls:=.type "tuple",data:=.seq rest.toArray }).push { cls:=.ref C,data:=.fields #[.ref h.objs.size,.none,.none,.none,.bool false,.none] }):=X.keeps kp
 have hg:((h.push { cls:=.type "tuple",data:=.seq rest.toArray }).push { cls:=.ref C,data:=.fields #[.ref h.objs.size,.none,.none,.none,.bool false,.none] }).get? (h.objs.size+1)=some { cls:=.ref C,data:=.fields #[.ref h.objs.size,.none,.none,.none,.bool false,.none] }:=by heap_get
 have hcc:(Value.ref C::bm).contains (.ref C)=true:=by simp
 unfold isInstance
 repeat (first | with_reducible refine wpAny_loadPart_at hg ?_ | wp_step)
 refine wpAny_isSubtype_exc hC1 ?_;rw[hcc]
 repeat (first | with_reducible refine wpAny_loadPart_at hg ?_ | wp_step)
 show wpAny _ _ (typeLookup (.ref C) _) _ _ _
 refine W.looks_findIn X1 hi _ _ _ _ (fun _ _ e=>e) ?_
 refine wpAny_holding (wpAny_bind ?_);unfold bindSpecial
 refine wpAny_bind (W.looks_typeIn X1 (beq_iff_eq.mp hf) _ _ _ _ (fun _ _ e=>e) ?_)
 rw[if_pos (by decide)]
 refine wpAny_pure (wpAny_bind (wpAny_mono hq (fun r s' hr=>?_) fun _ _ x=>x))
 obtain ⟨rfl,hQ⟩:=hr
 wp_walk
 exact hQ
end
end L2
namespace L2
open PySem PySem.Spec PyProof.Rows
open PySem.Builtin PySem.Builtin.ObjectAttr
section
variable {prog:Program} {w:World} {A:Around} {E:Value->Shared->Prop} {h:Heap} {g:Array GenState} {d:Drawn} {t:Nat} {os:OsState}
variable {nm q:Str} {C N x:Addr} {bs bm:List Value} {sn:List Str} {sub:List Value} {ab:Bool} {col:Option Bool} {dd:Option Addr} {k0 k1 k2 k3 k5:Option Value} {newId:String} {mA:Str->Option Value} {name:Str} {v:Value} {K:W.Frag}
theorem xsa_check {M:Model} (m:MroV bm) {o:Obj} {nv:Value} {Q:Unit->Shared->Prop} (hC:h.get? C=some (excClassObj nm q C N bs bm true sn sub ab col dd k0 k1 k2 k3 k5 newId)) (hx:h.get? x=some o) (hc:o.cls = .ref C) (hq:Q () ⟨h,g,d,t,os⟩) :
   wpAny M A (checkBuiltinCall "object.__setattr__" ⟨[.ref x,nv,v],[]⟩) Q E ⟨h,g,d,t,os⟩:=by
 have hin:=m.self C PySem.F.store_ValueError.hasOwner
 have ha:=PySem.F.store_ValueError.args (.ref x) nv v
 simp only[checkBuiltinCall,PySem.F.store_ValueError.kind,PySem.F.store_ValueError.split]
 refine wpAny_bind ?_;unfold isInstance
 repeat (first | (with_reducible refine wpAny_loadPart_at hx ?_;rw[hc]) | (with_reducible refine wpAny_isSubtype_exc hC ?_;rw[hin]) | wp_step)
 exact hq
theorem xsa_entry (X:K.In h) (m:MroV bm) {tk:Tok} {Q:PySem.Fin->Shared->Prop} {ns:List Str} (hC:h.get? C=some (excClassObj nm q C N bs bm true sn sub ab col dd k0 k1 k2 k3 k5 newId)) (hna:W.findIn K (.ref C) name=some none) (hxC:x≠C) (I:h.Inst x C mA)
   (hq:∀ h' tk',h'.Inst x C (fun y=>if y=name then some v else mA y) →
     (∀ b o,b≠x->(∀ o0 dx,h.get? x=some o0->o0.dict=some dx->b≠dx)->h.get? b=some o->h'.get? b=some o) →
     (∀ o0,h.get? x=some o0->∃ o1,h'.get? x=some o1/\o1.cls=o0.cls/\o1.data=o0.data/\o1.slots=o0.slots/\(∀ dx,o0.dict=some dx->o1.dict=some dx)/\(o0.dict=none->o1.dict=some h.objs.size))->Q (.done (.ret .none)) ⟨h',g,d,tk',os⟩) (hw:Within mA ns) (hsz:ns.length<=sizeLine) :
   wpAny (model prog w) A (Builtin.«object.__setattr__» ⟨[.ref x,.str name tk,v],[]⟩) Q E ⟨h,g,d,t,os⟩:=by
 obtain ⟨o,hx,hc,hnc,hd⟩:=I
 have hpass:=m.passes (.ref x)
 have lk:∀ (A:Around) (Q:Option Value->Shared->Prop) (E:Value->Shared->Prop),Q none ⟨h,g,d,t,os⟩->wpAny (model prog w) A (typeLookup (.ref C) name) Q E ⟨h,g,d,t,os⟩:=fun A Q E q=>W.looks_findIn X hna A Q E _ (fun _ _ e=>e) q
 unfold Builtin.«object.__setattr__»
 repeat (first | rw[refuse_eq] | (rw[refuseLoop_ref,hpass]) | (with_reducible refine wpAny_loadPart_at hx ?_;rw[hc]) | with_reducible refine wpAny_mroOf_exc hC ?_ | with_reducible refine lk _ _ _ ?_ | wp_step)
 rcases hd with ⟨hdn,hmA⟩ | ⟨dx,hdx,hne,hns⟩
 . rw[hdn,if_neg (by simp[typeHasDict])]
   split
   . rename_i hcd
     cases hcd
   split
   . rename_i c hcd
     exact absurd hcd (hnc c)
   . have hx1:(h.push { cls:=.type "dict",data:=.dict #[] }).get? x=some o:=Heap.get?_push_of_some _ hx
     have hxs:x≠h.objs.size:=Nat.ne_of_lt (Heap.lt_size hx)
     refine wpAny_bind (wpAny_alloc' (wpAny_bind (wpAny_update' hx1 (wpAny_pure ?_))))
     have hgd:((h.push { cls:=.type "dict",data:=.dict #[] }).update x fun o=>{ cls:=o.cls,dict:=some h.objs.size,data:=o.data,slots:=o.slots }).get? h.objs.size=some { cls:=.type "dict",data:=.dict #[] }:=(Heap.get?_update_ne _ _ _ _ hxs.symm).trans (Heap.get?_push_at rfl rfl)
     have hnd:((h.push { cls:=.type "dict",data:=.dict #[] }).update x fun o=>{ cls:=o.cls,dict:=some h.objs.size,data:=o.data,slots:=o.slots }).Ns h.objs.size (fun _=>none):=⟨_,#[],_,hgd,rfl,fun e he=>absurd he (by simp),fun _=>rfl⟩
     show wpAny _ _ (storeInDict h.objs.size (.str name tk) name v) _ _ _
     unfold storeInDict newKeyGuard
     refine wpAny_bind (wpAny_pure (wpAny_bind (wpAny_nsSet1 (Heap.Ns1.of_empty hnd) fun h' hn' hs=>?_)))
     obtain ⟨oD,esD,epD,hoD,hdD,hcD⟩:=hn'.count (Within.cons name v Within.nil)
     refine wpAny_bind (wpAny_lookBehind hoD (by rw[hdD];exact pastItsLine_dict (Nat.le_trans hcD (by rw[List.length_cons,List.length_nil,sizeLine_eq];omega))) ?_)
     wp_walk
     have hx':h'.get? x=some { cls:=o.cls,dict:=some h.objs.size,data:=o.data,slots:=o.slots }:=by
       refine (hs.2 x hxs).trans (Heap.get?_update_self _ hx1 ?_)
       have hfr:=(Heap.get?_some_iff.mp hx).2
       obtain ⟨oc,od,odt,osl⟩:=o
       cases odt<;>first | rfl | exact hfr
     refine hq h' _ ⟨_,hx',hc,hnc,.inr ⟨h.objs.size,rfl,hxs.symm,?_⟩⟩ (fun b ob hbx _ hb=>?_) (fun o0 h0=>?_)
     . obtain ⟨o',es,ep,e1,e2,e3,eu,e4⟩:=hn'
       exact⟨o',es,ep,e1,e2,e3,eu,fun y=>by rw[e4 y];by_cases hy:y=name<;>simp[hy,hmA]⟩
     . exact (hs.2 b (Nat.ne_of_lt (Heap.lt_size hb))).trans ((Heap.get?_update_ne _ _ _ _ hbx).trans (Heap.get?_push_of_some _ hb))
     . obtain rfl:o=o0:=Option.some.inj (hx.symm.trans h0)
       exact⟨_,hx',rfl,rfl,rfl,fun dx e=>(by rw[hdn] at e;cases e),fun _=>rfl⟩
 . rw[hdx]
   refine wpAny_pure ?_
   show wpAny _ _ (storeInDict dx (.str name tk) name v) _ _ _
   unfold storeInDict newKeyGuard
   refine wpAny_bind (wpAny_pure (wpAny_bind (wpAny_nsSet1 hns fun h' hn' hs=>?_)))
   obtain ⟨oD,esD,epD,hoD,hdD,hcD⟩:=hn'.count (Within.cons name v hw)
   refine wpAny_bind (wpAny_lookBehind hoD (by rw[hdD];exact pastItsLine_dict (Nat.le_trans hcD (by rw[List.length_cons];omega))) ?_)
   wp_walk
   refine hq h' _ ⟨o,(hs.2 x hne.symm).trans hx,hc,hnc,.inr ⟨dx,hdx,hne,hn'⟩⟩ (fun b ob _ hbd hb=>(hs.2 b (hbd o dx hx hdx)).trans hb) (fun o0 h0=>?_)
   obtain rfl:o=o0:=Option.some.inj (hx.symm.trans h0)
   exact⟨o,(hs.2 x hne.symm).trans hx,rfl,rfl,rfl,fun _ e=>e,fun e=>(by rw[hdx] at e;cases e)⟩
theorem yf4 (X:K.In h) (m:MroV bm) {Q:Unit->Shared->Prop} {ns:List Str} (hC:h.get? C=some (excClassObj nm q C N bs bm true sn sub ab col dd k0 k1 k2 k3 k5 newId)) (hsa:W.findIn K (.ref C) "__setattr__" = some (some (.builtin "object.__setattr__")))
   (hna:W.findIn K (.ref C) name=some none) (hxC:x≠C) (I:h.Inst x C mA)
   (hq:∀ h' tk',h'.Inst x C (fun y=>if y=name then some v else mA y) →
     (∀ b o,b≠x->(∀ o0 dx,h.get? x=some o0->o0.dict=some dx->b≠dx)->h.get? b=some o->h'.get? b=some o) →
     (∀ o0,h.get? x=some o0->∃ o1,h'.get? x=some o1/\o1.cls=o0.cls/\o1.data=o0.data/\o1.slots=o0.slots/\(∀ dx,o0.dict=some dx->o1.dict=some dx)/\(o0.dict=none->o1.dict=some h.objs.size))->Q () ⟨h',g,d,tk',os⟩) (hw:Within mA ns) (hsz:ns.length<=sizeLine) :
   wpAny (model prog w) A (setAttr (.ref x) name v) Q E ⟨h,g,d,t,os⟩:=by
 obtain ⟨o,hx,hc,_⟩:=id I
 have f3:=PySem.F.store_ValueError.slot.bind (.ref x)
 have lk:∀ (A:Around) (Q:Option Value->Shared->Prop) (E:Value->Shared->Prop) (t:Nat),Q (some (.builtin "object.__setattr__")) ⟨h,g,d,t,os⟩->wpAny (model prog w) A (typeLookup (.ref C) "__setattr__") Q E ⟨h,g,d,t,os⟩:=fun A Q E t q=>W.looks_findIn X hsa A Q E _ (fun _ _ e=>e) q
 unfold setAttr callSpecial? specialOf
 repeat (any_goals (first | assumption | (with_reducible refine wpAny_loadPart_at hx ?_;rw[hc]) | refine lk _ _ _ _ ?_ | wp_step))
 refine codeAny_call_builtin PySem.F.store_ValueError.slot.plain PySem.F.store_ValueError.entry (xsa_check m hC hx hc (xsa_entry X m hC hna hxC I (fun h' tk' I' hk hsame=>?_) hw hsz))
 repeat (any_goals (first | assumption | wp_step))
 exact hq h' tk' I' hk hsame
end
end L2
namespace L2
open PySem PySem.Spec PyProof.Rows
noncomputable def ExcO (C e:Addr) (od:Option Addr):HO:=.ext fun h=>∃ t:Addr,h.get? e=some { cls:=.ref C,dict:=od,data:=.fields #[.ref t,.none,.none,.none,.bool false,.none] }
structure XCls (K:W.Frag) (C:Addr):Prop where
 ob:∃ nm q N bs bm sn sub ab col dd k0 k1 k2 k3 k5,K.lookup C=some (excClassObj nm q C N bs bm true sn sub ab col dd k0 k1 k2 k3 k5 "ValueError.__new__")/\MroV bm
 sa:W.findIn K (.ref C) "__setattr__" = some (some (.builtin "object.__setattr__"))
 kp:W.keepIn K (.ref C)=true
section
variable {X:Cx} {pins:List (Addr×Obj)} {σ:St} {H:Hp} {s:Shared} {C x:Addr} {od:Option Addr}
theorem zW4 (I:Inv X pins σ H s) (e:H x=some (ExcO C x od)):∃ t:Addr,s.heap.get? x=some { cls:=.ref C,dict:=od,data:=.fields #[.ref t,.none,.none,.none,.bool false,.none] }:=(I.hok x _ e).1
theorem yc2 {P:Program} {w:World} {H:Hp} {h:Heap} {t:Addr} (e:h.get? x=some { cls:=.ref C,dict:=od,data:=.fields #[.ref t,.none,.none,.none,.bool false,.none] }):zk1 P w H h x (ExcO C x od) :=
 ⟨⟨t,e⟩,⟨_,e⟩,fun h1 h2 ⟨t,e1⟩ k=>⟨t,k _ e1⟩⟩
theorem cls_ne (I:Inv X pins σ H s) {o:HO} {ob:Obj} (hC:X.K.lookup C=some ob) (e:H x=some o):x≠C:=fun z=>by
 have hb:=I.ok.mod.kin _ _ hC
 have:=(I.bs _ _ hb).2
 rw[z,this] at e;cases e
noncomputable def XPut (D:St->Hp->Prop) (σ:St) (H:Hp) (a C:Addr) (od:Option Addr) (f:Str) (y:V):Prop:=match od with
 | none=>∀ dx,H dx=none->dx≠a->D σ (upd (upd H dx (.xd (putF f y []))) a (ExcO C a (some dx)))
 | some dx=>∃ fs,H dx=some (.xd fs)/\fs.length<1000/\D σ (upd H dx (.xd (putF f y fs)))
theorem yf5 {P:Program} {w:World} {H:Hp} {h:Heap} {dx:Addr} {mA:Str->Option Value} {f:Str} {y:V} {u:Value} {fs:List (Str×V)} (hl:fs.length<1000) (hn:h.Ns1 dx fun g=>if g=f then some u else mA g) (r:∀ g,RelO (fs.lookup g) (mA g)) (wi:PySem.Within mA (fs.map (·.1))) (ry:RelV y u) :
   zk1 P w H h dx (.xd (putF f y fs)):=by
 refine⟨by have:=zr3 f y fs;omega,_,hn,fun g=>?_,fun g hg=>?_⟩
 . rw[zd2]
   by_cases q:g=f
   . rw[if_pos q];simp only[q,if_true];exact ry
   . rw[if_neg q];simp only[q,if_false];exact r g
 . by_cases q:g=f
   . rw[q];exact (zx0 f y fs).1
   . refine (zx0 f y fs).2 g (wi g fun z=>hg ?_)
     simp only[q,if_false];exact z
theorem xsetattr_ok {f:Str} {y:V} {u:Value} {D:St->Hp->Prop} {A:Around} {E:Value->Shared->Prop} (I:Inv X pins σ H s) (c:XCls X.K C) (na:ze1 X.K C f) (e:H x=some (ExcO C x od)) (ry:RelV y u) (q:XPut D σ H x C od f y) :
   wpAny (model X.prog X.w) A (setAttr (.ref x) f u) (fun _ s'=>∃ H',Inv X pins σ H' s'/\D σ H') E s:=by
 obtain ⟨nm,qn,N,bs,bm,sn,sub,ab,col,dd,k0,k1,k2,k3,k5,hK,m⟩:=c.ob
 have hC:=I.kIn _ _ hK
 obtain ⟨t,hx⟩:=zW4 I e
 have hxC:=cls_ne I hK e
 cases od with
 | none =>
   have hI:s.heap.Inst x C (fun _=>none):=⟨_,hx,rfl,fun c z=>(by cases z),.inl ⟨rfl,fun _=>rfl⟩⟩
   obtain ⟨hp,g,d,tk,os⟩:=s
   refine yf4 (ns:=[]) I.kIn m hC c.sa na hxC hI (fun h' tk' I' hk hs=>?_) PySem.Within.nil (Nat.zero_le _)
   obtain ⟨o1,e1,e2,e3,e4,_,e5⟩:=hs _ hx
   have ed:=e5 rfl
   have eo:h'.get? x=some { cls:=.ref C,dict:=some hp.objs.size,data:=.fields #[.ref t,.none,.none,.none,.bool false,.none] }:=by
     rw[e1]
     obtain ⟨c1,d1,dt1,sl1⟩:=o1
     simp only at e2 e3 e4 ed
     subst e2 e3 e4 ed
     rfl
   have hkk:∀ b o,b≠x->hp.get? b=some o->h'.get? b=some o:=fun b o hb ho=>hk b o hb (fun o0 dx h0 hd=>by rw[hx] at h0;cases h0;cases hd) ho
   have fr:H hp.objs.size=none:=I.fresh
   have hxs:hp.objs.size≠x:=fun z=>by rw[<-z,fr] at e;cases e
   obtain ⟨oI,hoI,_,_,hdI⟩:=I'
   have hn1:h'.Ns1 hp.objs.size (fun g=>if g=f then some u else none):=by
     rw[eo] at hoI
     cases hoI
     rcases hdI with ⟨z,_⟩ | ⟨d',hd',_,hn⟩
     . cases z
     . cases hd';exact hn
   refine⟨_,?_,q _ fr hxs⟩
   refine I.un (t':=tk') (h':=h') ⟨fun b o ho n _ _=>?_,fun b o ho n _ _=>⟨o.slots,?_⟩,fun b o ho n _=>?_,fun b o ho _=>?_,fun b xs z=>?_,fun b o xs z=>?_,fun b ps z=>⟨#[],?_⟩⟩ fun b o z=>?_
   . exact hkk b o (fun z=>by rw[z,e] at n;cases n) ho
   . exact hkk b o (fun z=>by rw[z,e] at n;cases n) ho
   . rw[za8 (fun z=>by rw[z,e] at n;cases n),za8 (Nat.ne_of_lt (Heap.lt_size ho))];exact n
   . by_cases hb:b=x
     . subst hb;exact⟨_,eo⟩
     . exact⟨o,hkk b o hb ho⟩
   . rw[za8 (zM4 z e (by intro w;cases w)),za8 (zc0 z fr)];exact z
   . rw[za8 (zM4 z e (by intro w;cases w)),za8 (zc0 z fr)];exact z
   . rw[za8 (zM4 z e (by intro w;cases w)),za8 (zc0 z fr),z];simp
   . by_cases hb:b=x
     . subst hb
       rw[za3] at z;cases z
       exact yc2 eo
     . rw[za8 hb] at z
       by_cases hb2:b=hp.objs.size
       . subst hb2
         rw[za3] at z;cases z
         exact yf5 (mA:=fun _=>none) (by decide) hn1 (fun g=>True.intro) PySem.Within.nil ry
       . rw[za8 hb2] at z
         refine (I.hok b o z).stay (fun c v hc qv=>hkk c v ?_ qv) (fun c qc=>?_) fun c xs qc=>?_
         . rcases hc with rfl | hc
           . exact hb
           . exact zM4 hc e (by intro w;cases w)
         . rw[za8 (zM4 qc e (by intro w;cases w)),za8 (zc0 qc fr)];exact qc
         . rw[za8 (zM4 qc e (by intro w;cases w)),za8 (zc0 qc fr)];exact qc
 | some dx =>
   obtain ⟨fs,hd,hl,q⟩:=q
   obtain ⟨hl2,mA,hn,r,wi⟩:=I.hok dx _ hd
   have hdx:dx≠x:=zM4 hd e (by intro w;cases w)
   have hI:s.heap.Inst x C mA:=⟨_,hx,rfl,fun c z=>(by cases z),.inr ⟨dx,rfl,hdx,hn⟩⟩
   have hz:(fs.map (·.1)).length<=sizeLine:=by rw[List.length_map,sizeLine_eq];omega
   obtain ⟨hp,g,d,tk,os⟩:=s
   refine yf4 (ns:=fs.map (·.1)) I.kIn m hC c.sa na hxC hI (fun h' tk' I' hk hs=>?_) wi hz
   obtain ⟨o1,e1,e2,e3,e4,e5,_⟩:=hs _ hx
   have ed:=e5 dx rfl
   have eo:h'.get? x=some { cls:=.ref C,dict:=some dx,data:=.fields #[.ref t,.none,.none,.none,.bool false,.none] }:=by
     rw[e1]
     obtain ⟨c1,d1,dt1,sl1⟩:=o1
     simp only at e2 e3 e4 ed
     subst e2 e3 e4 ed
     rfl
   obtain ⟨oI,hoI,_,_,hdI⟩:=I'
   have hn1:h'.Ns1 dx (fun g=>if g=f then some u else mA g):=by
     rw[eo] at hoI
     cases hoI
     rcases hdI with ⟨z,_⟩ | ⟨d',hd',_,hn⟩
     . cases z
     . cases hd';exact hn
   refine⟨_,I.write (t':=tk') (h':=h') (x:=dx) (e:=dx) (by rw[hd];exact True.intro) (.inl rfl) (fun b o hb ho=>?_) (let ⟨o,_,_,e',_⟩:=hn1;⟨o,e'⟩) (yf5 hl hn1 r wi ry),q⟩
   by_cases hbx:b=x
   . subst hbx
     rw[show hp.get? b=_ from hx] at ho
     cases ho
     exact eo
   . exact hk b o hbx (fun o0 d0 h0 hd0=>by rw[show hp.get? x=_ from hx] at h0;cases h0;cases hd0;exact hb) ho
end
section
variable {X:Cx} {o value:Expr} {f:Str} {pos pos':Pos} {ta tv:TE}
noncomputable def sXFld (K:W.Frag) (ta tv:TE) (f:Str):TS:=fun D σ H=>tv σ H fun y H1=>ta σ H1 fun x H2=>∃ a C od,x = .ref a/\H2 a=some (ExcO C a od)/\XCls K C/\ze1 K C f/\XPut D.nx σ H2 a C od f y
theorem yc3 (ha:PE X o ta) (hv:PE X value tv) (hs:swapsWith value (some (.Attribute o f pos')) pos.line X.env=pure false):PS X (.Assign [.Attribute o f pos'] value pos) (sXFld X.K ta tv f):=by
 intro pins s σ H D I h
 refine plainObj_wpAny_Assign_Attribute (thn (hv pins s σ H _ I h) fun u s1 ⟨y,H1,I1,ry,q⟩=>thn (ha pins s1 σ H1 _ I1 q) fun ov s2 ⟨x,H2,I2,rx,a,C,od,ex,ea,c,n,q2⟩=>?_) hs
 subst ex
 obtain rfl:ov=Value.ref a:=rx
 exact thn (xsetattr_ok I2 c n ea ry q2) fun _ s3 ⟨H3,I3,q3⟩=>⟨σ,H3,I3,q3⟩
end
structure yh2 (K:W.Frag) (C:Addr) (m:Str) (f:Addr):Prop where
 ga:W.specialIn K (.ref C) "__getattribute__" = some (some (.builtin "type.__getattribute__"))
 rd:W.readsIn K C (.type "type")=true
 fd:W.findCls K (.ref C) (.type "type") m=some (.val (.ref f))
 kp:W.keepIn K (.ref f)=true
section
variable {X:Cx} {CX:CXT} {k:Nat} {f C:Addr} {fd:FuncData} {ps:List Str} {sp:Sp} {dvs:List V} {ds:List Value} {E:XK} {x m:Str} {p pos apos:Pos} {e:Expr} {es:List Expr} {t:TA}
theorem zr6 {pl:Sem Bool} (M:yh2 X.K C m f) (hg:Gl X x) (hm:X.mg x=some (.ref C)) (F:FnOk X.prog X.w X.K X.mg X.base CX k f fd ps sp) (hr:Room k X.A) (hb:zc4 X.K fd ps ds) (hd:Vals dvs ds) (hx:zt8 CX X E) (ha:PA X (e::es) t)
   (hdb:(x == ("__debug__" : Str))=false:=by decide)
   (hst:starEach (e::es) X.env=(false,eval e X.env)::starEach es X.env:=by rfl) (hpl:(backTo pos (starEach es X.env)).any (·.1)=false:=by rfl)
   (ht:eval (.Call (.Attribute (.Name x p) m apos) (e::es) [] pos) X.env=(do
     let ov <-eval (.Name x p) X.env
     standAt apos.atName
     let (f,first) <-holding [ov] (getMethod ov m pl)
     callWith pos f first (backTo pos (starEach (e::es) X.env)) (backToKw pos (keywordEach [] X.env))):=by rfl) :
   PE X (.Call (.Attribute (.Name x p) m apos) (e::es) [] pos) (yg9 sp dvs E t):=by
 intro pins s σ H Q I h
 refine W.methodCall_KW (pl:=pl) (zz1 I hg hm ?_ hdb) ht
 refine W.method_cls I.kIn M.ga (W.cls_value I.kIn M.rd M.fd (by rfl) ?_)
 refine W.callWith_K (first:=[]) (h₀:=X.base) I.ok.mod.kin M.kp (thn (ha pos pins _ σ H _ (I.tok _) h) fun us s2 ⟨vs,H2,I2,r,q2⟩=>⟨I2.kIn,?_⟩) hst hpl
 exact zV7 F hr hb hd hx I2 r q2
end
end L2
namespace L2
open PySem PySem.Spec PyProof.Rows
noncomputable def del (H:Hp) (a:Addr):Hp:=fun b=>if b=a then none else H b
theorem zX9 (H:Hp) (a:Addr):del H a a=none:=if_pos rfl
theorem zB4 {H:Hp} {a b:Addr} (h:b≠a):del H a b=H b:=if_neg h
theorem zk1.got {P:Program} {w:World} {H:Hp} {h:Heap} {a:Addr} {o:HO} (x:zk1 P w H h a o):∃ ob,h.get? a=some ob:=by
 cases o with
 | lst xs=>obtain ⟨_,_,_,_,e⟩:=x;exact⟨_,e⟩
 | tup xs=>obtain ⟨_,_,_,_,e,_⟩:=x;exact⟨_,e⟩
 | dK kvs=>obtain ⟨_,_,_,_,o,_,_,e,_⟩:=x;exact⟨_,e⟩
 | dT kvs=>obtain ⟨_,_,_,_,o,_,_,e,_⟩:=x;exact⟨_,e⟩
 | set S n=>obtain ⟨o,_,_,_,e,_⟩:=x;exact⟨_,e⟩
 | ins C dx fs=>obtain ⟨_,_,_,e,_⟩:=x;exact⟨_,e⟩
 | own y=>obtain ⟨_,e⟩:=x;exact⟨_,e⟩
 | xd fs=>obtain ⟨_,_,⟨_,_,_,e,_⟩,_⟩:=x;exact⟨_,e⟩
 | rng lo hi=>obtain ⟨_,_,_,e⟩:=x;exact⟨_,e⟩
 | frz ob u=>obtain ⟨e,_⟩:=x;exact⟨_,e⟩
 | tbl ps=>exact⟨_,show h.get? a=some _ from x⟩
 | met f y=>exact⟨_,show h.get? a=some _ from x⟩
 | ext φ=>obtain ⟨_,⟨_,e⟩,_⟩:=x;exact⟨_,e⟩
section
variable {X:Cx} {pins:List (Addr×Obj)} {σ:St} {H H':Hp} {s s':Shared} {C x a:Addr} {od:Option Addr} {cls a0:Value}
theorem Inv.del (I:Inv X pins σ H s) (e:H x=some (ExcO C x od)):Inv X pins σ (L2.del H x) s:=by
 have ne:∀ b u,H b=some u->(∀ φ,u≠.ext φ)->b≠x:=fun b u q n z=>by rw[z,e] at q;cases q;exact n _ rfl
 have:=I.un (t':=s.toks) (h':=s.heap) (H':=L2.del H x) ⟨fun b o ho n _ _=>ho,fun b o ho n _ _=>⟨o.slots,ho⟩,fun b o ho n _=>?_,fun b o ho _=>⟨o,ho⟩,fun b xs z=>?_,fun b o xs z=>?_,fun b ps z=>⟨#[],?_⟩⟩ fun b o z=>?_
 . exact this
 . unfold L2.del;split
   . rfl
   . exact n
 . rw[zB4 (ne b _ z fun φ w=>by cases w)];exact z
 . rw[zB4 (ne b _ z fun φ w=>by cases w)];exact z
 . rw[zB4 (ne b _ z fun φ w=>by cases w),z];simp
 . have hb:b≠x:=fun q=>by rw[q,zX9] at z;cases z
   rw[zB4 hb] at z
   exact (I.hok b o z).stay (fun _ _ _ q=>q) (fun c q=>by rw[zB4 (ne c _ q fun φ w=>by cases w)];exact q) fun c xs q=>by rw[zB4 (ne c _ q fun φ w=>by cases w)];exact q
end
section
variable {P:Program} {w:World} {K:W.Frag} {mg:Str->Option Value} {base:Heap} {N:List Str} {qual:Str} {scope:Scope} {f:Addr} {cd:Value} {A:Around} {outer:List Env} {s:Shared} {H:Hp} {E:XK}
end
end L2
namespace L2
open PySem PySem.Spec PyProof.Rows
section
variable {M:Model} {A:Around} {E:Value->Shared->Prop} {env:Env}
variable {nm q:Str} {C N:Addr} {bs bm:List Value} {hdct:Bool} {sn:List Str} {sub:List Value} {ab:Bool} {col:Option Bool} {dd:Option Addr} {k0 k1 k2 k3 k5:Option Value} {newId:String}
theorem xraise {s:Shared} {x:Sem Value} {Q:Flow->Shared->Prop} (m:MroV bm) (hh:A.handled=none)
   (h:wpAny M A x (fun v s₁=>∃ e od t,v = .ref e/\s₁.heap.get? C=some (excClassObj nm q C N bs bm hdct sn sub ab col dd k0 k1 k2 k3 k5 newId)/\s₁.heap.get? e=some { cls:=.ref C,dict:=od,data:=.fields #[.ref t,.none,.none,.none,.bool false,.none] }/\E (.ref e) s₁) E s) :
   wpAny M A (raiseStmt env (some x) none) Q E s:=by
 have hcB:(Value.ref C::bm).contains (.type "BaseException")=true:=m.self C (by decide)
 unfold raiseStmt
 refine wpAny_bind (wpAny_mono h (fun v s₁ h₁=>?_) fun _ _ x=>x)
 obtain ⟨e,od,t,rfl,hC,he,hE⟩:=h₁
 obtain ⟨hp,g,d,tk,os⟩:=s₁
 repeat (first | with_reducible refine wpAny_loadPart_at he ?_ | with_reducible refine wpAny_loadPart_at hC ?_ | (with_reducible refine wpAny_isSubtype_exc hC ?_;rw[hcB]) | wp_step)
 exact wpAny_raiseNew_none hh hE
end
section
variable {X:Cx} {CX:CXT} {k:Nat} {f C:Addr} {fd:FuncData} {ps:List Str} {sp:Sp} {dvs:List V} {ds:List Value} {E Ei:XK} {x m:Str} {p pos cpos apos:Pos} {e:Expr} {es:List Expr} {t:TA}
theorem run_xmake2 {pins:List (Addr×Obj)} {σ:St} {H:Hp} {s:Shared} {Q:Addr->Hp->Prop} {us:List Value} {vs:List V} (c:XCls X.K C) (hi:W.findIn X.K (.ref C) "__init__" = some (some (.ref f))) (hf:W.isFn X.K (.ref f)=true) (F:FnOk X.prog X.w X.K X.mg X.base CX k f fd ps sp) (hr:Room (k+1) X.A) (hb:zc4 X.K fd ps ds) (hd:Vals dvs ds)
   (hx:zt8 CX X E) (I:Inv X pins σ H s) (r:Vals vs us) (hv:vs.length<=sizeLine)
   (h:∀ x,H x=none->sp (.ref x::(vs++dvs)) (upd H x (ExcO C x none)) (fun v H2=>v = .non/\Q x H2) E) :
   wpAny (model X.prog X.w) X.A (call (.ref C) us) (fun v s'=>v = .ref (s.heap.objs.size+1)/\∃ H',Inv X pins σ H' s'/\Q (s.heap.objs.size+1) H') X.xe s:=by
 obtain ⟨nm,qn,N,bs,bm,sn,sub,ab,col,dd,k0,k1,k2,k3,k5,hK,m⟩:=c.ob
 have hC:=I.kIn _ _ hK
 have hq:=h (s.heap.objs.size+1) (I.hok.fresh (Nat.le_succ _))
 have I1:Inv X pins σ H { s with heap:=s.heap.push { cls:=.type "tuple",data:=.seq us.toArray } }:=I.kept (t':=s.toks) fun b o e=>Heap.get?_push_of_some _ e
 have sz1:(s.heap.push { cls:=.type "tuple",data:=.seq us.toArray }).objs.size=s.heap.objs.size+1:=Heap.size_push ..
 have I2:Inv X pins σ (upd H (s.heap.objs.size+1) (ExcO C (s.heap.objs.size+1) none)) { s with heap:=(s.heap.push { cls:=.type "tuple",data:=.seq us.toArray }).push { cls:=.ref C,data:=.fields #[.ref s.heap.objs.size,.none,.none,.none,.bool false,.none] } }:=by
   refine I1.laid (t':=s.toks) (fun b o e=>Heap.get?_push_of_some _ e) (Nat.le_of_eq sz1) (yc2 (t:=s.heap.objs.size) ?_)
   rw[<-sz1];exact Heap.get?_push_size _ rfl
 have r2:Vals (V.ref (s.heap.objs.size+1)::(vs++dvs)) (Value.ref (s.heap.objs.size+1)::(us++ds)):=.cons rfl (r.append hd)
 have hl:(Value.ref (s.heap.objs.size+1)::us++ds).length=ps.length:=by
   have e:=r2.length
   rw[F.len _ _ _ _ hq] at e
   exact e.symm
 obtain ⟨hp,g,d,tk,os⟩:=s
 refine xcall I.kIn m hC hi hf (by rw[<-r.length];exact hv) ?_
 refine wpAny_call (codeAny_mono (F.run _ X.stack _ _ ⟨Value.ref (hp.objs.size+1)::us,[]⟩ (Value.ref (hp.objs.size+1)::(us++ds)) _ _ E (hr.make C us []) (I2.env0.make C us []) (hb _ (Value.ref (hp.objs.size+1)::us) I2.kIn hl) r2 hq) fun r s' hq'=>?_)
 cases r with
 | error e=>exact hx pins σ _ _ e s' I2 hq'
 | ok fl =>
   cases fl with
   | ret u =>
     obtain ⟨v,H',I3,rv,ev,q3⟩:=I2.after hq'
     subst ev
     exact⟨rv,rfl,H',I3,q3⟩
   | next=>exact False.elim hq'
   | brk=>exact False.elim hq'
   | cont=>exact False.elim hq'
end
noncomputable def Cx.caught (X:Cx) (e:Value):Cx:={ X with A:=X.A.mark (some e),calm:=false,xe:=fun _ _=>False }
section
variable {X:Cx} {pins pins':List (Addr×Obj)} {σ:St} {H:Hp} {s:Shared} {E:XK} {e:Value} {D:Ends} {f:Flow}
theorem Inv.caught (I:Inv X pins σ H s) (e:Value):Inv (X.caught e) pins σ H s :=
 let ok:=I.ok
 ⟨⟨ok.mod,ok.kind,ok.glob,ok.blt,ok.above,ok.inj,ok.has,ok.cab,(fun z=>nomatch z),ok.frames,ok.stk,ok.exf,ok.bs,ok.bsz,ok.noex,ok.exfs,ok.funs,ok.frf⟩,I.os,I.bare,I.base,I.loc,I.cell,I.free,I.freeC,I.pin,I.hok,I.len⟩
theorem Inv.uncaught (hd:X.calm=true->X.A.handled=none) (I:Inv (X.caught e) pins σ H s):Inv X pins σ H s :=
 let ok:=I.ok
 ⟨⟨ok.mod,ok.kind,ok.glob,ok.blt,ok.above,ok.inj,ok.has,ok.cab,hd,ok.frames,ok.stk,ok.exf,ok.bs,ok.bsz,ok.noex,ok.exfs,ok.funs,ok.frf⟩,I.os,I.bare,I.base,I.loc,I.cell,I.free,I.freeC,I.pin,I.hok,I.len⟩
theorem SP.uncaught (hd:X.calm=true->X.A.handled=none) (h:SP (X.caught e) pins D f s):SP X pins D f s:=by
 cases f with
 | next=>obtain ⟨σ',H',I,q⟩:=h;exact⟨σ',H',I.uncaught hd,q⟩
 | brk=>obtain ⟨σ',H',I,q⟩:=h;exact⟨σ',H',I.uncaught hd,q⟩
 | cont=>obtain ⟨σ',H',I,q⟩:=h;exact⟨σ',H',I.uncaught hd,q⟩
 | ret u=>obtain ⟨v,σ',H',I,r,q⟩:=h;exact⟨v,σ',H',I.uncaught hd,r,q⟩
end
section
variable {X:Cx} {C:Addr} {E:XK} {x:Str} {p pos hpos:Pos} {body suite:List Stmt} {b₀:Stmt} {tb th:TS}
end
structure FunD (K:W.Frag) (x qual:Str) (st:Stmt) (f:Addr) (fd:FuncData):Prop where
 ex:∃ (oc:Value) (od:Option Addr) (dV kV doc pm:Value) (an:Option Addr) (cdv ct:Value) (osl:Array (Option Value)),
   fd=W.fnOf x qual (zb2 st) (za9 st) (za5 st) dV kV doc pm an cdv ct/\K.lookup f=some ⟨oc,od,.func fd,osl⟩/\W.codeIn K cdv qual=true
 kp:W.keepIn K (.ref f)=true
section
variable {P:Program} {w:World} {K:W.Frag} {mg:Str->Option Value} {base:Heap} {CX:CXT}
theorem Fun.d {x qual:Str} {st:Stmt} {f:Addr} {fd:FuncData} (F:Fun K x qual st f fd):FunD K x qual st f fd:=by
 obtain ⟨oc,od,kV,doc,pm,an,cdv,ct,osl,h⟩:=F.ex
 exact⟨⟨oc,od,.none,kV,doc,pm,an,cdv,ct,osl,h⟩,F.kp⟩
theorem FunD.ok {x qual:Str} {st:Stmt} {f:Addr} {fd:FuncData} {N ps:List Str} {k:Nat} {sp:Sp} (F:FunD K x qual st f fd) (S:zb6 N ps (za5 st)) (len:∀ vs H Q E,sp vs H Q E->vs.length=ps.length)
   (hbody:∀ (cdv:Value) (A:Around) (outer:List Env) (s:Shared) (H:Hp) (vs:List V) (Q:VK) (E:XK),Room k (A.deeper (envOfC qual (za5 st) s.heap.objs.size f cdv))->sp vs H Q E →
     ∃ t,PSs (cxOf CX0 P w K mg base N qual (za5 st) f cdv A outer s H E).nox (za9 st) t/\t { nx:=fun _ H'=>Q .non H',rt:=Q } (start N vs) H):FnOk P w K mg base CX0 (k+1) f fd ps sp:=by
 obtain ⟨oc,od,dV,kV,doc,pm,an,cdv,ct,osl,rfl,lk,hcd⟩:=F.ex
 refine ye9 lk hcd S len fun A outer s H vs Q E hr hsp=>?_
 obtain ⟨t,h,q⟩:=hbody cdv A outer s H vs Q E hr hsp
 exact⟨t,h.nox,q⟩
theorem zs9 {x qual:Str} {st:Stmt} {f:Addr} {oc:Value} {od an:Option Addr} {osl:Array (Option Value)} {dV kV doc pm cdv ct:Value} (l:K.lookup f=some ⟨oc,od,.func (W.fnOf x qual (zb2 st) (za9 st) (za5 st) dV kV doc pm an cdv ct),osl⟩)
 (c:W.codeIn K cdv qual=true) (k:W.keepIn K (.ref f)=true):FunD K x qual st f (W.fnOf x qual (zb2 st) (za9 st) (za5 st) dV kV doc pm an cdv ct):=⟨⟨oc,od,dV,kV,doc,pm,an,cdv,ct,osl,rfl,l,c⟩,k⟩
end
end L2
namespace L2
open PySem PySem.Spec PyProof.Rows
end L2
namespace L2
open PySem PySem.Spec PyProof.Rows
end L2
namespace L2
open PySem PySem.Spec PyProof.Rows
noncomputable def yc4 (CX:CXT) (X:Cx) (Ex:St->XK):Prop:=∀ (pins:List (Addr×Obj)) (σ:St) (H:Hp) (s:Shared) (e:Value) (s':Shared),Inv X pins σ H s->CX X.stack H s (Ex σ) e s'->X.xe e s'
noncomputable def tCallS (sp:Sp) (dvs:List V) (Ex:St->XK) (t:TA):TE:=fun σ H Q=>t σ H fun vs H1=>sp (vs++dvs) H1 Q (Ex σ)
section
variable {X:Cx} {pins pins':List (Addr×Obj)} {σ:St} {H:Hp} {s:Shared} {Ex:St->XK} {D:Ends} {fl:Flow}
end
section
variable {X:Cx} {CX:CXT} {k:Nat} {f C:Addr} {fd:FuncData} {ps:List Str} {sp:Sp} {dvs:List V} {ds:List Value} {Ex:St->XK} {x m:Str} {p pos apos:Pos} {e o:Expr} {es:List Expr} {ta:TE} {t:TA}
theorem pe_callS (F:FnOk X.prog X.w X.K X.mg X.base CX k f fd ps sp) (hr:Room k X.A) (hg:Gl X x) (hm:X.mg x=some (.ref f)) (hk:W.keepIn X.K (.ref f)=true) (hb:zc4 X.K fd ps ds) (hd:Vals dvs ds) (hx:yc4 CX X Ex)
   (ha:PA X (e::es) t) (hdb:(x == ("__debug__" : Str))=false:=by decide) (he:starEach (e::es) X.env=(false,eval e X.env)::starEach es X.env:=by rfl) (hpl:(backTo pos (starEach es X.env)).any (·.1)=false:=by rfl) :
   PE X (.Call (.Name x p) (e::es) [] pos) (tCallS sp dvs Ex t):=by
 intro pins s σ H Q I h
 refine wpAny_Call_Name_kw (zz1 I hg hm ?_ hdb)
 refine W.callWith_K (h₀:=X.base) I.ok.mod.kin hk (thn (ha pos pins s σ H _ I h) fun us s1 ⟨vs,H1,I1,r,q⟩=>⟨I1.kIn,?_⟩) he hpl
 have r2:Vals (vs++dvs) (us++ds):=r.append hd
 have hl:(us++ds).length=ps.length:=by rw[<-r2.length];exact F.len _ _ _ _ q
 refine wpAny_call (codeAny_mono (F.run X.A X.stack s1 H1 ⟨us,[]⟩ (us++ds) (vs++dvs) Q (Ex σ) hr I1.env0 (hb s1 us I1.kIn hl) r2 q) fun r s' hq=>?_)
 cases r with
 | error e=>exact hx pins σ H1 s1 e s' I1 hq
 | ok fl =>
   cases fl with
   | ret u=>exact I1.after hq
   | next=>exact False.elim hq
   | brk=>exact False.elim hq
   | cont=>exact False.elim hq
end
section
variable {X:Cx} {D:Addr} {Ex:St->XK} {x:Str} {p pos hpos:Pos} {body suite:List Stmt} {b₀:Stmt} {tb th:TS}
end
end L2
namespace L2
open PySem PySem.Spec PyProof.Rows
section
variable {X:Cx} {pins:List (Addr×Obj)} {σ:St} {H:Hp} {s:Shared}
theorem zN5 {M:Model} {A:Around} {E:Value->Shared->Prop} {i:Nat} {x:Str} {pos:Pos} {Q:Unit->Shared->Prop} (I:Inv X pins σ H s) (hN:X.N.Nodup) (hi:X.N[i]?=some x) (hk:X.env.scope.names.lookup x=some .local)
   (h:∀ s',Inv X pins (σ.set i none) H s'->Q () s'):wpAny M A (do bindName X.env x .none;unbindBehindTheSuite X.env x pos) Q E s:=by
 obtain ⟨m,hn,hl⟩:=id I.loc
 have hcls:(X.env.scope.kind == .class || (X.env.scope.kind == .module && X.env.locals != X.env.globals))=false:=by rw[I.ok.kind];rfl
 have hiσ:i<σ.length:=by rw[I.len];exact (List.getElem?_eq_some_iff.mp hi).1
 have cne:=I.cne
 refine wpAny_nameGoes_keeps hk hn hcls fun h' v hn' hs=>?_
 refine h _ ⟨I.ok,I.os,I.bare,⟨fun b o e n hb hx=>?_,fun b o e n hb hx=>?_,I.base.free,fun b o e hx=>?_,I.base.tups,I.base.frzs,I.base.tbls⟩,⟨_,hn',fun j y v' e1 e2 e3=>?_⟩,fun y c e=>?_,I.free,I.freeC,fun p hp=>?_,fun b ob e=>?_,by simpa using I.len⟩
 . exact (hs.2 b (Nat.ne_of_lt (Nat.lt_of_lt_of_le (Heap.lt_size e) I.ok.above))).trans (I.base.keep b o e n hb hx)
 . obtain ⟨sl,e1⟩:=I.base.slot b o e n hb hx
   exact⟨sl,(hs.2 b (Nat.ne_of_lt (Nat.lt_of_lt_of_le (Heap.lt_size e) I.ok.above))).trans e1⟩
 . obtain ⟨o',e1⟩:=I.base.there b o e hx
   exact⟨o',(hs.2 b (Nat.ne_of_lt (Nat.lt_of_lt_of_le (Heap.lt_size e) I.ok.above))).trans e1⟩
 . by_cases hj:j=i
   . subst hj
     rw[List.getElem?_set_self hiσ] at e2
     cases e2
   . rw[List.getElem?_set_ne (Ne.symm hj)] at e2
     obtain ⟨u',r',q⟩:=hl j y v' e1 e2 e3
     refine⟨u',r',?_⟩
     rcases q with ⟨k,e⟩ | ⟨k,c,e,z⟩
     . refine .inl ⟨k,?_⟩
       have:y≠x:=fun e=>hj (zO3 hN e1 (e▸hi))
       simp[this,e]
     . exact .inr ⟨k,c,e,z.sameBut hs (cne y c e)⟩
 . obtain ⟨w',z⟩:=I.cell y c e
   exact⟨w',z.sameBut hs (cne y c e)⟩
 . obtain ⟨e,n,ne,nf,d⟩:=I.pin p hp
   exact⟨(hs.2 p.1 ne).trans e,n,ne,nf,d⟩
 . refine (I.hok b ob e).stay (fun c w' hc q=>(hs.2 c ?_).trans q) (fun _ q=>q) fun _ _ q=>q
   rintro rfl
   rcases hc with rfl | hc
   . rw[I.free] at e;cases e
   . rw[I.free] at hc;cases hc
end
section
variable {X:Cx} {D:Addr} {Ex:St->XK} {x n:Str} {i:Nat} {p pos hpos:Pos} {body suite:List Stmt} {b₀:Stmt} {tb th:TS}
noncomputable def Ends.forget (D:Ends) (i:Nat):Ends:={ nx:=fun σ H=>D.nx (σ.set i none) H,rt:=D.rt,bk:=fun σ H=>D.bk (σ.set i none) H,ct:=fun σ H=>D.ct (σ.set i none) H }
end
end L2
namespace L2
open PySem PySem.Spec PyProof.Rows
theorem zB5 {K:W.Frag} {c:Value} {D:Addr} {b:Bool} (h1:W.subIn K (.ref D) (.type "BaseException")=some true) (h2:(W.clsIn K D).isSome=true) (h3:W.typeIn K (.ref D)=some (.type "type")) (h4:W.subIn K c (.ref D)=some b) :
   W.exmOne K c (.ref D)=some b:=by
 unfold W.exmOne W.kitCls
 simp[h1,h2,h3,h4]
end L2
namespace L2
open PySem PySem.Spec PyProof.Rows
section
variable {X:Cx}
noncomputable def rCatU:R2:=fun x y H Q=>∃ a b xs ys,x = .ref a/\y = .ref b/\H a=some (.tup xs)/\H b=some (.tup ys)/\xs.length+ys.length<=sizeLine/\∀ p H',Same H H'->H' p=some (.tup (xs++ys))->Q (.ref p) H'
theorem zv4:OpR X (binaryOp .Add) rCatU:=by
 intro pins s σ H x y v u Q I rx ry h
 obtain ⟨a,b,xs,ys,rfl,rfl,ha,hb,hz,q⟩:=h
 by_cases hx:xs=[]
 . subst hx
   cases rx
   cases ry
   obtain ⟨its,r1,p1,_⟩:=I.tuple (SqT.of ha)
   obtain ⟨its2,r2,p2,_⟩:=I.tuple (SqT.of hb)
   have e0:its=[]:=r1.nil_iff.mpr rfl
   subst e0
   obtain ⟨⟨cls,dd,data,sl⟩,ho,hc,n,hd⟩:=id p1
   obtain ⟨⟨cls2,dd2,data2,sl2⟩,ho2,hc2,n2,hd2⟩:=id p2
   simp only at hc hd hc2 hd2
   subst hc hd hc2 hd2
   exact concat_meets ⟨_,ho,rfl⟩ ⟨_,ho2,rfl⟩ noFill_tuple_add seq_tuple_add PySem.F.slot_tuple_add PySem.F.entry_tuple_add (PySem.F.args_tuple_add_2 _ _)
     (tuple_addW0 _ _ _ _ _ _ _ _ _ _ (by simp)) ⟨ho,ho2,.ref b,H,I,rfl,q b H (Same.refl _) hb⟩
 . refine op_catT pins s σ H _ _ v u Q I rx ry ⟨a,b,xs,ys,rfl,rfl,SqT.of ha,SqT.of hb,hx,hz,fun e=>?_,fun _ p hp=>q p _ (Same.upd hp) za3⟩
   subst e
   exact q a H (Same.refl _) (by rw[List.append_nil];exact ha)
end
end L2
namespace L2
open PySem PySem.Spec PyProof.Rows
theorem zP2 {J:It} {H1:Hp} {D:Addr} {n:Nat} {x:Nat->V} {j:Nat} {σc:St} {tif:TT} {telt:TE} {Q:Hp->Prop} (Iv:Nat->Hp->Prop) (h0:Iv 0 (upd H1 D (.lst [])))
   (go:∀ i H',i<n->Iv i H'->J.go i H') (st:∀ H',Iv n H'->J.stop n H') (yl:∀ i v H' H2,i<n->Iv i H'->J.yld i H' v H2->H2=H'/\v=x i)
   (step:∀ i H' (N:St->Hp->Prop),i<n->Iv i H'->(∀ H2,Iv (i+1) H2->N (σc.set j (some (x i))) H2)->tif (σc.set j (some (x i))) H' fun b H4=>if b=true then zr4 D telt N (σc.set j (some (x i))) H4 else N (σc.set j (some (x i))) H4)
   (q:∀ H',Iv n H'->Q H') :
   ∃ W:Nat->Nat->St->Hp->Prop,(∃ m,W 0 m σc (upd H1 D (.lst []))) ∧
     ∀ i m σ' H',W i m σ' H'->(J.stop i H'/\Q H')\/(J.go i H'/\∃ N:St->Hp->Prop,(∀ σ2 H2,N σ2 H2->∃ m',m'<m/\W (i+1) m' σ2 H2) ∧
       ∀ v H2,J.yld i H' v H2->zr1 j v σ' H2 fun σ3 H3=>tif σ3 H3 fun b H4=>if b=true then zr4 D telt N σ3 H4 else N σ3 H4):=by
 refine⟨fun i m σ' H'=>m=n-i/\i<=n/\(∀ v,σ'.set j (some v)=σc.set j (some v))/\Iv i H',⟨n,by simp,Nat.zero_le _,fun _=>rfl,h0⟩,?_⟩
 rintro i m σ' H' ⟨rfl,hi,hσ,iv⟩
 by_cases hlt:i<n
 . refine .inr ⟨go i _ hlt iv,fun σ2 H2=>(∀ v,σ2.set j (some v)=σc.set j (some v))/\Iv (i+1) H2,fun σ2 H2 ⟨h1,h2⟩=>⟨n-(i+1),by omega,rfl,hlt,h1,h2⟩,fun v H2 y=>?_⟩
   obtain ⟨rfl,rfl⟩:=yl i v _ H2 hlt iv y
   dsimp only[zr1]
   rw[hσ]
   exact step i _ _ hlt iv fun H2 h2=>⟨fun v=>by simp,h2⟩
 . have e:i=n:=by omega
   subst e
   exact .inl ⟨st _ iv,q _ iv⟩
theorem zB6 {H1:Hp} {D:Addr} {lo:Int} {n:Nat} {j:Nat} {σc:St} {tif:TT} {telt:TE} {Q:Hp->Prop} (Iv:Nat->Hp->Prop) (h0:Iv 0 (upd H1 D (.lst [])))
   (step:∀ i H' (N:St->Hp->Prop),i<n->Iv i H'->(∀ H2,Iv (i+1) H2->N (σc.set j (some (.int (lo+i)))) H2)->tif (σc.set j (some (.int (lo+i)))) H' fun b H4=>if b=true then zr4 D telt N (σc.set j (some (.int (lo+i)))) H4 else N (σc.set j (some (.int (lo+i)))) H4)
   (q:∀ H',Iv n H'->Q H') :
   ∃ W:Nat->Nat->St->Hp->Prop,(∃ m,W 0 m σc (upd H1 D (.lst []))) ∧
     ∀ i m σ' H',W i m σ' H'->((Itr lo n).stop i H'/\Q H')\/((Itr lo n).go i H'/\∃ N:St->Hp->Prop,(∀ σ2 H2,N σ2 H2->∃ m',m'<m/\W (i+1) m' σ2 H2) ∧
       ∀ v H2,(Itr lo n).yld i H' v H2->zr1 j v σ' H2 fun σ3 H3=>tif σ3 H3 fun b H4=>if b=true then zr4 D telt N σ3 H4 else N σ3 H4) :=
 zP2 (J:=Itr lo n) (x:=fun i=>.int (lo+i)) Iv h0 (fun i H' hi _=>hi) (fun H' _=>Nat.le_refl _) (fun i v H' H2 hi _ y=>y) step q
theorem zz4 {K:W.Frag} {H1:Hp} {D a:Addr} {xs:List V} {j:Nat} {σc:St} {tif:TT} {telt:TE} {Q:Hp->Prop} (Iv:Nat->Hp->Prop) (h0:Iv 0 (upd H1 D (.lst [])))
   (hs:∀ i H',Iv i H'->SqL K H' a xs)
   (step:∀ i x H' (N:St->Hp->Prop),xs[i]?=some x->Iv i H'->(∀ H2,Iv (i+1) H2->N (σc.set j (some x)) H2)->tif (σc.set j (some x)) H' fun b H4=>if b=true then zr4 D telt N (σc.set j (some x)) H4 else N (σc.set j (some x)) H4)
   (q:∀ H',Iv xs.length H'->Q H') :
   ∃ W:Nat->Nat->St->Hp->Prop,(∃ m,W 0 m σc (upd H1 D (.lst []))) ∧
     ∀ i m σ' H',W i m σ' H'->((Itl K a).stop i H'/\Q H')\/((Itl K a).go i H'/\∃ N:St->Hp->Prop,(∀ σ2 H2,N σ2 H2->∃ m',m'<m/\W (i+1) m' σ2 H2) ∧
       ∀ v H2,(Itl K a).yld i H' v H2->zr1 j v σ' H2 fun σ3 H3=>tif σ3 H3 fun b H4=>if b=true then zr4 D telt N σ3 H4 else N σ3 H4):=by
 refine zP2 (J:=Itl K a) (n:=xs.length) (x:=fun i=>xs.getD i .non) Iv h0 (fun i H' hi iv=>⟨xs,xs[i],hs _ _ iv,by simp[hi]⟩) (fun H' iv=>⟨xs,hs _ _ iv,Nat.le_refl _⟩) (fun i v H' H2 hi iv y=>?_) (fun i H' N hi iv hN=>?_) q
 . obtain ⟨e,y⟩:=y
   have:=y xs (hs _ _ iv)
   exact⟨e,by rw[List.getD_eq_getElem?_getD,this];rfl⟩
 . have e:xs[i]?=some (xs.getD i .non):=by rw[List.getD_eq_getElem?_getD,List.getElem?_eq_getElem hi];rfl
   exact step i _ H' N e iv hN
end L2
namespace L2
open PySem PySem.Spec PyProof.Rows
theorem dict_mapF (g:Array Value->Array Value) (o:Obj):(Obj.mapFields g o).dict=o.dict:=by
 obtain ⟨c,d,dt,sl⟩:=o
 cases dt<;>rfl
noncomputable def TrD (h base:Heap) (e:Addr) (cls:Value) (od:Option Addr) (fl:Value):Prop :=
 ∃ ob fs T ot tf,h.get? e=some ob/\(ob.cls=cls/\ob.dict=od)/\ob.data = .fields fs/\fs[1]?=some (.ref T)/\base.get? T=none/\T≠e/\h.get? T=some ot/\ot.data = .fields tf/\tf[3]?=some fl
noncomputable def FlD (base:Heap) (l:List Env) (e:Addr) (cls:Value) (od:Option Addr) (fl:Value) (h:Heap):Prop:=base.StaysIn h/\base.get? e=none/\h.FunFrames base l/\TrD h base e cls od fl
theorem FlD.there {base h:Heap} {l:List Env} {e:Addr} {cls fl:Value} {od:Option Addr} (x:FlD base l e cls od fl h):∃ ob,h.get? e=some ob/\(ob.cls=cls/\ob.dict=od)/\∃ vs,ob.data = .fields vs:=by
 obtain ⟨_,_,_,ob,fs,_,_,_,e1,e2,e3,_⟩:=x
 exact⟨ob,e1,e2,fs,e3⟩
section
variable {M:Model} {A:Around} {E:Value->Shared->Prop} {s:Shared} {base:Heap} {env:Env} {outer l:List Env} {L e:Addr} {cls fl:Value} {od:Option Addr} {Q:Unit->Shared->Prop}
theorem zH8 (x:FlD base l e cls od fl s.heap) (k:∀ h',FlD base l e cls od .none h'->s.heap.UpToSlots h'->Q () { s with heap:=h' }):wpAny M A (setFlight (.ref e) none) Q E s:=by
 obtain ⟨st,ne,ff,ob,fs,T,ot,tf,g1,gc,g2,g3,g4,g5,g6,g7,g8⟩:=x
 have sz3:3<tf.size:=(Array.getElem?_eq_some_iff.mp g8).1
 let U:Heap:=s.heap.update T (Obj.mapFields (·.setIfInBounds 3 ((none:Option Addr).elim Value.none fun f=>rawInt f)))
 have oth:∀ b,b≠T->U.get? b=s.heap.get? b:=fun b hb=>Heap.get?_update_other _ _ (Ne.symm hb)
 have noT:∀ b o,s.heap.get? b=some o->(∀ vs,o.data≠.fields vs)->b≠T:=fun b o hb hn z=>by
   rw[z,g6] at hb
   cases hb
   exact hn tf g7
 unfold setFlight
 refine wpAny_bind (wpAny_field g1 g2 g3 ?_)
 rw[if_pos (show (Value.ref T != Value.none)=true by simp)]
 refine wpAny_setField g6 g7 sz3 (k U ⟨fun b o hb=>(oth b fun z=>by rw[z,g4] at hb;cases hb).trans (st b o hb),ne,ff.of_keeps fun b o hb hn=>⟨o,(oth b (noT b o hb hn)).trans hb,rfl⟩,?_⟩ fun b o hb hn=>⟨o.slots,(oth b (noT b o hb hn)).trans hb⟩)
 exact⟨ob,fs,T,_,_,(oth e (Ne.symm g5)).trans g1,gc,g2,g3,g4,g5,Heap.get?_update_self _ g6 (Obj.isFreed_of_fields (Obj.data_mapFields g7 _)),Obj.data_mapFields g7 _,by simp[sz3]⟩
theorem zY0 {ob:Obj} {fs:Array Value} {head:Value} {nx:Bool} (fr:A.frames=some (env::outer)) (ff:s.heap.FunFrames base (env::outer)) (lf:env.frame=some L) (g1:s.heap.get? e=some ob) (st:base.StaysIn s.heap) (ne:base.get? e=none) (g2:ob.data = .fields fs) (sz:1<fs.size)
   (k:∀ h',FlD base (env::outer) e ob.cls ob.dict (rawInt L) h'->s.heap.UpToSlots h'->Q () { s with heap:=h' }) :
   wpAny M A (do let a <-frameOf env;let pl <-entryPlaceOf L nx;let b <-EntryCells.newEntry head a .none (rawInt L) .none pl;setField (.ref e) 1 b) Q E s:=by
 have nfr:e∉(env::outer).filterMap (·.frame):=fun hm=>by
   obtain ⟨_,o,ho,hn⟩:=ff.mem hm
   rw[g1] at ho
   cases ho
   exact hn fs g2
 refine wpAny_bind (wpAny_frameOf_fun fr ff lf fun h1 q1=>?_)
 refine wpAny_bind (wpAny_entryPlaceOf fun pl hpl=>?_)
 unfold EntryCells.newEntry newFields
 refine wpAny_bind (wpAny_newObj_type ?_ (hpl.sizeOk5 _ _ _ _ _))
 have e1:h1.get? e=some ob:=(q1.2.1 e nfr).trans g1
 have st1:base.StaysIn h1:=fun b o hb=>(q1.2.1 b fun hm=>by rw[(ff.mem hm).1] at hb;cases hb).trans (st b o hb)
 generalize htb:(([head,.ref L,.none,rawInt L,.none]++(if pl.isEmpty then List.replicate 6 Value.none else pl)).toArray:Array Value)=tb
 have tb3:tb[3]?=some (rawInt L):=by rw[<-htb];rcases hpl with rfl | ⟨_,_,_,_,_,_,_,rfl⟩<;>simp
 have e2:=Heap.get?_push_of_some (h:=h1) { cls:=.type "traceback",dict:=none,data:=.fields tb } e1
 refine wpAny_setField e2 g2 sz (k _ ?_ ?_)
 all_goals
   have neT:h1.objs.size≠e:=Nat.ne_of_gt (Heap.lt_size e1)
   have keep:∀ b o,b≠e->h1.get? b=some o->((h1.push { cls:=.type "traceback",dict:=none,data:=.fields tb }).update e (Obj.mapFields (·.setIfInBounds 1 (Value.ref h1.objs.size)))).get? b=some o:=fun b o hb hg=>by
     rw[Heap.get?_update_other _ _ (Ne.symm hb)]
     exact Heap.get?_push_of_some _ hg
   have noE:∀ b o,s.heap.get? b=some o->(∀ vs,o.data≠.fields vs)->b≠e:=fun b o hb hn z=>by
     rw[z,g1] at hb
     cases hb
     exact hn fs g2
 . have d3:=Obj.data_mapFields g2 (·.setIfInBounds 1 (Value.ref h1.objs.size))
   have e3:=Heap.get?_update_self (Obj.mapFields (·.setIfInBounds 1 (Value.ref h1.objs.size))) e2 (Obj.isFreed_of_fields d3)
   have t3:=(Heap.get?_update_other (h1.push { cls:=.type "traceback",dict:=none,data:=.fields tb }) (Obj.mapFields (·.setIfInBounds 1 (Value.ref h1.objs.size))) (Ne.symm neT)).trans (Heap.get?_push_size h1 rfl)
   refine⟨fun b o hb=>keep b o (fun z=>by rw[z,ne] at hb;cases hb) (st1 b o hb),ne,ff.of_keeps fun b o hb hn=>?_,?_⟩
   . obtain ⟨sl,z⟩:=q1.2.2 b o hb
     exact⟨_,keep b _ (noE b o hb hn) z,rfl⟩
   . exact⟨_,_,h1.objs.size,_,_,e3,⟨Obj.cls_mapFields _ _,dict_mapF _ _⟩,d3,by simp[sz],st1.fresh,neT,t3,rfl,tb3⟩
 . intro b o hb hn
   obtain ⟨sl,z⟩:=q1.2.2 b o hb
   exact⟨sl,keep b _ (noE b o hb hn) z⟩
theorem leave_first {ob:Obj} {fs:Array Value} (fr:A.frames=some (env::outer)) (ff:s.heap.FunFrames base (env::outer)) (lf:env.frame=some L) (g1:s.heap.get? e=some ob) (st:base.StaysIn s.heap) (ne:base.get? e=none) (g2:ob.data = .fields fs) (g3:fs[1]?=some .none)
   (k:∀ h',FlD base (env::outer) e ob.cls ob.dict .none h'->s.heap.UpToSlots h'->Q () { s with heap:=h' }):wpAny M A («leaving» env (.ref e)) Q E s:=by
 unfold «leaving» noteFrame
 simp only[lf]
 refine wpAny_bind (wpAny_bind (wpAny_field g1 g2 g3 ?_))
 rw[if_neg (by decide)]
 exact zY0 fr ff lf g1 st ne g2 (Array.getElem?_eq_some_iff.mp g3).1 fun h' x up=>zH8 (s:={ s with heap:=h' }) x fun h2 x2 up2=>k h2 x2 (up.trans up2)
theorem yc5 (fr:A.frames=some (env::outer)) (lf:env.frame=some L) (x:FlD base (env::outer) e cls od .none s.heap)
   (k:∀ h',FlD base (env::outer) e cls od (rawInt L) h'->s.heap.UpToSlots h'->Q () { s with heap:=h' }):wpAny M A (noteFrame (.ref e) env) Q E s:=by
 obtain ⟨st,ne,ff,ob,fs,T,ot,tf,g1,⟨gc,gd⟩,g2,g3,g4,g5,g6,g7,g8⟩:=x
 subst gc gd
 unfold noteFrame
 simp only[lf]
 refine wpAny_bind (wpAny_field g1 g2 g3 ?_)
 rw[if_pos (show (Value.ref T != Value.none)=true by simp)]
 refine wpAny_bind (wpAny_field g6 g7 g8 ?_)
 rw[if_neg (show ¬ ((Value.none == rawInt L)=true) by simp[rawInt])]
 refine wpAny_bind (wpAny_setField g6 g7 (Array.getElem?_eq_some_iff.mp g8).1 ?_)
 have oth:∀ b,b≠T->(s.heap.update T (Obj.mapFields (·.setIfInBounds 3 Value.none))).get? b=s.heap.get? b:=fun b hb=>Heap.get?_update_other _ _ (Ne.symm hb)
 have noT:∀ b o,s.heap.get? b=some o->(∀ vs,o.data≠.fields vs)->b≠T:=fun b o hb hn z=>by
   rw[z,g6] at hb
   cases hb
   exact hn tf g7
 refine zY0 fr (ff.of_keeps fun b o hb hn=>⟨o,(oth b (noT b o hb hn)).trans hb,rfl⟩) lf ((oth e (Ne.symm g5)).trans g1) (fun b o hb=>(oth b fun z=>by rw[z,g4] at hb;cases hb).trans (st b o hb)) ne g2 (Array.getElem?_eq_some_iff.mp g3).1 fun h' x up=>k h' x fun b o hb hn=>up b o ((oth b (noT b o hb hn)).trans hb) hn
theorem leave_on (fr:A.frames=some (env::outer)) (lf:env.frame=some L) (x:FlD base (env::outer) e cls od .none s.heap)
   (k:∀ h',FlD base outer e cls od .none h'->s.heap.UpToSlots h'->Q () { s with heap:=h' }):wpAny M A («leaving» env (.ref e)) Q E s:=by
 unfold «leaving»
 refine wpAny_bind (yc5 fr lf x fun h1 x1 up1=>zH8 (s:={ s with heap:=h1 }) x1 fun h2 x2 up2=>?_)
 obtain ⟨k1,k2,⟨_,_,k3⟩,k4⟩:=x2
 exact k h2 ⟨k1,k2,k3,k4⟩ (up1.trans up2)
end
end L2
namespace L2
open PySem PySem.Spec PyProof.Rows
noncomputable def FlyD (h:Heap) (H:Hp) (h0:Heap) (a:Addr) (cls:Value) (od:Option Addr):Prop :=
 (H a=none/\h0.get? a=none)/\∃ T,(H T=none/\h0.get? T=none)/\∃ oe vs oT ts,h.get? a=some oe/\(oe.cls=cls/\oe.dict=od)/\oe.data = .fields vs/\vs[1]?=some (.ref T)/\T≠a/\h.get? T=some oT/\oT.data = .fields ts/\ts[3]?=some Value.none
theorem FlyD.from {h:Heap} {H:Hp} {h0 h1:Heap} {a:Addr} {cls:Value} {od:Option Addr} (x:FlyD h H h0 a cls od) (k:∀ b o,h1.get? b=some o->∃ o',h0.get? b=some o'):FlyD h H h1 a cls od:=by
 have g:∀ b,h0.get? b=none->h1.get? b=none:=fun b e=>by
   cases q:h1.get? b with
   | none=>rfl
   | some o=>obtain ⟨o',z⟩:=k b o q;rw[e] at z;cases z
 obtain ⟨⟨x1,x2⟩,T,⟨x3,x4⟩,r⟩:=x
 exact⟨⟨x1,g _ x2⟩,T,⟨x3,g _ x4⟩,r⟩
theorem FlyD.flying {h:Heap} {H:Hp} {h0 B:Heap} {a:Addr} {cls:Value} {od:Option Addr} {l:List Env} (x:FlyD h H h0 a cls od) (ff:h.FunFrames B l) :
   ∃ T,(H T=none/\h0.get? T=none)/\FlD (W.hideAll h (a::([T]++frs l))) l a cls od .none h:=by
 obtain ⟨_,T,z,oe,vs,oT,ts,e1,e2,e3,e4,e5,e6,e7,e8⟩:=x
 refine⟨T,z,fun b o e=>W.of_hideAll _ e,W.hideAll_none _ List.mem_cons_self,W.funFrames_hide ff fun env he b hb=>?_,oe,vs,T,oT,ts,e1,e2,e3,e4,W.hideAll_none _ (by simp),e5,e6,e7,e8⟩
 exact List.mem_cons_of_mem _ (List.mem_cons_of_mem _ (List.mem_filterMap.mpr ⟨env,he,hb⟩))
theorem zY1 {P:Program} {w:World} {fs ts:List Addr} {l l':List Env} {H0 H:Hp} {h0 h1 h2 B:Heap} {a:Addr} {cls:Value} {od:Option Addr} (u:Un fs [] H0 H h0 h1) (ok:HOk P w H h1) (ff:h1.FunFrames B l)
   (hl:∀ b∈frs l,(b∈fs\/h0.get? b=none)/\H b=none) (ha:H a=none/\h0.get? a=none) (hts:∀ T∈ts,H T=none/\h0.get? T=none)
   (x:FlD (W.hideAll h1 (a::(ts++frs l))) l' a cls od .none h2) (up:h1.UpToSlots h2):Un fs [] H0 H h0 h2/\HOk P w H h2/\FlyD h2 H h0 a cls od:=by
 obtain ⟨st,_,_,oe,vs,T,oT,tv,e1,e2,e3,e4,e5,e6,e7,e8,e9⟩:=x
 have keep:∀ b o,b∉a::(ts++frs l)->h1.get? b=some o->h2.get? b=some o:=fun b o hb e=>st b o (W.hideAll_get _ e hb)
 have out:∀ b,b∈a::(ts++frs l)->H b=none/\(b∈frs l\/h0.get? b=none):=fun b hb=>by
   rcases List.mem_cons.mp hb with rfl | hb
   . exact⟨ha.1,.inr ha.2⟩
   . rcases List.mem_append.mp hb with hb | hb
     . exact⟨(hts b hb).1,.inr (hts b hb).2⟩
     . exact⟨(hl b hb).2,.inl hb⟩
 have slot:∀ b o,h0.get? b≠none->h1.get? b=some o->∃ sl,h2.get? b=some { o with slots:=sl }:=fun b o n e=>by
   by_cases hb:b∈a::(ts++frs l)
   . rcases (out b hb).2 with q | q
     . obtain ⟨_,o',ho,hn⟩:=ff.mem q
       rw[e] at ho;cases ho
       exact up b o e hn
     . exact absurd q n
   . exact⟨o.slots,keep b o hb e⟩
 refine⟨⟨fun b o e n hf hx=>?_,fun b o e n hf hx=>?_,u.free,fun b o e hx=>?_,u.tups,u.frzs,u.tbls⟩,fun b o q=>?_,ha,T,?_,oe,vs,oT,tv,e1,e2,e3,e4,e6,e7,e8,e9⟩
 . refine keep b o (fun hb=>?_) (u.keep b o e n hf hx)
   rcases (out b hb).2 with q | q
   . rcases (hl b q).1 with q | q
     . exact hf q
     . rw[e] at q;cases q
   . rw[e] at q;cases q
 . obtain ⟨sl,q⟩:=u.slot b o e n hf hx
   obtain ⟨sl',q'⟩:=slot b _ (by rw[e];simp) q
   exact⟨sl',q'⟩
 . obtain ⟨o',q⟩:=u.there b o e hx
   obtain ⟨sl',q'⟩:=slot b _ (by rw[e];simp) q
   exact⟨_,q'⟩
 . refine (ok b o q).stay (fun c v hc qv=>keep c v (fun hm=>?_) qv) (fun _ z=>z) fun _ _ z=>z
   have n:=(out c hm).1
   rcases hc with rfl | hc
   . rw[q] at n;cases n
   . rw[hc] at n;cases n
 . by_cases hm:T∈a::(ts++frs l)
   . rcases List.mem_cons.mp hm with z | hm
     . exact absurd z e6
     . rcases List.mem_append.mp hm with hm | hm
       . exact hts T hm
       . obtain ⟨_,o',ho,hn⟩:=ff.mem hm
         obtain ⟨sl,z⟩:=up T o' ho hn
         rw[e7] at z;cases z
         exact absurd e8 (hn tv)
   . have n1:h1.get? T=none:=by
       cases q:h1.get? T with
       | none=>rfl
       | some o=>rw[W.hideAll_get _ q hm] at e5;cases e5
     refine⟨?_,?_⟩
     . cases q:H T with
       | none=>rfl
       | some o=>obtain ⟨ob,z⟩:=(ok T o q).got;rw[n1] at z;cases z
     . cases q:h0.get? T with
       | none=>rfl
       | some o=>obtain ⟨ob,z⟩:=u.there T o q (by simp);rw[n1] at z;cases z
noncomputable def CXD (P:Program) (w:World):CXT:=fun outer H s E e s'=>∃ a cls od H',e = .ref a/\s'.os=s.os/\AllBare s'.gens/\Un (frs outer) [] H H' s.heap s'.heap/\HOk P w H' s'.heap/\FlyD s'.heap H' s.heap a cls od/\E cls od H'
noncomputable def yc6 (X:Cx) (E:XK):Prop:=∀ (pins:List (Addr×Obj)) (σ:St) (H:Hp) (s:Shared) (x C:Addr) (od:Option Addr),Inv X pins σ H s->H x=some (ExcO C x od)->X.s₀.heap.get? x=none->E (.ref C) od (del H x)->X.xe (.ref x) s
theorem Inv.leftD {X:Cx} {pins:List (Addr×Obj)} {σ:St} {H:Hp} {s:Shared} {a:Addr} {od:Option Addr} {cls:Value} {ts:List Addr} {h2:Heap} {l':List Env} (I:Inv X pins σ H s) (hex:X.ex=[]) (ha:H a=none/\X.s₀.heap.get? a=none) (hts:∀ T∈ts,H T=none/\X.s₀.heap.get? T=none)
   (x:FlD (W.hideAll s.heap (a::(ts++frs X.stack))) l' a cls od .none h2) (up:s.heap.UpToSlots h2):Un X.fs [] X.H₀ H X.s₀.heap h2/\HOk X.prog X.w H h2/\FlyD h2 H X.s₀.heap a cls od:=by
 have u:=I.base
 rw[hex] at u
 refine zY1 u I.hok I.stack (fun b hb=>⟨?_,I.stkFree b hb⟩) ha hts x up
 rcases List.mem_cons.mp (I.stkSub b hb) with z | z
 . right;rw[z];exact Heap.get?_none_of_le I.ok.above
 . exact .inl z
section
variable {P:Program} {w:World} {K:W.Frag} {mg:Str->Option Value} {base:Heap} {N:List Str} {qual:Str} {scope:Scope} {f:Addr} {cd:Value} {A:Around} {outer:List Env} {s:Shared} {H:Hp} {E:XK}
theorem zj7:yc6 (cxOf (CXD P w) P w K mg base N qual scope f cd A outer s H E) E:=by
 intro pins σ H1 s1 x C od I e n q
 obtain ⟨t,hx⟩:=zW4 I e
 have J:=I.del e
 have hd:del H1 x x=none:=zX9 _ _
 refine leave_first (base:=W.hideAll s1.heap (x::([]++frs (cxOf (CXD P w) P w K mg base N qual scope f cd A outer s H E).stack))) (outer:=outer) (L:=s.heap.objs.size) I.ok.frames ?_ rfl hx (fun b o z=>W.of_hideAll _ z) (W.hideAll_none _ List.mem_cons_self) rfl rfl fun h' hL up=>?_
 . exact W.funFrames_hide I.stack fun env he b hb=>List.mem_cons_of_mem _ (List.mem_filterMap.mpr ⟨env,he,hb⟩)
 . obtain ⟨u,ok,fl⟩:=J.leftD (ts:=[]) rfl ⟨hd,n⟩ (fun _ z=>nomatch z) hL up
   exact⟨x,.ref C,od,_,rfl,I.os,I.bare,u,ok,fl,q⟩
theorem zl8:zt8 (CXD P w) (cxOf (CXD P w) P w K mg base N qual scope f cd A outer s H E) E:=by
 intro pins σ H1 s1 e s2 I q
 obtain ⟨a,cls,od,H',rfl,os,bare,un,ok,fl,q⟩:=q
 have J:=I.call' (ch:=[]) os un ok bare fun b z=>nomatch z
 have fl':FlyD s2.heap H' s.heap a cls od:=fl.from fun b o z=>I.base.there b o z (fun z=>nomatch z)
 obtain ⟨T,z,fw⟩:=fl'.flying J.stack
 refine leave_on J.ok.frames rfl fw fun h' fw' up=>?_
 obtain ⟨u,ok',f2⟩:=J.leftD (ts:=[T]) rfl fl'.1 (fun b hb=>by rw[List.mem_singleton.mp hb];exact z) fw' up
 exact⟨a,cls,od,H',rfl,J.os,J.bare,u,ok',f2,q⟩
theorem FunD.okD {CX:CXT} {x qual:Str} {st:Stmt} {fd:FuncData} {N ps:List Str} {k:Nat} {sp:Sp} (F:FunD K x qual st f fd) (S:zb6 N ps (za5 st)) (len:∀ vs H Q E,sp vs H Q E->vs.length=ps.length)
   (hbody:∀ (cdv:Value) (A:Around) (outer:List Env) (s:Shared) (H:Hp) (vs:List V) (Q:VK) (E:XK),Room k (A.deeper (envOfC qual (za5 st) s.heap.objs.size f cdv))->sp vs H Q E →
     ∃ t,PSs (cxOf (CXD P w) P w K mg base N qual (za5 st) f cdv A outer s H E) (za9 st) t/\t { nx:=fun _ H'=>Q .non H',rt:=Q } (start N vs) H):FnOk P w K mg base (CXD P w) (k+1) f fd ps sp:=by
 obtain ⟨oc,od,dV,kV,doc,pm,an,cdv,ct,osl,rfl,lk,hcd⟩:=F.ex
 refine ye9 lk hcd S len fun A outer s H vs Q E hr hsp=>?_
 obtain ⟨t,h,q⟩:=hbody cdv A outer s H vs Q E hr hsp
 exact⟨t,h,q⟩
end
section
variable {X:Cx} {CX:CXT} {k:Nat} {f C:Addr} {fd:FuncData} {ps:List Str} {sp:Sp} {dvs:List V} {ds:List Value} {E Ei:XK} {x m:Str} {p pos cpos apos:Pos} {e:Expr} {es:List Expr} {t:TA}
noncomputable def tRaiseD (C:Addr) (sp:Sp) (dvs:List V) (Ei E:XK) (t:TA):TS:=fun _ σ H=>t σ H fun vs H1=>vs.length<=sizeLine/\∀ x,H1 x=none →
 sp (.ref x::(vs++dvs)) (upd H1 x (ExcO C x none)) (fun v H2=>v = .non/\∃ od,H2 x=some (ExcO C x od)/\E (.ref C) od (del H2 x)) Ei
theorem zm4 (R:yc6 X E) (hc:X.calm=true) (c:XCls X.K C) (hi:W.findIn X.K (.ref C) "__init__" = some (some (.ref f))) (hf:W.isFn X.K (.ref f)=true) (F:FnOk X.prog X.w X.K X.mg X.base CX k f fd ps sp) (hr:Room (k+1) X.A) (hg:Gl X x) (hm:X.mg x=some (.ref C)) (hb:zc4 X.K fd ps ds) (hd:Vals dvs ds) (hx:zt8 CX X Ei)
   (ha:PA X (e::es) t) (hdb:(x == ("__debug__" : Str))=false:=by decide) (he:starEach (e::es) X.env=(false,eval e X.env)::starEach es X.env:=by rfl) (hpl:(backTo cpos (starEach es X.env)).any (·.1)=false:=by rfl) :
   PS X (.Raise (some (.Call (.Name x p) (e::es) [] cpos)) none pos) (tRaiseD C sp dvs Ei E t):=by
 intro pins s σ H D I h
 obtain ⟨nm,qn,N,bs,bm,sn,sub,ab,col,dd,k0,k1,k2,k3,k5,hK,m⟩:=c.ob
 rw[arm_exec_Raise]
 simp only[evalOpt,Option.map]
 refine wpAny_bind (wpAny_standAt (xraise (C:=C) m (I.ok.hd hc) (hdct:=true) (nm:=nm) (q:=qn) (N:=N) (bs:=bs) (sn:=sn) (sub:=sub) (ab:=ab) (col:=col) (dd:=dd) (k0:=k0) (k1:=k1) (k2:=k2) (k3:=k3) (k5:=k5) (newId:="ValueError.__new__") ?_))
 refine wpAny_bind (wpAny_mono (wpAny_Call_Name_kw (zz1 I hg hm ?_ hdb)) (fun v s3 h3=>wpAny_bind (wpAny_standAt (wpAny_pure h3))) fun _ _ z=>z)
 refine W.callWith_K (h₀:=X.base) I.ok.mod.kin c.kp (thn (ha cpos pins s σ H _ I h) fun us s1 ⟨vs,H1,I1,r,hv,q⟩=>⟨I1.kIn,?_⟩) he hpl
 refine thn (run_xmake2 (Q:=fun x H2=>∃ od,H2 x=some (ExcO C x od)/\E (.ref C) od (del H2 x)) c hi hf F hr hb hd hx I1 r hv q) fun v s2 ⟨ev,H2,I2,od,e2,q2⟩=>?_
 obtain ⟨t2,hx2⟩:=zW4 I2 e2
 exact⟨_,_,_,ev,I2.kIn _ _ hK,hx2,R pins σ H2 s2 _ C od I2 e2 (Heap.get?_none_of_le (Nat.le_trans I1.sz (Nat.le_succ _))) q2⟩
end
noncomputable def Cx.inTryD (X:Cx) (pins:List (Addr×Obj)) (Ex:St->XK):Cx:={ X with pn:=X.pn++pins,xe:=fun e s1=>∃ σ H s,Inv X pins σ H s/\CXD X.prog X.w X.stack H s (Ex σ) e s1 }
section
variable {X:Cx} {pins pins':List (Addr×Obj)} {σ:St} {H:Hp} {s:Shared} {Ex:St->XK} {D:Ends} {fl:Flow}
theorem Inv.inTryD (I:Inv X pins σ H s) (Ex:St->XK):Inv (X.inTryD pins Ex) [] σ H s :=
 let ok:=I.ok
 ⟨⟨ok.mod,ok.kind,ok.glob,ok.blt,ok.above,ok.inj,ok.has,ok.cab,ok.hd,ok.frames,ok.stk,ok.exf,ok.bs,ok.bsz,ok.noex,ok.exfs,ok.funs,ok.frf⟩,I.os,I.bare,I.base,I.loc,I.cell,I.free,I.freeC,fun p hp=>I.pin p (by
   rw[List.append_nil] at hp;exact hp),I.hok,I.len⟩
theorem Inv.outTryD (I:Inv (X.inTryD pins Ex) pins' σ H s):Inv X pins σ H s :=
 let ok:=I.ok
 ⟨⟨ok.mod,ok.kind,ok.glob,ok.blt,ok.above,ok.inj,ok.has,ok.cab,ok.hd,ok.frames,ok.stk,ok.exf,ok.bs,ok.bsz,ok.noex,ok.exfs,ok.funs,ok.frf⟩,I.os,I.bare,I.base,I.loc,I.cell,I.free,I.freeC,fun p hp=>I.pin p (List.mem_append_left _ hp),I.hok,I.len⟩
theorem SP.outTryD (h:SP (X.inTryD pins Ex) pins' D fl s):SP X pins D fl s:=by
 cases fl with
 | next=>obtain ⟨σ',H',I,q⟩:=h;exact⟨σ',H',I.outTryD,q⟩
 | brk=>obtain ⟨σ',H',I,q⟩:=h;exact⟨σ',H',I.outTryD,q⟩
 | cont=>obtain ⟨σ',H',I,q⟩:=h;exact⟨σ',H',I.outTryD,q⟩
 | ret u=>obtain ⟨v,σ',H',I,r,q⟩:=h;exact⟨v,σ',H',I.outTryD,r,q⟩
theorem passes_tryD:yc4 (CXD X.prog X.w) (X.inTryD pins Ex) Ex:=fun pins' σ H s e s' I q=>⟨σ,H,s,I.outTryD,q⟩
end
noncomputable def zM6 (cls:Value) (a:Addr) (od:Option Addr):HO:=.ext fun h=>∃ oe,h.get? a=some oe/\(oe.cls=cls/\oe.dict=od)/\∃ vs,oe.data = .fields vs
theorem landD_ok {P:Program} {w:World} {H:Hp} {h:Heap} {a:Addr} {cls:Value} {od:Option Addr} {oe:Obj} (e:h.get? a=some oe) (hc:(oe.cls=cls/\oe.dict=od)/\∃ vs,oe.data = .fields vs):zk1 P w H h a (zM6 cls a od):=⟨⟨oe,e,hc⟩,⟨_,e⟩,fun h1 h2 ⟨t,e1,c1⟩ k=>⟨t,k _ e1,c1⟩⟩
section
variable {X:Cx} {D:Addr} {Ex:St->XK} {x n:Str} {i:Nat} {p pos hpos:Pos} {body suite:List Stmt} {b₀:Stmt} {tb th:TS}
noncomputable def tTryD (K:W.Frag) (Ex:St->XK) (D:Addr) (i:Nat) (tb th:TS):TS:=fun D' σ H=>tb D' σ H/\∀ σ' cls od H' a,Ex σ' cls od H'->H' a=none->W.exmOne K cls (.ref D)=some true/\th (D'.forget i) (σ'.set i (some (.ref a))) (upd H' a (zM6 cls a od))
theorem ps_tryD (hs:X.stack=X.env::X.outer/\X.env.frame=some X.env.locals) (hg:Gl X x) (hm:X.mg x=some (.ref D)) (hN:X.N.Nodup) (hi:X.N[i]?=some n) (hk:X.env.scope.names.lookup n=some .local) (hb:∀ pins,PSs (X.inTryD pins Ex) body tb) (hh:∀ e,PSs (X.caught e) (b₀::suite) th)
   (hdb:(x == ("__debug__" : Str))=false:=by decide) :
   PS X (.Try body [.ExceptHandler (some (.Name x p)) (some n) (b₀::suite) hpos] [] [] pos) (tTryD X.K Ex D i tb th):=by
 intro pins s σ H D' I h
 obtain ⟨h1,h2⟩:=h
 refine wpAny_Try_except (wpAny_mono (hb pins [] s σ H D' (I.inTryD Ex) h1) (fun f s1 q=>?_) fun e s1 q=>?_)
 . cases f with
   | next=>exact wpAny_execs_nil (SP.outTryD (fl:=.next) q)
   | brk=>exact SP.outTryD (fl:=.brk) q
   | cont=>exact SP.outTryD (fl:=.cont) q
   | ret u=>exact SP.outTryD (fl:=.ret u) q
 . obtain ⟨σ0,H0,s0,I0,a,cls,od,H',rfl,os,bare,un,ok,fl,q⟩:=q
   obtain ⟨ec,qh⟩:=h2 σ0 cls od H' a q fl.1.1
   have J:=I0.call' (ch:=[]) os un ok bare fun b z=>nomatch z
   have ff:=J.stack
   have ha0:=fl.1
   obtain ⟨T,z,fw⟩:=fl.flying ff
   have fr:X.A.frames=some (X.env::X.outer):=by rw[<-hs.1];exact J.ok.frames
   rw[hs.1] at fw
   refine yc5 fr hs.2 fw fun h1 held up1=>?_
   refine zH8 held fun h2 fw2 up2=>?_
   have st0:∀ (h':Heap),FlD (W.hideAll s1.heap (a::([T]++frs (X.env::X.outer)))) (X.env::X.outer) a cls od .none h'->s1.heap.UpToSlots h'->Un (frs X.stack) [] H0 H' s0.heap h'/\HOk X.prog X.w H' h':=fun h' fw' up'=>by
     obtain ⟨u,ok',_⟩:=zY1 (l:=X.env::X.outer) un ok (by rw[<-hs.1];exact ff) (fun b hb=>by rw[<-hs.1] at hb;exact⟨.inl hb,J.stkFree b hb⟩) fl.1 (ts:=[T]) (fun b hb=>by rw[List.mem_singleton.mp hb];exact z) fw' up'
     exact⟨u,ok'⟩
   have J2:Inv X pins σ0 H' { s1 with heap:=h2 }:=I0.call' (ch:=[]) (s':={ s1 with heap:=h2 }) os (st0 h2 fw2 (up1.trans up2)).1 (st0 h2 fw2 (up1.trans up2)).2 bare fun b z=>nomatch z
   refine wpAny_handleBy_cons (codeAny_handlers_test ?_) (by intro q;cases q)
   refine zz1 (X:=X.caught (.ref a)) (J2.caught _) hg hm ?_ hdb
   obtain ⟨oe,he,⟨hcls,_⟩,_⟩:=fw2.there
   have LT:W.Looks (model X.prog X.w) h2 (typeOf (.ref a)) cls:=by
     subst hcls
     exact (W.Looks.ld he).andThen .now
   refine (W.exm_one J2.kIn LT ec) _ _ _ _ (fun _ _ e=>e) ?_
   show codeAny _ _ _ _ _
   refine codeAny_handlers_suite_as (zH8 fw2 fun h3 fw3 up3=>?_)
   obtain ⟨u3,ok3⟩:=st0 h3 fw3 ((up1.trans up2).trans up3)
   obtain ⟨oe3,he3,hc3⟩:=fw3.there
   have nea:∀ b u,H' b=some u->b≠a:=fun b u e w=>by rw[w,ha0.1] at e;cases e
   have J3:Inv X pins σ0 (upd H' a (zM6 cls a od)) { s1 with heap:=h3 }:=by
     refine I0.call' (ch:=[]) (s':={ s1 with heap:=h3 }) os ⟨u3.keep,u3.slot,fun b o e n hx=>?_,u3.there,fun b xs e=>?_,fun b o u e=>?_,fun b ps e=>?_⟩ (fun b o e=>?_) bare fun b z=>nomatch z
     . rw[za8 (fun w=>by rw[w,ha0.2] at e;cases e)];exact u3.free b o e n hx
     . rw[za8 (nea b _ (u3.tups b xs e))];exact u3.tups b xs e
     . rw[za8 (nea b _ (u3.frzs b o u e))];exact u3.frzs b o u e
     . obtain ⟨more,e1⟩:=u3.tbls b ps e
       exact⟨more,by rw[za8 (nea b _ e1)];exact e1⟩
     . by_cases hb:b=a
       . subst hb
         rw[za3] at e;cases e
         exact landD_ok he3 hc3
       . rw[za8 hb] at e
         exact (ok3 b o e).stay (fun _ _ _ q=>q) (fun c q=>by rw[za8 (nea c _ q)];exact q) fun c xs q=>by rw[za8 (nea c _ q)];exact q
   refine zA7 (X:=X.caught (.ref a)) (v:=.ref a) (J3.caught _) hN hi (.inl hk) rfl (fun s4 J4=>?_) (.inr hk)
   refine wpAny_mono (hh (.ref a) pins s4 _ _ (D'.forget i) J4 qh) (fun f s' r=>?_) fun _ _ z=>False.elim z
   have r:=SP.uncaught I.ok.hd r
   cases f with
   | next=>obtain ⟨σ',H'',I',q'⟩:=r;exact zN5 I' hN hi hk fun s5 J5=>⟨_,_,J5,q'⟩
   | brk=>obtain ⟨σ',H'',I',q'⟩:=r;exact zN5 I' hN hi hk fun s5 J5=>⟨_,_,J5,q'⟩
   | cont=>obtain ⟨σ',H'',I',q'⟩:=r;exact zN5 I' hN hi hk fun s5 J5=>⟨_,_,J5,q'⟩
   | ret u=>obtain ⟨v,σ',H'',I',rr,q'⟩:=r;exact zN5 I' hN hi hk fun s5 J5=>⟨v,_,_,J5,rr,q'⟩
end
end L2
namespace L2
open PySem PySem.Spec PyProof.Rows
theorem check_gaX {M:Model} {A:Around} {E:Value->Shared->Prop} {K:W.Frag} {h:Heap} {g:Array GenState} {d:Drawn} {t:Nat} {os:OsState} {x C:Addr} {ox:Obj} {od:Option Obj} {nameV:Value} {Q:Unit->Shared->Prop}
   (X:K.In h) (I:W.InstAt h x ox C od) (hbe:W.mroIn K C (.type "BaseException")=some true) (q:Q () { heap:=h,gens:=g,drawn:=d,toks:=t,os:=os }) :
   wpAny M A (checkBuiltinCall "BaseException.__getattribute__" { pos:=[Value.ref x,nameV] }) Q E { heap:=h,gens:=g,drawn:=d,toks:=t,os:=os }:=by
 have hk:builtinKind "BaseException.__getattribute__" = some Manifest.AttrKind.slot:=by decide +kernel
 have hs:splitId "BaseException.__getattribute__" = some ("BaseException","__getattribute__"):=by decide +kernel
 have ha:=F.args_bexc_ga (Value.ref x) nameV
 have L0:=W.InstAt.type I (M:=M)
 have L4:=W.looks_mroIn (M:=M) X hbe
 unfold checkBuiltinCall
 simp only[hk,hs]
 refine wpAny_bind ?_
 unfold isInstance
 refine wpAny_bind (W.Looks.at L0 (W.Looks.at L4 ?_))
 refine wpAny_ite_false rfl ?_
 exact wpAny_of_eq ha q
theorem get_valueX {prog:Program} {w:World} {A:Around} {E:Value->Shared->Prop} {s:Shared} {K:W.Frag} {x C:Addr} {ox:Obj} {od:Option Obj} {name:Str} {expr:Bool} {Q:Value->Shared->Prop} {v:Value}
   (X:K.In s.heap) (I:W.InstAt s.heap x ox C od)
   (hga:W.findIn K (.ref C) "__getattribute__" = some (some (.builtin "BaseException.__getattribute__")))
   (hgt:W.findIn K (.ref C) "__getattr__" = some none)
   (hbe:W.mroIn K C (.type "BaseException")=some true)
   (hf:W.findObj K C od name=some (.value v)) (hh:W.handedIn v=true)
   (h:Q v { s with toks:=s.toks+1 }):wpAny (model prog w) A (getAttr (.ref x) name expr) Q E s:=by
 obtain ⟨hh',g,d,t,os⟩:=s
 have L0:=W.InstAt.type I (M:=model prog w)
 have L1:=W.looks_findIn (M:=model prog w) X hga
 have L2:=W.looks_findIn (M:=model prog w) X hgt
 have L3:=W.looks_find (M:=model prog w) X I hf
 have hx0:(expr && onTheHeap (Value.builtin "BaseException.__getattribute__"))=false:=by cases expr<;>rfl
 unfold getAttr
 refine wpAny_bind (wpAny_mkText ?_)
 unfold getAttrBy
 refine wpAny_holding (wpAny_bind (W.Looks.at L0 (wpAny_bind (W.Looks.at L1 ?_))))
 refine wpAny_ite_false rfl ?_
 unfold getAttrByItsOwn
 refine wpAny_bind ?_
 unfold hookBefore
 refine wpAny_ite_true rfl (W.Looks.at L2 ?_)
 refine wpAny_bind (wpAny_attempt (wpAny_holding ?_))
 unfold callGetattribute
 refine wpAny_ite_false (by rw[hx0];rfl) ?_
 unfold boundAndCalled
 refine wpAny_bind (wpAny_of_eq (F.attr_ValueError.ga.bind (Value.ref x)) ?_)
 refine wpAny_call (codeAny_call_builtin F.attr_ValueError.ga.plain F.entry_bexc_ga ?_)
 refine check_gaX X I hbe ?_
 unfold Builtin.«object.__getattribute__»
 refine wpAny_bind (wpAny_of_eq (a:=(Value.ref x,[Value.str name t])) rfl ?_)
 refine wpAny_bind (wpAny_pure (wpAny_bind (W.Looks.at L0 (wpAny_bind (W.Looks.at L3 (wpAny_pure ?_))))))
 show wpAny (model prog w) A (handedOut v) Q E _
 rw[W.handedOut_of hh]
 exact wpAny_pure h
structure XAsk (K:W.Frag) (C:Addr):Prop where
 ga:W.findIn K (.ref C) "__getattribute__" = some (some (.builtin "BaseException.__getattribute__"))
 gt:W.findIn K (.ref C) "__getattr__" = some none
 be:W.mroIn K C (.type "BaseException")=some true
 hd:W.hasDictIn K C=true
 kc:W.findIn K (.ref C) "__class__" = some (some (.builtin "object.__class__"))
 mo:W.mroIn K C (.type "object")=some true
structure XWay (K:W.Frag):Prop where
 gt:W.specialIn K (.builtin "object.__class__") "__get__" = some (some (.builtin "getset_descriptor.__get__"))
 tk:W.takesIn K (.builtin "object.__class__")=some true
section
variable {X:Cx} {pins:List (Addr×Obj)} {σ:St} {H:Hp} {s:Shared}
theorem land_at {C a dx:Addr} {fs:List (Str×V)} (I:Inv X pins σ H s) (e:H a=some (zM6 (.ref C) a (some dx))) (ed:H dx=some (.xd fs)) :
   ∃ ox ob,W.InstAt s.heap a ox C (some ob)/\∃ mA:Str->Option Value,(∀ n,W.lookIn n ob=some (mA n))/\∀ g,RelO (fs.lookup g) (mA g):=by
 obtain ⟨ox,g1,⟨g2,g3⟩,vs,g4⟩:=(I.hok a _ e).1
 obtain ⟨_,mA,hn,r,_⟩:=I.hok dx _ ed
 obtain ⟨ob,h1,h2⟩:=zR3 hn
 refine⟨ox,ob,⟨g1,g2,?_,?_⟩,mA,h2,r⟩
 . unfold W.notCls
   rw[g4]
 . rw[g3];exact h1
noncomputable def yh3 (K:W.Frag) (ta:TE) (f:Str):TE:=fun σ H Q=>ta σ H fun x H1=>∃ a C dx fs v,x = .ref a/\H1 a=some (zM6 (.ref C) a (some dx))/\H1 dx=some (.xd fs)/\XAsk K C/\ze1 K C f/\fs.lookup f=some v/\Q v H1
theorem pe_xget {e:Expr} {f:Str} {pos:Pos} {ta:TE} (he:PE X e ta) (hb:attributeBase e f X.env (eval e X.env)=eval e X.env):PE X (.Attribute e f pos) (yh3 X.K ta f):=by
 intro pins s σ H Q I h
 refine yb4 hb (thn (he pins s σ H _ I h) fun u s1 ⟨x,H1,I1,rx,a,C,dx,fs,v,ex,ea,ed,c,n,l,q⟩=>?_)
 subst ex
 obtain rfl:u=Value.ref a:=rx
 obtain ⟨ox,ob,J,mA,hl,r⟩:=land_at I1 ea ed
 obtain ⟨u,hu,ru⟩:=RelO.some_of (v:=v) (o:=mA f) (by rw[<-l];exact r f)
 exact get_valueX I1.kIn J c.ga c.gt c.be (W.findObj_own c.hd n rfl (by rw[hl,hu])) (zR4 ru) ⟨v,H1,I1.tok _,ru,q⟩
end
theorem pe_xgetK {X:Cx} (K:W.Frag) (h:X.K=K) {e:Expr} {f:Str} {pos:Pos} {ta:TE} (he:PE X e ta) (hb:attributeBase e f X.env (eval e X.env)=eval e X.env):PE X (.Attribute e f pos) (yh3 K ta f):=by
 subst h;exact pe_xget he hb
end L2
namespace L2
open PySem PySem.Spec PyProof.Rows
section
variable {X:Cx}
theorem strsAre_of:∀ {ys:List Str} {us:List Value},Vals (ys.map V.str) us->StrsAre us ys:=by
 intro ys
 induction ys with
 | nil=>intro us r;rw[List.map_nil] at r;cases r;exact .nil
 | cons y ys ih =>
   intro us r
   rw[List.map_cons] at r
   cases r with
   | cons r1 r2 =>
     obtain ⟨t,e⟩:=r1
     subst e
     exact .cons y t (ih r2)
theorem zS2:∀ (l:List (Str×Tok)),Vals ((l.map (·.1)).map V.str) (strValues l)
 | []=>.nil
 | (y,t)::l=>.cons ⟨t,rfl⟩ (zS2 l)
noncomputable def rStarts:V->List V->Hp->VK->Prop:=fun x vs H Q=>∃ z y,x = .str z/\vs=[.str y]/\Q (.bl (Txt.startswith z y)) H
theorem zS3:MtR X "str.startswith" rStarts:=by
 intro pins s σ H x vs v us Q I rx rv h
 obtain ⟨z,y,rfl,rfl,q⟩:=h
 obtain ⟨t,rfl⟩:=rx
 obtain ⟨u,rfl,t',rfl⟩:=rv.one
 exact SC.startswith ⟨.bl _,H,I,rfl,q⟩
noncomputable def rJoin (K:W.Frag):V->List V->Hp->VK->Prop:=fun x vs H Q=>∃ (z:Str) (l:Addr) (ys:List Str),x = .str z/\vs=[.ref l]/\SqL K H l (ys.map V.str)/\(ys.map (·.length)).sum+ys.length*z.length<=16777216/\Q (.str (Txt.join z ys)) H
theorem zH9:MtR X "str.join" (rJoin X.K):=by
 intro pins s σ H x vs v us Q I rx rv h
 obtain ⟨z,l,ys,rfl,rfl,hS,hz,q⟩:=h
 obtain ⟨t,rfl⟩:=rx
 obtain ⟨u,rfl,ru⟩:=rv.one
 cases ru
 obtain ⟨its,r,p,_⟩:=I.list hS
 exact join_list p.isList (strsAre_of r) hz fun t' k=>⟨.str (Txt.join z ys),H,I.tok _,⟨_,rfl⟩,q⟩
noncomputable def rSplit:V->List V->Hp->VK->Prop:=fun x vs H Q=>∃ (z y:Str),x = .str z/\vs=[.str y]/\(y.length == 0)=false/\z.length<=1000000/\∀ l,H l=none->Q (.ref l) (upd H l (.lst ((Txt.split z y).map V.str)))
theorem zP3:MtR X "str.split" rSplit:=by
 intro pins s σ H x vs v us Q I rx rv h
 obtain ⟨x,y,rfl,rfl,hy,hz,q⟩:=h
 obtain ⟨t,rfl⟩:=rx
 obtain ⟨_,rfl,u,rfl⟩:=rv.one
 have hsl:sizeLine=16777216:=by decide
 have hq:=q _ I.fresh
 have hlen:=split_le x y
 have fin:∀ (l:List (Str×Tok)) (k:Nat),l.map (·.1)=Txt.split x y->EP X pins σ Q (.ref s.heap.objs.size) { s with heap:=s.heap.push { cls:=.type "list",data:=.seq (strValues l).toArray },toks:=k }:=fun l k e=>by
   refine⟨.ref s.heap.objs.size,_,?_,rfl,hq⟩
   have hv:=zS2 l
   rw[e] at hv
   exact I.lnew hv (by rw[List.length_map];omega)
 cases h1:(decide (x.length<y.length) || decide (Builtin.Str.strKind x<Builtin.Str.strKind y))
 . cases hf:(Builtin.Str.occurrences x y 0 x.length (x.length+1)).isEmpty
   . have es:Txt.split x y=Builtin.Str.partsBetween x (Builtin.Str.occurrences x y 0 x.length (x.length+1)) y.length:=(if_neg (ne_true_of_eq_false h1)).trans (if_neg (ne_true_of_eq_false hf))
     refine call_meets F.slot_str_split (typeIs_str _ _ _) F.entry_str_split (F.args_str_split_2 _ _) (meets_str_split_sep x y t u h1 hy hf (by omega) (by rw[<-es];omega)) ?_
     show EP X pins σ Q _ { s with toks:=_,heap:=s.heap.push { cls:=.type "list",data:=.seq (strsFrom s.toks (Builtin.Str.partsBetween x (Builtin.Str.occurrences x y 0 x.length (x.length+1)) y.length)).toArray } }
     rw[strsFrom_eq]
     exact fin (numbered s.toks _) _ ((numbered_texts _ _).trans es.symm)
   . exact call_meets F.slot_str_split (typeIs_str _ _ _) F.entry_str_split (F.args_str_split_2 _ _) (meets_str_split_not_found x y t u h1 hy hf)
       (fin [(x,t)] s.toks ((if_neg (ne_true_of_eq_false h1)).trans (if_pos hf)).symm)
 . exact call_meets F.slot_str_split (typeIs_str _ _ _) F.entry_str_split (F.args_str_split_2 _ _) (meets_str_split_cannot_occur x y t u h1)
     (fin [(x,t)] s.toks (if_pos h1).symm)
noncomputable def rSlS:V->Option Int->Option Int->Hp->VK->Prop:=fun x lo hi H Q=>∃ z,x = .str z/\z.length<=sizeLine/\Q (.str (Txt.slice z lo hi)) H
theorem yc7 {v:Value} {p:Option Int} (h:IsPart v p):∃ q:Option (Int×Tok),v=partValue q/\q.map (·.1)=p:=by
 cases h with
 | none=>exact⟨none,rfl,rfl⟩
 | int i t=>exact⟨some (i,t),rfl,rfl⟩
theorem sl_str:SlR X rSlS:=by
 intro pins s σ H x v vl vu lo hi sl Q I rx hs pl pu h
 obtain ⟨z,rfl,hz,q⟩:=h
 obtain ⟨t,rfl⟩:=rx
 obtain ⟨l,rfl,rfl⟩:=yc7 pl
 obtain ⟨u,rfl,rfl⟩:=yc7 pu
 refine⟨"str",_,F.slot_str_getitem.lookup,typeIs_str _ _ _,wpAny_getItem_str_slice (l:=l) (u:=u) (st:=none) hs rfl
   (post_val_or_str ⟨Nat.le_trans (Txt.slice_le z _ _) hz,fun t' k=>⟨.str _,H,I.tok _,⟨_,rfl⟩,q⟩⟩)⟩
theorem call_int_text:zs4 X (.type "int") (fun xs H Q=>∃ x n,xs=[.str x]/\intText? x=some n/\x.length<=640/\Q (.int n) H):=by
 intro pins s σ H xs us Q I r h
 obtain ⟨x,n,rfl,hn,hl,q⟩:=h
 obtain ⟨u,rfl,t,rfl⟩:=zB0 r
 exact W.KIN.call_text hn hl ⟨.int n,H,I.tok _,⟨_,rfl⟩,q⟩
theorem bools_at:∀ {bs:List Bool} {us:List Value},Vals (bs.map V.bl) us->us=bs.map Value.bool:=by
 intro bs
 induction bs with
 | nil=>intro us r;rw[List.map_nil] at r;cases r;rfl
 | cons b bs ih =>
   intro us r
   rw[List.map_cons] at r
   cases r with
   | cons r1 r2 =>
     cases r1
     rw[ih r2]
     rfl
theorem all_range (bs:List Bool):((List.range bs.length).all fun i=>(bs[i]?).getD true)=bs.all id:=by
 induction bs with
 | nil=>rfl
 | cons b bs ih =>
   rw[List.length_cons,List.range_succ_eq_map,List.all_cons,List.all_map,List.all_cons]
   have e:((fun i=>((b::bs)[i]?).getD true) ∘ Nat.succ)=fun i=>(bs[i]?).getD true:=by
     funext i
     simp
   rw[e,ih]
   simp
theorem call_all (hc:X.calm=true):zs4 X (.builtin "all") (fun xs H Q=>∃ (l:Addr) (bs:List Bool),xs=[.ref l]/\SqL X.K H l (bs.map V.bl)/\Q (.bl (bs.all id)) H):=by
 intro pins s σ H xs us Q I r h
 obtain ⟨l,bs,rfl,hS,q⟩:=h
 obtain ⟨u,rfl,ru⟩:=zB0 r
 cases ru
 obtain ⟨its,rv,p,hz⟩:=I.list hS
 have ei:=bools_at rv
 have hl:=p.isList
 have hlt:l<s.heap.objs.size:=by obtain ⟨_,e,_⟩:=hl;exact Heap.lt_size e
 have hh:X.A.handled=none:=I.ok.hd hc
 refine call_all_walk (wpAny_pyIter_list hl ?_)
 refine⟨s.heap.objs.size,[s.heap.objs.size,l],[s.heap.objs.size],its.toArray.size,_,_,fun i=>(bs[i]?).getD true,rfl,Walks.list (A:=X.A.in1) hh _ l (Nat.ne_of_lt hlt) its.toArray,
   ⟨⟨_,Heap.get?_push_size _ rfl,rfl,rfl⟩,hl.push _⟩,fun i v s' Q' E' hP hQ=>?_,fun h' tk hk=>?_⟩
 . have hP':its[i]?=some v:=by simpa using hP
   rw[ei,List.getElem?_map] at hP'
   cases e:bs[i]? with
   | none=>rw[e] at hP';cases hP'
   | some b =>
     rw[e] at hP'
     cases hP'
     simp only[e,Option.getD_some] at hQ
     exact wpAny_truthy_bool hQ
 . have e:((List.range its.toArray.size).all fun i=>(bs[i]?).getD true)=bs.all id:=by
     rw[List.size_toArray,ei,List.length_map];exact all_range bs
   rw[e]
   exact⟨.bl _,H,I.kept (t':=tk) fun b x e=>hk b x (fun hm=>by rw[List.mem_singleton.mp hm] at e;exact Nat.lt_irrefl _ (Heap.lt_size e)) (Heap.get?_push_of_some _ e),rfl,q⟩
noncomputable def Its (z:Str):It:=⟨fun i _=>i<z.cps.size,fun i H x H'=>H'=H/\∃ c,z.cps[i]?=some c/\x = .str ⟨#[c]⟩,fun i _=>z.cps.size<=i⟩
noncomputable def iStr (tl:TE):TI:=fun σ H R=>tl σ H fun x H1=>∃ z,x = .str z/\R (Its z) H1
theorem zY2 {P:Program} {w:World} {K:W.Frag} {tg:Expr} {z:Str} {t:Tok} {it:Addr} {ty:String} (hty:["enumerate","zip","dict_itemiterator","dict_reverseitemiterator","odict_iterator","itertools.zip_longest","itertools.pairwise"].contains ty=false)
   (W:∀ A':Around,A'.handled=none->Walks P w A' it [it] [it] z.cps.size (SignAt z) (fun i h=>h.IsStrIter it ty z t i)) (hself:∀ (A:Around) (i:Nat) (s:Shared) (Q:Value->Shared->Prop) (E:Value->Shared->Prop),s.heap.IsStrIter it ty z t i->Q (.ref it) s->wpAny (model P w) A (pyIter (.ref it)) Q E s) :
   Turn P w K tg (Its z) [it] it (fun i h=>i<=z.cps.size/\h.IsStrIter it ty z t i) where
 mem:=by simp
 obj:=fun i h st b hb=>by
   have e:b=it:=by simpa using hb
   subst e
   obtain ⟨_,o,e,c,d⟩:=st
   exact⟨o,e,fun v z=>by rw[d] at z;cases z⟩
 keep:=fun i h h' st k=>by
   obtain ⟨hi,o,e,c,d⟩:=st
   exact⟨hi,o,k it (by simp) o e,c,d⟩
 item:=by
   intro X hP hw hK hc i pins s σ H E I hf st hg
   subst hP hw hK
   obtain ⟨f0,f1,f2,f3,f4,f5⟩:=hf it (by simp)
   refine (W X.A (I.ok.hd hc)).item i s _ _ hg st.2 fun v h' tk hP st' kp=>?_
   obtain ⟨c,u,hc',rfl⟩:=hP
   have I1:Inv X pins σ H { s with heap:=h',toks:=tk }:=I.turned (t':=tk) (fun b o hb e=>kp b o (by simpa using hb) e) f0 f1 f3 f4 f5
   obtain ⟨o,e,cc,d⟩:=id st'
   exact⟨_,rfl,yb1 (s:={ s with heap:=h',toks:=tk }) e cc d hty ⟨.str ⟨#[c]⟩,H,I1,⟨_,rfl⟩,⟨rfl,c,hc',rfl⟩,⟨hg,st'⟩,fun b hb=>(hf b hb).1⟩⟩
 done:=by
   intro X hP hw hK hc i pins s σ H E I hf st hg
   subst hP hw hK
   obtain ⟨f0,f1,f2,f3,f4,f5⟩:=hf it (by simp)
   have ei:i=z.cps.size:=Nat.le_antisymm st.1 hg
   subst ei
   exact (W X.A (I.ok.hd hc)).done s _ _ st.2 fun h' tk kp=>⟨rfl,I.turned (t':=tk) (fun b o hb e=>kp b o (by simpa using hb) e) f0 f1 f3 f4 f5⟩
 self:=fun A i s Q E st h=>hself A i s Q E st.2 h
theorem pi_str {tg l:Expr} {tl:TE} (hl:PE X l tl):PI X tg l (iStr tl):=by
 intro pins s σ H R I h
 refine thn (hl pins s σ H _ I h) fun v s1 ⟨x,H1,I1,r1,q1⟩=>?_
 obtain ⟨z,e,q⟩:=q1
 subst e
 obtain ⟨t,rfl⟩:=r1
 have fin:∀ (o:Obj) (tn:Nat->Heap->Prop),Turn X.prog X.w X.K tg (Its z) [s1.heap.objs.size] s1.heap.objs.size tn->tn 0 (s1.heap.push o)->PIE X pins σ tg R (.ref s1.heap.objs.size) { s1 with heap:=s1.heap.push o }:=fun o tn T st=>by
   refine⟨s1.heap.objs.size,[s1.heap.objs.size],tn,Its z,H1,rfl,I1.kept (t':=s1.toks) fun b o e=>Heap.get?_push_of_some _ e,T,st,fun b hb=>?_,q⟩
   have e:b=s1.heap.objs.size:=by simpa using hb
   subst e
   exact I1.fpOk (Nat.le_refl _) (I1.hok.fresh (Nat.le_refl _))
 cases ha:z.cps.all (· < 128)
 . exact wpAny_pyIter_wide ha (fin _ _ (zY2 (t:=t) (ty:="str_iterator") (by decide) (fun A' hA=>Walks.strWide hA _ z t) fun A i s Q E st h=>wpAny_pyIter_striter_wide st h) ⟨Nat.zero_le _,_,Heap.get?_push_size _ rfl,rfl,rfl⟩)
 . exact wpAny_pyIter_ascii ha (fin _ _ (zY2 (t:=t) (ty:="str_ascii_iterator") (by decide) (fun A' hA=>Walks.strAscii hA _ z t) fun A i s Q E st h=>wpAny_pyIter_striter_ascii st h) ⟨Nat.zero_le _,_,Heap.get?_push_size _ rfl,rfl,rfl⟩)
theorem comp_str {H1:Hp} {D:Addr} {z:Str} {f:Nat->V} {j:Nat} {σc:St} {telt:TE} {Q:Hp->Prop} (hn:z.cps.size<=sizeLine)
   (step:∀ c acc (R:V->Hp->Prop),c∈z.cps.toList->R (f c) (upd H1 D (.lst acc))->telt (σc.set j (some (.str ⟨#[c]⟩))) (upd H1 D (.lst acc)) R)
   (q:Q (upd H1 D (.lst (z.cps.toList.map f)))) :
   ∃ W:Nat->Nat->St->Hp->Prop,(∃ m,W 0 m σc (upd H1 D (.lst []))) ∧
     ∀ i m σ' H',W i m σ' H'->((Its z).stop i H'/\Q H')\/((Its z).go i H'/\∃ N:St->Hp->Prop,(∀ σ2 H2,N σ2 H2->∃ m',m'<m/\W (i+1) m' σ2 H2) ∧
       ∀ v H2,(Its z).yld i H' v H2->zr1 j v σ' H2 fun σ3 H3=>zv3 σ3 H3 fun b H4=>if b=true then zr4 D telt N σ3 H4 else N σ3 H4):=by
 refine zP2 (J:=Its z) (n:=z.cps.size) (x:=fun i=>.str ⟨#[z.cps.toList.getD i 0]⟩) (fun i H'=>H'=upd H1 D (.lst ((z.cps.toList.take i).map f))) rfl (fun i H' hi _=>hi) (fun H' _=>Nat.le_refl _) (fun i v H' H2 hi _ y=>?_) (fun i H' N hi iv hN=>?_) (fun H' e=>?_)
 . obtain ⟨e,c,hc,rfl⟩:=y
   refine⟨e,?_⟩
   have:z.cps.toList[i]?=some c:=by simpa using hc
   rw[List.getD_eq_getElem?_getD,this]
   rfl
 . subst iv
   have hi':i<z.cps.toList.length:=by simpa using hi
   have e:z.cps.toList[i]?=some (z.cps.toList.getD i 0):=by rw[List.getD_eq_getElem?_getD,List.getElem?_eq_getElem hi'];rfl
   dsimp only[zv3]
   refine iteT (step _ _ _ (List.mem_of_getElem? e) ⟨_,za3,by rw[List.length_map,List.length_take];omega,?_⟩)
   refine hN _ ?_
   rw[zj6,List.take_succ,List.map_append,e]
   rfl
 . rw[e,List.take_of_length_le (by simp)]
   exact q
noncomputable def exElt (e:Expr) (j:Nat):Expr:=match e with
 | .Tuple es _ _=>es.getD j (.Constant .none 0 ⟨0,0,0,0⟩)
 | _=>.Constant .none 0 ⟨0,0,0,0⟩
noncomputable def rEqE (K:W.Frag):R2:=fun x y H Q=>∃ a b xs,x = .ref a/\y = .ref b/\SqL K H a xs/\SqL K H b []/\Q (.bl xs.isEmpty) H
theorem ya3 {X:Cx} (hu:X.A.units<cLine):OpR X (compareOp .Eq) (rEqE X.K):=by
 intro pins s σ H x y v u Q I rx ry h
 obtain ⟨a,b,xs,rfl,rfl,ha,hb,q⟩:=h
 cases rx
 cases ry
 obtain ⟨its,r,⟨o1,n1,g1,g2,_,g3⟩,hz⟩:=I.list ha
 obtain ⟨its2,r2,⟨o2,n2,g4,g5,_,g6⟩,hz2⟩:=I.list hb
 have ht:s.heap.IsList a its.toArray:=⟨o1,g1,g2,n1,g3⟩
 have ht2:s.heap.IsList b its2.toArray:=⟨o2,g4,g5,n2,g6⟩
 obtain rfl:its2=[]:=by cases r2;rfl
 cases xs with
 | nil =>
   obtain rfl:its=[]:=by cases r;rfl
   exact (PySem.SeqAt.RcAt.lists (e:=fun _=>true) ht ht2 rfl hu (fun i hi=>absurd hi (by simp))) _ _ _ _ ⟨.bl true,H,I,rfl,q⟩
 | cons x xs =>
   have hl:=r.length
   refine (PySem.SeqAt.RcAt.lists_lengths ht ht2 ?_ hu) _ _ _ _ ⟨.bl false,H,I,rfl,q⟩
   simp only[List.size_toArray,List.length_nil,<-hl,List.length_cons]
   simp
end
end L2
namespace L2
open PySem PySem.NumText
theorem yc8 {c:Nat}:∀ {p q A B:List Nat},c∉p->c∉q->p++c::A=q++c::B->p=q/\A=B
 | [],[],A,B,_,_,h=>⟨rfl,by injection h⟩
 | [],b::q,A,B,_,hq,h=>by
   injection h with h1 h2
   exact absurd (List.mem_cons.mpr (.inl h1)) hq
 | a::p,[],A,B,hp,_,h=>by
   injection h with h1 h2
   exact absurd (List.mem_cons.mpr (.inl h1.symm)) hp
 | a::p,b::q,A,B,hp,hq,h=>by
   injection h with h1 h2
   obtain ⟨e1,e2⟩:=yc8 (fun z=>hp (List.mem_cons_of_mem _ z)) (fun z=>hq (List.mem_cons_of_mem _ z)) h2
   exact⟨by rw[h1,e1],e2⟩
theorem zq0 {a b:Str} (h:a.cps.toList=b.cps.toList):a=b:=by
 cases a;cases b
 congr 1
 exact Array.toList_inj.mp h
theorem zh7 (a b:Str):(a++b).cps.toList=a.cps.toList++b.cps.toList:=by
 show (a.cps++b.cps).toList=_
 simp
theorem zr7 {c:Nat} (p q:Str) (r:List Str):(Str.join ⟨#[c]⟩ (p::q::r)).cps.toList=p.cps.toList++c::(Str.join ⟨#[c]⟩ (q::r)).cps.toList:=by
 show ((p++⟨#[c]⟩)++Str.join ⟨#[c]⟩ (q::r)).cps.toList=_
 rw[zh7,zh7]
 simp
theorem yf6 {c:Nat}:∀ {ps qs:List Str},ps≠[]->qs≠[]->(∀ p∈ps,c∉p.cps.toList)->(∀ q∈qs,c∉q.cps.toList)->Str.join ⟨#[c]⟩ ps=Str.join ⟨#[c]⟩ qs->ps=qs
 | [],_,h,_,_,_,_=>absurd rfl h
 | _::_,[],_,h,_,_,_=>absurd rfl h
 | [p],[q],_,_,_,_,e=>by
   have:p=q:=e
   rw[this]
 | [p],q::q2::r,_,_,hp,_,e=>by
   have h:=hp p (List.mem_singleton.mpr rfl)
   have e2:=congrArg (fun z:Str=>z.cps.toList) e
   rw[zr7] at e2
   have e3:p.cps.toList=q.cps.toList++c::(Str.join ⟨#[c]⟩ (q2::r)).cps.toList:=e2
   rw[e3] at h
   exact absurd (List.mem_append_right _ List.mem_cons_self) h
 | p::p2::r,[q],_,_,_,hq,e=>by
   have h:=hq q (List.mem_singleton.mpr rfl)
   have e2:=congrArg (fun z:Str=>z.cps.toList) e
   rw[zr7] at e2
   have e3:p.cps.toList++c::(Str.join ⟨#[c]⟩ (p2::r)).cps.toList=q.cps.toList:=e2
   rw[<-e3] at h
   exact absurd (List.mem_append_right _ List.mem_cons_self) h
 | p::p2::r,q::q2::r2,_,_,hp,hq,e=>by
   have e2:=congrArg (fun z:Str=>z.cps.toList) e
   rw[zr7,zr7] at e2
   obtain ⟨e3,e4⟩:=yc8 (hp p List.mem_cons_self) (hq q List.mem_cons_self) e2
   have:=yf6 (by simp) (by simp) (fun z hz=>hp z (List.mem_cons_of_mem _ hz)) (fun z hz=>hq z (List.mem_cons_of_mem _ hz)) (zq0 e4)
   rw[zq0 e3,this]
theorem split_ne (x y:Str):Txt.split x y≠[]:=fun e=>by
 have:=PyProof.Rows.split_pos x y
 rw[e] at this
 exact absurd this (by decide)
theorem zz5 {c:Nat} {ws:List Str} (hne:ws≠[]) (hc:∀ w∈ws,c∉w.cps.toList):Txt.split (Txt.join ⟨#[c]⟩ ws) ⟨#[c]⟩=ws:=by
 have e:Txt.join ⟨#[c]⟩ ws=Str.join ⟨#[c]⟩ ws:=StrLaws.glued_eq_join _ _
 refine yf6 (c:=c) (split_ne _ _) hne (fun p hp=>StrLaws.split_free _ c p hp) hc ?_
 rw[StrLaws.join_split,e]
theorem at_0 {α:Type} {x:α} {r:List α}:atI (x::r) 0=some x:=(zD5 (j:=0) (xs:=x::r) rfl)
theorem at_1 {α:Type} {x y:α} {r:List α}:atI (x::y::r) 1=some y:=(zD5 (j:=1) (xs:=x::y::r) rfl)
theorem at_2 {α:Type} {x y z:α} {r:List α}:atI (x::y::z::r) 2=some z:=(zD5 (j:=2) (xs:=x::y::z::r) rfl)
noncomputable def sI (n:Int):Str:=Str.ofString (toString n)
theorem zd5 (a b:Str):(a++b).length=a.length+b.length:=by
 show (a.cps++b.cps).size=_
 simp[Str.length]
theorem zw6 {n:Int} (h0:0<=n) (h:n<=1000000):(sI n).length<=10:=W.KT.len_num h0 (by omega)
theorem zL0:Str.ofString " " = ⟨#[32]⟩:=by decide
theorem yh4:Str.ofString "\n" = ⟨#[10]⟩:=by decide
theorem figures:(Str.ofString "0123456789").cps.toList=[48,49,50,51,52,53,54,55,56,57]:=by decide
theorem fig_in (c:Nat):(!(Builtin.Str.occurrences (Str.ofString "0123456789") ⟨#[c]⟩ 0 (Str.ofString "0123456789").length 1).isEmpty)=decide (48<=c/\c<=57):=by
 rw[StrLaws.found_one,figures]
 by_cases h:48<=c/\c<=57
 . rw[decide_eq_true h]
   have:c=48\/c=49\/c=50\/c=51\/c=52\/c=53\/c=54\/c=55\/c=56\/c=57:=by omega
   rcases this with rfl | rfl | rfl | rfl | rfl | rfl | rfl | rfl | rfl | rfl<;>decide
 . rw[decide_eq_false h]
   refine decide_eq_false fun hm=>h ?_
   simp at hm
   omega
noncomputable def zd6 (x:Int):Str:=if x=0 then Str.ofString "tray" else Str.ofString (toString x)
theorem ya4 {f w:Str} (hf:32∉f.cps.toList) (hw:32∉w.cps.toList):Txt.split ((f++⟨#[32]⟩)++w) ⟨#[32]⟩=[f,w]:=by
 have e:(f++⟨#[32]⟩)++w=Txt.join ⟨#[32]⟩ [f,w]:=by
   show _=Builtin.Str.glued _ _
   rw[StrLaws.glued_eq_join]
   rfl
 rw[e]
 refine zz5 (by simp) fun x hx=>?_
 simp only[List.mem_cons,List.not_mem_nil,or_false] at hx
 rcases hx with rfl | rfl
 . exact hf
 . exact hw
theorem split3 {f w v:Str} (hf:32∉f.cps.toList) (hw:32∉w.cps.toList) (hv:32∉v.cps.toList):Txt.split ((((f++⟨#[32]⟩)++w)++⟨#[32]⟩)++v) ⟨#[32]⟩=[f,w,v]:=by
 have e:(((f++⟨#[32]⟩)++w)++⟨#[32]⟩)++v=Txt.join ⟨#[32]⟩ [f,w,v]:=by
   show _=Builtin.Str.glued _ _
   rw[StrLaws.glued_eq_join]
   refine zq0 ?_
   rw[zr7,zr7]
   show _=_++32::(_++32::v.cps.toList)
   rw[zh7,zh7,zh7,zh7]
   simp
 rw[e]
 refine zz5 (by simp) fun x hx=>?_
 simp only[List.mem_cons,List.not_mem_nil,or_false] at hx
 rcases hx with rfl | rfl | rfl
 . exact hf
 . exact hw
 . exact hv
theorem join_snoc {y:Str}:∀ {ws:List Str} (w:Str),ws≠[]->Txt.join y (ws++[w])=(Txt.join y ws++y)++w:=by
 intro ws w hne
 show Builtin.Str.glued _ _=(Builtin.Str.glued _ _++y)++w
 rw[StrLaws.glued_eq_join,StrLaws.glued_eq_join]
 induction ws with
 | nil=>exact absurd rfl hne
 | cons a ws ih =>
   cases ws with
   | nil=>rfl
   | cons b ws =>
     have e:=ih (by simp)
     show (a++y)++Str.join y (b::ws++[w])=(((a++y)++Str.join y (b::ws))++y)++w
     rw[e]
     refine zq0 ?_
     simp only[zh7,List.append_assoc]
noncomputable def zS4 (z:Str):Bool:=if Txt.startswith z (Str.ofString "0")=true then decide (z=Str.ofString "0") else if z.length=0\/4<z.length then false else z.cps.toList.all fun c=>decide (48<=c/\c<=57)
noncomputable def zt9 (z:Str):Option Int:=if zS4 z=true then some ((digitsVal z.cps.toList:Nat):Int) else none
noncomputable def zn7 (z:Str):Option Int :=
 if z=Str.ofString "tray" then some 0 else
 match zt9 (if Txt.startswith z (Str.ofString "-")=true then Txt.slice z (some 1) none else z) with
 | none=>none
 | some n=>if n=0 then none else some (if Txt.startswith z (Str.ofString "-")=true then -n else n)
theorem zI0 {z:Str} (h:zS4 z=true):AllDigits z.cps.toList/\z.cps.toList≠[]/\z.length<=4:=by
 unfold zS4 at h
 split at h
 . have e:=of_decide_eq_true h
   subst e
   exact⟨by unfold AllDigits;decide,by decide,by decide⟩
 . split at h
   . cases h
   . rename_i h1 h2
     refine⟨fun c hc=>of_decide_eq_true (List.all_eq_true.mp h c hc),fun e=>h2 (.inl ?_),by omega⟩
     have:z.cps.toList.length=z.length:=by simp[Str.length]
     rw[<-this,e]
     rfl
theorem isNum_int {z:Str} (h:zS4 z=true):intText? z=some ((digitsVal z.cps.toList:Nat):Int):=by
 obtain ⟨h1,h2,h3⟩:=zI0 h
 exact intText_digits h1 h2 (by omega)
end L2
namespace L2
open PySem PySem.Spec PyProof.Rows
section
variable {prog:Program} {w:World} {A:Around} {R:Result->Shared->Prop} {s:Shared}
end
section
variable {X:Cx} {scope:Scope} {cl:List (Str×Addr)} {C:Addr} {N':List Str} {s0:Shared} {H0:Hp} {fp:List Addr} {Ex:XK} {pins:List (Addr×Obj)} {σ:St} {H:Hp} {s:Shared}
end
section
variable {X:Cx} {scope:Scope} {N':List Str} {ix:List (Option Nat)} {tg iter elt:Expr} {ifs:List Expr} {pos:Pos} {wi:TI} {g:TG} {tif:TT} {telt:TE}
end
section
variable {M:Model} {A:Around} {E:Value->Shared->Prop} {s:Shared}
end
section
variable {P:Program} {w:World} {K:W.Frag} {mg:Str->Option Value} {base:Heap} {N:List Str} {qual:Str} {scope:Scope} {f:Addr} {cd:Value} {A:Around} {outer:List Env} {s:Shared} {H:Hp} {E:XK}
end
section
variable {P:Program} {w:World} {K:W.Frag} {mg:Str->Option Value} {base:Heap} {N:List Str} {qual:Str} {fsc:Scope} {f:Addr} {cd:Value} {A:Around} {outer:List Env} {ss:Shared} {HH:Hp} {E:XK}
variable {scope:Scope} {N':List Str} {ix:List (Option Nat)} {tg iter elt:Expr} {ifs:List Expr} {pos:Pos} {wi:TI} {g:TG} {tif:TT} {telt:TE}
end
end L2
namespace L2
open PySem PySem.Spec PyProof.Rows
section
variable {X:Cx} {C1 C2:Addr} {E:XK} {x1 x2:Str} {p1 p2 pos hp1 hp2:Pos} {body su1 su2:List Stmt} {b₁ b₂:Stmt} {tb th1 th2:TS}
end
end L2
namespace Sx
open PySem PyProof.Rows
section
variable {M:Model} {A:Around} {E:Value->Shared->Prop} {s:Shared}
end
end Sx
namespace Sx
open PySem PyProof.Rows
section
variable {α:Type} {R:α->α->Prop} {T out A B A1 A2 B1 B2:List α} {z:α}
end
section
variable {α:Type} {R:α->α->Prop} {T:List α}
end
end Sx
namespace Sx
open PySem PyProof.Rows
section
variable {M:Model} {A:Around} {E:Value->Shared->Prop} {s:Shared} {κ:SortKind} {lt:Keyed->Keyed->Bool} {T T':List Keyed}
end
end Sx
namespace Sx
inductive Aa6 (p0 p1 p2 p3 p4 p5:Prop):Prop | mk (h0:p0) (h1:p1) (h2:p2) (h3:p3) (h4:p4) (h5:p5):Aa6 p0 p1 p2 p3 p4 p5
inductive Aa8 (p0 p1 p2 p3 p4 p5 p6 p7:Prop):Prop | mk (h0:p0) (h1:p1) (h2:p2) (h3:p3) (h4:p4) (h5:p5) (h6:p6) (h7:p7):Aa8 p0 p1 p2 p3 p4 p5 p6 p7
inductive Ex4 {α β γ δ:Type} (p:α->β->γ->δ->Prop):Prop | mk (a0:α) (a1:β) (a2:γ) (a3:δ) (h:p a0 a1 a2 a3):Ex4 p
inductive Ex5 {α β γ δ ε:Type} (p:α->β->γ->δ->ε->Prop):Prop | mk (a0:α) (a1:β) (a2:γ) (a3:δ) (a4:ε) (h:p a0 a1 a2 a3 a4):Ex5 p
inductive Ex7 {α β γ δ ε ζ η:Type} (p:α->β->γ->δ->ε->ζ->η->Prop):Prop | mk (a0:α) (a1:β) (a2:γ) (a3:δ) (a4:ε) (a5:ζ) (a6:η) (h:p a0 a1 a2 a3 a4 a5 a6):Ex7 p
open PySem PyProof.Rows
section
variable {M:Model} {A:Around} {E:Value->Shared->Prop} {s:Shared} {κ:SortKind} {lt:Keyed->Keyed->Bool} {T:List Keyed}
end
end Sx
namespace Sx
open PySem PyProof.Rows
section
variable {α:Type} {R:α->α->Prop} {T:List α}
end
section
variable {M:Model} {A:Around} {E:Value->Shared->Prop} {s:Shared} {κ:SortKind} {lt:Keyed->Keyed->Bool} {T:List Keyed}
end
end Sx
namespace Sx
open PySem PyProof.Rows
section
variable {α:Type}
end
section
variable {lt:Keyed->Keyed->Bool}
end
section
variable {M:Model} {A:Around} {E:Value->Shared->Prop} {s:Shared} {κ:SortKind} {lt:Keyed->Keyed->Bool} {T:List Keyed}
end
end Sx
namespace Sx
open PySem PyProof.Rows
section
variable {M:Model} {A:Around} {E:Value->Shared->Prop} {s:Shared} {κ:SortKind} {lt:Keyed->Keyed->Bool} {T:List Keyed} {ar:Array Keyed} {pd:Array (Nat×Nat×Nat)} {g:Nat}
end
end Sx
namespace Sx
open PySem PyProof.Rows
section
variable {M:Model} {A:Around} {E:Value->Shared->Prop} {s:Shared} {κ:SortKind} {lt:Keyed->Keyed->Bool} {T:List Keyed}
end
end Sx
namespace Sx
open PySem PySem.W PySem.Calls PyProof.Rows
section
variable {prog:Program} {w:World} {A:Around} {E:Value->Shared->Prop} {s:Shared} {d it:Addr} {es:Array DictEntry} {ep i:Nat}
end
end Sx
namespace Sx
open PySem PySem.W PySem.Calls PyProof.Rows
section
variable {prog:Program} {w:World} {A:Around} {E:Value->Shared->Prop} {s:Shared}
end
end Sx
namespace L2
open PySem PySem.Spec PyProof.Rows
section
variable {κ:Type} [DecidableEq κ]
end
section
variable {P:Program} {w:World} {H:Hp} {h:Heap} {a:Addr}
end
section
variable {X:Cx} {pins:List (Addr×Obj)} {σ:St} {H:Hp} {s:Shared} {a:Addr} {y v:V} {u r:Value} {o:Option V} {A:Around} {E:Value->Shared->Prop}
end
section
variable {X:Cx} {o i e value:Expr} {pos pos' tpos:Pos} {td ty tv:TE}
end
end L2
namespace L2
open PySem PySem.Spec PyProof.Rows
noncomputable abbrev Tups (H:Hp) (ys:List V) (ks:List (List Int)):Prop:=Paired (fun y k=>∃ b,y = .ref b/\H b=some (.tup (k.map V.int))) ys ks
section
variable {X:Cx}
end
end L2
namespace Sx
open PySem PySem.W PySem.Calls PyProof.Rows
end Sx
namespace Sx
open PySem PySem.W PySem.Calls PyProof.Rows
section
variable {prog:Program} {w:World} {A:Around} {E:Value->Shared->Prop} {s:Shared} {byT:Bool} {a:Addr} {ns:List Int} {ep:Nat}
theorem pick5 {α:Type} (es:Array α) (e2:es.size=5):(#[0,1,2,3,4]:Array Nat).filterMap (es[·]?)=es:=by
 obtain ⟨L⟩:=es
 match L,e2 with
 | [_,_,_,_,_],_=>rfl
end
end Sx
namespace Sx
open PySem PySem.W PySem.Calls PyProof.Rows
section
variable {prog:Program} {w:World} {A:Around} {E:Value->Shared->Prop} {s:Shared}
end
end Sx
namespace Sx
open PySem PySem.W PySem.Calls PyProof.Rows
section
variable {prog:Program} {w:World} {A:Around} {E:Value->Shared->Prop} {s:Shared}
end
end Sx
namespace Sx
open PySem PySem.W PySem.Calls PyProof.Rows
end Sx
namespace Sx
open PySem PySem.W PySem.Calls PyProof.Rows
section
variable {prog:Program} {w:World} {A:Around} {E:Value->Shared->Prop} {s:Shared} {a it:Addr} {es:Array (Int×Value)} {ep:Nat} {t:SetTable}
end
end Sx
namespace L2
open PySem PySem.Spec PyProof.Rows
section
variable {X:Cx}
end
end L2
namespace L2
open PySem
theorem Same.tups {H H':Hp} (s:Same H H') {ys:List V} {ks:List (List Int)} (h:Tups H ys ks):Tups H' ys ks:=Paired.mapP h fun y k ⟨b,e,hb⟩=>⟨b,e,s _ _ hb⟩
theorem zx1 {H:Hp} {l:Addr} {o u:HO} (hl:H l=some o) (ho:∀ xs,o≠.tup xs) {ys:List V} {ks:List (List Int)} (h:Tups H ys ks):Tups (upd H l u) ys ks :=
 Paired.mapP h fun y k ⟨b,e,hb⟩=>⟨b,e,by rw[za8 (fun z=>by rw[z,hl] at hb;injection hb with hb;exact ho _ hb)];exact hb⟩
theorem zL1 {H:Hp} {ys:List V} {ks:List (List Int)} (h:Tups H ys ks) {b:Addr} {k:List Int} (hb:H b=some (.tup (k.map V.int))):Tups H (ys++[.ref b]) (ks++[k]):=Paired.snoc h ⟨b,rfl,hb⟩
theorem yc9 {H:Hp}:∀ {ys:List V} {ks:List (List Int)},Tups H ys ks->∀ {i:Nat} {y:V},ys[i]?=some y->∃ b k,y = .ref b/\ks[i]?=some k/\H b=some (.tup (k.map V.int))
 | _,_,.nil,i,y,h=>by simp at h
 | _,_,.cons ⟨b,e,hb⟩ _,0,y,h=>by
   have h':some _=some y:=h
   obtain rfl:=Option.some.inj h'
   exact⟨b,_,e,rfl,hb⟩
 | _,_,.cons _ t,i+1,y,h=>by
   obtain ⟨b,k,e,hk,hb⟩:=yc9 t (i:=i) (y:=y) (by simpa using h)
   exact⟨b,k,e,by simpa using hk,hb⟩
theorem zr8 {H:Hp} {ys:List V} {ks:List (List Int)} (h:Tups H ys ks):ys.length=ks.length:=Paired.length h
end L2
namespace L2
open PySem PySem.Spec PyProof.Rows
noncomputable def zW5:Expr->Bool
 | .Starred .. => false
 | _=>true
theorem zB7 {e:Expr} {es:List Expr} {env:Env} (h:zW5 e=true):starEach (e::es) env=(false,eval e env)::starEach es env:=by
 cases e<;>first | rfl | cases h
theorem zc9 {X:Cx} {e:Expr} {es:List Expr} {te:TE} {t:TA} (ha:PE X e te) (hr:PA X es t) (hs:zW5 e=true:=by rfl):PA X (e::es) (ye8 te t):=za0 ha hr (zB7 hs)
structure WE (X:Cx) (e:Expr) (t:TE):Prop where h:PE X e t
structure WA (X:Cx) (es:List Expr) (t:TA):Prop where h:PA X es t
structure WS (X:Cx) (st:Stmt) (t:TS):Prop where h:PS X st t
structure WSs (X:Cx) (st:List Stmt) (t:TS):Prop where h:PSs X st t
section
variable {X:Cx}
theorem zn2 {es:List Expr} {t:TA} {pos:Pos} (h:WA X es t):WE X (.List es pos) (tLst t):=⟨ze6 h.h⟩
theorem zs2 {es:List Expr} {t:TA} {pos:Pos} {x1} (h:WA X es t):WE X (.Tuple es x1 pos) (tTup t):=⟨zp9 h.h⟩
theorem zg5:WA X [] tNil:=⟨za2⟩
theorem zb1 {e:Expr} {es:List Expr} {te:TE} {t:TA} (ha:WE X e te) (hr:WA X es t) (hs:zW5 e=true:=by rfl):WA X (e::es) (ye8 te t):=⟨za0 ha.h hr.h (zB7 hs)⟩
theorem we_ix {a b:Expr} {ta tb:TE} {pos:Pos} {r:R2} (hr:IxR X r) (ha:WE X a ta) (hb:WE X b tb) (hs:yb8 b):WE X (.Subscript a b pos) (tOp r ta tb):=⟨zc6 hr ha.h hb.h hs⟩
theorem yf7 {pos:Pos} {i:Nat} {x:Str} {e:Expr} {te:TE} {pos':Pos} (hN:X.N.Nodup) (hi:X.N[i]?=some x) (hx:Loc X.env.scope x) (he:WE X e te) (hs:swapsWith e (some (.Name x pos')) pos.line X.env=pure false:=by rfl) (hf:X.fn x=true\/X.env.scope.names.lookup x=some .local:=by first | exact .inl rfl | exact .inr rfl | assumption) :
 WS X (.Assign [.Name x pos'] e pos) (tAsg te (zr1 i)):=⟨zb7 hN hi hx he.h hs hf⟩
theorem zP4 {e:Expr} {te:TE} {pos:Pos} (he:WE X e te):WS X (.Return (some e) pos) (tRet te):=⟨zb8 he.h⟩
theorem yd0 {c:Expr} {a b:List Stmt} {tc:TT} {t u:TS} {pos:Pos} (hc:PT X c tc) (ha:WSs X a t) (hb:WSs X b u):WS X (.If c a b pos) (tIfS tc t u):=⟨zd1 hc ha.h hb.h⟩
theorem zx2 {st:Stmt} {rest:List Stmt} {t u:TS} (h1:WS X st t) (h2:WSs X rest u):WSs X (st::rest) (tSeq t u):=⟨za4 h1.h h2.h⟩
theorem zI1 {st:Stmt} {t:TS} (h1:WS X st t):WSs X [st] t:=⟨za6 h1.h⟩
theorem zN6:WSs X [] yg8:=⟨zb5⟩
end
end L2
open PySem
namespace L2
noncomputable def yd1 (x y:V):Bool:=scal x y && (match x with | .byt _=>false | _=>true)
theorem scalE_scal {x y:V} (h:yd1 x y=true):scal x y=true:=(Bool.and_eq_true_iff.mp h).1
theorem eqat_scal {A:Around} {s:Shared} {x y:V} {v u:Value} (hs':yd1 x y=true) (rx:RelV x v) (ry:RelV y u):PySem.SeqAt.EqAt A s v u (decide (x=y)):=by
 have hs:=scalE_scal hs'
 cases x with
 | non =>
   cases rx
   cases y with
   | non=>cases ry;exact PySem.SeqAt.EqAt.same _
   | bl j=>cases ry;exact PySem.SeqAt.EqAt.none_bool _
   | int j=>obtain ⟨t',rfl⟩:=ry;exact PySem.SeqAt.EqAt.none_int _ _
   | str j=>obtain ⟨t',rfl⟩:=ry;exact PySem.SeqAt.EqAt.none_str _ _
   | _=>exact absurd (show false=true from hs) Bool.false_ne_true
 | bl i =>
   cases rx
   cases y with
   | non=>cases ry;exact PySem.SeqAt.EqAt.bool_none _
   | bl j=>cases ry;rw[ya1];exact PySem.SeqAt.EqAt.bool_bool _ _
   | str j=>obtain ⟨t',rfl⟩:=ry;exact PySem.SeqAt.EqAt.bool_str _ _ _
   | _=>exact absurd (show false=true from hs) Bool.false_ne_true
 | int i =>
   obtain ⟨t,rfl⟩:=rx
   cases y with
   | non=>cases ry;exact PySem.SeqAt.EqAt.int_none _ _
   | int j=>obtain ⟨t',rfl⟩:=ry;rw[zV5];exact PySem.SeqAt.EqAt.int_int _ _ _ _
   | str j=>obtain ⟨t',rfl⟩:=ry;exact PySem.SeqAt.EqAt.int_str _ _ _ _
   | _=>exact absurd (show false=true from hs) Bool.false_ne_true
 | str i =>
   obtain ⟨t,rfl⟩:=rx
   cases y with
   | non=>cases ry;exact PySem.SeqAt.EqAt.str_none _ _
   | bl j=>cases ry;exact PySem.SeqAt.EqAt.str_bool _ _ _
   | int j=>obtain ⟨t',rfl⟩:=ry;exact PySem.SeqAt.EqAt.str_int _ _ _ _
   | str j=>obtain ⟨t',rfl⟩:=ry;rw[zV6];exact PySem.SeqAt.EqAt.str_str _ _ _ _
   | _=>exact absurd (show false=true from hs) Bool.false_ne_true
 | byt i=>have:=(Bool.and_eq_true_iff.mp hs').2;cases this
 | _=>cases y<;>exact absurd (show false=true from hs) Bool.false_ne_true
noncomputable def eAt (xs ys:List V) (j:Nat):Bool:=match xs[j]?,ys[j]? with | some x,some y=>decide (x=y) | _,_=>true
theorem yd2:∀ {xs ys:List V},xs.length=ys.length->(List.range xs.length).all (eAt xs ys)=decide (xs=ys)
 | [],[],_=>rfl
 | x::xs,y::ys,h=>by
   have ih:=yd2 (xs:=xs) (ys:=ys) (by simpa using h)
   rw[List.length_cons,List.range_succ_eq_map,List.all_cons,List.all_map]
   have e:(eAt (x::xs) (y::ys) ∘ Nat.succ)=eAt xs ys:=by funext j;rfl
   rw[e,ih]
   show (decide (x=y) && decide (xs=ys))=_
   simp
theorem zW6:∀ {xs:List V} {us:List Value},Vals xs us->∀ {j:Nat} {x:V},xs[j]?=some x->∃ u,us[j]?=some u/\RelV x u
 | _,_,.nil,j,x,h=>by simp at h
 | _,_,.cons r t,0,x,h=>⟨_,rfl,by obtain rfl:=Option.some.inj h;exact r⟩
 | _,_,.cons r t,j+1,x,h=>zW6 t (j:=j) h
theorem eqat_items {A:Around} {s:Shared} {xs ys:List V} {us vs:List Value} (hx:Vals xs us) (hy:Vals ys vs) (hs:∀ (j:Nat) x y,xs[j]?=some x->ys[j]?=some y->yd1 x y=true) (j:Nat) (h1:j<us.toArray.size) (h2:j<vs.toArray.size):PySem.SeqAt.EqAt A s us.toArray[j] vs.toArray[j] (eAt xs ys j):=by
 rw[List.size_toArray] at h1 h2
 have l1:=hx.length
 have l2:=hy.length
 have e1:xs[j]?=some xs[j]:=List.getElem?_eq_getElem (by omega)
 have e2:ys[j]?=some ys[j]:=List.getElem?_eq_getElem (by omega)
 unfold eAt
 rw[e1,e2]
 refine eqat_scal (hs j _ _ e1 e2) ?_ ?_
 . obtain ⟨u,hu,ru⟩:=zW6 hx e1
   rw[List.getElem_toArray]
   rw[List.getElem?_eq_getElem h1] at hu
   rw[Option.some.inj hu]
   exact ru
 . obtain ⟨u,hu,ru⟩:=zW6 hy e2
   rw[List.getElem_toArray]
   rw[List.getElem?_eq_getElem h2] at hu
   rw[Option.some.inj hu]
   exact ru
section
variable {X:Cx}
end
end L2
namespace L2
open PySem PySem.Spec PyProof.Rows
open Classical in
open Classical in
section
variable {X:Cx}
end
end L2
namespace L2
open PySem PySem.Spec PyProof.Rows
noncomputable def exOf (e:Expr):Expr:=match e with
 | .Subscript v _ _=>v
 | _=>.Constant .none 0 ⟨0,0,0,0⟩
end L2
namespace L2
open PySem PySem.Spec PyProof.Rows
section
variable {X:Cx}
end
end L2
namespace L2
open PySem PySem.Spec PyProof.Rows
section
variable {X:Cx}
end
end L2
namespace L2
open PySem PySem.W PySem.Calls PyProof.Rows
section
variable {prog:Program} {w:World} {A:Around} {E:Value->Shared->Prop} {s:Shared}
end
end L2
namespace L2
open PySem PySem.W PySem.Calls PyProof.Rows
section
variable {prog:Program} {w:World} {A:Around} {E:Value->Shared->Prop} {s:Shared}
end
end L2
namespace L2
open PySem PySem.Spec PyProof.Rows
section
variable {X:Cx}
end
end L2
namespace L2
open PySem PySem.Spec PyProof.Rows
section
variable {X:Cx}
end
end L2
namespace L2
open PySem PySem.Spec PyProof.Rows
end L2
namespace L2
open PySem PySem.Spec PyProof.Rows
section
variable {X:Cx} {e k:Expr} {te:TE} {tk:TO} {pos p2:Pos}
end
end L2
namespace L2
open PySem PySem.Spec PyProof.Rows
section
variable {X:Cx}
end
end L2
namespace L2
open PySem PySem.Spec PyProof.Rows
end L2
namespace L2
open PySem PySem.Spec PyProof.Rows
section
variable {X:Cx}
end
end L2
namespace L2
open PySem PySem.Spec PyProof.Rows
section
variable {X:Cx} {tg l:Expr} {tl:TE}
end
end L2
namespace L2
open PySem PySem.Spec PyProof.Rows
section
variable {prog:Program} {w:World} {A:Around} {E:Value->Shared->Prop} {s:Shared}
end
section
variable {X:Cx} {es:List Expr} {k0:Nat} {tp:Pos}
end
end L2
namespace L2
open PySem PySem.Spec PyProof.Rows
section
variable {X:Cx} {CX:CXT} {k:Nat} {f C:Addr} {fd:FuncData} {ps:List Str} {sp:Sp} {dvs:List V} {ds:List Value} {Ex:St->XK} {x m:Str} {p pos apos:Pos} {e o:Expr} {es:List Expr} {ta:TE} {t:TA}
end
end L2
namespace L2
open PySem PySem.Spec PyProof.Rows
section
variable {X:Cx} {es:List Expr} {t:TA} {pos:Pos}
end
end L2
namespace L2
open PySem PySem.Spec PyProof.Rows
section
variable {X:Cx} {Ex:St->XK} {pos:Pos} {body:List Stmt} {tb:TS} {h0:ExceptHandler} {l:List ExceptHandler} {L:List (Addr×TS)}
end
end L2
namespace L2
open PySem PySem.Spec PyProof.Rows
section
variable {X:Cx} {E:XK} {pos:Pos} {body:List Stmt} {tb:TS} {h0:ExceptHandler} {l:List ExceptHandler} {L:List (Addr×TS)}
end
end L2
namespace L2
open PySem PySem.Spec PyProof.Rows
section
variable {X:Cx}
noncomputable def rPart:V->List V->Hp->VK->Prop:=fun x vs H Q=>∃ z y:Str,x = .str z/\vs=[.str y]/\(y.length == 0)=false/\z.length<=1000000/\∀ l H',Same H H'->H l=none->H' l=some (.tup [.str (Txt.partition z y).1,.str (Txt.partition z y).2.1,.str (Txt.partition z y).2.2])->Q (.ref l) H'
theorem mt_part:MtR X "str.partition" rPart:=by
 intro pins s σ H x vs v us Q I rx rv h
 obtain ⟨x,y,rfl,rfl,hy,hz,q⟩:=h
 obtain ⟨t,rfl⟩:=rx
 obtain ⟨_,rfl,u,rfl⟩:=rv.one
 have hf:=I.hok.fresh (Nat.le_refl _)
 have fin:∀ (a b c:Str) (ta tb tc:Tok) (k:Nat),Txt.partition x y=(a,b,c)->EP X pins σ Q (.ref s.heap.objs.size) { s with toks:=k,heap:=s.heap.push { cls:=.type "tuple",data:=.seq [.str a ta,.str b tb,.str c tc].toArray } }:=fun a b c ta tb tc k e=>by
   rw[e] at q
   refine⟨.ref s.heap.objs.size,upd H s.heap.objs.size (.tup [.str a,.str b,.str c]),I.laid (t':=k) (fun b u e=>Heap.get?_push_of_some _ e) (Nat.le_refl _) ?_,rfl,q _ _ (Same.upd hf) hf za3⟩
   exact⟨(by show 3<=sizeLine;decide),_,.cons ⟨ta,rfl⟩ (.cons ⟨tb,rfl⟩ (.cons ⟨tc,rfl⟩ .nil)),⟨_,Heap.get?_push_size _ rfl,rfl,rfl,_,rfl⟩⟩
 refine call_meets F.slot_str_partition (typeIs_str _ _ _) F.entry_str_partition (F.args_str_partition_2 _ _) (meets_str_partition x y t u hy (by rw[show sizeLine=16777216 by decide];omega)) ?_
 show EP X pins σ Q _ _
 unfold Txt.partition at fin
 revert fin
 cases Builtin.Str.occurrences x y 0 x.length 1 with
 | nil=>exact fun fin=>fin _ _ _ _ _ _ _ rfl
 | cons i r=>exact fun fin=>fin _ _ _ _ _ _ _ rfl
end
noncomputable def exRg (e:Expr):Expr:=match e with
 | .BinOp _ _ b _=>b
 | _=>.Constant .none 0 ⟨0,0,0,0⟩
open Builtin.Str StrLaws
theorem zY3 (s sub:Str) (hi:Nat):∀ (l:List Nat) (st:Array Nat×Nat),¬ st.fst.size<1->(forIn l st (occBody s sub hi 1)).run.fst=st.fst
 | [],st,h=>rfl
 | a::l,st,h=>by
   rw[List.forIn_cons]
   unfold occBody
   rw[if_neg fun z=>h z.1.1.1]
   exact zY3 s sub hi l _ h
theorem occ_at (s sub:Str) (hi:Nat):∀ (k lo n free:Nat),free<=lo->k<n->(∀ j,j<k->¬ (lo+j+sub.length<=hi/\subAt s sub (lo+j)=true))->(lo+k+sub.length<=hi/\subAt s sub (lo+k)=true) →
   (forIn (List.range' lo n) ((#[]:Array Nat),free) (occBody s sub hi 1)).run.fst = #[lo+k]:=by
 intro k
 induction k with
 | zero =>
   intro lo n free h1 h2 _ h4
   obtain ⟨n,rfl⟩:∃ m,n=m+1:=⟨n-1,by omega⟩
   rw[List.range'_succ,List.forIn_cons]
   unfold occBody
   rw[if_pos ⟨⟨⟨by simp,h1⟩,h4.1⟩,h4.2⟩]
   exact zY3 s sub hi _ _ (by simp)
 | succ k ih =>
   intro lo n free h1 h2 h3 h4
   obtain ⟨n,rfl⟩:∃ m,n=m+1:=⟨n-1,by omega⟩
   rw[List.range'_succ,List.forIn_cons]
   unfold occBody
   have h0:=h3 0 (by omega)
   rw[if_neg fun z=>h0 ⟨z.1.2,z.2⟩]
   have:=ih (lo+1) n free (by omega) (by omega) (fun j hj=>by rw[show lo+1+j=lo+(j+1) by omega];exact h3 (j+1) (by omega)) (by rw[show lo+1+k=lo+(k+1) by omega];exact h4)
   rw[show lo+1+k=lo+(k+1) by omega] at this
   exact this
theorem part_at {a b:Str} {c:Nat} (h:c∉a.cps.toList):Txt.partition (a++⟨#[c]⟩++b) ⟨#[c]⟩=(a,⟨#[c]⟩,b):=by
 have la:a.length=a.cps.toList.length:=by simp[Str.length]
 have e0:(a++⟨#[c]⟩++b).cps.toList=a.cps.toList++c::b.cps.toList:=by rw[zh7,zh7];simp
 have el:(a++⟨#[c]⟩++b).length=a.length+1+b.length:=by rw[zd5,zd5];rfl
 have e1:∀ i,(i+(⟨#[c]⟩:Str).length<=(a++⟨#[c]⟩++b).length/\subAt (a++⟨#[c]⟩++b) ⟨#[c]⟩ i=true)↔(a.cps.toList++c::b.cps.toList)[i]?=some c:=fun i=>by
   rw[StrLaws.subAt_one,e0]
 have ho:occurrences (a++⟨#[c]⟩++b) ⟨#[c]⟩ 0 (a++⟨#[c]⟩++b).length 1=[a.length]:=by
   have h3:∀ j,j<a.length->¬ (0+j+(⟨#[c]⟩:Str).length<=(a++⟨#[c]⟩++b).length/\subAt (a++⟨#[c]⟩++b) ⟨#[c]⟩ (0+j)=true):=fun j hj=>by
     rw[Nat.zero_add,e1,List.getElem?_append_left (by omega)]
     intro z
     exact h (List.mem_of_getElem? z)
   have h4:0+a.length+(⟨#[c]⟩:Str).length<=(a++⟨#[c]⟩++b).length/\subAt (a++⟨#[c]⟩++b) ⟨#[c]⟩ (0+a.length)=true:=by
     rw[Nat.zero_add,e1,List.getElem?_append_right (by omega),la,Nat.sub_self]
     rfl
   rw[occ_eq,occ_at _ _ _ a.length 0 _ 0 (Nat.le_refl _) (by rw[el];omega) h3 h4,Nat.zero_add]
 unfold Txt.partition
 rw[ho]
 show (strSub _ 0 a.length,_,strSub _ (a.length+1) _)=_
 refine Prod.ext (zq0 ?_) (Prod.ext rfl (zq0 ?_))
 . show ((a++⟨#[c]⟩++b).cps.extract 0 a.length).toList=_
   rw[Array.toList_extract,e0,la]
   simp
 . show ((a++⟨#[c]⟩++b).cps.extract (a.length+1) (a++⟨#[c]⟩++b).length).toList=_
   rw[Array.toList_extract,e0,el,la,List.extract_eq_take_drop]
   have e2:a.cps.toList.length+1=(a.cps.toList++[c]).length:=by simp
   have e3:a.cps.toList++c::b.cps.toList=(a.cps.toList++[c])++b.cps.toList:=by simp
   have e4:b.length=b.cps.toList.length:=by simp[Str.length]
   rw[e3,e2,List.drop_left,e4,<-e2,show a.cps.toList.length+1+b.cps.toList.length-(a.cps.toList.length+1)=b.cps.toList.length by omega,List.take_length]
end L2
namespace L2
open PySem PySem.Spec PyProof.Rows
section
variable {X:Cx}
noncomputable def rNeL (K:W.Frag):R2:=fun x y H Q=>∃ a b xs ys,x = .ref a/\y = .ref b/\SqL K H a xs/\SqL K H b ys/\(∀ (j:Nat) x y,xs[j]?=some x->ys[j]?=some y->yd1 x y=true)/\Q (.bl (!decide (xs=ys))) H
theorem op_neL (hu:X.A.units<cLine):OpR X (compareOp .NotEq) (rNeL X.K):=by
 intro pins s σ H x y v u Q I rx ry h
 obtain ⟨a,b,xs,ys,rfl,rfl,ha,hb,hsc,q⟩:=h
 cases rx
 cases ry
 obtain ⟨us,r1,⟨o1,n1,g1,g2,_,g3⟩,_⟩:=I.list ha
 obtain ⟨vs,r2,⟨o2,n2,g4,g5,_,g6⟩,_⟩:=I.list hb
 have ht:s.heap.IsList a us.toArray:=⟨o1,g1,g2,n1,g3⟩
 have ht2:s.heap.IsList b vs.toArray:=⟨o2,g4,g5,n2,g6⟩
 have l1:=r1.length
 have l2:=r2.length
 by_cases hl:xs.length=ys.length
 . refine (PySem.SeqAt.RcNeAt.lists (e:=eAt xs ys) ht ht2 (by rw[List.size_toArray,List.size_toArray];omega) hu (fun j h1 h2=>eqat_items r1 r2 hsc j h1 h2)) _ _ _ _ (ze9 I q ?_)
   rw[List.size_toArray,show us.length=xs.length by omega,yd2 hl]
 . refine (PySem.SeqAt.RcNeAt.lists_lengths ht ht2 (by rw[List.size_toArray,List.size_toArray];simp;omega) hu) _ _ _ _ (ze9 I q ?_)
   rw[decide_eq_false (fun z=>hl (by rw[z]))]
   rfl
end
end L2
namespace Bt
open PySem L2
noncomputable def top (i:Nat):Stmt:=PySem.Challenge.pw_beamtender_k29_desk_deeds.main.body.getD i (.Pass ⟨0,0,0,0⟩)
noncomputable abbrev zf1:Stmt:=zm2 (top 1) 0
noncomputable abbrev zf8:Stmt:=zm2 (top 5) 0
noncomputable abbrev zg2:Stmt:=zm2 (top 6) 0
noncomputable abbrev zf2:Stmt:=zm2 (top 7) 0
noncomputable abbrev zg6:Stmt:=zm2 (top 8) 0
noncomputable abbrev ze2:Stmt:=zm2 (top 9) 0
noncomputable abbrev ze3:Stmt:=zm2 (top 10) 0
noncomputable abbrev zf9:Stmt:=zm2 (top 15) 0
noncomputable abbrev zd7:Stmt:=zm2 (top 14) 0
noncomputable abbrev zo3:Stmt:=zm2 (top 23) 0
noncomputable abbrev zt1:Stmt:=top 24
noncomputable abbrev zi5:Stmt:=top 25
noncomputable abbrev zk4:Stmt:=top 26
noncomputable abbrev zg9:Stmt:=top 27
noncomputable abbrev zk5:Stmt:=top 29
noncomputable abbrev zB8:Stmt:=top 31
noncomputable abbrev zL2:Stmt:=top 32
noncomputable abbrev zL3:Stmt:=top 33
noncomputable abbrev zD7:Stmt:=top 34
noncomputable abbrev zt2:Stmt:=top 35
noncomputable abbrev zD8:Stmt:=top 37
noncomputable abbrev zv5:Stmt:=top 38
noncomputable abbrev zx3:Stmt:=top 39
noncomputable abbrev zx4:Stmt:=top 40
noncomputable abbrev zL4:Stmt:=top 41
noncomputable abbrev zm5:Stmt:=top 42
noncomputable abbrev zi6:Stmt:=top 43
noncomputable abbrev zo4:Stmt:=top 44
noncomputable abbrev zk6:Stmt:=top 45
noncomputable abbrev zB9:Stmt:=top 46
noncomputable abbrev zo5:Stmt:=zm2 (top 65) 0
noncomputable abbrev zo6:Stmt:=zm2 (top 65) 1
noncomputable abbrev zo7:Stmt:=zm2 (top 65) 2
noncomputable abbrev zg0:Stmt:=top 69
noncomputable abbrev zm6:Stmt:=top 71
noncomputable abbrev zo8:Stmt:=top 72
noncomputable abbrev zg4:Stmt:=top 73
noncomputable abbrev zk7:Stmt:=top 74
noncomputable abbrev zi7:Stmt:=top 75
noncomputable abbrev zk8:Stmt:=top 77
noncomputable abbrev zm7:Stmt:=top 78
noncomputable abbrev zk9:Stmt:=top 79
noncomputable abbrev zj3:Stmt:=top 80
noncomputable abbrev zt3:Stmt:=top 82
noncomputable abbrev zx5:Stmt:=top 83
noncomputable abbrev zm8:Stmt:=top 84
noncomputable abbrev zi8:Stmt:=top 85
noncomputable abbrev zo9:Stmt:=top 86
noncomputable abbrev zi0:Stmt:=top 87
noncomputable abbrev zL5:Stmt:=top 92
noncomputable abbrev zx6:Stmt:=top 93
noncomputable abbrev zp0:Stmt:=top 94
noncomputable abbrev zD9:Stmt:=top 95
noncomputable abbrev zx7:Stmt:=top 96
noncomputable abbrev zt4:Stmt:=top 97
noncomputable abbrev zx8:Stmt:=top 98
noncomputable abbrev zx9:Stmt:=top 99
noncomputable abbrev zy0:Stmt:=top 100
noncomputable abbrev zr9:Stmt:=top 101
noncomputable abbrev zE0:Stmt:=top 102
noncomputable abbrev zy1:Stmt:=top 103
noncomputable abbrev zs0:Stmt:=top 104
noncomputable abbrev zl0:Stmt:=top 105
noncomputable abbrev zy2:Stmt:=top 106
noncomputable abbrev zs1:Stmt:=top 107
noncomputable abbrev zm9:Stmt:=top 108
noncomputable abbrev zt5:Stmt:=top 109
noncomputable abbrev zy3:Stmt:=top 110
noncomputable abbrev zi9:Stmt:=top 111
noncomputable abbrev zy4:Stmt:=top 112
noncomputable abbrev zy5:Stmt:=top 113
noncomputable abbrev zS5:Stmt:=top 114
theorem sc_BeamError_init:zb6 ["self","reason","word"] ["self","reason","word"] (za5 zf1):=⟨rfl,rfl,rfl,by decide +kernel,rfl,by decide +kernel,by decide +kernel⟩
theorem sc_NoWeight_init:zb6 ["self","reason"] ["self","reason"] (za5 zf8):=⟨rfl,rfl,rfl,by decide +kernel,rfl,by decide +kernel,by decide +kernel⟩
theorem sc_NoPlace_init:zb6 ["self","reason"] ["self","reason"] (za5 zg2):=⟨rfl,rfl,rfl,by decide +kernel,rfl,by decide +kernel,by decide +kernel⟩
theorem sc_SamePlace_init:zb6 ["self","reason"] ["self","reason"] (za5 zf2):=⟨rfl,rfl,rfl,by decide +kernel,rfl,by decide +kernel,by decide +kernel⟩
theorem sc_NoRoom_init:zb6 ["self","reason"] ["self","reason"] (za5 zg6):=⟨rfl,rfl,rfl,by decide +kernel,rfl,by decide +kernel,by decide +kernel⟩
theorem sc_TipsInHand_init:zb6 ["self","reason"] ["self","reason"] (za5 ze2):=⟨rfl,rfl,rfl,by decide +kernel,rfl,by decide +kernel,by decide +kernel⟩
theorem sc_TipsBehind_init:zb6 ["self","reason"] ["self","reason"] (za5 ze3):=⟨rfl,rfl,rfl,by decide +kernel,rfl,by decide +kernel,by decide +kernel⟩
theorem sc_PlayFull_init:zb6 ["self","reason"] ["self","reason"] (za5 zf9):=⟨rfl,rfl,rfl,by decide +kernel,rfl,by decide +kernel,by decide +kernel⟩
theorem sc_NothingBack_init:zb6 ["self","reason"] ["self","reason"] (za5 zd7):=⟨rfl,rfl,rfl,by decide +kernel,rfl,by decide +kernel,by decide +kernel⟩
theorem sc_Beam_init:zb6 ["self","notches","room","hefts","limit"] ["self","notches","room","hefts","limit"] (za5 zo3):=⟨rfl,rfl,rfl,by decide +kernel,rfl,by decide +kernel,by decide +kernel⟩
theorem sc_outside:zb6 ["number","low","high"] ["number","low","high"] (za5 zt1):=⟨rfl,rfl,rfl,by decide +kernel,rfl,by decide +kernel,by decide +kernel⟩
theorem sc_check_bounds:zb6 ["notches","room","limit"] ["notches","room","limit"] (za5 zi5):=⟨rfl,rfl,rfl,by decide +kernel,rfl,by decide +kernel,by decide +kernel⟩
theorem zC0:zb6 ["hefts","heft"] ["hefts"] (za5 zk4):=⟨rfl,rfl,rfl,by decide +kernel,rfl,by decide +kernel,by decide +kernel⟩
theorem zj8:zb6 ["notches","weights","many","weight"] ["notches","weights"] (za5 zg9):=⟨rfl,rfl,rfl,by decide +kernel,rfl,by decide +kernel,by decide +kernel⟩
theorem zu0:zb6 ["beam","standing","places","place"] ["beam","standing"] (za5 zk5):=⟨rfl,rfl,rfl,by decide +kernel,rfl,by decide +kernel,by decide +kernel⟩
theorem yd3:zb6 ["beam","standing","places"] ["beam","standing"] (za5 zB8):=⟨rfl,rfl,rfl,by decide +kernel,rfl,by decide +kernel,by decide +kernel⟩
theorem zL6:zf0 ["beam","standing","places"] (za5 zB8) (zm3 (zM5 (stE (stAt (za9 zB8) 1)) 0)) ["heft","place"] [none,none]:=⟨rfl,by decide +kernel,by decide +kernel,by decide +kernel,rfl,by decide +kernel,by decide +kernel⟩
theorem yd4:zb6 ["beam","standing","tipped"] ["beam","standing"] (za5 zL2):=⟨rfl,rfl,rfl,by decide +kernel,rfl,by decide +kernel,by decide +kernel⟩
theorem sc_past:zb6 ["beam","tipped"] ["beam","tipped"] (za5 zL3):=⟨rfl,rfl,rfl,by decide +kernel,rfl,by decide +kernel,by decide +kernel⟩
theorem sc_keeps:zb6 ["beam","standing"] ["beam","standing"] (za5 zD7):=⟨rfl,rfl,rfl,by decide +kernel,rfl,by decide +kernel,by decide +kernel⟩
theorem zP5:zb6 ["beam","standing","weight","places"] ["beam","standing","weight"] (za5 zt2):=⟨rfl,rfl,rfl,by decide +kernel,rfl,by decide +kernel,by decide +kernel⟩
theorem zY4:zb6 ["beam","standing","move","places"] ["beam","standing","move"] (za5 zD8):=⟨rfl,rfl,rfl,by decide +kernel,rfl,by decide +kernel,by decide +kernel⟩
theorem zI2:zb6 ["beam","standing","places","told","weight"] ["beam","standing"] (za5 zv5):=⟨rfl,rfl,rfl,by decide +kernel,rfl,by decide +kernel,by decide +kernel⟩
theorem zP6:zf0 ["beam","standing","places","told","weight"] (za5 zv5) (zm3 (zM5 (stE (stAt (stBody (stAt (za9 zv5) 2)) 0)) 0)) ["put","weight","places"] [none,some 4,some 2]:=⟨rfl,by decide +kernel,by decide +kernel,by decide +kernel,rfl,by decide +kernel,by decide +kernel⟩
theorem sc_turned:zb6 ["move"] ["move"] (za5 zx3):=⟨rfl,rfl,rfl,by decide +kernel,rfl,by decide +kernel,by decide +kernel⟩
theorem sc_behind:zb6 ["places","move"] ["places","move"] (za5 zx4):=⟨rfl,rfl,rfl,by decide +kernel,rfl,by decide +kernel,by decide +kernel⟩
theorem sc_full:zb6 ["beam","places","place"] ["beam","places","place"] (za5 zL4):=⟨rfl,rfl,rfl,by decide +kernel,rfl,by decide +kernel,by decide +kernel⟩
theorem sc_check_move:zb6 ["beam","places","weight","taken","put"] ["beam","places","weight","taken","put"] (za5 zm5):=⟨rfl,rfl,rfl,by decide +kernel,rfl,by decide +kernel,by decide +kernel⟩
theorem sc_check_weight:zb6 ["places","weight","taken"] ["places","weight","taken"] (za5 zi6):=⟨rfl,rfl,rfl,by decide +kernel,rfl,by decide +kernel,by decide +kernel⟩
theorem sc_check_put:zb6 ["beam","places","taken","put"] ["beam","places","taken","put"] (za5 zo4):=⟨rfl,rfl,rfl,by decide +kernel,rfl,by decide +kernel,by decide +kernel⟩
theorem sc_check_tilts:zb6 ["beam","held","added"] ["beam","held","added"] (za5 zk6):=⟨rfl,rfl,rfl,by decide +kernel,rfl,by decide +kernel,by decide +kernel⟩
theorem zN7:zb6 ["beam","places","weight","held","lies","heft"] ["beam","places","weight"] (za5 zB9):=⟨rfl,rfl,rfl,by decide +kernel,rfl,by decide +kernel,by decide +kernel⟩
theorem zS6:zf0 ["beam","places","weight","held","lies","heft"] (za5 zB9) (zm3 (stE (stAt (za9 zB9) 4))) ["put","lies","beam","places","held","heft"] [none,some 4,some 0,some 1,some 3,some 5]:=⟨rfl,by decide +kernel,by decide +kernel,by decide +kernel,rfl,by decide +kernel,by decide +kernel⟩
theorem zI3:zb6 ["self","beam","start","first"] ["self","beam","start"] (za5 zo5):=⟨rfl,rfl,rfl,by decide +kernel,rfl,by decide +kernel,by decide +kernel⟩
theorem sc_Play_move:zb6 ["self","move"] ["self","move"] (za5 zo6):=⟨rfl,rfl,rfl,by decide +kernel,rfl,by decide +kernel,by decide +kernel⟩
theorem zI4:zb6 ["self","last"] ["self"] (za5 zo7):=⟨rfl,rfl,rfl,by decide +kernel,rfl,by decide +kernel,by decide +kernel⟩
theorem zv6:zb6 ["beam","standing","places"] ["beam","standing"] (za5 zg0):=⟨rfl,rfl,rfl,by decide +kernel,rfl,by decide +kernel,by decide +kernel⟩
theorem zs5:zf0 ["beam","standing","places"] (za5 zg0) (zm3 (zM5 (stE (stAt (za9 zg0) 2)) 0)) ["place"] [none]:=⟨rfl,by decide +kernel,by decide +kernel,by decide +kernel,rfl,by decide +kernel,by decide +kernel⟩
theorem sc_write_move:zb6 ["move"] ["move"] (za5 zm6):=⟨rfl,rfl,rfl,by decide +kernel,rfl,by decide +kernel,by decide +kernel⟩
theorem zI5:zb6 ["text","words"] ["text"] (za5 zo8):=⟨rfl,rfl,rfl,by decide +kernel,rfl,by decide +kernel,by decide +kernel⟩
theorem zj9:zb6 ["text","rows","notches","room","limit","weights","beam"] ["text"] (za5 zg4):=⟨rfl,rfl,rfl,by decide +kernel,rfl,by decide +kernel,by decide +kernel⟩
theorem zC1:zf0 ["text","rows","notches","room","limit","weights","beam"] (za5 zg4) (zm3 (stE (stAt (za9 zg4) 5))) ["row"] [none]:=⟨rfl,by decide +kernel,by decide +kernel,by decide +kernel,rfl,by decide +kernel,by decide +kernel⟩
theorem zC2:zf0 ["text","rows","notches","room","limit","weights","beam"] (za5 zg4) (zm3 (zM5 (stE (stAt (za9 zg4) 6)) 2)) ["weight"] [none]:=⟨rfl,by decide +kernel,by decide +kernel,by decide +kernel,rfl,by decide +kernel,by decide +kernel⟩
theorem zC3:zf0 ["text","rows","notches","room","limit","weights","beam"] (za5 zg4) (zm3 (zM5 (exElt (stE (stAt (za9 zg4) 7)) 1) 1)) ["weight"] [none]:=⟨rfl,by decide +kernel,by decide +kernel,by decide +kernel,rfl,by decide +kernel,by decide +kernel⟩
theorem zC4:zb6 ["row","words"] ["row"] (za5 zk7):=⟨rfl,rfl,rfl,by decide +kernel,rfl,by decide +kernel,by decide +kernel⟩
theorem zz9:zb6 ["front","row","many","words"] ["front","row","many"] (za5 zi7):=⟨rfl,rfl,rfl,by decide +kernel,rfl,by decide +kernel,by decide +kernel⟩
theorem sc_write_place:zb6 ["place"] ["place"] (za5 zk8):=⟨rfl,rfl,rfl,by decide +kernel,rfl,by decide +kernel,by decide +kernel⟩
theorem zw7:zb6 ["text","left","size"] ["text"] (za5 zm7):=⟨rfl,rfl,rfl,by decide +kernel,rfl,by decide +kernel,by decide +kernel⟩
theorem sc_read_number:zb6 ["text"] ["text"] (za5 zk9):=⟨rfl,rfl,rfl,by decide +kernel,rfl,by decide +kernel,by decide +kernel⟩
theorem sc_is_number:zb6 ["text"] ["text"] (za5 zj3):=⟨rfl,rfl,rfl,by decide +kernel,rfl,by decide +kernel,by decide +kernel⟩
theorem zC5:zf0 ["text"] (za5 zj3) (zm3 (zM5 (stE (stAt (za9 zj3) 2)) 0)) ["sign"] [none]:=⟨rfl,by decide +kernel,by decide +kernel,by decide +kernel,rfl,by decide +kernel,by decide +kernel⟩
theorem zu1:zb6 ["text","rows","placed","play","told","row"] ["text","rows"] (za5 zt3):=⟨rfl,rfl,rfl,by decide +kernel,rfl,by decide +kernel,by decide +kernel⟩
theorem zS7:zb6 ["play","row","e"] ["play","row"] (za5 zx5):=⟨rfl,rfl,rfl,by decide +kernel,rfl,by decide +kernel,by decide +kernel⟩
theorem zF5:zb6 ["play","row","parts"] ["play","row"] (za5 zm8):=⟨rfl,rfl,rfl,by decide +kernel,rfl,by decide +kernel,by decide +kernel⟩
theorem sc_answer_words:zb6 ["play","word","rest"] ["play","word","rest"] (za5 zi8):=⟨rfl,rfl,rfl,by decide +kernel,rfl,by decide +kernel,by decide +kernel⟩
theorem sc_tell_tilt:zb6 ["play"] ["play"] (za5 zo9):=⟨rfl,rfl,rfl,by decide +kernel,rfl,by decide +kernel,by decide +kernel⟩
theorem zF6:zb6 ["row","counted"] ["row"] (za5 zi0):=⟨rfl,rfl,rfl,by decide +kernel,rfl,by decide +kernel,by decide +kernel⟩
theorem zA0:zf0 ["row","counted"] (za5 zi0) (zm3 (zM5 (exRg (stE (stAt (za9 zi0) 2))) 0)) ["move"] [none]:=⟨rfl,by decide +kernel,by decide +kernel,by decide +kernel,rfl,by decide +kernel,by decide +kernel⟩
theorem sc_w_at:zb6 ["_law_script","_law_k"] ["_law_script","_law_k"] (za5 zL5):=⟨rfl,rfl,rfl,by decide +kernel,rfl,by decide +kernel,by decide +kernel⟩
theorem zq6:zb6 ["_law_cell","_law_count","_law_base","_law_mix","_law_made","_law_rest","_law_k"] ["_law_cell","_law_count","_law_base","_law_mix"] (za5 zx6):=⟨rfl,rfl,rfl,by decide +kernel,rfl,by decide +kernel,by decide +kernel⟩
theorem zk0:zb6 ["_law_script","_law_cell","_law_notches","_law_count","_law_room","_law_mode","_law_hefts"] ["_law_script"] (za5 zp0):=⟨rfl,rfl,rfl,by decide +kernel,rfl,by decide +kernel,by decide +kernel⟩
theorem zI6:zf0 ["_law_script","_law_cell","_law_notches","_law_count","_law_room","_law_mode","_law_hefts"] (za5 zp0) (zm3 (stE (stAt (za9 zp0) 5))) ["_law_x"] [none]:=⟨rfl,by decide +kernel,by decide +kernel,by decide +kernel,rfl,by decide +kernel,by decide +kernel⟩
theorem zl9:zb6 ["_law_script","_law_k","_law_more","_law_shape_here","_law_notches","_law_room","_law_hefts","_law_mix","_law_cell","_law_made","_law_x","_law_place"] ["_law_script","_law_k","_law_more","_law_shape_here"] (za5 zD9):=⟨rfl,rfl,rfl,by decide +kernel,rfl,by decide +kernel,by decide +kernel⟩
theorem zE1:zb6 ["_law_hefts","_law_spots","_law_total","_law_k"] ["_law_hefts","_law_spots"] (za5 zx7):=⟨rfl,rfl,rfl,by decide +kernel,rfl,by decide +kernel,by decide +kernel⟩
theorem zG7:zb6 ["_law_script","_law_low","_law_cell","_law_kind"] ["_law_script","_law_low"] (za5 zt4):=⟨rfl,rfl,rfl,by decide +kernel,rfl,by decide +kernel,by decide +kernel⟩
theorem zL7:zb6 ["_law_cell","_law_more","_law_start"] ["_law_cell"] (za5 zx8):=⟨rfl,rfl,rfl,by decide +kernel,rfl,by decide +kernel,by decide +kernel⟩
theorem zh0:zb6 ["_law_script","_law_shape_here","_law_notches","_law_room","_law_hefts","_law_first","_law_last","_law_craft","_law_notch","_law_low"] ["_law_script"] (za5 zx9):=⟨rfl,rfl,rfl,by decide +kernel,rfl,by decide +kernel,by decide +kernel⟩
theorem zn0:zb6 ["_law_scale","_law_spots","_law_move","_law_notches","_law_room","_law_hefts","_law_limit_here","_law_weight","_law_source","_law_target","_law_lifted"] ["_law_scale","_law_spots","_law_move"] (za5 zy0):=⟨rfl,rfl,rfl,by decide +kernel,rfl,by decide +kernel,by decide +kernel⟩
theorem zj0:zb6 ["_law_scale","_law_spots","_law_notches","_law_room","_law_hefts","_law_limit_here","_law_total","_law_free","_law_made","_law_k","_law_lifted","_law_place"] ["_law_scale","_law_spots"] (za5 zr9):=⟨rfl,rfl,rfl,by decide +kernel,rfl,by decide +kernel,by decide +kernel⟩
theorem zM7:zf0 ["_law_scale","_law_spots","_law_notches","_law_room","_law_hefts","_law_limit_here","_law_total","_law_free","_law_made","_law_k","_law_lifted","_law_place"] (za5 zr9) (zm3 (stE (stAt (za9 zr9) 2))) ["_law_x","_law_room","_law_spots"] [none,some 3,some 1]:=⟨rfl,by decide +kernel,by decide +kernel,by decide +kernel,rfl,by decide +kernel,by decide +kernel⟩
theorem sc_w_say:zb6 ["_law_place"] ["_law_place"] (za5 zE0):=⟨rfl,rfl,rfl,by decide +kernel,rfl,by decide +kernel,by decide +kernel⟩
theorem zE2:zb6 ["_law_scale","_law_spots","_law_text_here","_law_k"] ["_law_scale","_law_spots"] (za5 zy1):=⟨rfl,rfl,rfl,by decide +kernel,rfl,by decide +kernel,by decide +kernel⟩
theorem sc_w_goal:zb6 ["_law_spots"] ["_law_spots"] (za5 zs0):=⟨rfl,rfl,rfl,by decide +kernel,rfl,by decide +kernel,by decide +kernel⟩
theorem zM8:zf0 ["_law_spots"] (za5 zs0) (zm3 (zM5 (stE (stAt (za9 zs0) 1)) 0)) ["_law_place"] [none]:=⟨rfl,by decide +kernel,by decide +kernel,by decide +kernel,rfl,by decide +kernel,by decide +kernel⟩
theorem sc_w_move_text:zb6 ["_law_move"] ["_law_move"] (za5 zl0):=⟨rfl,rfl,rfl,by decide +kernel,rfl,by decide +kernel,by decide +kernel⟩
theorem zE3:zb6 ["_law_hefts","_law_spots","_law_amount","_law_word_here"] ["_law_hefts","_law_spots"] (za5 zy2):=⟨rfl,rfl,rfl,by decide +kernel,rfl,by decide +kernel,by decide +kernel⟩
theorem zE4:zb6 ["_law_scale","_law_spots","_law_cell","_law_near_here","_law_behind","_law_moved_one"] ["_law_scale","_law_spots","_law_cell"] (za5 zs1):=⟨rfl,rfl,rfl,by decide +kernel,rfl,by decide +kernel,by decide +kernel⟩
theorem zM9:zf0 ["_law_scale","_law_spots","_law_cell","_law_near_here","_law_behind","_law_moved_one"] (za5 zs1) (zm3 (exOf (stE (stAt (za9 zs1) 3)))) ["_law_k","_law_behind","_law_spots"] [none,some 4,some 1]:=⟨rfl,by decide +kernel,by decide +kernel,by decide +kernel,rfl,by decide +kernel,by decide +kernel⟩
theorem zi1:zb6 ["_law_scale","_law_now","_law_cell","_law_count","_law_weight","_law_rest","_law_source","_law_target"] ["_law_scale","_law_now","_law_cell"] (za5 zm9):=⟨rfl,rfl,rfl,by decide +kernel,rfl,by decide +kernel,by decide +kernel⟩
theorem zG8:zb6 ["_law_scale","_law_now","_law_made","_law_move","_law_word_here","_law_behind"] ["_law_scale","_law_now","_law_made","_law_move"] (za5 zt5):=⟨rfl,rfl,rfl,by decide +kernel,rfl,by decide +kernel,by decide +kernel⟩
theorem zS8:zb6 ["_law_now","_law_made","_law_move"] ["_law_now","_law_made"] (za5 zy3):=⟨rfl,rfl,rfl,by decide +kernel,rfl,by decide +kernel,by decide +kernel⟩
theorem zn8:zb6 ["_law_scale","_law_now","_law_made","_law_k","_law_place"] ["_law_scale","_law_now"] (za5 zi9):=⟨rfl,rfl,rfl,by decide +kernel,rfl,by decide +kernel,by decide +kernel⟩
theorem sc_w_look:zb6 ["_law_scale","_law_now","_law_cell"] ["_law_scale","_law_now","_law_cell"] (za5 zy4):=⟨rfl,rfl,rfl,by decide +kernel,rfl,by decide +kernel,by decide +kernel⟩
theorem zE5:zb6 ["_law_scale","_law_now","_law_made","_law_cell","_law_kind","_law_more","_law_move"] ["_law_scale","_law_now","_law_made","_law_cell"] (za5 zy5):=⟨rfl,rfl,rfl,by decide +kernel,rfl,by decide +kernel,by decide +kernel⟩
theorem zo0:zb6 ["_law_script","_law_scale","_law_first","_law_last","_law_now","_law_made","_law_asked","_law_due","_law_cell","_law_row","_law_text_here","_law_handed","_law_found","_law_k"] ["_law_script"] (za5 zS5):=⟨rfl,rfl,rfl,by decide +kernel,rfl,by decide +kernel,by decide +kernel⟩
set_option genInjectivity false in
set_option genSizeOf false in
structure Adr where
 aa:Addr
 ab:FuncData
 ax:Addr
 a2:FuncData
 aB:Addr
 ba:FuncData
 ar:Addr
 aZ:FuncData
 aF:Addr
 br:FuncData
 ao:Addr
 aQ:FuncData
 ap:Addr
 aR:FuncData
 ay:Addr
 a3:FuncData
 al:Addr
 aI:FuncData
 bg:Addr
 bM:FuncData
 az:Addr
 aD:FuncData
 aL:Addr
 bb:FuncData
 aV:Addr
 bs:FuncData
 aA:Addr
 aS:FuncData
 ag:Addr
 aj:FuncData
 bw:Addr
 bU:FuncData
 cx:Addr
 cE:FuncData
 bV:Addr
 cc:FuncData
 ci:Addr
 cA:FuncData
 bp:Addr
 bH:FuncData
 cj:Addr
 cB:FuncData
 ck:Addr
 cC:FuncData
 bX:Addr
 cm:FuncData
 bx:Addr
 bY:FuncData
 cd:Addr
 cy:FuncData
 a4:Addr
 bz:FuncData
 aM:Addr
 bc:FuncData
 bh:Addr
 bN:FuncData
 aW:Addr
 bt:FuncData
 cz:Addr
 cF:FuncData
 bi:Addr
 bO:FuncData
 bj:Addr
 bP:FuncData
 bk:Addr
 bQ:FuncData
 aE:Addr
 a0:FuncData
 aJ:Addr
 a5:FuncData
 bl:Addr
 bR:FuncData
 bm:Addr
 bS:FuncData
 aX:Addr
 bu:FuncData
 aC:Addr
 aN:FuncData
 aG:Addr
 aY:FuncData
 aK:Addr
 a6:FuncData
 an:Addr
 av:FuncData
 bn:Addr
 bT:FuncData
 bI:Addr
 ce:FuncData
 bZ:Addr
 cn:FuncData
 a7:Addr
 bA:FuncData
 aO:Addr
 bd:FuncData
 aT:Addr
 bo:FuncData
 a8:Addr
 bB:FuncData
 bq:Addr
 bC:FuncData
 bD:Addr
 b0:FuncData
 bJ:Addr
 cf:FuncData
 cl:Addr
 cD:FuncData
 a1:Addr
 be:FuncData
 bK:Addr
 cg:FuncData
 b1:Addr
 co:FuncData
 b2:Addr
 cp:FuncData
 bE:Addr
 b3:FuncData
 b4:Addr
 cq:FuncData
 bv:Addr
 bW:FuncData
 b5:Addr
 cr:FuncData
 b6:Addr
 cs:FuncData
 aw:Addr
 aH:FuncData
 bF:Addr
 b7:FuncData
 b8:Addr
 ct:FuncData
 a9:Addr
 bG:FuncData
 bL:Addr
 ch:FuncData
 b9:Addr
 cu:FuncData
 aP:Addr
 bf:FuncData
 ca:Addr
 cv:FuncData
 cb:Addr
 cw:FuncData
 cG:Addr
 cI:FuncData
 aU:Addr
 ac:Addr
 ak:Addr
 am:Addr
 ah:Addr
 au:Addr
 ae:Addr
 af:Addr
 aq:Addr
 ad:Addr
 ai:Addr
 cJ:Tok
 cO:Tok
 cM:Tok
 cK:Tok
 cP:Tok
 cH:Tok
 cN:Tok
 cL:Tok
 cQ:Tok
structure Txt (K:W.Frag) (mg:Str->Option Value) (t:Adr):Prop where
 bY:FunD K "__init__" "BeamError.__init__" zf1 t.aa t.ab
 af:zc4 K t.ab ["self","reason","word"] []
 f3:W.keepIn K (.ref t.aa)=true
 cl:FunD K "__init__" "NoWeight.__init__" zf8 t.ax t.a2
 aZ:zc4 K t.a2 ["self","reason"] []
 f4:W.keepIn K (.ref t.ax)=true
 cp:FunD K "__init__" "NoPlace.__init__" zg2 t.aB t.ba
 cq:zc4 K t.ba ["self","reason"] []
 f5:W.keepIn K (.ref t.aB)=true
 bZ:FunD K "__init__" "SamePlace.__init__" zf2 t.ar t.aZ
 b0:zc4 K t.aZ ["self","reason"] []
 f6:W.keepIn K (.ref t.ar)=true
 cQ:FunD K "__init__" "NoRoom.__init__" zg6 t.aF t.br
 cR:zc4 K t.br ["self","reason"] []
 f7:W.keepIn K (.ref t.aF)=true
 bP:FunD K "__init__" "TipsInHand.__init__" ze2 t.ao t.aQ
 bQ:zc4 K t.aQ ["self","reason"] []
 f8:W.keepIn K (.ref t.ao)=true
 bR:FunD K "__init__" "TipsBehind.__init__" ze3 t.ap t.aR
 bS:zc4 K t.aR ["self","reason"] []
 f9:W.keepIn K (.ref t.ap)=true
 cm:FunD K "__init__" "PlayFull.__init__" zf9 t.ay t.a3
 cn:zc4 K t.a3 ["self","reason"] []
 ga:W.keepIn K (.ref t.ay)=true
 bD:FunD K "__init__" "NothingBack.__init__" zd7 t.al t.aI
 bE:zc4 K t.aI ["self","reason"] []
 gb:W.keepIn K (.ref t.al)=true
 dL:Fun K "__init__" "Beam.__init__" zo3 t.bg t.bM
 dM:zc4 K t.bM ["self","notches","room","hefts","limit"] []
 gc:W.keepIn K (.ref t.bg)=true
 em:Fun K "outside" "outside" zt1 t.az t.aD
 aq:zc4 K t.aD ["number","low","high"] []
 ar:mg "outside" = some (.ref t.az)
 au:W.keepIn K (.ref t.az)=true
 cr:Fun K "check_bounds" "check_bounds" zi5 t.aL t.bb
 cs:zc4 K t.bb ["notches","room","limit"] []
 ct:mg "check_bounds" = some (.ref t.aL)
 cu:W.keepIn K (.ref t.aL)=true
 cS:Fun K "check_hefts" "check_hefts" zk4 t.aV t.bs
 cT:zc4 K t.bs ["hefts"] []
 cU:mg "check_hefts" = some (.ref t.aV)
 cV:W.keepIn K (.ref t.aV)=true
 bT:Fun K "check_standings" "check_standings" zg9 t.aA t.aS
 bU:zc4 K t.aS ["notches","weights"] []
 bV:mg "check_standings" = some (.ref t.aA)
 bW:W.keepIn K (.ref t.aA)=true
 cW:Fun K "as_standing" "as_standing" zk5 t.ag t.aj
 aj:zc4 K t.aj ["beam","standing"] []
 ak:mg "as_standing" = some (.ref t.ag)
 al:W.keepIn K (.ref t.ag)=true
 fL:Fun K "tilt" "tilt" zB8 t.bw t.bU
 ba:zc4 K t.bU ["beam","standing"] []
 bb:mg "tilt" = some (.ref t.bw)
 bc:W.keepIn K (.ref t.bw)=true
 fM:Fun K "side" "side" zL2 t.cx t.cE
 fN:zc4 K t.cE ["beam","standing"] []
 fO:mg "side" = some (.ref t.cx)
 fP:W.keepIn K (.ref t.cx)=true
 fQ:Fun K "past" "past" zL3 t.bV t.cc
 a0:zc4 K t.cc ["beam","tipped"] []
 a1:mg "past" = some (.ref t.bV)
 a2:W.keepIn K (.ref t.bV)=true
 fv:Fun K "keeps" "keeps" zD7 t.ci t.cA
 fw:zc4 K t.cA ["beam","standing"] []
 fx:mg "keeps" = some (.ref t.ci)
 fy:W.keepIn K (.ref t.ci)=true
 en:Fun K "in_hand" "in_hand" zt2 t.bp t.bH
 bF:zc4 K t.bH ["beam","standing","weight"] []
 bG:mg "in_hand" = some (.ref t.bp)
 bH:W.keepIn K (.ref t.bp)=true
 fz:Fun K "moved" "moved" zD8 t.cj t.cB
 fA:zc4 K t.cB ["beam","standing","move"] []
 fB:mg "moved" = some (.ref t.cj)
 fC:W.keepIn K (.ref t.cj)=true
 fD:Fun K "moves" "moves" zv5 t.ck t.cC
 fE:zc4 K t.cC ["beam","standing"] []
 fF:mg "moves" = some (.ref t.ck)
 fG:W.keepIn K (.ref t.ck)=true
 eG:Fun K "turned" "turned" zx3 t.bX t.cm
 eH:zc4 K t.cm ["move"] []
 eI:mg "turned" = some (.ref t.bX)
 eJ:W.keepIn K (.ref t.bX)=true
 eK:Fun K "behind" "behind" zx4 t.bx t.bY
 b1:zc4 K t.bY ["places","move"] []
 b2:mg "behind" = some (.ref t.bx)
 b3:W.keepIn K (.ref t.bx)=true
 fR:Fun K "full" "full" zL4 t.cd t.cy
 df:zc4 K t.cy ["beam","places","place"] []
 dg:mg "full" = some (.ref t.cd)
 dh:W.keepIn K (.ref t.cd)=true
 di:Fun K "check_move" "check_move" zm5 t.a4 t.bz
 dj:zc4 K t.bz ["beam","places","weight","taken","put"] []
 dk:mg "check_move" = some (.ref t.a4)
 dl:W.keepIn K (.ref t.a4)=true
 cv:Fun K "check_weight" "check_weight" zi6 t.aM t.bc
 cw:zc4 K t.bc ["places","weight","taken"] []
 cx:mg "check_weight" = some (.ref t.aM)
 cy:W.keepIn K (.ref t.aM)=true
 dN:Fun K "check_put" "check_put" zo4 t.bh t.bN
 dO:zc4 K t.bN ["beam","places","taken","put"] []
 dP:mg "check_put" = some (.ref t.bh)
 dQ:W.keepIn K (.ref t.bh)=true
 cX:Fun K "check_tilts" "check_tilts" zk6 t.aW t.bt
 cY:zc4 K t.bt ["beam","held","added"] []
 cZ:mg "check_tilts" = some (.ref t.aW)
 c0:W.keepIn K (.ref t.aW)=true
 fS:Fun K "puts" "puts" zB9 t.cz t.cF
 fT:zc4 K t.cF ["beam","places","weight"] []
 fU:mg "puts" = some (.ref t.cz)
 fV:W.keepIn K (.ref t.cz)=true
 dR:Fun K "__init__" "Play.__init__" zo5 t.bi t.bO
 dS:zc4 K t.bO ["self","beam","start"] []
 gd:W.keepIn K (.ref t.bi)=true
 dT:Fun K "move" "Play.move" zo6 t.bj t.bP
 dU:zc4 K t.bP ["self","move"] []
 ge:W.keepIn K (.ref t.bj)=true
 dV:Fun K "back" "Play.back" zo7 t.bk t.bQ
 dW:zc4 K t.bQ ["self"] []
 gf:W.keepIn K (.ref t.bk)=true
 b4:Fun K "write_standing" "write_standing" zg0 t.aE t.a0
 b5:zc4 K t.a0 ["beam","standing"] []
 b6:mg "write_standing" = some (.ref t.aE)
 b7:W.keepIn K (.ref t.aE)=true
 dm:Fun K "write_move" "write_move" zm6 t.aJ t.a5
 bd:zc4 K t.a5 ["move"] []
 be:mg "write_move" = some (.ref t.aJ)
 bf:W.keepIn K (.ref t.aJ)=true
 dX:Fun K "read_move" "read_move" zo8 t.bl t.bR
 dY:zc4 K t.bR ["text"] []
 dZ:mg "read_move" = some (.ref t.bl)
 d0:W.keepIn K (.ref t.bl)=true
 d1:Fun K "read_beam" "read_beam" zg4 t.bm t.bS
 d2:zc4 K t.bS ["text"] []
 d3:mg "read_beam" = some (.ref t.bm)
 d4:W.keepIn K (.ref t.bm)=true
 c1:Fun K "read_weight" "read_weight" zk7 t.aX t.bu
 c2:zc4 K t.bu ["row"] []
 c3:mg "read_weight" = some (.ref t.aX)
 c4:W.keepIn K (.ref t.aX)=true
 cz:Fun K "words_behind" "words_behind" zi7 t.aC t.aN
 ay:zc4 K t.aN ["front","row","many"] []
 az:mg "words_behind" = some (.ref t.aC)
 aA:W.keepIn K (.ref t.aC)=true
 c5:Fun K "write_place" "write_place" zk8 t.aG t.aY
 aL:zc4 K t.aY ["place"] []
 aM:mg "write_place" = some (.ref t.aG)
 aN:W.keepIn K (.ref t.aG)=true
 dn:Fun K "read_place" "read_place" zm7 t.aK t.a6
 aQ:zc4 K t.a6 ["text"] []
 aR:mg "read_place" = some (.ref t.aK)
 aS:W.keepIn K (.ref t.aK)=true
 c6:Fun K "read_number" "read_number" zk9 t.an t.av
 an:zc4 K t.av ["text"] []
 ao:mg "read_number" = some (.ref t.an)
 ap:W.keepIn K (.ref t.an)=true
 d5:Fun K "is_number" "is_number" zj3 t.bn t.bT
 d6:zc4 K t.bT ["text"] []
 d7:mg "is_number" = some (.ref t.bn)
 d8:W.keepIn K (.ref t.bn)=true
 eo:Fun K "answers" "answers" zt3 t.bI t.ce
 ep:zc4 K t.ce ["text","rows"] []
 eq:mg "answers" = some (.ref t.bI)
 er:W.keepIn K (.ref t.bI)=true
 eL:Fun K "answer" "answer" zx5 t.bZ t.cn
 eM:zc4 K t.cn ["play","row"] []
 eN:mg "answer" = some (.ref t.bZ)
 eO:W.keepIn K (.ref t.bZ)=true
 dp:Fun K "answer_row" "answer_row" zm8 t.a7 t.bA
 dq:zc4 K t.bA ["play","row"] []
 dr:mg "answer_row" = some (.ref t.a7)
 ds:W.keepIn K (.ref t.a7)=true
 cA:Fun K "answer_words" "answer_words" zi8 t.aO t.bd
 cB:zc4 K t.bd ["play","word","rest"] []
 cC:mg "answer_words" = some (.ref t.aO)
 cD:W.keepIn K (.ref t.aO)=true
 d9:Fun K "tell_tilt" "tell_tilt" zo9 t.aT t.bo
 bm:zc4 K t.bo ["play"] []
 bn:mg "tell_tilt" = some (.ref t.aT)
 bo:W.keepIn K (.ref t.aT)=true
 dt:Fun K "tell_moves" "tell_moves" zi0 t.a8 t.bB
 du:zc4 K t.bB ["row"] []
 dv:mg "tell_moves" = some (.ref t.a8)
 dw:W.keepIn K (.ref t.a8)=true
 fW:Fun K "_law_at" "_law_at" zL5 t.bq t.bC
 aB:zc4 K t.bC ["_law_script","_law_k"] []
 aC:mg "_law_at" = some (.ref t.bq)
 aD:W.keepIn K (.ref t.bq)=true
 eP:Fun K "_law_figs" "_law_figs" zx6 t.bD t.b0
 b8:zc4 K t.b0 ["_law_cell","_law_count","_law_base","_law_mix"] []
 b9:mg "_law_figs" = some (.ref t.bD)
 ca:W.keepIn K (.ref t.bD)=true
 es:Fun K "_law_shape" "_law_shape" zp0 t.bJ t.cf
 et:zc4 K t.cf ["_law_script"] []
 eu:mg "_law_shape" = some (.ref t.bJ)
 ev:W.keepIn K (.ref t.bJ)=true
 fH:Fun K "_law_put" "_law_put" zD9 t.cl t.cD
 cE:zc4 K t.cD ["_law_script","_law_k","_law_more","_law_shape_here"] []
 cF:mg "_law_put" = some (.ref t.cl)
 cG:W.keepIn K (.ref t.cl)=true
 eQ:Fun K "_law_tilt" "_law_tilt" zx7 t.a1 t.be
 aI:zc4 K t.be ["_law_hefts","_law_spots"] []
 aJ:mg "_law_tilt" = some (.ref t.a1)
 aK:W.keepIn K (.ref t.a1)=true
 ew:Fun K "_law_limit" "_law_limit" zt4 t.bK t.cg
 ex:zc4 K t.cg ["_law_script","_law_low"] []
 ey:mg "_law_limit" = some (.ref t.bK)
 ez:W.keepIn K (.ref t.bK)=true
 eR:Fun K "_law_hard" "_law_hard" zx8 t.b1 t.co
 eS:zc4 K t.co ["_law_cell"] []
 eT:mg "_law_hard" = some (.ref t.b1)
 eU:W.keepIn K (.ref t.b1)=true
 eV:Fun K "_law_case" "_law_case" zx9 t.b2 t.cp
 eW:zc4 K t.cp ["_law_script"] []
 eX:mg "_law_case" = some (.ref t.b2)
 eY:W.keepIn K (.ref t.b2)=true
 eZ:Fun K "_law_word" "_law_word" zy0 t.bE t.b3
 cb:zc4 K t.b3 ["_law_scale","_law_spots","_law_move"] []
 cc:mg "_law_word" = some (.ref t.bE)
 cd:W.keepIn K (.ref t.bE)=true
 e0:Fun K "_law_near" "_law_near" zr9 t.b4 t.cq
 e1:zc4 K t.cq ["_law_scale","_law_spots"] []
 e2:mg "_law_near" = some (.ref t.b4)
 e3:W.keepIn K (.ref t.b4)=true
 fI:Fun K "_law_say" "_law_say" zE0 t.bv t.bW
 a5:zc4 K t.bW ["_law_place"] []
 a6:mg "_law_say" = some (.ref t.bv)
 a7:W.keepIn K (.ref t.bv)=true
 e4:Fun K "_law_text" "_law_text" zy1 t.b5 t.cr
 e5:zc4 K t.cr ["_law_scale","_law_spots"] []
 e6:mg "_law_text" = some (.ref t.b5)
 e7:W.keepIn K (.ref t.b5)=true
 e8:Fun K "_law_goal" "_law_goal" zs0 t.b6 t.cs
 e9:zc4 K t.cs ["_law_spots"] []
 fa:mg "_law_goal" = some (.ref t.b6)
 fb:W.keepIn K (.ref t.b6)=true
 c7:Fun K "_law_move_text" "_law_move_text" zl0 t.aw t.aH
 aE:zc4 K t.aH ["_law_move"] []
 aF:mg "_law_move_text" = some (.ref t.aw)
 aG:W.keepIn K (.ref t.aw)=true
 fc:Fun K "_law_lean" "_law_lean" zy2 t.bF t.b7
 ce:zc4 K t.b7 ["_law_hefts","_law_spots"] []
 cf:mg "_law_lean" = some (.ref t.bF)
 cg:W.keepIn K (.ref t.bF)=true
 fd:Fun K "_law_pick" "_law_pick" zs1 t.b8 t.ct
 fe:zc4 K t.ct ["_law_scale","_law_spots","_law_cell"] []
 ff:mg "_law_pick" = some (.ref t.b8)
 fg:W.keepIn K (.ref t.b8)=true
 dx:Fun K "_law_any_move" "_law_any_move" zm9 t.a9 t.bG
 dy:zc4 K t.bG ["_law_scale","_law_now","_law_cell"] []
 dz:mg "_law_any_move" = some (.ref t.a9)
 dA:W.keepIn K (.ref t.a9)=true
 eA:Fun K "_law_moved" "_law_moved" zt5 t.bL t.ch
 bI:zc4 K t.ch ["_law_scale","_law_now","_law_made","_law_move"] []
 bJ:mg "_law_moved" = some (.ref t.bL)
 bK:W.keepIn K (.ref t.bL)=true
 fh:Fun K "_law_back" "_law_back" zy3 t.b9 t.cu
 fi:zc4 K t.cu ["_law_now","_law_made"] []
 fj:mg "_law_back" = some (.ref t.b9)
 fk:W.keepIn K (.ref t.b9)=true
 cH:Fun K "_law_moves_text" "_law_moves_text" zi9 t.aP t.bf
 cI:zc4 K t.bf ["_law_scale","_law_now"] []
 cJ:mg "_law_moves_text" = some (.ref t.aP)
 cK:W.keepIn K (.ref t.aP)=true
 fl:Fun K "_law_look" "_law_look" zy4 t.ca t.cv
 fm:zc4 K t.cv ["_law_scale","_law_now","_law_cell"] []
 fn:mg "_law_look" = some (.ref t.ca)
 fo:W.keepIn K (.ref t.ca)=true
 fp:Fun K "_law_deed" "_law_deed" zy5 t.cb t.cw
 fq:zc4 K t.cw ["_law_scale","_law_now","_law_made","_law_cell"] []
 fr:mg "_law_deed" = some (.ref t.cb)
 fs:W.keepIn K (.ref t.cb)=true
 fZ:Fun K "law" "law" zS5 t.cG t.cI
 gg:zc4 K t.cI ["_law_script"] []
 gh:mg "law" = some (.ref t.cG)
 gi:W.keepIn K (.ref t.cG)=true
 ab:Cls K t.aU
 fX:mg "Beam" = some (.ref t.aU)
 fJ:Mk K t.aU t.bg
 ae:ze1 K t.aU "notches"
 aH:ze1 K t.aU "room"
 ag:ze1 K t.aU "hefts"
 aO:ze1 K t.aU "limit"
 ac:Cls K t.ac
 fY:mg "Play" = some (.ref t.ac)
 fK:Mk K t.ac t.bi
 av:ze1 K t.ac "beam"
 c8:ze1 K t.ac "start"
 ad:ze1 K t.ac "standing"
 ax:ze1 K t.ac "made"
 dB:Meth K t.ac "move" t.bj
 dC:Meth K t.ac "back" t.bk
 bu:mg "NoWeight" = some (.ref t.ak)
 eB:mg "NoPlace" = some (.ref t.am)
 ea:mg "SamePlace" = some (.ref t.ah)
 ft:mg "NoRoom" = some (.ref t.au)
 dD:mg "TipsInHand" = some (.ref t.ae)
 dE:mg "TipsBehind" = some (.ref t.af)
 eg:mg "PlayFull" = some (.ref t.aq)
 c9:mg "NothingBack" = some (.ref t.ad)
 ah:mg "BeamError" = some (.ref t.ai)
 a3:XCls K t.ak
 bL:XCls K t.am
 bp:XCls K t.ah
 ch:XCls K t.au
 bg:XCls K t.ae
 bh:XCls K t.af
 bv:XCls K t.aq
 a9:XCls K t.ad
 bw:W.findIn K (.ref t.ak) "__init__" = some (some (.ref t.ax))
 bq:W.isFn K (.ref t.ax)=true
 bM:ze1 K t.ak "reason"
 aY:ze1 K t.ak "word"
 eC:W.findIn K (.ref t.am) "__init__" = some (some (.ref t.aB))
 eh:W.isFn K (.ref t.aB)=true
 bX:ze1 K t.am "reason"
 a4:ze1 K t.am "word"
 eb:W.findIn K (.ref t.ah) "__init__" = some (some (.ref t.ar))
 dF:W.isFn K (.ref t.ar)=true
 bB:ze1 K t.ah "reason"
 aX:ze1 K t.ah "word"
 fu:W.findIn K (.ref t.au) "__init__" = some (some (.ref t.aF))
 eD:W.isFn K (.ref t.aF)=true
 ci:ze1 K t.au "reason"
 a8:ze1 K t.au "word"
 dG:W.findIn K (.ref t.ae) "__init__" = some (some (.ref t.ao))
 da:W.isFn K (.ref t.ao)=true
 bx:ze1 K t.ae "reason"
 aT:ze1 K t.ae "word"
 dH:W.findIn K (.ref t.af) "__init__" = some (some (.ref t.ap))
 db:W.isFn K (.ref t.ap)=true
 bz:ze1 K t.af "reason"
 aU:ze1 K t.af "word"
 ei:W.findIn K (.ref t.aq) "__init__" = some (some (.ref t.ay))
 ec:W.isFn K (.ref t.ay)=true
 bN:ze1 K t.aq "reason"
 cj:ze1 K t.aq "word"
 dc:W.findIn K (.ref t.ad) "__init__" = some (some (.ref t.al))
 cL:W.isFn K (.ref t.al)=true
 bs:ze1 K t.ad "reason"
 aP:ze1 K t.ad "word"
 gj:XWay K
 ed:XAsk K t.ak
 bt:W.exmOne K (.ref t.ak) (.ref t.ai)=some true
 ej:XAsk K t.am
 bA:W.exmOne K (.ref t.am) (.ref t.ai)=some true
 dI:XAsk K t.ah
 br:W.exmOne K (.ref t.ah) (.ref t.ai)=some true
 eE:XAsk K t.au
 bC:W.exmOne K (.ref t.au) (.ref t.ai)=some true
 dd:XAsk K t.ae
 bk:W.exmOne K (.ref t.ae) (.ref t.ai)=some true
 de:XAsk K t.af
 bl:W.exmOne K (.ref t.af) (.ref t.ai)=some true
 gk:XAsk K t.aq
 gl:W.exmOne K (.ref t.aq) (.ref t.ai)=some true
 cM:XAsk K t.ad
 bi:W.exmOne K (.ref t.ad) (.ref t.ai)=some true
 ai:yh2 K t.ai "__init__" t.aa
 aV:mg "tuple" = none
 aa:mg "len" = none
 am:mg "range" = none
 f0:mg "sum" = none
 f1:mg "zip" = none
 aW:mg "abs" = none
 aw:mg "str" = none
 ek:mg "int" = none
 f2:mg "all" = none
 co:mg "min" = none
 el:mg "max" = none
 bO:mg "list" = none
 bj:mg "isinstance" = none
 cN:mg "MOST_NOTCHES" = some (.int 4 t.cJ)
 ee:mg "MOST_ROOM" = some (.int 3 t.cO)
 dJ:mg "MOST_LIMIT" = some (.int 400 t.cM)
 cO:mg "MOST_WEIGHTS" = some (.int 5 t.cK)
 ef:mg "MOST_HEFT" = some (.int 20 t.cP)
 ck:mg "MOST_STANDINGS" = some (.int 1000 t.cH)
 dK:mg "MOST_MOVES" = some (.int 300 t.cN)
 cP:mg "MOST_FIGURES" = some (.int 4 t.cL)
 eF:mg "FIGURES" = some (.str (Str.ofString "0123456789") t.cQ)
end Bt
namespace Bt
open PySem L2
noncomputable def zs6 (cell base:Int) (mix:Bool):Nat->Int×List Int
 | 0=>(if mix=true then cell*48271 % 2147483647 else cell,[])
 | i+1 =>
   if mix=true then (((zs6 cell base mix i).1+(0+(i:Int))+1)*69621 % 2147483647,(zs6 cell base mix i).2++[(((zs6 cell base mix i).1+(0+(i:Int))+1)*69621 % 2147483647) / 8 % base])
   else ((zs6 cell base mix i).1 / base,(zs6 cell base mix i).2++[(zs6 cell base mix i).1 % base])
noncomputable def figs (cell:Int) (n:Nat) (base:Int) (mix:Bool):List Int:=(zs6 cell base mix n).2
theorem zI7 (cell base:Int) (mix:Bool) (n:Nat):(figs cell n base mix).length=n:=by
 unfold figs
 induction n with
 | zero=>rfl
 | succ n ih =>
   unfold zs6
   cases mix
   . rw[if_neg (by decide)];simp[ih]
   . rw[if_pos rfl];simp[ih]
theorem zW7 {cell base:Int} {mix:Bool} (hb:0<base) (n:Nat):∀ x∈figs cell n base mix,0<=x/\x<base:=by
 unfold figs
 induction n with
 | zero=>intro x hx;cases hx
 | succ n ih =>
   unfold zs6
   have key:∀ z:Int,0<=z % base/\z % base<base:=fun z=>⟨Int.emod_nonneg _ (by omega),Int.emod_lt_of_pos _ hb⟩
   intro x hx
   cases mix
   . rw[if_neg (by decide)] at hx
     rcases List.mem_append.mp hx with h | h
     . exact ih x h
     . obtain rfl:=List.mem_singleton.mp h;exact key _
   . rw[if_pos rfl] at hx
     rcases List.mem_append.mp hx with h | h
     . exact ih x h
     . obtain rfl:=List.mem_singleton.mp h;exact key _
structure zh5 (n r:Int) (hs:List Int) (lim:Int):Prop where
 n1:1<=n
 n2:n<=4
 r1:1<=r
 r2:r<=3
 l1:0<=lim
 l2:lim<=400
 w:hs.length<=5
 h:∀ x∈hs,1<=x/\x<=20
 most:(2*n+1) ^ hs.length<=1000
structure ze0 (n r:Int) (w:Nat) (xs:List Int):Prop where
 len:xs.length=w
 on:∀ x∈xs,-n<=x/\x<=n
 room:∀ x∈xs,x≠0->(xs.count x:Int)<=r
noncomputable abbrev at0 (ns:List Int) (k:Nat):Int:=ns.getD k 0
noncomputable def zv7 (ns:List Int):Bool:=decide (V.int (at0 ns 0 % 2)=V.int 1)
noncomputable def shN (ns:List Int):Int:=([2,3,1,4]:List Int).getD (at0 ns 1 % 4).toNat 0
noncomputable def shW (ns:List Int):Int :=
 if ([3,2,4,1,5,0]:List Int).getD (at0 ns 1 / 4 % 6).toNat 0<([5,4,3,3]:List Int).getD (shN ns-1).toNat 0 then ([3,2,4,1,5,0]:List Int).getD (at0 ns 1 / 4 % 6).toNat 0 else ([5,4,3,3]:List Int).getD (shN ns-1).toNat 0
noncomputable def shR (ns:List Int):Int:=1+at0 ns 1 / 24 % 3
noncomputable def shH0 (ns:List Int):List Int:=(figs (at0 ns 2) (shW ns).toNat 20 (zv7 ns)).map fun x=>1+x
noncomputable def shH (ns:List Int):List Int :=
 if at0 ns 0 / 2 % 5=1 then (List.replicate (shW ns).toNat ((shH0 ns).take 1)).flatten else if at0 ns 0 / 2 % 5=2 then (List.replicate (shW ns).toNat [20]).flatten else shH0 ns
theorem zL8 (ns:List Int):shN ns=2\/shN ns=3\/shN ns=1\/shN ns=4:=by
 unfold shN
 have h1:0<=at0 ns 1 % 4:=Int.emod_nonneg _ (by decide)
 have h2:at0 ns 1 % 4<4:=Int.emod_lt_of_pos _ (by decide)
 have:at0 ns 1 % 4=0\/at0 ns 1 % 4=1\/at0 ns 1 % 4=2\/at0 ns 1 % 4=3:=by omega
 rcases this with e | e | e | e<;>rw[e]<;>decide
theorem cap_of {n:Int}:n=2\/n=3\/n=1\/n=4->([5,4,3,3]:List Int).getD (n-1).toNat 0=(if n=1 then 5 else if n=2 then 4 else 3):=by
 rintro (rfl | rfl | rfl | rfl)<;>decide
theorem six_of (z:Int):0<=([3,2,4,1,5,0]:List Int).getD (z % 6).toNat 0/\([3,2,4,1,5,0]:List Int).getD (z % 6).toNat 0<=5:=by
 have h1:0<=z % 6:=Int.emod_nonneg _ (by decide)
 have h2:z % 6<6:=Int.emod_lt_of_pos _ (by decide)
 have:z % 6=0\/z % 6=1\/z % 6=2\/z % 6=3\/z % 6=4\/z % 6=5:=by omega
 rcases this with e | e | e | e | e | e<;>rw[e]<;>decide
theorem yf8 (ns:List Int):0<=shW ns/\shW ns<=(if shN ns=1 then 5 else if shN ns=2 then 4 else 3):=by
 unfold shW
 obtain ⟨h1,h2⟩:=six_of (at0 ns 1 / 4)
 rw[cap_of (zL8 ns)]
 have h3:(0:Int)<=(if shN ns=1 then 5 else if shN ns=2 then 4 else 3):=by repeat (first | decide | split)
 split<;>omega
theorem pow_cap {n:Int} (h:n=2\/n=3\/n=1\/n=4) {w:Nat} (hw:(w:Int)<=(if n=1 then 5 else if n=2 then 4 else 3)):(2*n+1) ^ w<=1000:=by
 have h5:(if n=1 then (5:Int) else if n=2 then 4 else 3)<=5:=by repeat (first | decide | split)
 have:w=0\/w=1\/w=2\/w=3\/w=4\/w=5:=by omega
 rcases h with rfl | rfl | rfl | rfl<;>rcases this with rfl | rfl | rfl | rfl | rfl | rfl<;>first | decide | (exfalso;revert hw;decide)
theorem zY5 (ns:List Int):(shH0 ns).length=(shW ns).toNat:=by unfold shH0;rw[List.length_map,zI7]
theorem shH_len (ns:List Int):(shH ns).length=(shW ns).toNat:=by
 unfold shH
 have h0:=zY5 ns
 split
 . rw[zV9,List.length_take,h0]
   by_cases h:(shW ns).toNat=0
   . rw[h];simp
   . rw[Nat.min_eq_left (by omega),Nat.mul_one]
 . split
   . rw[zV9];simp
   . exact h0
theorem yd5 (ns:List Int):∀ x∈shH0 ns,1<=x/\x<=20:=by
 intro x hx
 unfold shH0 at hx
 obtain ⟨y,hy,rfl⟩:=List.mem_map.mp hx
 have:=zW7 (by decide) _ y hy
 omega
theorem shH_in (ns:List Int):∀ x∈shH ns,1<=x/\x<=20:=by
 intro x hx
 unfold shH at hx
 split at hx
 . obtain ⟨l,hl,hx⟩:=List.mem_flatten.mp hx
   obtain ⟨_,rfl⟩:=List.mem_replicate.mp hl
   exact yd5 ns x (List.mem_of_mem_take hx)
 . split at hx
   . obtain ⟨l,hl,hx⟩:=List.mem_flatten.mp hx
     obtain ⟨_,rfl⟩:=List.mem_replicate.mp hl
     obtain rfl:=List.mem_singleton.mp hx
     omega
   . exact yd5 ns x hx
theorem sh_ok (ns:List Int) {lim:Int} (h1:0<=lim) (h2:lim<=400):zh5 (shN ns) (shR ns) (shH ns) lim:=by
 have hN:=zL8 ns
 have hW:=yf8 ns
 have hl:=shH_len ns
 have h5:(if shN ns=1 then (5:Int) else if shN ns=2 then 4 else 3)<=5:=by repeat (first | decide | split)
 have hR1:0<=at0 ns 1 / 24 % 3:=Int.emod_nonneg _ (by decide)
 have hR2:at0 ns 1 / 24 % 3<3:=Int.emod_lt_of_pos _ (by decide)
 exact⟨by omega,by omega,by unfold shR;omega,by unfold shR;omega,h1,h2,by omega,shH_in ns,pow_cap hN (by omega)⟩
noncomputable def zt0 (n r:Int) (last:Bool) (made:List Int) (x:Int):List Int :=
 made++[if (if last=true then n else x-n)≠0/\r<=(made.count (if last=true then n else x-n):Int) then 0 else (if last=true then n else x-n)]
noncomputable def putL (n r:Int) (last:Bool) (xs:List Int):List Int:=xs.foldl (zt0 n r last) []
noncomputable def zY6 (ns:List Int) (k:Nat) (more n r:Int) (w:Nat):List Int :=
 putL n r (decide (V.int ((at0 ns k+more) % 13)=V.int 12)) (figs (at0 ns k+more) w (2*n+1) (zv7 ns))
theorem zS9 (n r:Int) (last:Bool) (xs:List Int) (x:Int):putL n r last (xs++[x])=zt0 n r last (putL n r last xs) x:=by
 unfold putL;rw[List.foldl_append];rfl
theorem yd6 {n r:Int} (last:Bool) (hn:0<=n) (hr:1<=r) (xs:List Int) (hx:∀ x∈xs,0<=x/\x<2*n+1) :
   (putL n r last xs).length=xs.length/\(∀ y∈putL n r last xs,-n<=y/\y<=n)/\∀ y,y≠0->((putL n r last xs).count y:Int)<=r:=by
 have main:∀ (k:Nat) (xs:List Int),xs.length=k->(∀ x∈xs,0<=x/\x<2*n+1)->(putL n r last xs).length=xs.length/\(∀ y∈putL n r last xs,-n<=y/\y<=n)/\∀ y,y≠0->((putL n r last xs).count y:Int)<=r:=by
   intro k
   induction k with
   | zero =>
     intro xs hk _
     have:xs=[]:=List.eq_nil_of_length_eq_zero hk
     subst this
     exact⟨rfl,(fun y hy=>nomatch hy),fun y _=>by show ((([]:List Int).count y:Nat):Int)<=r;simp;omega⟩
   | succ k ih =>
     intro xs hk hx
     obtain ⟨ys,x,rfl⟩:∃ ys x,xs=ys++[x]:=⟨xs.dropLast,xs.getLast (by intro e;rw[e] at hk;cases hk),(List.dropLast_concat_getLast _).symm⟩
     have hk':ys.length=k:=by rw[List.length_append,List.length_singleton] at hk;omega
     obtain ⟨h1,h2,h3⟩:=ih ys hk' fun z hz=>hx z (List.mem_append_left _ hz)
     have hx0:=hx x (List.mem_append_right _ (List.mem_singleton.mpr rfl))
     rw[zS9]
     unfold zt0
     have hp:-n<=(if last=true then n else x-n)/\(if last=true then n else x-n)<=n:=by split<;>omega
     generalize (if last=true then n else x-n)=p at hp ⊢
     refine⟨by rw[List.length_append,List.length_append,h1];rfl,fun y hy=>?_,fun y hy=>?_⟩
     . rcases List.mem_append.mp hy with hy | hy
       . exact h2 y hy
       . obtain rfl:=List.mem_singleton.mp hy
         split<;>omega
     . rw[List.count_append,List.count_singleton]
       have h3y:=h3 y hy
       by_cases hc:p≠0/\r<=((putL n r last ys).count p:Int)
       . rw[if_pos hc]
         have:((0:Int) == y)=false:=by simpa using fun e=>hy e.symm
         rw[this]
         simpa using h3y
       . rw[if_neg hc]
         by_cases e:p=y
         . subst e
           have:¬ r<=((putL n r last ys).count p:Int):=fun z=>hc ⟨hy,z⟩
           simp
           omega
         . have:(p == y)=false:=by simpa using e
           rw[this]
           simpa using h3y
 exact main xs.length xs rfl hx
theorem yf9 (ns:List Int) (k:Nat) (more:Int) {n r:Int} (w:Nat) (hn:1<=n) (hr:1<=r):ze0 n r w (zY6 ns k more n r w):=by
 unfold zY6
 obtain ⟨h1,h2,h3⟩:=yd6 (n:=n) (r:=r) (decide (V.int ((at0 ns k+more) % 13)=V.int 12)) (by omega) hr (figs (at0 ns k+more) w (2*n+1) (zv7 ns)) (zW7 (by omega) w)
 exact⟨by rw[h1,zI7],h2,fun x _ h0=>h3 x h0⟩
noncomputable def zI8 (n r:Int) (h:Addr) (lim:Int):List (Str×V):=putF "limit" (.int lim) (putF "hefts" (.ref h) (putF "room" (.int r) (putF "notches" (.int n) [])))
theorem zp6 (n r:Int) (h:Addr) (lim:Int):(zI8 n r h lim).lookup ("notches" : Str)=some (V.int n):=by
 unfold zI8
 rw[zd2,if_neg (by decide +kernel),zd2,if_neg (by decide +kernel),zd2,if_neg (by decide +kernel),zd2,if_pos rfl]
theorem ya5 (n r:Int) (h:Addr) (lim:Int):(zI8 n r h lim).lookup ("room" : Str)=some (V.int r):=by
 unfold zI8
 rw[zd2,if_neg (by decide +kernel),zd2,if_neg (by decide +kernel),zd2,if_pos rfl]
theorem zE6 (n r:Int) (h:Addr) (lim:Int):(zI8 n r h lim).lookup ("hefts" : Str)=some (V.ref h):=by
 unfold zI8
 rw[zd2,if_neg (by decide +kernel),zd2,if_pos rfl]
theorem b_limit (n r:Int) (h:Addr) (lim:Int):(zI8 n r h lim).lookup ("limit" : Str)=some (V.int lim):=by
 unfold zI8
 rw[zd2,if_pos rfl]
noncomputable def zg7 (t:Adr) (H:Hp) (b:Addr) (n r:Int) (hs:List Int) (lim:Int):Prop :=
 zh5 n r hs lim/\∃ dx h,H b=some (.ins t.aU dx (zI8 n r h lim))/\H h=some (.tup (hs.map V.int))
theorem zg7.same {t:Adr} {H H':Hp} {b:Addr} {n r:Int} {hs:List Int} {lim:Int} (B:zg7 t H b n r hs lim) (s:Same H H'):zg7 t H' b n r hs lim:=by
 obtain ⟨ok,dx,h,e1,e2⟩:=B
 exact⟨ok,dx,h,s _ _ e1,s _ _ e2⟩
noncomputable def zo1 (K:W.Frag) (t:Adr):Sp:=fun vs H Q _=>∃ a lo hi:Int,vs=[.int a,.int lo,.int hi]/\Q (.bl (decide (a<lo) || decide (hi<a))) H
noncomputable def zA1 (K:W.Frag) (t:Adr):Sp:=fun vs H Q _=>∃ n r l:Int,vs=[.int n,.int r,.int l]/\(1<=n/\n<=4/\1<=r/\r<=3/\0<=l/\l<=400)/\Q .non H
noncomputable def zC6 (K:W.Frag) (t:Adr):Sp:=fun vs H Q _=>∃ (a:Addr) (hs:List Int),vs=[.ref a]/\(SqL K H a (hs.map V.int)\/SqT K H a (hs.map V.int))/\(hs.length<=5/\∀ x∈hs,1<=x/\x<=20)/\Q .non H
noncomputable def zu2 (K:W.Frag) (t:Adr):Sp:=fun vs H Q _=>∃ (n:Int) (w:Nat),vs=[.int n,.int w]/\(1<=n/\n<=4/\w<=5/\(2*n+1) ^ w<=1000)/\Q .non H
noncomputable def zI9 (K:W.Frag) (t:Adr):Sp:=fun vs H Q _=>∃ (p dx a:Addr) (n r lim:Int) (hs:List Int),vs=[.ref p,.int n,.int r,.ref a,.int lim]/\H p=some (.ins t.aU dx []) ∧
 (SqL K H a (hs.map V.int)\/H a=some (.tup (hs.map V.int)))/\zh5 n r hs lim/\∀ H',zg7 t H' p n r hs lim->zr5 p H H'->Q .non H'
noncomputable def zg8 (K:W.Frag) (t:Adr):Sp:=fun vs H Q _=>∃ (b a:Addr) (n r lim:Int) (hs xs:List Int),vs=[.ref b,.ref a]/\zg7 t H b n r hs lim/\ze0 n r hs.length xs ∧
 (SqL K H a (xs.map V.int)\/H a=some (.tup (xs.map V.int)))/\∀ l H',Same H H'->H' l=some (.tup (xs.map V.int))->Q (.ref l) H'
noncomputable def zE7 (K:W.Frag) (t:Adr):Sp:=fun vs H Q _=>∃ (a:Addr) (ns:List Int) (k:Nat),vs=[.ref a,.int k]/\SqL K H a (ns.map V.int)/\Q (.int (ns.getD k 0)) H
noncomputable def zL9 (K:W.Frag) (t:Adr):Sp:=fun vs H Q _=>∃ (cell base:Int) (n:Nat) (mix:Bool),vs=[.int cell,.int n,.int base,.bl mix]/\(n<=1000/\0<base/\base<1000) ∧
 ∀ l,H l=none->Q (.ref l) (upd H l (.lst ((figs cell n base mix).map V.int)))
noncomputable def zP7 (K:W.Frag) (t:Adr):Sp:=fun vs H Q _=>∃ (a:Addr) (ns:List Int),vs=[.ref a]/\SqL K H a (ns.map V.int) ∧
 ∀ l h H',Same H H'->H l=none->H h=none->H' h=some (.lst ((shH ns).map V.int))->H' l=some (.lst [.int (shN ns),.int (shR ns),.ref h])->Q (.ref l) H'
noncomputable def zY7 (K:W.Frag) (t:Adr):Sp:=fun vs H Q _=>∃ (a sh h:Addr) (ns:List Int) (k:Nat) (more n r:Int) (hs:List Int),vs=[.ref a,.int k,.int more,.ref sh]/\SqL K H a (ns.map V.int) ∧
 H sh=some (.lst [.int n,.int r,.ref h])/\SqL K H h (hs.map V.int)/\(1<=n/\n<=4/\1<=r/\hs.length<=5) ∧
 ∀ l H',Same H H'->H l=none->H' l=some (.lst ((zY6 ns k more n r hs.length).map V.int))->Q (.ref l) H'
noncomputable def zY8 (K:W.Frag):Sp:=fun vs H Q _=>∃ (a:Addr) (ns:List Int),vs=[.ref a]/\SqL K H a (ns.map V.int)/\ns.length<=63/\∀ H',Q (.bl true) H'
noncomputable def sp_law (K:W.Frag) (t:Adr):Sp:=zY8 K
section
variable {P:Program} {w:World} {K:W.Frag} {mg:Str->Option Value} {base:Heap} {t:Adr}
theorem zq7 (T:Txt K mg t):FnOk P w K mg base CX0 1 t.az t.aD ["number","low","high"] (zo1 K t):=by
 refine T.em.ok sc_outside (fun vs H Q E h=>?_) (fun cdv A outer s H vs Q E hr h=>?_)
 . obtain ⟨a,lo,hi,rfl,q⟩:=h
   rfl
 . obtain ⟨a,lo,hi,rfl,q⟩:=h
   refine⟨_,(za6 (zb8 (pe_or (zq9 zH2 (pv 0) (pv 1) (zb9 _)) (ye3 (zq9 zv2 (pv 0) (pv 2) (zb9 _)))))),?_⟩
   refine⟨_,rfl,_,rfl,_,_,rfl,rfl,_,rfl,?_⟩
   refine ite2 (fun h1=>?_) (fun h1=>?_)
   . rw[h1] at q
     exact q
   . rw[Bool.eq_false_iff.mpr h1] at q
     exact⟨_,rfl,_,rfl,_,_,rfl,rfl,q⟩
theorem ok_check_bounds (T:Txt K mg t):FnOk P w K mg base CX0 2 t.aL t.bb ["notches","room","limit"] (zA1 K t):=by
 have Gaa:FnOk P w K mg base CX0 1 t.az t.aD ["number","low","high"] (zo1 K t):=zq7 T
 refine T.cr.ok sc_check_bounds (fun vs H Q E h=>?_) (fun cdv A outer s H vs Q E hr h=>?_)
 . obtain ⟨n,r,l,rfl,⟨h1,h2,h3,h4,h5,h6⟩,q⟩:=h
   rfl
 . obtain ⟨n,r,l,rfl,⟨h1,h2,h3,h4,h5,h6⟩,q⟩:=h
   have haa:Room 1 _:=hr.mono (by decide)
   refine⟨_,(za4 (zd1 (zh4 (za7 Gaa haa rfl T.ar T.au T.aq .nil zb4 (za0 (pv 0) (za0 za1 (za0 (zs8 (v:=.int 4) rfl T.cN ⟨_,rfl⟩) za2))))) (za6 zh3) zb5)
     (za4 (zd1 (zh4 (za7 Gaa haa rfl T.ar T.au T.aq .nil zb4 (za0 (pv 1) (za0 za1 (za0 (zs8 (v:=.int 3) rfl T.ee ⟨_,rfl⟩) za2))))) (za6 zh3) zb5)
     (za6 (zd1 (zh4 (za7 Gaa haa rfl T.ar T.au T.aq .nil zb4 (za0 (pv 2) (za0 za1 (za0 (zs8 (v:=.int 400) rfl T.dJ ⟨_,rfl⟩) za2))))) (za6 zh3) zb5)))),?_⟩
   refine⟨_,rfl,_,_,_,rfl,_,rfl,iteB (zB2 h1 h2) ?_⟩
   refine⟨_,rfl,_,_,_,rfl,_,rfl,iteB (zB2 h3 h4) ?_⟩
   exact⟨_,rfl,_,_,_,rfl,_,rfl,iteB (zB2 h5 h6) q⟩
theorem ok_check_hefts (T:Txt K mg t):FnOk P w K mg base CX0 2 t.aV t.bs ["hefts"] (zC6 K t):=by
 have Gaa:FnOk P w K mg base CX0 1 t.az t.aD ["number","low","high"] (zo1 K t):=zq7 T
 refine T.cS.ok zC0 (fun vs H Q E h=>?_) (fun cdv A outer s H vs Q E hr h=>?_)
 . obtain ⟨a,hs,rfl,hS,⟨hl,hh⟩,q⟩:=h
   rfl
 . obtain ⟨a,hs,rfl,hS,⟨hl,hh⟩,q⟩:=h
   have haa:Room 1 _:=hr.mono (by decide)
   refine⟨_,(za4 (zd1 (zb3 zv2 (zc3 zc1 rfl T.aa PySem.boot_len (za0 (pv 0) za2)) (zs8 (v:=.int 5) rfl T.cO ⟨_,rfl⟩) (zb9 _)) (za6 zh3) zb5)
     (za6 (zn9 PassesOwn.never rfl (pi_seq (pv 0)) (zc7 (i:=1) zC0.nd rfl (Or.inl rfl)) (za6 (zd1 (zh4 (za7 Gaa haa rfl T.ar T.au T.aq .nil zb4 (za0 (pv 1) (za0 za1 (za0 (zs8 (v:=.int 20) rfl T.ef ⟨_,rfl⟩) za2))))) (za6 zh3) zb5))))),?_⟩
   refine⟨_,rfl,a,hs.map V.int,rfl,hS,_,_,rfl,rfl,_,rfl,iteB (zP0 (by rw[List.length_map];omega)) ?_⟩
   refine⟨_,rfl,a,rfl,?_⟩
   have turn:∀ (i:Nat) x,(hs.map V.int)[i]?=some x->∃ z,x = .int z/\1<=z/\z<=20:=fun i x e=>by
     obtain ⟨z,rfl,hz⟩:=zz3 e
     exact⟨z,rfl,hh z (List.mem_of_getElem? hz)⟩
   rcases hS with hS | hS
   . refine .inl ⟨⟨_,hS⟩,zA9 (K:=K) (a:=a) (xs:=hs.map V.int) (fun i σ H'=>∃ v,σ=[some (.ref a),v]/\H'=H) ⟨_,rfl,rfl⟩ (fun i σ H' _ ⟨_,_,e⟩=>e▸hS) ?_ ?_⟩
     . rintro i x σ H' hi ⟨v,rfl,rfl⟩
       obtain ⟨z,rfl,h1,h2⟩:=turn i x hi
       exact⟨_,rfl,_,_,_,rfl,_,rfl,iteB (zB2 h1 h2) ⟨_,rfl,rfl⟩⟩
     . rintro σ H' ⟨v,rfl,rfl⟩
       exact q
   . refine .inr ⟨⟨_,hS⟩,zV4 (K:=K) (a:=a) (xs:=hs.map V.int) (fun i σ H'=>∃ v,σ=[some (.ref a),v]/\H'=H) ⟨_,rfl,rfl⟩ (fun i σ H' _ ⟨_,_,e⟩=>e▸hS) ?_ ?_⟩
     . rintro i x σ H' hi ⟨v,rfl,rfl⟩
       obtain ⟨z,rfl,h1,h2⟩:=turn i x hi
       exact⟨_,rfl,_,_,_,rfl,_,rfl,iteB (zB2 h1 h2) ⟨_,rfl,rfl⟩⟩
     . rintro σ H' ⟨v,rfl,rfl⟩
       exact q
theorem ok_check_standings (T:Txt K mg t):FnOk P w K mg base CX0 1 t.aA t.aS ["notches","weights"] (zu2 K t):=by
 refine T.bT.ok zj8 (fun vs H Q E h=>?_) (fun cdv A outer s H vs Q E hr h=>?_)
 . obtain ⟨n,w,rfl,⟨h1,h2,h3,h4⟩,q⟩:=h
   rfl
 . obtain ⟨n,w,rfl,⟨h1,h2,h3,h4⟩,q⟩:=h
   refine⟨_,(za4 (zb7 (i:=2) zj8.nd rfl (Or.inl rfl) za1)
     (za4 (zn9 PassesOwn.never rfl (zo2 rfl T.am (za0 (pv 1) za2)) (zc7 (i:=3) zj8.nd rfl (Or.inl rfl)) (za6 (zb7 (i:=2) zj8.nd rfl (Or.inl rfl) (zb0 zl5 (pv 2) (zb0 ze8 (zb0 zl5 za1 (pv 0)) za1)))))
     (za6 (zd1 (zb3 zv2 (pv 2) (zs8 (v:=.int 1000) rfl T.ck ⟨_,rfl⟩) (zb9 _)) (za6 zh3) zb5)))),?_⟩
   refine⟨_,rfl,_,rfl,by omega,by omega,zk2 (n:=(w:Int).toNat) (fun i σ H'=>∃ v,σ=[some (.int n),some (.int w),some (.int ((2*n+1) ^ i)),v]/\H'=H) ⟨none,by rw[Int.pow_zero];rfl,rfl⟩ ?_ ?_⟩
   . rintro i σ H' hi ⟨v,rfl,rfl⟩
     exact⟨_,rfl,_,rfl,_,_,rfl,rfl,.inl ⟨by decide,by decide⟩,_,_,rfl,rfl,_,_,rfl,rfl,.inr ⟨by omega,by omega⟩,_,by rw[Int.pow_succ];rfl,rfl⟩
   . rintro σ H' ⟨v,rfl,rfl⟩
     exact⟨_,rfl,_,_,rfl,rfl,_,rfl,iteB (zP0 (by rw[Int.toNat_natCast];exact h4)) q⟩
theorem ok_Beam_init (T:Txt K mg t):FnOk P w K mg base CX0 3 t.bg t.bM ["self","notches","room","hefts","limit"] (zI9 K t):=by
 have Gab:FnOk P w K mg base CX0 2 t.aL t.bb ["notches","room","limit"] (zA1 K t):=ok_check_bounds T
 have Gac:FnOk P w K mg base CX0 2 t.aV t.bs ["hefts"] (zC6 K t):=ok_check_hefts T
 have Gad:FnOk P w K mg base CX0 1 t.aA t.aS ["notches","weights"] (zu2 K t):=ok_check_standings T
 refine T.dL.ok sc_Beam_init (fun vs H Q E h=>?_) (fun cdv A outer s H vs Q E hr h=>?_)
 . obtain ⟨p,dx,a,n,r,lim,hs,rfl,hp,hS,B,q⟩:=h
   rfl
 . obtain ⟨p,dx,a,n,r,lim,hs,rfl,hp,hS,B,q⟩:=h
   have hab:Room 2 _:=hr.mono (by decide)
   have hac:Room 2 _:=hr.mono (by decide)
   have had:Room 1 _:=hr.mono (by decide)
   refine⟨_,(za4 (ze7 (za7 Gab hab rfl T.ct T.cu T.cs .nil zb4 (za0 (pv 1) (za0 (pv 2) (za0 (pv 4) za2)))))
     (za4 (ze7 (za7 Gac hac rfl T.cU T.cV T.cT .nil zb4 (za0 (pv 3) za2)))
     (za4 (ze7 (za7 Gad had rfl T.bV T.bW T.bU .nil zb4 (za0 (pv 1) (za0 (zc3 zc1 rfl T.aa PySem.boot_len (za0 (pv 3) za2)) za2))))
     (za4 (zw4 (pv 0) (pv 1) rfl)
     (za4 (zw4 (pv 0) (pv 2) rfl)
     (za4 (zw4 (pv 0) (zd9 zn4 rfl T.aV PyProof.Rows.boot_tuple (za0 (pv 3) za2)) rfl)
     (za6 (zw4 (pv 0) (pv 4) rfl)))))))),?_⟩
   have hS':SqL K H a (hs.map V.int)\/SqT K H a (hs.map V.int):=hS.imp id SqT.of
   refine⟨_,rfl,_,rfl,_,rfl,n,r,lim,rfl,⟨B.n1,B.n2,B.r1,B.r2,B.l1,B.l2⟩,?_⟩
   refine⟨_,rfl,a,hs,rfl,hS',⟨B.w,B.h⟩,?_⟩
   refine⟨_,rfl,_,rfl,a,_,rfl,hS',n,hs.length,by rw[List.length_map];rfl,⟨B.n1,B.n2,B.w,B.most⟩,?_⟩
   refine⟨_,rfl,_,rfl,p,_,dx,_,rfl,hp,T.ab,T.ae,by decide,?_⟩
   refine⟨_,rfl,_,rfl,p,_,dx,_,rfl,za3,T.ab,T.aH,zB3 fl0,?_⟩
   have hne:∀ {b:Addr} {o:HO},H b=some o->o≠.ins t.aU dx []->b≠p:=fun e ne=>zM4 e hp ne
   refine⟨_,rfl,a,hs.map V.int,rfl,?_⟩
   rcases hS with hS | hS
   . have nap:∀ o,SqL K (upd (upd H p o) p o) a (hs.map V.int)->True:=fun _ _=>trivial
     refine .inl ⟨?_,fun l hl=>?_⟩
     . rcases hS with (hS | ⟨ob,hS⟩) | hS
       . exact .inl (.inl (by rw[za8 (hne hS (by intro z;cases z)),za8 (hne hS (by intro z;cases z))];exact hS))
       . exact .inl (.inr ⟨ob,by rw[za8 (hne hS (by intro z;cases z)),za8 (hne hS (by intro z;cases z))];exact hS⟩)
       . exact .inr hS
     . have hlp:l≠p:=fun z=>by rw[z,za3] at hl;cases hl
       have hl0:H l=none:=by rw[za8 hlp,za8 hlp] at hl;exact hl
       refine⟨_,rfl,p,_,dx,_,rfl,(by rw[za8 hlp.symm];exact za3),T.ab,T.ag,zB3 (flS fl0),?_⟩
       refine⟨_,rfl,_,rfl,p,_,dx,_,rfl,za3,T.ab,T.aO,zB3 (flS (flS fl0)),?_⟩
       refine q _ ⟨B,dx,l,za3,by rw[za8 hlp,za8 hlp,za3]⟩ fun b o e hb=>?_
       rw[za8 hb,za8 hb,za8 (zc0 e hl0),za8 hb,za8 hb]
       exact e
   . have hap:a≠p:=hne hS (by intro z;cases z)
     refine .inr ⟨SqT.of (by rw[za8 hap,za8 hap];exact hS),?_⟩
     refine⟨_,rfl,p,_,dx,_,rfl,za3,T.ab,T.ag,zB3 (flS fl0),?_⟩
     refine⟨_,rfl,_,rfl,p,_,dx,_,rfl,za3,T.ab,T.aO,zB3 (flS (flS fl0)),?_⟩
     refine q _ ⟨B,dx,a,za3,by rw[za8 hap,za8 hap,za8 hap,za8 hap];exact hS⟩ fun b o e hb=>?_
     rw[za8 hb,za8 hb,za8 hb,za8 hb]
     exact e
theorem zh6 (T:Txt K mg t):FnOk P w K mg base CX0 2 t.ag t.aj ["beam","standing"] (zg8 K t):=by
 have Gaa:FnOk P w K mg base CX0 1 t.az t.aD ["number","low","high"] (zo1 K t):=zq7 T
 refine T.cW.ok zu0 (fun vs H Q E h=>?_) (fun cdv A outer s H vs Q E hr h=>?_)
 . obtain ⟨b,a,n,r,lim,hs,xs,rfl,B,V0,hS,q⟩:=h
   rfl
 . obtain ⟨b,a,n,r,lim,hs,xs,rfl,B,V0,hS,q⟩:=h
   have haa:Room 1 _:=hr.mono (by decide)
   refine⟨_,(za4 (zb7 (i:=2) zu0.nd rfl (Or.inl rfl) (zd9 zn4 rfl T.aV PyProof.Rows.boot_tuple (za0 (pv 1) za2)))
     (za4 (zd1 (zb3 zr2 (zc3 zc1 rfl T.aa PySem.boot_len (za0 (pv 2) za2)) (zc3 zc1 rfl T.aa PySem.boot_len (za0 (zg1 (pv 0) rfl) za2)) (zb9 _)) (za6 zh3) zb5)
     (za4 (zn9 PassesOwn.never rfl (ya0 (pv 2)) (zc7 (i:=3) zu0.nd rfl (Or.inl rfl)) (za4 (zd1 (zh4 (za7 Gaa haa rfl T.ar T.au T.aq .nil zb4 (za0 (pv 3) (za0 (zn1 zh8 (zg1 (pv 0) rfl)) (za0 (zg1 (pv 0) rfl) za2))))) (za6 zh3) zb5)
     (za6 (zd1 (PW.pt (zw3 (zb3 zr2 (pv 3) za1 (zb9 _)) (zv0 (zb3 zv2 (yc1 PySem.F.slot_tuple_count PySem.F.type_tuple_count zD6 (pv 2) (za0 (pv 3) za2)) (zg1 (pv 0) rfl) (zb9 _))))) (za6 zh3) zb5))))
     (za6 (zb8 (pv 2)))))),?_⟩
   refine⟨_,rfl,a,xs.map V.int,rfl,?_⟩
   rcases hS with hS | hT
   . refine .inl ⟨hS,fun l hl=>?_⟩
     replace q:=q l _ (Same.upd hl) za3
     have hT:(upd H l (.tup (xs.map V.int))) l=some (.tup (xs.map V.int)):=za3
     replace B:=B.same (Same.upd (o:=.tup (xs.map V.int)) hl)
     revert q hT B
     generalize upd H l (.tup (xs.map V.int))=H1
     intro q hT B
     obtain ⟨ok,dx,h,hb,hh⟩:=B
     refine⟨_,rfl,_,_,rfl,.inr (SqT.of hT),_,rfl,b,_,dx,_,_,rfl,hb,T.ab,T.ag,zE6 _ _ _ _,h,_,rfl,.inr (SqT.of hh),rfl,_,rfl,?_⟩
     refine iteB (by rw[List.length_map,List.length_map,V0.len];simp) ?_
     refine⟨_,rfl,_,rfl,⟨_,SqT.of hT⟩,zV4 (K:=K) (xs:=xs.map V.int) (fun i σ H'=>∃ v,σ=[some (.ref b),some (.ref a),some (.ref l),v]/\H'=H1) ⟨none,rfl,rfl⟩ (fun i σ H' _ ⟨_,_,e⟩=>e▸SqT.of hT) ?_ ?_⟩
     . rintro i x σ H' hi ⟨v,rfl,rfl⟩
       obtain ⟨z,rfl,hz⟩:=zz3 hi
       have hm:=List.mem_of_getElem? hz
       obtain ⟨z1,z2⟩:=V0.on z hm
       refine⟨_,rfl,_,rfl,b,_,dx,_,_,rfl,hb,T.ab,T.ae,zp6 _ _ _ _,_,rfl,_,rfl,b,_,dx,_,_,rfl,hb,T.ab,T.ae,zp6 _ _ _ _,z,-n,n,rfl,_,rfl,iteB (zB2 z1 z2) ?_⟩
       refine⟨_,rfl,rfl,_,rfl,?_⟩
       refine ite2 (fun h1=>?_) (fun h1=>?_)
       . have hz0:z≠0:=by
           intro e
           subst e
           simp at h1
         exact⟨_,rfl,⟨_,_,rfl,hT⟩,_,rfl,_,xs,z,rfl,rfl,SqT.of hT,_,rfl,b,_,dx,_,_,rfl,hb,T.ab,T.aH,ya5 _ _ _ _,_,_,rfl,rfl,_,rfl,iteB (zP0 (V0.room z hm hz0)) ⟨_,rfl,rfl⟩⟩
       . exact iteF ⟨_,rfl,rfl⟩
     . rintro σ H' ⟨v,rfl,rfl⟩
       exact⟨_,rfl,q⟩
   . refine .inr ⟨SqT.of hT,?_⟩
     replace q:=q a _ (Same.refl _) hT
     obtain ⟨ok,dx,h,hb,hh⟩:=B
     refine⟨_,rfl,_,_,rfl,.inr (SqT.of hT),_,rfl,b,_,dx,_,_,rfl,hb,T.ab,T.ag,zE6 _ _ _ _,h,_,rfl,.inr (SqT.of hh),rfl,_,rfl,?_⟩
     refine iteB (by rw[List.length_map,List.length_map,V0.len];simp) ?_
     refine⟨_,rfl,_,rfl,⟨_,SqT.of hT⟩,zV4 (K:=K) (xs:=xs.map V.int) (fun i σ H'=>∃ v,σ=[some (.ref b),some (.ref a),some (.ref a),v]/\H'=H) ⟨none,rfl,rfl⟩ (fun i σ H' _ ⟨_,_,e⟩=>e▸SqT.of hT) ?_ ?_⟩
     . rintro i x σ H' hi ⟨v,rfl,rfl⟩
       obtain ⟨z,rfl,hz⟩:=zz3 hi
       have hm:=List.mem_of_getElem? hz
       obtain ⟨z1,z2⟩:=V0.on z hm
       refine⟨_,rfl,_,rfl,b,_,dx,_,_,rfl,hb,T.ab,T.ae,zp6 _ _ _ _,_,rfl,_,rfl,b,_,dx,_,_,rfl,hb,T.ab,T.ae,zp6 _ _ _ _,z,-n,n,rfl,_,rfl,iteB (zB2 z1 z2) ?_⟩
       refine⟨_,rfl,rfl,_,rfl,?_⟩
       refine ite2 (fun h1=>?_) (fun h1=>?_)
       . have hz0:z≠0:=by
           intro e
           subst e
           simp at h1
         exact⟨_,rfl,⟨_,_,rfl,hT⟩,_,rfl,_,xs,z,rfl,rfl,SqT.of hT,_,rfl,b,_,dx,_,_,rfl,hb,T.ab,T.aH,ya5 _ _ _ _,_,_,rfl,rfl,_,rfl,iteB (zP0 (V0.room z hm hz0)) ⟨_,rfl,rfl⟩⟩
       . exact iteF ⟨_,rfl,rfl⟩
     . rintro σ H' ⟨v,rfl,rfl⟩
       exact⟨_,rfl,q⟩
noncomputable def zc5 (hs xs:List Int):Int:=(List.zipWith (fun h x=>h*x) hs xs).sum
noncomputable def absI (i:Int):Int:=if i<0 then -i else i
noncomputable def zu3 (z:Int):Str:=if z<0 then "left" else if 0<z then "right" else "level"
noncomputable def mulV (x y:V):V:=match x,y with
 | .int a,.int b=>.int (a*b)
 | _,_=>.non
theorem zY9:∀ (hs xs:List Int),List.zipWith mulV (hs.map V.int) (xs.map V.int)=(List.zipWith (fun h x=>h*x) hs xs).map V.int
 | [],_=>rfl
 | _::_,[]=>rfl
 | h::hs,x::xs=>by
   show V.int (h*x)::List.zipWith mulV (hs.map V.int) (xs.map V.int)=_
   rw[zY9 hs xs]
   rfl
theorem zM0:∀ {hs xs:List Int} {B:Int},(∀ h∈hs,1<=h/\h<=20)->(∀ x∈xs,-B<=x/\x<=B)->0<=B->∀ z∈List.zipWith (fun h x=>h*x) hs xs,-(20*B)<=z/\z<=20*B
 | [],_,_,_,_,_=>(fun z hz=>by simp at hz)
 | _::_,[],_,_,_,_=>(fun z hz=>by simp at hz)
 | h::hs,x::xs,B,h1,h2,hB=>fun z hz=>by
   rw[List.zipWith_cons_cons] at hz
   rcases List.mem_cons.mp hz with rfl | hz
   . obtain ⟨a1,a2⟩:=h1 h List.mem_cons_self
     obtain ⟨b1,b2⟩:=h2 x List.mem_cons_self
     have c1:h*x<=h*B:=Int.mul_le_mul_of_nonneg_left b2 (by omega)
     have c2:h*B<=20*B:=Int.mul_le_mul_of_nonneg_right a2 hB
     have c3:h * -B<=h*x:=Int.mul_le_mul_of_nonneg_left b1 (by omega)
     have c4:h * -B = -(h*B):=Int.mul_neg h B
     omega
   . exact zM0 (fun y hy=>h1 y (List.mem_cons_of_mem _ hy)) (fun y hy=>h2 y (List.mem_cons_of_mem _ hy)) hB z hz
theorem tilt_fits {n r lim:Int} {hs xs:List Int} (ok:zh5 n r hs lim) (V0:ze0 n r hs.length xs):PySem.SumFits (List.zipWith (fun h x=>h*x) hs xs):=by
 refine PyProof.Rows.sumFits_of_bound (B:=80) (n:=5) (by decide) (fun z hz=>?_) ?_ (by decide)
 . have:=zM0 (B:=4) ok.h (fun x hx=>by have:=V0.on x hx;have:=ok.n2;omega) (by decide) z hz
   omega
 . rw[List.length_zipWith]
   have:=ok.w
   omega
noncomputable def zJ0 (K:W.Frag) (t:Adr):Sp:=fun vs H Q _=>∃ (b a:Addr) (n r lim:Int) (hs xs:List Int),vs=[.ref b,.ref a]/\zg7 t H b n r hs lim/\ze0 n r hs.length xs ∧
 (SqL K H a (xs.map V.int)\/H a=some (.tup (xs.map V.int)))/\∀ H',Same H H'->Q (.int (zc5 hs xs)) H'
noncomputable def yd7 (K:W.Frag) (t:Adr):Sp:=fun vs H Q _=>∃ (b a:Addr) (n r lim:Int) (hs xs:List Int),vs=[.ref b,.ref a]/\zg7 t H b n r hs lim/\ze0 n r hs.length xs ∧
 (SqL K H a (xs.map V.int)\/H a=some (.tup (xs.map V.int)))/\∀ H',Same H H'->Q (.str (zu3 (zc5 hs xs))) H'
noncomputable def zZ0 (K:W.Frag) (t:Adr):Sp:=fun vs H Q _=>∃ (b a:Addr) (n r lim:Int) (hs xs:List Int),vs=[.ref b,.ref a]/\zg7 t H b n r hs lim/\ze0 n r hs.length xs ∧
 (SqL K H a (xs.map V.int)\/H a=some (.tup (xs.map V.int)))/\∀ H',Same H H'->Q (.bl (decide (absI (zc5 hs xs)<=lim))) H'
theorem zN8 (T:Txt K mg t):FnOk P w K mg base CX0 3 t.bw t.bU ["beam","standing"] (zJ0 K t):=by
 have Gae:FnOk P w K mg base CX0 2 t.ag t.aj ["beam","standing"] (zg8 K t):=zh6 T
 refine T.fL.ok yd3 (fun vs H Q E h=>?_) (fun cdv A outer s H vs Q E hr h=>?_)
 . obtain ⟨b,a,n,r,lim,hs,xs,rfl,B,V0,hS,q⟩:=h
   rfl
 . obtain ⟨b,a,n,r,lim,hs,xs,rfl,B,V0,hS,q⟩:=h
   have hae:Room 2 _:=hr.mono (by decide)
   refine⟨_,(za4 (zb7 (i:=2) yd3.nd rfl (Or.inl rfl) (za7 Gae hae rfl T.ak T.al T.aj .nil zb4 (za0 (pv 0) (za0 (pv 1) za2))))
     (za6 (zb8 (zc3 (call_sum rfl) rfl T.f0 PyProof.Rows.boot_sum (za0 (zr0 rfl zL6 (pi_zip rfl T.f1 (za0 (zg1 (pv 0) rfl) (za0 (pv 2) za2))) (fun _ _ _ _ _=>(pg_tupK (n:=2) K rfl rfl (zd8 (zc7 (i:=0) zL6.nd rfl (Or.inl rfl)) (zd8 (zc7 (i:=1) zL6.nd rfl (Or.inl rfl)) zv1)))) (fun _ _ _ _ _=>zn5) (fun _ _ _ _ _=>(zb0 zl5 (pv 0) (pv 1)))) za2))))),?_⟩
   refine⟨_,rfl,_,rfl,b,a,n,r,lim,hs,xs,rfl,B,V0,hS,fun l H1 s1 hl=>?_⟩
   have ok:=B.1
   obtain ⟨_,dx,h,hb,hh⟩:=B.same s1
   refine⟨_,rfl,b,_,dx,_,_,rfl,hb,T.ab,T.ag,zE6 _ _ _ _,_,rfl,h,l,_,_,rfl,hh,hl,fun D hD=>?_⟩
   refine comp_zip (f:=mulV) (rest:=[]) hh hl (by rw[List.length_map,List.length_map,V0.len]) hD (Nat.le_of_lt (zd0 (by rw[List.length_map];have:=ok.w;omega))) (fun i x y H' R hx hy s2 h=>?_) (fun H' s2 hd=>?_)
   . obtain ⟨u,rfl,hu⟩:=zz3 hx
     obtain ⟨v,rfl,hv⟩:=zz3 hy
     have:=ok.h u (List.mem_of_getElem? hu)
     exact⟨_,rfl,_,rfl,_,_,rfl,rfl,.inl ⟨by omega,by omega⟩,h⟩
   . rw[zY9] at hd
     exact⟨D,_,rfl,SqL.of hd,tilt_fits ok V0,q H' (s1.trans s2)⟩
theorem not_past (a lim:Int):(!decide (lim<a))=decide (a<=lim):=by
 by_cases h:lim<a
 . rw[decide_eq_true h,decide_eq_false (by omega)];rfl
 . rw[decide_eq_false h,decide_eq_true (by omega)];rfl
noncomputable def zN9 (K:W.Frag) (t:Adr):Sp:=fun vs H Q _=>∃ (b:Addr) (n r lim:Int) (hs:List Int) (z:Int),vs=[.ref b,.int z]/\zg7 t H b n r hs lim/\Q (.bl (decide (lim<absI z))) H
theorem zW8 (T:Txt K mg t):FnOk P w K mg base CX0 1 t.bV t.cc ["beam","tipped"] (zN9 K t):=by
 refine T.fQ.ok sc_past (fun vs H Q E h=>?_) (fun cdv A outer s H vs Q E hr h=>?_)
 . obtain ⟨b,n,r,lim,hs,z,rfl,B,q⟩:=h
   rfl
 . obtain ⟨b,n,r,lim,hs,z,rfl,B,q⟩:=h
   refine⟨_,(za6 (zb8 (zq9 zv2 (zc3 zt7 rfl T.aW PyProof.Rows.boot_abs (za0 (pv 1) za2)) (zg1 (pv 0) rfl) (zb9 _)))),?_⟩
   obtain ⟨_,dx,h,hb,hh⟩:=B
   exact⟨_,rfl,_,rfl,_,rfl,b,_,dx,_,_,rfl,hb,T.ab,T.aO,b_limit _ _ _ _,_,_,rfl,rfl,q⟩
theorem ok_side (T:Txt K mg t):FnOk P w K mg base CX0 4 t.cx t.cE ["beam","standing"] (yd7 K t):=by
 have Gaf:FnOk P w K mg base CX0 3 t.bw t.bU ["beam","standing"] (zJ0 K t):=zN8 T
 refine T.fM.ok yd4 (fun vs H Q E h=>?_) (fun cdv A outer s H vs Q E hr h=>?_)
 . obtain ⟨b,a,n,r,lim,hs,xs,rfl,B,V0,hS,q⟩:=h
   rfl
 . obtain ⟨b,a,n,r,lim,hs,xs,rfl,B,V0,hS,q⟩:=h
   have haf:Room 3 _:=hr.mono (by decide)
   refine⟨_,(za4 (zb7 (i:=2) yd4.nd rfl (Or.inl rfl) (za7 Gaf haf rfl T.bb T.bc T.ba .nil zb4 (za0 (pv 0) (za0 (pv 1) za2))))
     (za4 (zd1 (zb3 zH2 (pv 2) za1 (zb9 _)) (za6 (zb8 zc2)) zb5)
     (za4 (zd1 (zb3 zv2 (pv 2) za1 (zb9 _)) (za6 (zb8 zc2)) zb5)
     (za6 (zb8 zc2))))),?_⟩
   refine⟨_,rfl,_,rfl,b,a,n,r,lim,hs,xs,rfl,B,V0,hS,fun H1 s1=>?_⟩
   have q1:=q H1 s1
   unfold zu3 at q1
   refine⟨_,rfl,_,_,rfl,rfl,_,rfl,?_⟩
   refine ite2 (fun h1=>?_) (fun h1=>?_)
   . rw[if_pos (of_decide_eq_true h1)] at q1
     exact q1
   . rw[if_neg (fun z=>h1 (decide_eq_true z))] at q1
     refine⟨_,rfl,_,_,rfl,rfl,_,rfl,?_⟩
     refine ite2 (fun h2=>?_) (fun h2=>?_)
     . rw[if_pos (of_decide_eq_true h2)] at q1
       exact q1
     . rw[if_neg (fun z=>h2 (decide_eq_true z))] at q1
       exact q1
theorem ok_keeps (T:Txt K mg t):FnOk P w K mg base CX0 4 t.ci t.cA ["beam","standing"] (zZ0 K t):=by
 have Gag:FnOk P w K mg base CX0 1 t.bV t.cc ["beam","tipped"] (zN9 K t):=zW8 T
 have Gaf:FnOk P w K mg base CX0 3 t.bw t.bU ["beam","standing"] (zJ0 K t):=zN8 T
 refine T.fv.ok sc_keeps (fun vs H Q E h=>?_) (fun cdv A outer s H vs Q E hr h=>?_)
 . obtain ⟨b,a,n,r,lim,hs,xs,rfl,B,V0,hS,q⟩:=h
   rfl
 . obtain ⟨b,a,n,r,lim,hs,xs,rfl,B,V0,hS,q⟩:=h
   have hag:Room 1 _:=hr.mono (by decide)
   have haf:Room 3 _:=hr.mono (by decide)
   refine⟨_,(za6 (zb8 (pe_not (za7 Gag hag rfl T.a1 T.a2 T.a0 .nil zb4 (za0 (pv 0) (za0 (za7 Gaf haf rfl T.bb T.bc T.ba .nil zb4 (za0 (pv 0) (za0 (pv 1) za2))) za2)))))),?_⟩
   refine⟨_,rfl,_,rfl,_,rfl,b,a,n,r,lim,hs,xs,rfl,B,V0,hS,fun H1 s1=>⟨b,n,r,lim,hs,_,rfl,B.same s1,_,rfl,?_⟩⟩
   rw[not_past]
   exact q H1 s1
noncomputable def zi2 (hs xs:List Int) (i:Nat):Int:=zc5 hs xs-hs.getD i 0*xs.getD i 0
theorem getD_set_self {xs:List Int} {i:Nat} {p:Int} (hi:i<xs.length):(xs.set i p).getD i 0=p:=by
 rw[List.getD_eq_getElem?_getD,List.getElem?_set_self hi];rfl
theorem count_set' {xs:List Int} {i:Nat} {p y:Int} (hi:i<xs.length):((xs.set i p).count y:Int)=(xs.count y:Int)-(if xs.getD i 0=y then 1 else 0)+(if p=y then 1 else 0):=by
 have e:xs.getD i 0=xs[i]:=by rw[List.getD_eq_getElem?_getD,List.getElem?_eq_getElem hi];rfl
 rw[e,List.count_set hi]
 have:xs[i]=y->1<=xs.count y:=fun h=>List.count_pos_iff.mpr (h▸List.getElem_mem hi)
 by_cases h1:xs[i]=y<;>by_cases h2:p=y<;>simp[h1,h2]<;>have:=this h1<;>omega
structure Lets (n r:Int) (hs:List Int) (lim:Int) (xs:List Int) (i:Nat) (p:Int):Prop where
 lt:i<xs.length
 on:-n<=p/\p<=n
 ne:p≠xs.getD i 0
 room:p≠0->(xs.count p:Int)<r
 held:absI (zi2 hs xs i)<=lim
 behind:absI (zi2 hs xs i+hs.getD i 0*p)<=lim
noncomputable instance (n r:Int) (hs:List Int) (lim:Int) (xs:List Int) (i:Nat) (p:Int):Decidable (Lets n r hs lim xs i p) :=
 decidable_of_iff (i<xs.length/\(-n<=p/\p<=n)/\p≠xs.getD i 0/\(p≠0->(xs.count p:Int)<r)/\absI (zi2 hs xs i)<=lim/\absI (zi2 hs xs i+hs.getD i 0*p)<=lim)
   ⟨fun ⟨a,b,c,d,e,f⟩=>⟨a,b,c,d,e,f⟩,fun ⟨a,b,c,d,e,f⟩=>⟨a,b,c,d,e,f⟩⟩
theorem zj1 {xs:List Int} {i:Nat} (hi:i<xs.length):xs.getD i 0∈xs:=by
 rw[List.getD_eq_getElem?_getD,List.getElem?_eq_getElem hi];exact List.getElem_mem hi
theorem Lets.valid {n r lim:Int} {w:Nat} {hs xs:List Int} {i:Nat} {p:Int} (L:Lets n r hs lim xs i p) (V0:ze0 n r w xs):ze0 n r w (xs.set i p):=by
 refine⟨by rw[List.length_set];exact V0.len,fun y hy=>?_,fun y hy h0=>?_⟩
 . rcases List.mem_or_eq_of_mem_set hy with h | rfl
   . exact V0.on y h
   . exact L.on
 . rw[count_set' L.lt]
   by_cases e:p=y
   . subst e
     have:=L.room h0
     rw[if_pos rfl,if_neg (fun z=>L.ne z.symm)]
     omega
   . have hm:y∈xs:=(List.mem_or_eq_of_mem_set hy).resolve_right (fun z=>e z.symm)
     have:=V0.room y hm h0
     rw[if_neg e]
     split<;>omega
theorem sum_zip:∀ (hs xs:List Int),hs.length=xs.length->((List.range hs.length).map fun i=>hs.getD i 0*xs.getD i 0).sum=(List.zipWith (fun h x=>h*x) hs xs).sum:=by
 intro hs xs hl
 congr 1
 apply List.ext_getElem
 . simp;omega
 . intro i h1 h2
   have hi:i<hs.length:=by simpa using h1
   have hi2:i<xs.length:=by omega
   simp[hi,hi2]
noncomputable def zZ1 (hs xs:List Int):Nat->Int
 | 0=>0
 | j+1=>zZ1 hs xs j+hs.getD j 0*xs.getD j 0
theorem zZ2 (hs xs:List Int):∀ w,zZ1 hs xs w=((List.range w).map fun i=>hs.getD i 0*xs.getD i 0).sum
 | 0=>rfl
 | w+1=>by
   unfold zZ1
   rw[zZ2 hs xs w,List.range_succ,List.map_append,List.sum_append]
   simp
theorem sumTo_tilt {hs xs:List Int} (hl:hs.length=xs.length):zZ1 hs xs hs.length=zc5 hs xs:=by
 rw[zZ2,sum_zip hs xs hl];rfl
theorem zT0:∀ {zs:List Int} {B:Int},(∀ z∈zs,-B<=z/\z<=B)->-(B*zs.length)<=zs.sum/\zs.sum<=B*zs.length
 | [],B,_=>by simp
 | z::zs,B,h=>by
   have h1:=h z List.mem_cons_self
   have h2:=zT0 (zs:=zs) (B:=B) fun y hy=>h y (List.mem_cons_of_mem _ hy)
   rw[List.sum_cons,List.length_cons,Int.natCast_add,Int.mul_add]
   omega
theorem zJ1 {n r lim:Int} {hs xs:List Int} (ok:zh5 n r hs lim) (V0:ze0 n r hs.length xs):absI (zc5 hs xs)<=240/\0<=absI (zc5 hs xs):=by
 have h1:=zT0 (zM0 (B:=n) ok.h V0.on (by have:=ok.n1;omega))
 rw[List.length_zipWith,V0.len,Nat.min_self] at h1
 have hw:=ok.w
 have hm:=ok.most
 have n1:=ok.n1
 have n2:=ok.n2
 have key:20*n*(hs.length:Int)<=240:=by
   have:n=1\/n=2\/n=3\/n=4:=by omega
   have h5:hs.length=0\/hs.length=1\/hs.length=2\/hs.length=3\/hs.length=4\/hs.length=5:=by omega
   rcases this with rfl | rfl | rfl | rfl<;>rcases h5 with e | e | e | e | e | e<;>rw[e] at hm ⊢<;>first | decide | (exfalso;revert hm;decide)
 unfold zc5
 unfold absI
 split<;>omega
noncomputable def zG9 (K:W.Frag) (t:Adr):Sp:=fun vs H Q E=>∃ (b a:Addr) (n r lim k:Int) (i:Nat) (hs xs:List Int),vs=[.ref b,.ref a,.int k]/\zg7 t H b n r hs lim/\ze0 n r hs.length xs ∧
 (SqL K H a (xs.map V.int)\/H a=some (.tup (xs.map V.int)))/\(k=(i:Int)+1/\i<xs.length)/\∀ H',Same H H'->Q (.int (zi2 hs xs i)) H'
theorem zP8 (T:Txt K mg t):FnOk P w K mg base CX0 4 t.bp t.bH ["beam","standing","weight"] (zG9 K t):=by
 have Gae:FnOk P w K mg base CX0 2 t.ag t.aj ["beam","standing"] (zg8 K t):=zh6 T
 have Gaa:FnOk P w K mg base CX0 1 t.az t.aD ["number","low","high"] (zo1 K t):=zq7 T
 have Gaf:FnOk P w K mg base CX0 3 t.bw t.bU ["beam","standing"] (zJ0 K t):=zN8 T
 refine T.en.ok zP5 (fun vs H Q E h=>?_) (fun cdv A outer s H vs Q E hr h=>?_)
 . obtain ⟨b,a,n,r,lim,k,i,hs,xs,rfl,B,V0,hS,⟨rfl,hi⟩,q⟩:=h
   rfl
 . obtain ⟨b,a,n,r,lim,k,i,hs,xs,rfl,B,V0,hS,⟨rfl,hi⟩,q⟩:=h
   have hae:Room 2 _:=hr.mono (by decide)
   have haa:Room 1 _:=hr.mono (by decide)
   have haf:Room 3 _:=hr.mono (by decide)
   refine⟨_,(za4 (zb7 (i:=3) zP5.nd rfl (Or.inl rfl) (za7 Gae hae rfl T.ak T.al T.aj .nil zb4 (za0 (pv 0) (za0 (pv 1) za2))))
     (za4 (zd1 (zh4 (za7 Gaa haa rfl T.ar T.au T.aq .nil zb4 (za0 (pv 2) (za0 za1 (za0 (zc3 zc1 rfl T.aa PySem.boot_len (za0 (pv 3) za2)) za2))))) (za6 zh3) zb5)
     (za6 (zb8 (zb0 zh1 (za7 Gaf haf rfl T.bb T.bc T.ba .nil zb4 (za0 (pv 0) (za0 (pv 3) za2))) (zb0 zl5 (zc6 zf4 (zg1 (pv 0) rfl) (zb0 zh1 (pv 2) za1) (fun _ _=>rfl)) (zc6 zf4 (pv 3) (zb0 zh1 (pv 2) za1) (fun _ _=>rfl)))))))),?_⟩
   refine⟨_,rfl,_,rfl,b,a,n,r,lim,hs,xs,rfl,B,V0,hS,fun l H1 s1 hl=>?_⟩
   refine⟨_,rfl,_,rfl,l,_,rfl,.inr (SqT.of hl),_,1,_,rfl,_,rfl,?_⟩
   rw[List.length_map]
   refine iteB (zB2 (by omega) (by omega)) ?_
   refine⟨_,rfl,_,rfl,b,l,n,r,lim,hs,xs,rfl,B.same s1,V0,.inr hl,fun H2 s2=>?_⟩
   obtain ⟨_,dx,h,hb,hh⟩:=B.same (s1.trans s2)
   have hlen:=V0.len
   have e1:((i:Int)+1-1).toNat=i:=by omega
   have a1:atI (hs.map V.int) ((i:Int)+1-1)=some (.int (hs.getD i 0)):=by have:=zf3 (xs:=hs) (i:=(i:Int)+1-1) (by omega) (by omega);rw[e1] at this;exact this
   have a2:atI (xs.map V.int) ((i:Int)+1-1)=some (.int (xs.getD i 0)):=by have:=zf3 (xs:=xs) (i:=(i:Int)+1-1) (by omega) (by omega);rw[e1] at this;exact this
   have hm:=B.1.h (hs.getD i 0) (zj1 (by omega))
   refine⟨_,rfl,b,_,dx,_,_,rfl,hb,T.ab,T.ag,zE6 _ _ _ _,_,rfl,_,_,rfl,rfl,h,_,_,_,rfl,rfl,SqT.of hh,a1,?_⟩
   exact⟨_,rfl,_,rfl,_,_,rfl,rfl,l,_,_,_,rfl,rfl,SqT.of (s2 _ _ hl),a2,_,_,rfl,rfl,.inl ⟨by omega,by omega⟩,_,_,rfl,rfl,q _ (s1.trans s2)⟩
noncomputable def zC7 (r:Int) (xs:List Int) (p:Int):Bool:=decide (p≠0/\r<=(xs.count p:Int))
noncomputable def zW9 (K:W.Frag) (t:Adr):Sp:=fun vs H Q _=>∃ (b a:Addr) (n r lim p:Int) (hs xs:List Int),vs=[.ref b,.ref a,.int p]/\zg7 t H b n r hs lim/\H a=some (.tup (xs.map V.int))/\Q (.bl (zC7 r xs p)) H
theorem yd8 (T:Txt K mg t):FnOk P w K mg base CX0 1 t.cd t.cy ["beam","places","place"] (zW9 K t):=by
 refine T.fR.ok sc_full (fun vs H Q E h=>?_) (fun cdv A outer s H vs Q E hr h=>?_)
 . obtain ⟨b,a,n,r,lim,p,hs,xs,rfl,B,hT,q⟩:=h
   rfl
 . obtain ⟨b,a,n,r,lim,p,hs,xs,rfl,B,hT,q⟩:=h
   refine⟨_,(za6 (zb8 (pe_and (zq9 zr2 (pv 2) za1 (zb9 _)) (ye3 (zq9 zX3 (yc1 PySem.F.slot_tuple_count PySem.F.type_tuple_count zD6 (pv 1) (za0 (pv 2) za2)) (zg1 (pv 0) rfl) (zb9 _)))))),?_⟩
   obtain ⟨_,dx,h,hb,hh⟩:=B
   unfold zC7 at q
   refine⟨_,rfl,rfl,_,rfl,?_⟩
   rw[zf6]
   refine ite2 (fun h1=>?_) (fun h1=>?_)
   . have h1':p≠0:=by simpa using h1
     refine⟨_,rfl,⟨_,_,rfl,hT⟩,_,rfl,_,xs,p,rfl,rfl,SqT.of hT,_,rfl,b,_,dx,_,_,rfl,hb,T.ab,T.aH,ya5 _ _ _ _,_,_,rfl,rfl,?_⟩
     have e:decide (p≠0/\r<=(xs.count p:Int))=decide (r<=(xs.count p:Int)):=by simp[h1']
     rw[e] at q
     exact q
   . have h1':p=0:=by simpa using h1
     have e:decide (p≠0/\r<=(xs.count p:Int))=false:=by simp[h1']
     rw[e] at q
     exact q
theorem zO0 (xs:List Int) (i:Nat) (p:Int) (hi:i<xs.length):cutV (xs.map V.int) none (some (i:Int))++[V.int p]++cutV (xs.map V.int) (some ((i:Int)+1)) none=(xs.set i p).map V.int:=by
 unfold cutV
 rw[HT.sIx_none,HT.sIx_nat,HT.sIx_none,show ((i:Int)+1)=((i+1:Nat):Int) by omega,HT.sIx_nat,List.length_map,Nat.min_eq_left (by omega),Nat.min_eq_left (by omega),List.drop_zero,Nat.sub_zero,
   List.set_eq_take_append_cons_drop,if_pos hi,List.map_append,List.map_cons,List.append_assoc,List.map_take,List.map_drop]
 congr 1
 show V.int p::_=_
 congr 1
 exact List.take_of_length_le (by simp)
noncomputable def Mv (K:W.Frag) (H:Hp) (m:Addr) (k s p:Int):Prop:=SqL K H m [.int k,.int s,.int p]\/SqT K H m [.int k,.int s,.int p]
theorem Mv.ix {K:W.Frag} {H:Hp} {m:Addr} {k s p:Int} (h:Mv K H m k s p):(∀ Q:VK,Q (.int k) H->rIx K (.ref m) (.int 0) H Q)/\(∀ Q:VK,Q (.int s) H->rIx K (.ref m) (.int 1) H Q)/\(∀ Q:VK,Q (.int p) H->rIx K (.ref m) (.int 2) H Q):=by
 rcases h with h | h
 . exact⟨fun Q q=>.inl ⟨m,_,_,_,rfl,rfl,h,rfl,q⟩,fun Q q=>.inl ⟨m,_,_,_,rfl,rfl,h,rfl,q⟩,fun Q q=>.inl ⟨m,_,_,_,rfl,rfl,h,rfl,q⟩⟩
 . exact⟨fun Q q=>.inr (.inl ⟨m,_,_,_,rfl,rfl,h,rfl,q⟩),fun Q q=>.inr (.inl ⟨m,_,_,_,rfl,rfl,h,rfl,q⟩),fun Q q=>.inr (.inl ⟨m,_,_,_,rfl,rfl,h,rfl,q⟩)⟩
theorem Same.seqT {K:W.Frag} {H H':Hp} {a:Addr} {xs:List V} (e:Same H H') (h:SqT K H a xs):SqT K H' a xs:=by
 rcases h with (h | ⟨o,h⟩) | h
 . exact .inl (.inl (e _ _ h))
 . exact .inl (.inr ⟨o,e _ _ h⟩)
 . exact .inr h
theorem Mv.same {K:W.Frag} {H H':Hp} {m:Addr} {k s p:Int} (h:Mv K H m k s p) (e:Same H H'):Mv K H' m k s p:=h.imp e.seq (fun z=>Same.seqT e z)
noncomputable def zM1 (K:W.Frag) (t:Adr):Sp:=fun vs H Q _=>∃ (a m:Addr) (k s p:Int) (i:Nat) (xs:List Int),vs=[.ref a,.ref m]/\H a=some (.tup (xs.map V.int))/\Mv K H m k s p/\(k=(i:Int)+1/\i<xs.length/\xs.length<=900) ∧
 ∀ l H',Same H H'->H' l=some (.tup ((xs.set i p).map V.int))->Q (.ref l) H'
theorem zT1 (T:Txt K mg t):FnOk P w K mg base CX0 1 t.bx t.bY ["places","move"] (zM1 K t):=by
 refine T.eK.ok sc_behind (fun vs H Q E h=>?_) (fun cdv A outer s H vs Q E hr h=>?_)
 . obtain ⟨a,m,k,s,p,i,xs,rfl,hT,hM,⟨rfl,hi,hx⟩,q⟩:=h
   rfl
 . obtain ⟨a,m,k,s,p,i,xs,rfl,hT,hM,⟨rfl,hi,hx⟩,q⟩:=h
   refine⟨_,(za6 (zb8 (zb0 zv4 (zb0 zv4 (zi4 zB1 (pv 0) zn6 (zl1 (zb0 zh1 (zc6 zw5 (pv 1) za1 (fun _ _=>rfl)) za1))) (zp9 (za0 (zc6 zw5 (pv 1) za1 (fun _ _=>rfl)) za2))) (zi4 zB1 (pv 0) (zl1 (zc6 zw5 (pv 1) za1 (fun _ _=>rfl))) zn6)))),?_⟩
   refine⟨_,rfl,_,rfl,hM.ix.1 _ ⟨_,_,rfl,rfl,_,rfl,a,_,rfl,SqT.of hT,?_,fun l1 f1=>?_⟩⟩
   . have e:(i:Int)+1-1=(i:Int):=by omega
     rw[e,HT.sIx_none,HT.sIx_nat,List.length_map,Nat.min_eq_left (by omega)]
     omega
   have s1:Same H (upd H l1 (.tup (cutV (xs.map V.int) none (some ((i:Int)+1-1))))):=Same.upd f1
   have h1:(upd H l1 (.tup (cutV (xs.map V.int) none (some ((i:Int)+1-1))))) l1=some (.tup (cutV (xs.map V.int) none (some ((i:Int)+1-1)))):=za3
   revert s1 h1
   generalize upd H l1 (.tup (cutV (xs.map V.int) none (some ((i:Int)+1-1))))=H1
   intro s1 h1
   refine⟨_,rfl,(hM.same s1).ix.2.2 _ ⟨(by show 1<=sizeLine;decide),fun l2 f2=>?_⟩⟩
   have s2:Same H1 (upd H1 l2 (.tup [.int p])):=Same.upd f2
   have h2:(upd H1 l2 (.tup [.int p])) l2=some (.tup [.int p]):=za3
   revert s2 h2
   generalize upd H1 l2 (.tup [.int p])=H2
   intro s2 h2
   have len1:=zl6 (xs.map V.int) none (some ((i:Int)+1-1))
   rw[List.length_map] at len1
   refine⟨l1,l2,_,_,rfl,rfl,s2 _ _ h1,h2,Nat.le_of_lt (zd0 (by show _+1<=_;omega)),fun l3 H3 s3 h3=>?_⟩
   have s03:=s1.trans (s2.trans s3)
   refine⟨_,rfl,_,rfl,(hM.same s03).ix.1 _ ⟨_,rfl,a,_,rfl,SqT.of (s03 _ _ hT),?_,fun l4 f4=>?_⟩⟩
   . rw[show ((i:Int)+1)=((i+1:Nat):Int) by omega,HT.sIx_nat,List.length_map]
     omega
   have s4:Same H3 (upd H3 l4 (.tup (cutV (xs.map V.int) (some ((i:Int)+1)) none))):=Same.upd f4
   have h4:(upd H3 l4 (.tup (cutV (xs.map V.int) (some ((i:Int)+1)) none))) l4=some (.tup (cutV (xs.map V.int) (some ((i:Int)+1)) none)):=za3
   revert s4 h4
   generalize upd H3 l4 (.tup (cutV (xs.map V.int) (some ((i:Int)+1)) none))=H4
   intro s4 h4
   have e5:=zO0 xs i p hi
   rw[show (i:Int)=(i:Int)+1-1 by omega,show (i:Int)+1-1+1=(i:Int)+1 by omega] at e5
   refine⟨l3,l4,_,_,rfl,rfl,s4 _ _ h3,h4,?_,fun l5 H5 s5 h5=>q l5 H5 (s03.trans (s4.trans s5)) ?_⟩
   . rw[<-List.length_append,e5,List.length_map,List.length_set]
     exact Nat.le_of_lt (zd0 (by omega))
   . rw[h5,e5]
noncomputable def zT2 (K:W.Frag) (t:Adr):Sp:=fun vs H Q _=>∃ (m:Addr) (k s p:Int),vs=[.ref m]/\Mv K H m k s p/\∀ l,H l=none->Q (.ref l) (upd H l (.tup [.int k,.int p,.int s]))
theorem ok_turned (T:Txt K mg t):FnOk P w K mg base CX0 1 t.bX t.cm ["move"] (zT2 K t):=by
 refine T.eG.ok sc_turned (fun vs H Q E h=>?_) (fun cdv A outer s H vs Q E hr h=>?_)
 . obtain ⟨m,k,s,p,rfl,hM,q⟩:=h
   rfl
 . obtain ⟨m,k,s,p,rfl,hM,q⟩:=h
   refine⟨_,(za6 (zb8 (zp9 (za0 (zc6 zw5 (pv 0) za1 (fun _ _=>rfl)) (za0 (zc6 zw5 (pv 0) za1 (fun _ _=>rfl)) (za0 (zc6 zw5 (pv 0) za1 (fun _ _=>rfl)) za2)))))),?_⟩
   refine⟨_,rfl,hM.ix.1 _ ⟨_,rfl,hM.ix.2.2 _ ⟨_,rfl,hM.ix.2.1 _ ⟨(by show 3<=sizeLine;decide),fun l fl=>?_⟩⟩⟩⟩
   exact q l fl
noncomputable def ze4 (K:W.Frag) (t:Adr):Sp:=fun vs H Q _=>∃ (x C:Addr) (u v:V),vs=[.ref x,u,v]/\H x=some (ExcO C x none)/\XCls K C/\ze1 K C "reason"/\ze1 K C "word" ∧
 ∀ H' dx,H' x=some (ExcO C x (some dx))->H' dx=some (.xd (putF "word" v (putF "reason" u [])))->zr5 x H H'->Q .non H'
theorem zf5 (T:Txt K mg t):FnOk P w K mg base CX0 1 t.aa t.ab ["self","reason","word"] (ze4 K t):=by
 refine T.bY.ok sc_BeamError_init (fun vs H Q E h=>?_) (fun cdv A outer s H vs Q E hr h=>?_)
 . obtain ⟨x,C,u,v,rfl,hx,hc,n1,n2,q⟩:=h
   rfl
 . obtain ⟨x,C,u,v,rfl,hx,hc,n1,n2,q⟩:=h
   refine⟨_,(za4 (yc3 (pv 0) (pv 1) rfl)
     (za6 (yc3 (pv 0) (pv 2) rfl))),?_⟩
   refine⟨_,rfl,_,rfl,x,C,none,rfl,hx,hc,n1,fun dx fdx ndx=>?_⟩
   refine⟨_,rfl,_,rfl,x,C,some dx,rfl,za3,hc,n2,putF "reason" u [],by rw[za8 ndx];exact za3,by show (1:Nat)<1000;decide,?_⟩
   refine q _ dx (by rw[za8 ndx.symm];exact za3) za3 fun b o e hb=>?_
   rw[za8 (zc0 e fdx),za8 hb,za8 (zc0 e fdx)]
   exact e
noncomputable def zy6 (K:W.Frag) (t:Adr):Sp:=fun vs H Q _=>∃ (x:Addr) (u:V),vs=[.ref x,u]/\H x=some (ExcO t.ak x none) ∧
 ∀ H' dx,H' x=some (ExcO t.ak x (some dx))->H' dx=some (.xd (putF "word" (.str "no weight") (putF "reason" u [])))->zr5 x H H'->Q .non H'
theorem ok_NoWeight_init (T:Txt K mg t):FnOk P w K mg base CX0 2 t.ax t.a2 ["self","reason"] (zy6 K t):=by
 have Gah:FnOk P w K mg base CX0 1 t.aa t.ab ["self","reason","word"] (ze4 K t):=zf5 T
 refine T.cl.ok sc_NoWeight_init (fun vs H Q E h=>?_) (fun cdv A outer s H vs Q E hr h=>?_)
 . obtain ⟨x,u,rfl,hx,q⟩:=h
   rfl
 . obtain ⟨x,u,rfl,hx,q⟩:=h
   have hah:Room 1 _:=hr.mono (by decide)
   refine⟨_,(za6 (ze7 (zr6 T.ai rfl T.ah Gah hah T.af .nil zb4 (za0 (pv 0) (za0 (pv 1) (za0 zc2 za2)))))),?_⟩
   exact⟨_,rfl,_,rfl,x,t.ak,u,_,rfl,hx,T.a3,T.bM,T.aY,fun H' dx h1 h2 h3=>q H' dx h1 h2 h3⟩
noncomputable def zA2 (K:W.Frag) (t:Adr):Sp:=fun vs H Q _=>∃ (x:Addr) (u:V),vs=[.ref x,u]/\H x=some (ExcO t.am x none) ∧
 ∀ H' dx,H' x=some (ExcO t.am x (some dx))->H' dx=some (.xd (putF "word" (.str "no place") (putF "reason" u [])))->zr5 x H H'->Q .non H'
theorem ok_NoPlace_init (T:Txt K mg t):FnOk P w K mg base CX0 2 t.aB t.ba ["self","reason"] (zA2 K t):=by
 have Gah:FnOk P w K mg base CX0 1 t.aa t.ab ["self","reason","word"] (ze4 K t):=zf5 T
 refine T.cp.ok sc_NoPlace_init (fun vs H Q E h=>?_) (fun cdv A outer s H vs Q E hr h=>?_)
 . obtain ⟨x,u,rfl,hx,q⟩:=h
   rfl
 . obtain ⟨x,u,rfl,hx,q⟩:=h
   have hah:Room 1 _:=hr.mono (by decide)
   refine⟨_,(za6 (ze7 (zr6 T.ai rfl T.ah Gah hah T.af .nil zb4 (za0 (pv 0) (za0 (pv 1) (za0 zc2 za2)))))),?_⟩
   exact⟨_,rfl,_,rfl,x,t.am,u,_,rfl,hx,T.bL,T.bX,T.a4,fun H' dx h1 h2 h3=>q H' dx h1 h2 h3⟩
noncomputable def zv8 (K:W.Frag) (t:Adr):Sp:=fun vs H Q _=>∃ (x:Addr) (u:V),vs=[.ref x,u]/\H x=some (ExcO t.ah x none) ∧
 ∀ H' dx,H' x=some (ExcO t.ah x (some dx))->H' dx=some (.xd (putF "word" (.str "same place") (putF "reason" u [])))->zr5 x H H'->Q .non H'
theorem ok_SamePlace_init (T:Txt K mg t):FnOk P w K mg base CX0 2 t.ar t.aZ ["self","reason"] (zv8 K t):=by
 have Gah:FnOk P w K mg base CX0 1 t.aa t.ab ["self","reason","word"] (ze4 K t):=zf5 T
 refine T.bZ.ok sc_SamePlace_init (fun vs H Q E h=>?_) (fun cdv A outer s H vs Q E hr h=>?_)
 . obtain ⟨x,u,rfl,hx,q⟩:=h
   rfl
 . obtain ⟨x,u,rfl,hx,q⟩:=h
   have hah:Room 1 _:=hr.mono (by decide)
   refine⟨_,(za6 (ze7 (zr6 T.ai rfl T.ah Gah hah T.af .nil zb4 (za0 (pv 0) (za0 (pv 1) (za0 zc2 za2)))))),?_⟩
   exact⟨_,rfl,_,rfl,x,t.ah,u,_,rfl,hx,T.bp,T.bB,T.aX,fun H' dx h1 h2 h3=>q H' dx h1 h2 h3⟩
noncomputable def zC8 (K:W.Frag) (t:Adr):Sp:=fun vs H Q _=>∃ (x:Addr) (u:V),vs=[.ref x,u]/\H x=some (ExcO t.au x none) ∧
 ∀ H' dx,H' x=some (ExcO t.au x (some dx))->H' dx=some (.xd (putF "word" (.str "no room") (putF "reason" u [])))->zr5 x H H'->Q .non H'
theorem ok_NoRoom_init (T:Txt K mg t):FnOk P w K mg base CX0 2 t.aF t.br ["self","reason"] (zC8 K t):=by
 have Gah:FnOk P w K mg base CX0 1 t.aa t.ab ["self","reason","word"] (ze4 K t):=zf5 T
 refine T.cQ.ok sc_NoRoom_init (fun vs H Q E h=>?_) (fun cdv A outer s H vs Q E hr h=>?_)
 . obtain ⟨x,u,rfl,hx,q⟩:=h
   rfl
 . obtain ⟨x,u,rfl,hx,q⟩:=h
   have hah:Room 1 _:=hr.mono (by decide)
   refine⟨_,(za6 (ze7 (zr6 T.ai rfl T.ah Gah hah T.af .nil zb4 (za0 (pv 0) (za0 (pv 1) (za0 zc2 za2)))))),?_⟩
   exact⟨_,rfl,_,rfl,x,t.au,u,_,rfl,hx,T.ch,T.ci,T.a8,fun H' dx h1 h2 h3=>q H' dx h1 h2 h3⟩
noncomputable def zu4 (K:W.Frag) (t:Adr):Sp:=fun vs H Q _=>∃ (x:Addr) (u:V),vs=[.ref x,u]/\H x=some (ExcO t.ae x none) ∧
 ∀ H' dx,H' x=some (ExcO t.ae x (some dx))->H' dx=some (.xd (putF "word" (.str "tips in hand") (putF "reason" u [])))->zr5 x H H'->Q .non H'
theorem ok_TipsInHand_init (T:Txt K mg t):FnOk P w K mg base CX0 2 t.ao t.aQ ["self","reason"] (zu4 K t):=by
 have Gah:FnOk P w K mg base CX0 1 t.aa t.ab ["self","reason","word"] (ze4 K t):=zf5 T
 refine T.bP.ok sc_TipsInHand_init (fun vs H Q E h=>?_) (fun cdv A outer s H vs Q E hr h=>?_)
 . obtain ⟨x,u,rfl,hx,q⟩:=h
   rfl
 . obtain ⟨x,u,rfl,hx,q⟩:=h
   have hah:Room 1 _:=hr.mono (by decide)
   refine⟨_,(za6 (ze7 (zr6 T.ai rfl T.ah Gah hah T.af .nil zb4 (za0 (pv 0) (za0 (pv 1) (za0 zc2 za2)))))),?_⟩
   exact⟨_,rfl,_,rfl,x,t.ae,u,_,rfl,hx,T.bg,T.bx,T.aT,fun H' dx h1 h2 h3=>q H' dx h1 h2 h3⟩
noncomputable def zu5 (K:W.Frag) (t:Adr):Sp:=fun vs H Q _=>∃ (x:Addr) (u:V),vs=[.ref x,u]/\H x=some (ExcO t.af x none) ∧
 ∀ H' dx,H' x=some (ExcO t.af x (some dx))->H' dx=some (.xd (putF "word" (.str "tips behind") (putF "reason" u [])))->zr5 x H H'->Q .non H'
theorem ok_TipsBehind_init (T:Txt K mg t):FnOk P w K mg base CX0 2 t.ap t.aR ["self","reason"] (zu5 K t):=by
 have Gah:FnOk P w K mg base CX0 1 t.aa t.ab ["self","reason","word"] (ze4 K t):=zf5 T
 refine T.bR.ok sc_TipsBehind_init (fun vs H Q E h=>?_) (fun cdv A outer s H vs Q E hr h=>?_)
 . obtain ⟨x,u,rfl,hx,q⟩:=h
   rfl
 . obtain ⟨x,u,rfl,hx,q⟩:=h
   have hah:Room 1 _:=hr.mono (by decide)
   refine⟨_,(za6 (ze7 (zr6 T.ai rfl T.ah Gah hah T.af .nil zb4 (za0 (pv 0) (za0 (pv 1) (za0 zc2 za2)))))),?_⟩
   exact⟨_,rfl,_,rfl,x,t.af,u,_,rfl,hx,T.bh,T.bz,T.aU,fun H' dx h1 h2 h3=>q H' dx h1 h2 h3⟩
noncomputable def zy7 (K:W.Frag) (t:Adr):Sp:=fun vs H Q _=>∃ (x:Addr) (u:V),vs=[.ref x,u]/\H x=some (ExcO t.aq x none) ∧
 ∀ H' dx,H' x=some (ExcO t.aq x (some dx))->H' dx=some (.xd (putF "word" (.str "play full") (putF "reason" u [])))->zr5 x H H'->Q .non H'
theorem ok_PlayFull_init (T:Txt K mg t):FnOk P w K mg base CX0 2 t.ay t.a3 ["self","reason"] (zy7 K t):=by
 have Gah:FnOk P w K mg base CX0 1 t.aa t.ab ["self","reason","word"] (ze4 K t):=zf5 T
 refine T.cm.ok sc_PlayFull_init (fun vs H Q E h=>?_) (fun cdv A outer s H vs Q E hr h=>?_)
 . obtain ⟨x,u,rfl,hx,q⟩:=h
   rfl
 . obtain ⟨x,u,rfl,hx,q⟩:=h
   have hah:Room 1 _:=hr.mono (by decide)
   refine⟨_,(za6 (ze7 (zr6 T.ai rfl T.ah Gah hah T.af .nil zb4 (za0 (pv 0) (za0 (pv 1) (za0 zc2 za2)))))),?_⟩
   exact⟨_,rfl,_,rfl,x,t.aq,u,_,rfl,hx,T.bv,T.bN,T.cj,fun H' dx h1 h2 h3=>q H' dx h1 h2 h3⟩
noncomputable def zs7 (K:W.Frag) (t:Adr):Sp:=fun vs H Q _=>∃ (x:Addr) (u:V),vs=[.ref x,u]/\H x=some (ExcO t.ad x none) ∧
 ∀ H' dx,H' x=some (ExcO t.ad x (some dx))->H' dx=some (.xd (putF "word" (.str "nothing back") (putF "reason" u [])))->zr5 x H H'->Q .non H'
theorem ok_NothingBack_init (T:Txt K mg t):FnOk P w K mg base CX0 2 t.al t.aI ["self","reason"] (zs7 K t):=by
 have Gah:FnOk P w K mg base CX0 1 t.aa t.ab ["self","reason","word"] (ze4 K t):=zf5 T
 refine T.bD.ok sc_NothingBack_init (fun vs H Q E h=>?_) (fun cdv A outer s H vs Q E hr h=>?_)
 . obtain ⟨x,u,rfl,hx,q⟩:=h
   rfl
 . obtain ⟨x,u,rfl,hx,q⟩:=h
   have hah:Room 1 _:=hr.mono (by decide)
   refine⟨_,(za6 (ze7 (zr6 T.ai rfl T.ah Gah hah T.af .nil zb4 (za0 (pv 0) (za0 (pv 1) (za0 zc2 za2)))))),?_⟩
   exact⟨_,rfl,_,rfl,x,t.ad,u,_,rfl,hx,T.a9,T.bs,T.aP,fun H' dx h1 h2 h3=>q H' dx h1 h2 h3⟩
noncomputable def Told (H H':Hp) (od:Option Addr) (w:Str):Prop:=Same H H'/\∃ dx fs,od=some dx/\H' dx=some (.xd fs)/\fs.lookup ("word" : Str)=some (V.str w)
theorem Told.from {H H1 H':Hp} {od:Option Addr} {w:Str} (h:Told H1 H' od w) (s:Same H H1):Told H H' od w:=⟨s.trans h.1,h.2⟩
theorem zv9 {H H1 H':Hp} {x dx C:Addr} {o:HO} {u:V} {w:Str} (s:Same H H1) (fx:H1 x=none) (hx:H' x=some (ExcO C x (some dx))) (hd:H' dx=some (.xd (putF "word" (.str w) (putF "reason" u [])))) (sx:zr5 x (upd H1 x o) H'):Told H (del H' x) (some dx) w:=by
 refine⟨fun b v e=>?_,dx,putF "word" (.str w) (putF "reason" u []),rfl,?_,?_⟩
 . have e1:=s b v e
   have hb:b≠x:=zc0 e1 fx
   rw[zB4 hb]
   exact sx b v (by rw[za8 hb];exact e1) hb
 . rw[zB4 (fun z=>by rw[z,hx] at hd;cases hd)];exact hd
 . rw[zd2,if_pos rfl]
noncomputable def zw0 (xs:List Int) (k s:Int):Prop:=(1<=k/\k<=xs.length)/\xs.getD (k-1).toNat 0=s
noncomputable instance (xs:List Int) (k s:Int):Decidable (zw0 xs k s):=by unfold zw0;exact inferInstance
noncomputable def refN (n r lim:Int) (hs xs:List Int) (k s p:Int):Nat :=
 if ¬ zw0 xs k s then 1 else if p < -n\/n<p then 2 else if p=s then 3 else if zC7 r xs p=true then 4
 else if lim<absI (zi2 hs xs (k-1).toNat) then 5 else if lim<absI (zi2 hs xs (k-1).toNat+hs.getD (k-1).toNat 0*p) then 6 else 0
theorem zO1 (n r lim:Int) (hs xs:List Int) (k s p:Int):refN n r lim hs xs k s p<=6:=by
 unfold refN
 repeat (first | decide | split)
noncomputable def zF7:Nat->Str
 | 1 => "no weight" | 2 => "no place" | 3 => "same place" | 4 => "no room" | 5 => "tips in hand" | 6 => "tips behind" | _ => ""
noncomputable def clsN (t:Adr):Nat->Addr
 | 1=>t.ak | 2=>t.am | 3=>t.ah | 4=>t.au | 5=>t.ae | _=>t.af
theorem xfacts (T:Txt K mg t) {j:Nat} (hj:j<6):XAsk K (clsN t (j+1))/\ze1 K (clsN t (j+1)) "word"/\W.exmOne K (.ref (clsN t (j+1))) (.ref t.ai)=some true:=by
 match j,hj with
 | 0,_=>exact⟨T.ed,T.aY,T.bt⟩
 | 1,_=>exact⟨T.ej,T.a4,T.bA⟩
 | 2,_=>exact⟨T.dI,T.aX,T.br⟩
 | 3,_=>exact⟨T.eE,T.a8,T.bC⟩
 | 4,_=>exact⟨T.dd,T.aT,T.bk⟩
 | 5,_=>exact⟨T.de,T.aU,T.bl⟩
 | j+6,h=>exact absurd h (by omega)
noncomputable def zA3 (K:W.Frag) (t:Adr):Sp:=fun vs H Q E=>∃ (a:Addr) (k s:Int) (xs:List Int),vs=[.ref a,.int k,.int s]/\H a=some (.tup (xs.map V.int))/\(zw0 xs k s->Q .non H)/\(¬ zw0 xs k s->∀ od H',Told H H' od "no weight"->E (.ref t.ak) od H')
theorem ok_check_weight (T:Txt K mg t):FnOk P w K mg base (CXD P w) 4 t.aM t.bc ["places","weight","taken"] (zA3 K t):=by
 have Gaa:FnOk P w K mg base CX0 1 t.az t.aD ["number","low","high"] (zo1 K t):=zq7 T
 have Gai:FnOk P w K mg base CX0 2 t.ax t.a2 ["self","reason"] (zy6 K t):=ok_NoWeight_init T
 refine T.cv.d.okD (CX:=CX0) sc_check_weight (fun vs H Q E h=>?_) (fun cdv A outer s H vs Q E hr h=>?_)
 . obtain ⟨a,k,s,xs,rfl,hT,q,qe⟩:=h
   rfl
 . obtain ⟨a,k,s,xs,rfl,hT,q,qe⟩:=h
   have haa:Room 1 _:=hr.mono (by decide)
   have haj:Room 3 _:=hr.mono (by decide)
   refine⟨_,(za4 (zd1 (zh4 (za7 Gaa haa rfl T.ar T.au T.aq .nil zb4 (za0 (pv 1) (za0 za1 (za0 (zc3 zc1 rfl T.aa PySem.boot_len (za0 (pv 0) za2)) za2))))) (za6 (zm4 zj7 rfl T.a3 T.bw T.bq Gai haj rfl T.bu T.aZ .nil zb4 (za0 zc2 za2))) zb5)
     (za6 (zd1 (zb3 zr2 (zc6 zf4 (pv 0) (zb0 zh1 (pv 1) za1) (fun _ _=>rfl)) (pv 2) (zb9 _)) (za6 (zm4 zj7 rfl T.a3 T.bw T.bq Gai haj rfl T.bu T.aZ .nil zb4 (za0 zc2 za2))) zb5))),?_⟩
   refine⟨_,rfl,_,rfl,a,_,rfl,.inr (SqT.of hT),k,1,_,rfl,_,rfl,?_⟩
   rw[List.length_map]
   refine ite2 (fun h1=>?_) (fun h1=>?_)
   . have hb:¬ zw0 xs k s:=fun z=>by have:=z.1;simp at h1;omega
     exact⟨(by show 1<=sizeLine;decide),fun x fx=>⟨x,_,rfl,za3,fun H' dx hx hd sx=>⟨rfl,some dx,hx,qe hb _ _ (zv9 (Same.refl _) fx hx hd sx)⟩⟩⟩
   have hk:1<=k/\k<=xs.length:=by simp at h1;omega
   refine⟨_,rfl,_,rfl,_,_,rfl,rfl,a,_,_,_,rfl,rfl,SqT.of hT,zf3 (by omega) (by omega),_,rfl,rfl,_,rfl,?_⟩
   rw[zf6]
   refine ite2 (fun h2=>?_) (fun h2=>?_)
   . have hb:¬ zw0 xs k s:=fun z=>by simp at h2;exact h2 (by simpa using z.2)
     exact⟨(by show 1<=sizeLine;decide),fun x fx=>⟨x,_,rfl,za3,fun H' dx hx hd sx=>⟨rfl,some dx,hx,qe hb _ _ (zv9 (Same.refl _) fx hx hd sx)⟩⟩⟩
   . exact q ⟨hk,by simpa using h2⟩
noncomputable def zJ2 (K:W.Frag) (t:Adr):Sp:=fun vs H Q E=>∃ (b a:Addr) (n r lim s p:Int) (hs xs:List Int),vs=[.ref b,.ref a,.int s,.int p]/\zg7 t H b n r hs lim/\H a=some (.tup (xs.map V.int)) ∧
 (¬ (p < -n\/n<p)->p≠s->¬ zC7 r xs p=true->Q .non H)/\((p < -n\/n<p)->∀ od H',Told H H' od "no place"->E (.ref t.am) od H')/\(¬ (p < -n\/n<p)->p=s->∀ od H',Told H H' od "same place"->E (.ref t.ah) od H') ∧
 (¬ (p < -n\/n<p)->p≠s->zC7 r xs p=true->∀ od H',Told H H' od "no room"->E (.ref t.au) od H')
theorem ok_check_put (T:Txt K mg t):FnOk P w K mg base (CXD P w) 4 t.bh t.bN ["beam","places","taken","put"] (zJ2 K t):=by
 have Gaa:FnOk P w K mg base CX0 1 t.az t.aD ["number","low","high"] (zo1 K t):=zq7 T
 have Gak:FnOk P w K mg base CX0 1 t.cd t.cy ["beam","places","place"] (zW9 K t):=yd8 T
 have Gam:FnOk P w K mg base CX0 2 t.aB t.ba ["self","reason"] (zA2 K t):=ok_NoPlace_init T
 have Gan:FnOk P w K mg base CX0 2 t.ar t.aZ ["self","reason"] (zv8 K t):=ok_SamePlace_init T
 have Gao:FnOk P w K mg base CX0 2 t.aF t.br ["self","reason"] (zC8 K t):=ok_NoRoom_init T
 refine T.dN.d.okD (CX:=CX0) sc_check_put (fun vs H Q E h=>?_) (fun cdv A outer s H vs Q E hr h=>?_)
 . obtain ⟨b,a,n,r,lim,s,p,hs,xs,rfl,B,hT,q,q1,q2,q3⟩:=h
   rfl
 . obtain ⟨b,a,n,r,lim,s,p,hs,xs,rfl,B,hT,q,q1,q2,q3⟩:=h
   have haa:Room 1 _:=hr.mono (by decide)
   have hak:Room 1 _:=hr.mono (by decide)
   have haq:Room 3 _:=hr.mono (by decide)
   have har:Room 3 _:=hr.mono (by decide)
   have hau:Room 3 _:=hr.mono (by decide)
   refine⟨_,(za4 (zd1 (zh4 (za7 Gaa haa rfl T.ar T.au T.aq .nil zb4 (za0 (pv 3) (za0 (zn1 zh8 (zg1 (pv 0) rfl)) (za0 (zg1 (pv 0) rfl) za2))))) (za6 (zm4 zj7 rfl T.bL T.eC T.eh Gam haq rfl T.eB T.cq .nil zb4 (za0 zc2 za2))) zb5)
     (za4 (zd1 (zb3 zg3 (pv 3) (pv 2) (zb9 _)) (za6 (zm4 zj7 rfl T.bp T.eb T.dF Gan har rfl T.ea T.b0 .nil zb4 (za0 zc2 za2))) zb5)
     (za6 (zd1 (zh4 (za7 Gak hak rfl T.dg T.dh T.df .nil zb4 (za0 (pv 0) (za0 (pv 1) (za0 (pv 3) za2))))) (za6 (zm4 zj7 rfl T.ch T.fu T.eD Gao hau rfl T.ft T.cR .nil zb4 (za0 zc2 za2))) zb5)))),?_⟩
   have B0:=B
   obtain ⟨_,dx,h,hb,hh⟩:=B
   refine⟨_,rfl,_,rfl,b,_,dx,_,_,rfl,hb,T.ab,T.ae,zp6 _ _ _ _,_,rfl,_,rfl,b,_,dx,_,_,rfl,hb,T.ab,T.ae,zp6 _ _ _ _,p,-n,n,rfl,_,rfl,?_⟩
   refine ite2 (fun h1=>?_) (fun h1=>?_)
   . have h1':p < -n\/n<p:=by simpa using h1
     exact⟨(by show 1<=sizeLine;decide),fun x fx=>⟨x,_,rfl,za3,fun H' dx hx hd sx=>⟨rfl,some dx,hx,q1 h1' _ _ (zv9 (Same.refl _) fx hx hd sx)⟩⟩⟩
   have h1':¬ (p < -n\/n<p):=fun z=>h1 (by simpa using z)
   refine⟨_,rfl,_,rfl,rfl,_,rfl,?_⟩
   rw[zf6]
   refine ite2 (fun h2=>?_) (fun h2=>?_)
   . have h2':p=s:=of_decide_eq_true h2
     exact⟨(by show 1<=sizeLine;decide),fun x fx=>⟨x,_,rfl,za3,fun H' dx hx hd sx=>⟨rfl,some dx,hx,q2 h1' h2' _ _ (zv9 (Same.refl _) fx hx hd sx)⟩⟩⟩
   have h2':p≠s:=fun z=>h2 (decide_eq_true z)
   refine⟨_,rfl,_,rfl,_,rfl,b,a,n,r,lim,p,hs,xs,rfl,B0,hT,_,rfl,?_⟩
   refine ite2 (fun h3=>?_) (fun h3=>?_)
   . exact⟨(by show 1<=sizeLine;decide),fun x fx=>⟨x,_,rfl,za3,fun H' dx hx hd sx=>⟨rfl,some dx,hx,q3 h1' h2' h3 _ _ (zv9 (Same.refl _) fx hx hd sx)⟩⟩⟩
   . exact q h1' h2' h3
noncomputable def zC9 (K:W.Frag) (t:Adr):Sp:=fun vs H Q E=>∃ (b:Addr) (n r lim u v:Int) (hs:List Int),vs=[.ref b,.int u,.int v]/\zg7 t H b n r hs lim/\(¬ lim<absI u->¬ lim<absI (u+v)->Q .non H)/\(lim<absI u->∀ od H',Told H H' od "tips in hand"->E (.ref t.ae) od H') ∧
 (¬ lim<absI u->lim<absI (u+v)->∀ od H',Told H H' od "tips behind"->E (.ref t.af) od H')
theorem ok_check_tilts (T:Txt K mg t):FnOk P w K mg base (CXD P w) 4 t.aW t.bt ["beam","held","added"] (zC9 K t):=by
 have Gag:FnOk P w K mg base CX0 1 t.bV t.cc ["beam","tipped"] (zN9 K t):=zW8 T
 have Gav:FnOk P w K mg base CX0 2 t.ao t.aQ ["self","reason"] (zu4 K t):=ok_TipsInHand_init T
 have Gaw:FnOk P w K mg base CX0 2 t.ap t.aR ["self","reason"] (zu5 K t):=ok_TipsBehind_init T
 refine T.cX.d.okD (CX:=CX0) sc_check_tilts (fun vs H Q E h=>?_) (fun cdv A outer s H vs Q E hr h=>?_)
 . obtain ⟨b,n,r,lim,u,v,hs,rfl,B,q,q1,q2⟩:=h
   rfl
 . obtain ⟨b,n,r,lim,u,v,hs,rfl,B,q,q1,q2⟩:=h
   have hag:Room 1 _:=hr.mono (by decide)
   have hax:Room 3 _:=hr.mono (by decide)
   have hay:Room 3 _:=hr.mono (by decide)
   refine⟨_,(za4 (zd1 (zh4 (za7 Gag hag rfl T.a1 T.a2 T.a0 .nil zb4 (za0 (pv 0) (za0 (pv 1) za2)))) (za6 (zm4 zj7 rfl T.bg T.dG T.da Gav hax rfl T.dD T.bQ .nil zb4 (za0 zc2 za2))) zb5)
     (za6 (zd1 (zh4 (za7 Gag hag rfl T.a1 T.a2 T.a0 .nil zb4 (za0 (pv 0) (za0 (zb0 ze8 (pv 1) (pv 2)) za2)))) (za6 (zm4 zj7 rfl T.bh T.dH T.db Gaw hay rfl T.dE T.bS .nil zb4 (za0 zc2 za2))) zb5))),?_⟩
   refine⟨_,rfl,_,rfl,b,n,r,lim,hs,u,rfl,B,_,rfl,?_⟩
   refine ite2 (fun h1=>?_) (fun h1=>?_)
   . exact⟨(by show 1<=sizeLine;decide),fun x fx=>⟨x,_,rfl,za3,fun H' dx hx hd sx=>⟨rfl,some dx,hx,q1 (of_decide_eq_true h1) _ _ (zv9 (Same.refl _) fx hx hd sx)⟩⟩⟩
   have h1':¬ lim<absI u:=fun z=>h1 (decide_eq_true z)
   refine⟨_,rfl,_,rfl,_,rfl,_,_,rfl,rfl,b,n,r,lim,hs,u+v,rfl,B,_,rfl,?_⟩
   refine ite2 (fun h2=>?_) (fun h2=>?_)
   . exact⟨(by show 1<=sizeLine;decide),fun x fx=>⟨x,_,rfl,za3,fun H' dx hx hd sx=>⟨rfl,some dx,hx,q2 h1' (of_decide_eq_true h2) _ _ (zv9 (Same.refl _) fx hx hd sx)⟩⟩⟩
   . exact q h1' fun z=>h2 (decide_eq_true z)
noncomputable def zF8 (K:W.Frag) (t:Adr):Sp:=fun vs H Q E=>∃ (b a:Addr) (n r lim k s p:Int) (hs xs:List Int),vs=[.ref b,.ref a,.int k,.int s,.int p]/\zg7 t H b n r hs lim/\ze0 n r hs.length xs/\H a=some (.tup (xs.map V.int)) ∧
 (refN n r lim hs xs k s p=0->∀ H',Same H H'->Q .non H')/\(∀ j od H',refN n r lim hs xs k s p=j+1->Told H H' od (zF7 (j+1))->E (.ref (clsN t (j+1))) od H')
theorem ok_check_move (T:Txt K mg t):FnOk P w K mg base (CXD P w) 5 t.a4 t.bz ["beam","places","weight","taken","put"] (zF8 K t):=by
 have Gaz:FnOk P w K mg base (CXD P w) 4 t.aM t.bc ["places","weight","taken"] (zA3 K t):=ok_check_weight T
 have GaA:FnOk P w K mg base (CXD P w) 4 t.bh t.bN ["beam","places","taken","put"] (zJ2 K t):=ok_check_put T
 have GaB:FnOk P w K mg base (CXD P w) 4 t.aW t.bt ["beam","held","added"] (zC9 K t):=ok_check_tilts T
 have GaC:FnOk P w K mg base CX0 4 t.bp t.bH ["beam","standing","weight"] (zG9 K t):=zP8 T
 refine T.di.d.okD (CX:=CX0) sc_check_move (fun vs H Q E h=>?_) (fun cdv A outer s H vs Q E hr h=>?_)
 . obtain ⟨b,a,n,r,lim,k,s,p,hs,xs,rfl,B,V0,hT,q,qe⟩:=h
   rfl
 . obtain ⟨b,a,n,r,lim,k,s,p,hs,xs,rfl,B,V0,hT,q,qe⟩:=h
   have haz:Room 4 _:=hr.mono (by decide)
   have haA:Room 4 _:=hr.mono (by decide)
   have haB:Room 4 _:=hr.mono (by decide)
   have haC:Room 4 _:=hr.mono (by decide)
   refine⟨_,(za4 (ze7 (za7 Gaz haz rfl T.cx T.cy T.cw .nil zl8 (za0 (pv 1) (za0 (pv 2) (za0 (pv 3) za2)))))
     (za4 (ze7 (za7 GaA haA rfl T.dP T.dQ T.dO .nil zl8 (za0 (pv 0) (za0 (pv 1) (za0 (pv 3) (za0 (pv 4) za2))))))
     (za6 (ze7 (za7 GaB haB rfl T.cZ T.c0 T.cY .nil zl8 (za0 (pv 0) (za0 (za7 GaC haC rfl T.bG T.bH T.bF .nil zb4 (za0 (pv 0) (za0 (pv 1) (za0 (pv 2) za2)))) (za0 (zb0 zl5 (zc6 zf4 (zg1 (pv 0) rfl) (zb0 zh1 (pv 2) za1) (fun _ _=>rfl)) (pv 4)) za2)))))))),?_⟩
   unfold refN at q qe
   refine⟨_,rfl,_,rfl,_,rfl,a,k,s,xs,rfl,hT,fun g1=>?_,fun g1 od H' tl=>qe 0 od H' (by rw[if_pos g1]) tl⟩
   rw[if_neg (fun z=>z g1)] at q
   simp only[if_neg (fun z:¬ zw0 xs k s=>z g1)] at qe
   refine⟨_,rfl,_,rfl,_,rfl,_,rfl,b,a,n,r,lim,s,p,hs,xs,rfl,B,hT,fun g2 g3 g4=>?_,fun g2 od H' tl=>qe 1 od H' (by rw[if_pos g2]) tl,fun g2 g3 od H' tl=>qe 2 od H' (by rw[if_neg g2,if_pos g3]) tl,fun g2 g3 g4 od H' tl=>qe 3 od H' (by rw[if_neg g2,if_neg g3,if_pos g4]) tl⟩
   rw[if_neg g2,if_neg g3,if_neg g4] at q
   simp only[if_neg g2,if_neg g3,if_neg g4] at qe
   obtain ⟨⟨k1,k2⟩,g1⟩:=g1
   have hlen:=V0.len
   have ek:k=(((k-1).toNat:Nat):Int)+1:=by omega
   have hi:(k-1).toNat<xs.length:=by omega
   refine⟨_,rfl,_,rfl,_,rfl,_,rfl,b,a,n,r,lim,k,(k-1).toNat,hs,xs,rfl,B,V0,.inr hT,⟨ek,hi⟩,fun H1 s1=>?_⟩
   obtain ⟨_,dx,h,hb,hh⟩:=B.same s1
   have hm:=B.1.h (hs.getD (k-1).toNat 0) (zj1 (by omega))
   refine⟨_,rfl,b,_,dx,_,_,rfl,hb,T.ab,T.ag,zE6 _ _ _ _,_,rfl,_,_,rfl,rfl,h,_,_,_,rfl,rfl,SqT.of hh,zf3 (by omega) (by omega),_,rfl,_,_,rfl,rfl,.inl ⟨by omega,by omega⟩,b,n,r,lim,_,_,hs,rfl,B.same s1,fun g5 g6=>?_,fun g5 od H' tl=>qe 4 od H' (by rw[if_pos g5]) (tl.from s1),fun g5 g6 od H' tl=>qe 5 od H' (by rw[if_neg g5,if_pos g6]) (tl.from s1)⟩
   rw[if_neg g5,if_neg g6] at q
   exact q rfl H1 s1
noncomputable def zZ3 (K:W.Frag) (t:Adr):Sp:=fun vs H Q E=>∃ (b a m:Addr) (n r lim k s p:Int) (hs xs:List Int),vs=[.ref b,.ref a,.ref m]/\zg7 t H b n r hs lim/\ze0 n r hs.length xs/\(SqL K H a (xs.map V.int)\/H a=some (.tup (xs.map V.int)))/\Mv K H m k s p ∧
 (refN n r lim hs xs k s p=0->∀ l H',Same H H'->H' l=some (.tup ((xs.set (k-1).toNat p).map V.int))->Q (.ref l) H')/\(∀ j od H',refN n r lim hs xs k s p=j+1->Told H H' od (zF7 (j+1))->E (.ref (clsN t (j+1))) od H')
theorem ok_moved (T:Txt K mg t):FnOk P w K mg base (CXD P w) 6 t.cj t.cB ["beam","standing","move"] (zZ3 K t):=by
 have Gae:FnOk P w K mg base CX0 2 t.ag t.aj ["beam","standing"] (zg8 K t):=zh6 T
 have GaD:FnOk P w K mg base (CXD P w) 5 t.a4 t.bz ["beam","places","weight","taken","put"] (zF8 K t):=ok_check_move T
 have GaE:FnOk P w K mg base CX0 1 t.bx t.bY ["places","move"] (zM1 K t):=zT1 T
 refine T.fz.d.okD (CX:=CX0) zY4 (fun vs H Q E h=>?_) (fun cdv A outer s H vs Q E hr h=>?_)
 . obtain ⟨b,a,m,n,r,lim,k,s,p,hs,xs,rfl,B,V0,hS,hM,q,qe⟩:=h
   rfl
 . obtain ⟨b,a,m,n,r,lim,k,s,p,hs,xs,rfl,B,V0,hS,hM,q,qe⟩:=h
   have hae:Room 2 _:=hr.mono (by decide)
   have haD:Room 5 _:=hr.mono (by decide)
   have haE:Room 1 _:=hr.mono (by decide)
   refine⟨_,(za4 (zb7 (i:=3) zY4.nd rfl (Or.inl rfl) (za7 Gae hae rfl T.ak T.al T.aj .nil zb4 (za0 (pv 0) (za0 (pv 1) za2))))
     (za4 (ze7 (za7 GaD haD rfl T.dk T.dl T.dj .nil zl8 (za0 (pv 0) (za0 (pv 3) (za0 (zc6 zw5 (pv 2) za1 (fun _ _=>rfl)) (za0 (zc6 zw5 (pv 2) za1 (fun _ _=>rfl)) (za0 (zc6 zw5 (pv 2) za1 (fun _ _=>rfl)) za2)))))))
     (za6 (zb8 (za7 GaE haE rfl T.b2 T.b3 T.b1 .nil zb4 (za0 (pv 3) (za0 (pv 2) za2))))))),?_⟩
   refine⟨_,rfl,_,rfl,b,a,n,r,lim,hs,xs,rfl,B,V0,hS,fun l H1 s1 hl=>?_⟩
   have M1:=(hM.same s1).ix
   refine⟨_,rfl,_,rfl,_,rfl,M1.1 _ ⟨_,rfl,M1.2.1 _ ⟨_,rfl,M1.2.2 _ ?_⟩⟩⟩
   refine⟨b,l,n,r,lim,k,s,p,hs,xs,rfl,B.same s1,V0,hl,fun hz H2 s2=>?_,fun j od H' hj tl=>qe j od H' hj (tl.from s1)⟩
   have hg:zw0 xs k s:=Decidable.byContradiction fun z=>by unfold refN at hz;rw[if_pos z] at hz;cases hz
   obtain ⟨⟨k1,k2⟩,_⟩:=hg
   have:=B.1.w
   have:=V0.len
   exact⟨_,rfl,_,rfl,l,m,k,s,p,(k-1).toNat,xs,rfl,s2 _ _ hl,hM.same (s1.trans s2),⟨by omega,by omega,by omega⟩,fun l3 H3 s3 h3=>q hz l3 H3 (s1.trans (s2.trans s3)) h3⟩
noncomputable def grid (n:Int) (j:Nat):List Int:=(List.range j).map fun (k:Nat)=>-n+(k:Int)
noncomputable def zj4 (n r:Int) (hs:List Int) (lim:Int) (xs:List Int) (i j:Nat):List Int:=(grid n j).filter fun p=>decide (Lets n r hs lim xs i p)
theorem zz6 (n r:Int) (hs:List Int) (lim:Int) (xs:List Int) (i j:Nat):zj4 n r hs lim xs i (j+1)=zj4 n r hs lim xs i j++(if Lets n r hs lim xs i (-n+(j:Int)) then [-n+(j:Int)] else []):=by
 unfold zj4 grid
 rw[List.range_succ,List.map_append,List.filter_append]
 congr 1
 by_cases h:Lets n r hs lim xs i (-n+(j:Int))
 . rw[if_pos h];simp[h]
 . rw[if_neg h];simp[h]
theorem zE8 (n r:Int) (hs:List Int) (lim:Int) (xs:List Int) (i j:Nat):(zj4 n r hs lim xs i j).length<=j:=by
 unfold zj4 grid
 refine Nat.le_trans (List.length_filter_le _ _) ?_
 simp
theorem zT3 {n r:Int} {hs:List Int} {lim:Int} {xs:List Int} {i:Nat} (j:Nat) (h:¬ absI (zi2 hs xs i)<=lim):zj4 n r hs lim xs i j=[]:=by
 unfold zj4
 rw[List.filter_eq_nil_iff]
 intro p _
 have:¬ Lets n r hs lim xs i p:=fun L=>h L.held
 simp[this]
noncomputable def wide (n:Int):Nat:=(n+1 - -n).toNat
noncomputable def zp7 (n r:Int) (hs:List Int) (lim:Int) (xs:List Int) (i:Nat):List (Nat×Int):=(List.range i).flatMap fun k=>(zj4 n r hs lim xs k (wide n)).map fun p=>(k,p)
theorem zz7 (n r:Int) (hs:List Int) (lim:Int) (xs:List Int) (i:Nat):zp7 n r hs lim xs (i+1)=zp7 n r hs lim xs i++(zj4 n r hs lim xs i (wide n)).map fun p=>(i,p):=by
 unfold zp7
 rw[List.range_succ,List.flatMap_append]
 simp
theorem zt6 (n r:Int) (hs:List Int) (lim:Int) (xs:List Int):∀ i,(zp7 n r hs lim xs i).length<=i*wide n
 | 0=>by simp[zp7]
 | i+1=>by
   rw[zz7,List.length_append,List.length_map,Nat.succ_mul]
   have:=zt6 n r hs lim xs i
   have:=zE8 n r hs lim xs i (wide n)
   omega
noncomputable def zZ4 (H:Hp) (xs:List Int) (a:Addr) (m:Nat×Int):Prop:=H a=some (.tup [.int ((m.1:Int)+1),.int (xs.getD m.1 0),.int m.2])
noncomputable def Rows (H:Hp) (xs:List Int) (rs:List Addr) (ms:List (Nat×Int)):Prop:=rs.length=ms.length/\∀ (k:Nat) (a:Addr) (m:Nat×Int),rs[k]?=some a->ms[k]?=some m->zZ4 H xs a m
theorem Rows.nil (H:Hp) (xs:List Int):Rows H xs [] []:=⟨rfl,fun k a m h=>by simp at h⟩
theorem Rows.same {H H':Hp} {xs:List Int} {rs:List Addr} {ms:List (Nat×Int)} (h:Rows H xs rs ms) (s:Same H H'):Rows H' xs rs ms:=⟨h.1,fun k a m e1 e2=>s _ _ (h.2 k a m e1 e2)⟩
theorem Rows.app {H:Hp} {xs:List Int} {rs rs':List Addr} {ms ms':List (Nat×Int)} (h:Rows H xs rs ms) (h':Rows H xs rs' ms'):Rows H xs (rs++rs') (ms++ms'):=by
 refine⟨by rw[List.length_append,List.length_append,h.1,h'.1],fun k a m e1 e2=>?_⟩
 by_cases hk:k<rs.length
 . rw[List.getElem?_append_left hk] at e1
   rw[List.getElem?_append_left (by rw[<-h.1];exact hk)] at e2
   exact h.2 k a m e1 e2
 . rw[List.getElem?_append_right (by omega)] at e1
   rw[List.getElem?_append_right (by rw[<-h.1];omega),<-h.1] at e2
   exact h'.2 _ a m e1 e2
theorem Rows.one {H:Hp} {xs:List Int} {a:Addr} {m:Nat×Int} (h:zZ4 H xs a m):Rows H xs [a] [m]:=⟨rfl,fun k a' m' e1 e2=>by
 match k,e1,e2 with
 | 0,e1,e2=>cases e1;cases e2;exact h
 | k+1,e1,_=>simp at e1⟩
theorem Rows.put {H:Hp} {xs:List Int} {rs:List Addr} {ms:List (Nat×Int)} {l:Addr} {o:HO} {vs:List V} (h:Rows H xs rs ms) (hl:H l=some (.lst vs)):Rows (upd H l o) xs rs ms :=
 ⟨h.1,fun k a m e1 e2=>by
   have:=h.2 k a m e1 e2
   unfold zZ4 at this ⊢
   rw[za8 (fun z=>by rw[z,hl] at this;cases this)]
   exact this⟩
noncomputable def yd9 (K:W.Frag) (t:Adr):Sp:=fun vs H Q _=>∃ (b a:Addr) (n r lim k:Int) (i:Nat) (hs xs:List Int),vs=[.ref b,.ref a,.int k]/\zg7 t H b n r hs lim/\ze0 n r hs.length xs/\H a=some (.tup (xs.map V.int))/\(k=(i:Int)+1/\i<xs.length) ∧
 ∀ l H',Same H H'->H' l=some (.lst ((zj4 n r hs lim xs i (wide n)).map V.int))->Q (.ref l) H'
theorem ok_puts (T:Txt K mg t):FnOk P w K mg base CX0 5 t.cz t.cF ["beam","places","weight"] (yd9 K t):=by
 have GaC:FnOk P w K mg base CX0 4 t.bp t.bH ["beam","standing","weight"] (zG9 K t):=zP8 T
 have Gag:FnOk P w K mg base CX0 1 t.bV t.cc ["beam","tipped"] (zN9 K t):=zW8 T
 have Gak:FnOk P w K mg base CX0 1 t.cd t.cy ["beam","places","place"] (zW9 K t):=yd8 T
 refine T.fS.ok zN7 (fun vs H Q E h=>?_) (fun cdv A outer s H vs Q E hr h=>?_)
 . obtain ⟨b,a,n,r,lim,k,i,hs,xs,rfl,B,V0,hT,⟨rfl,hi⟩,q⟩:=h
   rfl
 . obtain ⟨b,a,n,r,lim,k,i,hs,xs,rfl,B,V0,hT,⟨rfl,hi⟩,q⟩:=h
   have haC:Room 4 _:=hr.mono (by decide)
   have hag:Room 1 _:=hr.mono (by decide)
   have hak:Room 1 _:=hr.mono (by decide)
   refine⟨_,(za4 (zb7 (i:=3) zN7.nd rfl (Or.inr rfl) (za7 GaC haC rfl T.bG T.bH T.bF .nil zb4 (za0 (pv 0) (za0 (pv 1) (za0 (pv 2) za2)))))
     (za4 (zd1 (zh4 (za7 Gag hag rfl T.a1 T.a2 T.a0 .nil zb4 (za0 (pv 0) (za0 (pv 3) za2)))) (za6 (zb8 (ze6 za2))) zb5)
     (za4 (zb7 (i:=4) zN7.nd rfl (Or.inr rfl) (zc6 zf4 (pv 1) (zb0 zh1 (pv 2) za1) (fun _ _=>rfl)))
     (za4 (zb7 (i:=5) zN7.nd rfl (Or.inr rfl) (zc6 zf4 (zg1 (pv 0) rfl) (zb0 zh1 (pv 2) za1) (fun _ _=>rfl)))
     (za6 (zb8 (zr0 rfl zS6 (zD4 rfl T.am (za0 (zn1 zh8 (zg1 (pv 0) rfl)) (za0 (zb0 ze8 (zg1 (pv 0) rfl) za1) za2))) (fun _ _ _ _ _=>(zc7 (i:=0) zS6.nd rfl (Or.inl rfl))) (fun _ _ _ _ _=>(zO8 (PW.pt (zw3 (zb3 zr2 (pv 0) (pv 1) (zb9 _)) (zw3 (zK5 (zh4 (za7 Gak hak rfl T.dg T.dh T.df .nil zb4 (za0 (pv 2) (za0 (pv 3) (za0 (pv 0) za2)))))) (zv0 (zK5 (zh4 (za7 Gag hag rfl T.a1 T.a2 T.a0 .nil zb4 (za0 (pv 2) (za0 (zb0 ze8 (pv 4) (zb0 zl5 (pv 5) (pv 0))) za2))))))))))) (fun _ _ _ _ _=>(pv 0))))))))),?_⟩
   refine⟨_,rfl,_,rfl,_,rfl,b,a,n,r,lim,_,i,hs,xs,rfl,B,V0,.inr hT,⟨rfl,hi⟩,fun H1 s1=>?_⟩
   have hT1:=s1 _ _ hT
   have B1:=B.same s1
   refine⟨_,rfl,_,rfl,b,n,r,lim,hs,_,rfl,B1,_,rfl,?_⟩
   refine ite2 (fun h1=>?_) (fun h1=>?_)
   . have h1':¬ absI (zi2 hs xs i)<=lim:=fun z=>by have:=of_decide_eq_true h1;omega
     refine⟨Nat.zero_le _,fun l fl=>q l _ (s1.updT fl) ?_⟩
     rw[zT3 _ h1']
     exact za3
   have h1':absI (zi2 hs xs i)<=lim:=Int.not_lt.mp fun z=>h1 (decide_eq_true z)
   obtain ⟨ok,dx,h,hb,hh⟩:=B1
   have hlen:=V0.len
   have e1:((i:Int)+1-1).toNat=i:=by omega
   have a1:atI (hs.map V.int) ((i:Int)+1-1)=some (.int (hs.getD i 0)):=by have:=zf3 (xs:=hs) (i:=(i:Int)+1-1) (by omega) (by omega);rw[e1] at this;exact this
   have a2:atI (xs.map V.int) ((i:Int)+1-1)=some (.int (xs.getD i 0)):=by have:=zf3 (xs:=xs) (i:=(i:Int)+1-1) (by omega) (by omega);rw[e1] at this;exact this
   have hm:=ok.h (hs.getD i 0) (zj1 (by omega))
   have n1:=ok.n1
   have n2:=ok.n2
   refine⟨_,rfl,_,rfl,_,_,rfl,rfl,a,_,_,_,rfl,rfl,SqT.of hT1,a2,?_⟩
   refine⟨_,rfl,b,_,dx,_,_,rfl,hb,T.ab,T.ag,zE6 _ _ _ _,_,rfl,_,_,rfl,rfl,h,_,_,_,rfl,rfl,SqT.of hh,a1,?_⟩
   refine⟨_,rfl,b,_,dx,_,_,rfl,hb,T.ab,T.ae,zp6 _ _ _ _,_,rfl,_,rfl,b,_,dx,_,_,rfl,hb,T.ab,T.ae,zp6 _ _ _ _,_,_,rfl,rfl,-n,n+1,rfl,⟨by omega,by omega,by omega,by omega⟩,fun D hD=>?_⟩
   refine zB6 (fun j H'=>H'=upd H1 D (.lst ((zj4 n r hs lim xs i j).map V.int))) rfl ?_ ?_
   . rintro j H' N hj rfl hN
     have hT':(upd H1 D (.lst ((zj4 n r hs lim xs i j).map V.int))) a=some (.tup (xs.map V.int)):=Same.upd hD _ _ hT1
     have B':zg7 t (upd H1 D (.lst ((zj4 n r hs lim xs i j).map V.int))) b n r hs lim:=zg7.same ⟨ok,dx,h,hb,hh⟩ (Same.upd hD)
     have hD':(upd H1 D (.lst ((zj4 n r hs lim xs i j).map V.int))) D=some (.lst ((zj4 n r hs lim xs i j).map V.int)):=za3
     have no:¬ Lets n r hs lim xs i (-n+(j:Int))->(upd H1 D (.lst ((zj4 n r hs lim xs i j).map V.int)))=upd H1 D (.lst ((zj4 n r hs lim xs i (j+1)).map V.int)):=fun z=>by rw[zz6,if_neg z,List.append_nil]
     refine⟨_,rfl,_,rfl,rfl,_,rfl,?_⟩
     rw[zf6]
     refine ite2 (fun h2=>?_) (fun h2=>?_)
     . have h2':-n+(j:Int)≠xs.getD i 0:=by simpa using h2
       refine⟨_,rfl,_,rfl,_,rfl,b,a,n,r,lim,-n+(j:Int),hs,xs,rfl,B',hT',_,rfl,?_⟩
       refine ite2 (fun h3=>?_) (fun h3=>?_)
       . have h3':¬ (-n+(j:Int)≠0/\r<=(xs.count (-n+(j:Int)):Int)):=fun z=>by unfold zC7 at h3;rw[decide_eq_true z] at h3;exact Bool.noConfusion h3
         have hroom:-n+(j:Int)≠0->(xs.count (-n+(j:Int)):Int)<r:=fun z=>Int.not_le.mp fun y=>h3' ⟨z,y⟩
         refine⟨_,rfl,_,rfl,_,rfl,_,rfl,_,_,rfl,rfl,.inl ⟨by omega,by omega⟩,_,_,rfl,rfl,b,n,r,lim,hs,_,rfl,B',_,rfl,?_⟩
         refine ite2 (fun h4=>?_) (fun h4=>?_)
         . have h4':absI (zi2 hs xs i+hs.getD i 0*(-n+(j:Int)))<=lim:=Int.not_lt.mp fun z=>by rw[decide_eq_true z] at h4;exact Bool.noConfusion h4
           have L:Lets n r hs lim xs i (-n+(j:Int)):=⟨hi,by unfold wide at *;omega,h2',hroom,h1',h4'⟩
           refine⟨_,rfl,_,hD',zd0 (by rw[List.length_map];have:=zE8 n r hs lim xs i j;omega),hN _ ?_⟩
           rw[zj6,zz6,if_pos L,List.map_append]
           rfl
         . exact hN _ (no fun L=>h4 (by have:=L.behind;rw[decide_eq_false (by omega)];rfl))
       . refine iteF ?_
         exact hN _ (no fun L=>h3 (by unfold zC7;rw[decide_eq_false (fun z=>by have:=L.room z.1;omega)];rfl))
     . have h2':-n+(j:Int)=xs.getD i 0:=by simpa using h2
       refine iteF ?_
       exact hN _ (no fun L=>L.ne h2')
   . rintro H' rfl
     exact q D _ (s1.updT hD) za3
noncomputable def zZ5 (K:W.Frag) (t:Adr):Sp:=fun vs H Q _=>∃ (b a:Addr) (n r lim:Int) (hs xs:List Int),vs=[.ref b,.ref a]/\zg7 t H b n r hs lim/\ze0 n r hs.length xs/\(SqL K H a (xs.map V.int)\/H a=some (.tup (xs.map V.int))) ∧
 ∀ l rs H',Same H H'->H l=none->H' l=some (.lst (rs.map V.ref))->Rows H' xs rs (zp7 n r hs lim xs xs.length)->Q (.ref l) H'
theorem ok_moves (T:Txt K mg t):FnOk P w K mg base CX0 6 t.ck t.cC ["beam","standing"] (zZ5 K t):=by
 have Gae:FnOk P w K mg base CX0 2 t.ag t.aj ["beam","standing"] (zg8 K t):=zh6 T
 have GaF:FnOk P w K mg base CX0 5 t.cz t.cF ["beam","places","weight"] (yd9 K t):=ok_puts T
 refine T.fD.ok zI2 (fun vs H Q E h=>?_) (fun cdv A outer s H vs Q E hr h=>?_)
 . obtain ⟨b,a,n,r,lim,hs,xs,rfl,B,V0,hS,q⟩:=h
   rfl
 . obtain ⟨b,a,n,r,lim,hs,xs,rfl,B,V0,hS,q⟩:=h
   have hae:Room 2 _:=hr.mono (by decide)
   have haF:Room 5 _:=hr.mono (by decide)
   refine⟨_,(za4 (zb7 (i:=2) zI2.nd rfl (Or.inr rfl) (za7 Gae hae rfl T.ak T.al T.aj .nil zb4 (za0 (pv 0) (za0 (pv 1) za2))))
     (za4 (zb7 (i:=3) zI2.nd rfl (Or.inl rfl) (ze6 za2))
     (za4 (zn9 PassesOwn.never rfl (zD4 rfl T.am (za0 za1 (za0 (zb0 ze8 (zc3 zc1 rfl T.aa PySem.boot_len (za0 (pv 2) za2)) za1) za2))) (zc7 (i:=4) zI2.nd rfl (Or.inr rfl)) (za6 (ze7 (zl7 PySem.F.plainAttrs_list PySem.F.slot_list_extend PySem.F.type_list_extend mt_extend (pv 3) (za0 (zr0 rfl zP6 (zq8 (za7 GaF haF rfl T.fU T.fV T.fT .nil zb4 (za0 (pv 0) (za0 (pv 2) (za0 (pv 4) za2))))) (fun _ _ _ _ _=>(zc7 (i:=0) zP6.nd rfl (Or.inl rfl))) (fun _ _ _ _ _=>zn5) (fun _ _ _ _ _=>(zp9 (za0 (pv 1) (za0 (zc6 (zH7 K rfl) (pv 2) (zb0 zh1 (pv 1) za1) (fun _ _=>rfl)) (za0 (pv 0) za2)))))) za2)))))
     (za6 (zb8 (pv 3)))))),?_⟩
   have hx5:xs.length<=5:=by have:=B.1.w;have:=V0.len;omega
   have n1:=B.1.n1
   have n2:=B.1.n2
   have hwide:wide n<=9:=by unfold wide;omega
   refine⟨_,rfl,_,rfl,b,a,n,r,lim,hs,xs,rfl,B,V0,hS,fun p H1 s1 hT1=>?_⟩
   refine⟨Nat.zero_le _,fun l fl=>?_⟩
   have fl0:H l=none:=s1.free fl
   have B1:=B.same s1
   have s2:Same H1 (upd H1 l (.lst [])):=Same.upd fl
   have hl2:(upd H1 l (.lst [])) l=some (.lst []):=za3
   revert s2 hl2
   generalize upd H1 l (.lst [])=H2
   intro s2 hl2
   refine⟨_,rfl,p,_,rfl,.inr (SqT.of (s2 _ _ hT1)),_,_,rfl,rfl,1,_,rfl,?_⟩
   rw[List.length_map]
   refine⟨⟨by omega,by omega,by omega,by omega⟩,zk2 (lo:=1) (n:=((xs.length:Int)+1-1).toNat) (fun i σ H'=>∃ v rs,σ=[some (.ref b),some (.ref a),some (.ref p),some (.ref l),v]/\Same H1 H'/\H' l=some (.lst (rs.map V.ref))/\Rows H' xs rs (zp7 n r hs lim xs i)) ⟨none,[],rfl,s2,hl2,Rows.nil _ _⟩ ?_ ?_⟩
   . rintro i σ H3 hi ⟨v,rs,rfl,s3,hl3,R3⟩
     have hi':i<xs.length:=by omega
     have e1:(1+(i:Int)-1).toNat=i:=by omega
     have ax:atI (xs.map V.int) (1+(i:Int)-1)=some (.int (xs.getD i 0)):=by have:=zf3 (xs:=xs) (i:=1+(i:Int)-1) (by omega) (by omega);rw[e1] at this;exact this
     have hps:=zE8 n r hs lim xs i (wide n)
     have hrl:=zt6 n r hs lim xs i
     have hmul:i*wide n<=5*9:=Nat.mul_le_mul (by omega) hwide
     refine⟨_,rfl,.inl ⟨rfl,_,SqL.of hl3⟩,_,rfl,_,rfl,_,rfl,b,p,n,r,lim,_,i,hs,xs,rfl,B1.same s3,V0,s3 _ _ hT1,⟨by omega,hi'⟩,fun lp H4 s4 h4=>?_⟩
     refine⟨lp,rfl,⟨_,SqL.of h4⟩,fun D hD=>?_⟩
     have hrs:zp7 n r hs lim xs (i+1)=zp7 n r hs lim xs i++(zj4 n r hs lim xs i (wide n)).map fun p=>(i,p):=zz7 n r hs lim xs i
     generalize zj4 n r hs lim xs i (wide n)=ps at h4 hps hrs ⊢
     refine zz4 (K:=K) (a:=lp) (xs:=ps.map V.int) (fun j H'=>∃ rs',H' D=some (.lst (rs'.map V.ref))/\Rows H' xs rs' ((ps.take j).map fun p=>(i,p))/\Same H4 H') ⟨[],za3,Rows.nil _ _,Same.upd hD⟩ (fun j H' ⟨_,_,_,s⟩=>SqL.of (s _ _ h4)) ?_ ?_
     . rintro j x H' N hj ⟨rs',hD',R',s'⟩ hN
       obtain ⟨z,rfl,hz⟩:=zz3 hj
       dsimp only[zv3]
       refine iteT ?_
       refine⟨_,rfl,_,rfl,_,rfl,_,_,rfl,rfl,p,_,_,_,rfl,rfl,SqT.of (s' _ _ (s4 _ _ (s3 _ _ hT1))),ax,_,rfl,(by show 3<=sizeLine;decide),fun lt ft=>?_⟩
       have nDl:D≠lt:=fun z=>by rw[z,ft] at hD';cases hD'
       have hjl:(ps.take j).length<=9:=by rw[List.length_take];omega
       have hrl':rs'.length<=9:=by have:=R'.1;rw[List.length_map] at this;omega
       have etk:ps.take (j+1)=ps.take j++[z]:=by rw[List.take_succ,hz];rfl
       have R'':=(R'.same (Same.upd ft)).app (Rows.one (H:=upd H' lt (.tup [.int (1+(i:Int)),.int (xs.getD i 0),.int z])) (xs:=xs) (a:=lt) (m:=(i,z)) (by unfold zZ4;rw[za3,Int.add_comm]))
       have hD'':(upd H' lt (.tup [.int (1+(i:Int)),.int (xs.getD i 0),.int z])) D=some (.lst (rs'.map V.ref)):=by rw[za8 nDl];exact hD'
       refine⟨rs'.map V.ref,hD'',zd0 (by rw[List.length_map];omega),hN _ ⟨rs'++[lt],by rw[za3,List.map_append];rfl,?_,(s'.updT ft).put hD⟩⟩
       rw[etk,List.map_append]
       exact R''.put hD''
     . rintro H5 ⟨rs',hD5,R5,s5⟩
       rw[List.length_map,List.take_length] at R5
       have s35:=s4.trans s5
       have hl5:=s35 _ _ hl3
       have e2:rs.length=(zp7 n r hs lim xs i).length:=R3.1
       have e3:rs'.length=ps.length:=by rw[R5.1,List.length_map]
       refine⟨l,D,_,_,rfl,rfl,hl5,hD5,Nat.le_of_lt (zd0 (by rw[List.length_map,List.length_map];omega)),?_⟩
       refine⟨_,rs++rs',rfl,(s3.trans s35).put fl,by rw[za3,List.map_append],?_⟩
       rw[hrs]
       exact ((R3.same s35).app R5).put hl5
   . rintro σ H3 ⟨v,rs,rfl,s3,hl3,R3⟩
     rw[show ((xs.length:Int)+1-1).toNat=xs.length by omega] at R3
     exact⟨_,rfl,q l rs H3 (s1.trans s3) fl0 hl3 R3⟩
end
end Bt
namespace Bt
open PySem L2
section
variable {P:Program} {w:World} {K:W.Frag} {mg:Str->Option Value} {base:Heap} {t:Adr}
noncomputable def zl2 (b s x m:Addr):List (Str×V):=[("beam",.ref b),("start",.ref s),("standing",.ref x),("made",.ref m)]
theorem yg0:¬ ("beam" : Str) = "start":=by decide +kernel
theorem ya6:¬ ("beam" : Str) = "standing":=by decide +kernel
theorem yg1:¬ ("start" : Str) = "standing":=by decide +kernel
theorem yg2:¬ ("beam" : Str) = "made":=by decide +kernel
theorem pf_ne5:¬ ("start" : Str) = "made":=by decide +kernel
theorem yg3:¬ ("standing" : Str) = "made":=by decide +kernel
theorem pfN {f:Str} {v:V}:putF f v []=[(f,v)]:=rfl
theorem pfC {f g:Str} {v x:V} {l:List (Str×V)} (h:¬ g=f):putF f v ((g,x)::l)=(g,x)::putF f v l:=if_neg h
theorem pfE {f:Str} {v x:V} {l:List (Str×V)}:putF f v ((f,x)::l)=(f,v)::l:=if_pos rfl
theorem zZ6 (b s x m:Addr):putF "made" (.ref m) (putF "standing" (.ref x) (putF "start" (.ref s) (putF "beam" (.ref b) [])))=zl2 b s x m:=by
 rw[pfN,pfC yg0,pfN,pfC ya6,pfC yg1,pfN,pfC yg2,pfC pf_ne5,pfC yg3,pfN]
 rfl
theorem yg4 (b s x x' m:Addr):putF "standing" (.ref x') (zl2 b s x m)=zl2 b s x' m:=by
 unfold zl2
 rw[pfC ya6,pfC yg1,pfE]
theorem zJ3 (b s x m:Addr):(zl2 b s x m).lookup ("beam" : Str)=some (.ref b):=by rw[<-zZ6,zd2,if_neg yg2,zd2,if_neg ya6,zd2,if_neg yg0,zd2,if_pos rfl]
theorem zm0 (b s x m:Addr):(zl2 b s x m).lookup ("standing" : Str)=some (.ref x):=by rw[<-zZ6,zd2,if_neg yg3,zd2,if_pos rfl]
theorem zO2 (b s x m:Addr):(zl2 b s x m).lookup ("made" : Str)=some (.ref m):=by rw[<-zZ6,zd2,if_pos rfl]
theorem yh5 (b s x m:Addr) (f:Str) (h1:¬ f = "made") (h2:¬ f = "standing") (h3:¬ f = "start") (h4:¬ f = "beam"):(zl2 b s x m).lookup f=none:=by rw[<-zZ6,zd2,if_neg h1,zd2,if_neg h2,zd2,if_neg h3,zd2,if_neg h4];rfl
theorem pf_move (b s x m:Addr):(zl2 b s x m).lookup ("move" : Str)=none:=yh5 _ _ _ _ _ (by decide +kernel) (by decide +kernel) (by decide +kernel) (by decide +kernel)
theorem pf_back (b s x m:Addr):(zl2 b s x m).lookup ("back" : Str)=none:=yh5 _ _ _ _ _ (by decide +kernel) (by decide +kernel) (by decide +kernel) (by decide +kernel)
theorem yg5 (b s x m:Addr):(zl2 b s x m).length<1000:=by show 4<1000;decide
noncomputable def zj5 (p m:Addr) (H H':Hp):Prop:=∀ b o,H b=some o->b≠p->b≠m->H' b=some o
theorem zj5.tup {p m:Addr} {H H':Hp} (s:zj5 p m H H') (hp:∃ C dx fs,H p=some (.ins C dx fs)) (hm:∃ ys,H m=some (.lst ys)) {a:Addr} {vs:List V} (h:H a=some (.tup vs)):H' a=some (.tup vs) :=
 s a _ h (fun z=>by obtain ⟨C,dx,fs,e⟩:=hp;rw[z,e] at h;cases h) (fun z=>by obtain ⟨ys,e⟩:=hm;rw[z,e] at h;cases h)
theorem zj5.tups {p m:Addr} {H H':Hp} (s:zj5 p m H H') (hp:∃ C dx fs,H p=some (.ins C dx fs)) (hm:∃ ys,H m=some (.lst ys)) {ys:List V} {ks:List (List Int)} (h:Tups H ys ks):Tups H' ys ks:=Paired.mapP h fun y k ⟨b,e,hb⟩=>⟨b,e,s.tup hp hm hb⟩
structure zj2 (t:Adr) (H:Hp) (p b s x m:Addr) (n r:Int) (hs:List Int) (lim:Int) (a c:List Int) (ys:List V) (ms:List (List Int)):Prop where
 bm:zg7 t H b n r hs lim
 nb:b≠p
 hp:∃ dx,H p=some (.ins t.ac dx (zl2 b s x m))
 hs:H s=some (.tup (a.map V.int))
 hx:H x=some (.tup (c.map V.int))
 hm:H m=some (.lst ys)
 tm:Tups H ys ms
theorem zg7.same2 {t:Adr} {H H':Hp} {b p m:Addr} {n r lim:Int} {hs:List Int} (B:zg7 t H b n r hs lim) (s:zj5 p m H H') (nb:b≠p) (hp:∃ C dx fs,H p=some (.ins C dx fs)) (hm:∃ ys,H m=some (.lst ys)):zg7 t H' b n r hs lim:=by
 obtain ⟨ok,dx,h,hb,hh⟩:=B
 exact⟨ok,dx,h,s b _ hb nb (fun z=>by obtain ⟨ys,e⟩:=hm;rw[z,e] at hb;cases hb),s.tup hp hm hh⟩
theorem zj2.same {t:Adr} {H H':Hp} {p b s x m:Addr} {n r lim:Int} {hs a c:List Int} {ys:List V} {ms:List (List Int)} (h:zj2 t H p b s x m n r hs lim a c ys ms) (e:Same H H'):zj2 t H' p b s x m n r hs lim a c ys ms :=
 ⟨h.bm.same e,h.nb,let ⟨dx,z⟩:=h.hp;⟨dx,e _ _ z⟩,e _ _ h.hs,e _ _ h.hx,e _ _ h.hm,e.tups h.tm⟩
theorem zj2.ip {t:Adr} {H:Hp} {p b s x m:Addr} {n r lim:Int} {hs a c:List Int} {ys:List V} {ms:List (List Int)} (h:zj2 t H p b s x m n r hs lim a c ys ms):∃ C dx fs,H p=some (.ins C dx fs):=let ⟨dx,z⟩:=h.hp;⟨_,dx,_,z⟩
theorem Same.two {H H':Hp} (s:Same H H') (p m:Addr):zj5 p m H H':=fun b o e _ _=>s b o e
theorem zj5.trans {p m:Addr} {H H1 H2:Hp} (s:zj5 p m H H1) (s':zj5 p m H1 H2):zj5 p m H H2:=fun b o e h1 h2=>s' b o (s b o e h1 h2) h1 h2
theorem zj5.updP {p m:Addr} {H H1:Hp} {o:HO} (s:zj5 p m H H1):zj5 p m H (upd H1 p o):=fun b u e h1 h2=>by rw[za8 h1];exact s b u e h1 h2
theorem zj5.updM {p m:Addr} {H H1:Hp} {o:HO} (s:zj5 p m H H1):zj5 p m H (upd H1 m o):=fun b u e h1 h2=>by rw[za8 h2];exact s b u e h1 h2
noncomputable def zJ4 (K:W.Frag) (t:Adr):Sp:=fun vs H Q _=>∃ (p b a dx:Addr) (n r lim:Int) (hs xs:List Int),vs=[.ref p,.ref b,.ref a]/\H p=some (.ins t.ac dx [])/\b≠p/\zg7 t H b n r hs lim/\ze0 n r hs.length xs/\(SqL K H a (xs.map V.int)\/H a=some (.tup (xs.map V.int)))/\absI (zc5 hs xs)<=lim ∧
 ∀ H' s m,zr5 p H H'->H m=none->zj2 t H' p b s s m n r hs lim xs xs [] []->Q .non H'
theorem ok_Play_init (T:Txt K mg t):FnOk P w K mg base CX0 5 t.bi t.bO ["self","beam","start"] (zJ4 K t):=by
 have Gae:FnOk P w K mg base CX0 2 t.ag t.aj ["beam","standing"] (zg8 K t):=zh6 T
 have GaG:FnOk P w K mg base CX0 4 t.ci t.cA ["beam","standing"] (zZ0 K t):=ok_keeps T
 refine T.dR.ok zI3 (fun vs H Q E h=>?_) (fun cdv A outer s H vs Q E hr h=>?_)
 . obtain ⟨p,b,a,dx,n,r,lim,hs,xs,rfl,hp,nb,B,V0,hS,k0,q⟩:=h
   rfl
 . obtain ⟨p,b,a,dx,n,r,lim,hs,xs,rfl,hp,nb,B,V0,hS,k0,q⟩:=h
   have hae:Room 2 _:=hr.mono (by decide)
   have haG:Room 4 _:=hr.mono (by decide)
   refine⟨_,(za4 (zb7 (i:=3) zI3.nd rfl (Or.inl rfl) (za7 Gae hae rfl T.ak T.al T.aj .nil zb4 (za0 (pv 1) (za0 (pv 2) za2))))
     (za4 (zd1 (zK5 (zh4 (za7 GaG haG rfl T.fx T.fy T.fw .nil zb4 (za0 (pv 1) (za0 (pv 3) za2))))) (za6 zh3) zb5)
     (za4 (zw4 (pv 0) (pv 1) rfl)
     (za4 (zw4 (pv 0) (pv 3) rfl)
     (za4 (zw4 (pv 0) (pv 3) rfl)
     (za6 (zw4 (pv 0) (ze6 za2) rfl))))))),?_⟩
   refine⟨_,rfl,_,rfl,b,a,n,r,lim,hs,xs,rfl,B,V0,hS,fun l H1 s1 hl=>?_⟩
   refine⟨_,rfl,_,rfl,b,l,n,r,lim,hs,xs,rfl,B.same s1,V0,.inr hl,fun H2 s2=>⟨_,rfl,?_⟩⟩
   rw[decide_eq_true k0]
   refine iteF ?_
   have s02:=s1.trans s2
   have hl2:=s2 _ _ hl
   have nl:l≠p:=fun z=>by rw[z,s02 _ _ hp] at hl2;cases hl2
   refine⟨_,rfl,_,rfl,p,_,dx,_,rfl,s02 _ _ hp,T.ac,T.av,by decide,?_⟩
   refine⟨_,rfl,_,rfl,p,_,dx,_,rfl,za3,T.ac,T.c8,zB3 fl0,?_⟩
   refine⟨_,rfl,_,rfl,p,_,dx,_,rfl,za3,T.ac,T.ad,zB3 (flS fl0),?_⟩
   rw[zj6,zj6]
   refine⟨Nat.zero_le _,fun m fm=>?_⟩
   have nm:m≠p:=fun z=>by rw[z,za3] at fm;cases fm
   refine⟨_,rfl,p,_,dx,_,rfl,by rw[za8 nm.symm];exact za3,T.ac,T.ax,zB3 (flS (flS fl0)),?_⟩
   rw[zZ6]
   rw[za8 nm] at fm
   have s3:zr5 p H (upd (upd (upd H2 p (.ins t.ac dx (putF "standing" (.ref l) (putF "start" (.ref l) (putF "beam" (.ref b) []))))) m (.lst [])) p (.ins t.ac dx (zl2 b l l m))):=fun c o e hc=>by
     rw[za8 hc,za8 (zc0 (s02 _ _ e) fm),za8 hc]
     exact s02 _ _ e
   have hl3:(upd (upd (upd H2 p (.ins t.ac dx (putF "standing" (.ref l) (putF "start" (.ref l) (putF "beam" (.ref b) []))))) m (.lst [])) p (.ins t.ac dx (zl2 b l l m))) l=some (.tup (xs.map V.int)):=by
     rw[za8 nl,za8 (zc0 hl2 fm),za8 nl]
     exact hl2
   refine q _ l m s3 (s02.free fm) ⟨?_,nb,⟨dx,za3⟩,hl3,hl3,by rw[za8 nm];exact za3,.nil⟩
   obtain ⟨ok,dx',h,hb,hh⟩:=B
   exact⟨ok,dx',h,s3 _ _ hb nb,s3 _ _ hh (fun z=>by rw[z,hp] at hh;cases hh)⟩
noncomputable def zJ5 (K:W.Frag) (t:Adr):Sp:=fun vs H Q E=>∃ (p mv b s x m:Addr) (n r lim k u qq:Int) (hs a c:List Int) (ys:List V) (ms:List (List Int)),vs=[.ref p,.ref mv]/\zj2 t H p b s x m n r hs lim a c ys ms/\ze0 n r hs.length c/\H mv=some (.tup [.int k,.int u,.int qq])/\ys.length<300 ∧
 (refN n r lim hs c k u qq=0->∀ x' tv H',zj5 p m H H'->zj2 t H' p b s x' m n r hs lim a (c.set (k-1).toNat qq) (ys++[.ref tv]) (ms++[[k,u,qq]])->Q (.ref x') H')/\(∀ j od H',refN n r lim hs c k u qq=j+1->Told H H' od (zF7 (j+1))->E (.ref (clsN t (j+1))) od H')
theorem ok_Play_move (T:Txt K mg t):FnOk P w K mg base (CXD P w) 7 t.bj t.bP ["self","move"] (zJ5 K t):=by
 have GaH:FnOk P w K mg base (CXD P w) 6 t.cj t.cB ["beam","standing","move"] (zZ3 K t):=ok_moved T
 have GaI:FnOk P w K mg base CX0 2 t.ay t.a3 ["self","reason"] (zy7 K t):=ok_PlayFull_init T
 refine T.dT.d.okD (CX:=CX0) sc_Play_move (fun vs H Q E h=>?_) (fun cdv A outer s H vs Q E hr h=>?_)
 . obtain ⟨p,mv,b,s,x,m,n,r,lim,k,u,qq,hs,a,c,ys,ms,rfl,P0,V0,hM,hy,q,qe⟩:=h
   rfl
 . obtain ⟨p,mv,b,s,x,m,n,r,lim,k,u,qq,hs,a,c,ys,ms,rfl,P0,V0,hM,hy,q,qe⟩:=h
   have haH:Room 6 _:=hr.mono (by decide)
   have haJ:Room 3 _:=hr.mono (by decide)
   refine⟨_,(za4 (zd1 (zb3 zX3 (zc3 zc1 rfl T.aa PySem.boot_len (za0 (zg1 (pv 0) rfl) za2)) (zs8 (v:=.int 300) rfl T.dK ⟨_,rfl⟩) (zb9 _)) (za6 (zm4 zj7 rfl T.bv T.ei T.ec GaI haJ rfl T.eg T.cn .nil zb4 (za0 zc2 za2))) zb5)
     (za4 (zw4 (pv 0) (za7 GaH haH rfl T.fB T.fC T.fA .nil zl8 (za0 (zg1 (pv 0) rfl) (za0 (zg1 (pv 0) rfl) (za0 (pv 1) za2)))) rfl)
     (za4 (ze7 (zl7 PySem.F.plainAttrs_list PySem.F.slot_list_append PySem.F.type_list_append zk3 (zg1 (pv 0) rfl) (za0 (zd9 zn4 rfl T.aV PyProof.Rows.boot_tuple (za0 (pv 1) za2)) za2)))
     (za6 (zb8 (zg1 (pv 0) rfl)))))),?_⟩
   obtain ⟨dx,hp⟩:=P0.hp
   refine⟨_,rfl,p,_,dx,_,_,rfl,hp,T.ac,T.ax,zO2 _ _ _ _,m,_,rfl,.inl (SqL.of P0.hm),_,_,rfl,rfl,_,rfl,iteB (decide_eq_false (by omega)) ?_⟩
   refine⟨_,rfl,p,_,dx,_,_,rfl,hp,T.ac,T.av,zJ3 _ _ _ _,_,rfl,p,_,dx,_,_,rfl,hp,T.ac,T.ad,zm0 _ _ _ _,_,rfl,b,x,mv,n,r,lim,k,u,qq,hs,c,rfl,P0.bm,V0,.inr P0.hx,.inr (SqT.of hM),fun hz x' H1 s1 hx'=>?_,qe⟩
   have P1:=P0.same s1
   have hp1:=s1 _ _ hp
   refine⟨_,rfl,p,_,dx,_,rfl,hp1,T.ac,T.ad,yg5 _ _ _ _,?_⟩
   rw[yg4]
   have s2:zj5 p m H1 (upd H1 p (.ins t.ac dx (zl2 b s x' m))):=(Same.two (Same.refl H1) p m).updP
   have hp2:(upd H1 p (.ins t.ac dx (zl2 b s x' m))) p=some (.ins t.ac dx (zl2 b s x' m)):=za3
   have nmp:m≠p:=fun z=>by have:=P1.hm;rw[z,hp1] at this;cases this
   have hm2:(upd H1 p (.ins t.ac dx (zl2 b s x' m))) m=some (.lst ys):=by rw[za8 nmp];exact P1.hm
   have P2:zj2 t (upd H1 p (.ins t.ac dx (zl2 b s x' m))) p b s x' m n r hs lim a (c.set (k-1).toNat qq) ys ms:=⟨P1.bm.same2 s2 P1.nb P1.ip ⟨_,P1.hm⟩,P1.nb,⟨dx,hp2⟩,s2.tup P1.ip ⟨_,P1.hm⟩ P1.hs,s2.tup P1.ip ⟨_,P1.hm⟩ hx',hm2,s2.tups P1.ip ⟨_,P1.hm⟩ P1.tm⟩
   have hM1:=s1 _ _ hM
   have hM2:(upd H1 p (.ins t.ac dx (zl2 b s x' m))) mv=some (.tup [.int k,.int u,.int qq]):=by
     rw[za8 (fun z=>by rw[z,hp1] at hM1;cases hM1)]
     exact hM1
   have s02:zj5 p m H (upd H1 p (.ins t.ac dx (zl2 b s x' m))):=(Same.two s1 p m).trans s2
   revert P2 hp2 hm2 hM2 s02
   generalize upd H1 p (.ins t.ac dx (zl2 b s x' m))=H2
   intro hp2 hm2 P2 hM2 s02
   have fin:∀ (tv:Addr) (H3:Hp),Same H2 H3->H3 tv=some (.tup [.int k,.int u,.int qq])->zj2 t (upd H3 m (.lst (ys++[.ref tv]))) p b s x' m n r hs lim a (c.set (k-1).toNat qq) (ys++[.ref tv]) (ms++[[k,u,qq]])/\zj5 p m H (upd H3 m (.lst (ys++[.ref tv]))):=fun tv H3 s3 h3=>by
     have P3:=P2.same s3
     have s4:zj5 p m H3 (upd H3 m (.lst (ys++[.ref tv]))):=(Same.two (Same.refl H3) p m).updM
     have ip:=P3.ip
     have im:∃ ys,H3 m=some (.lst ys):=⟨_,P3.hm⟩
     exact⟨⟨P3.bm.same2 s4 P3.nb ip im,P3.nb,⟨dx,by rw[za8 nmp.symm];exact s3 _ _ hp2⟩,s4.tup ip im P3.hs,s4.tup ip im P3.hx,za3,zL1 (s4.tups ip im P3.tm) (s4.tup ip im h3)⟩,(s02.trans (Same.two s3 p m)).trans s4⟩
   refine⟨_,rfl,p,_,dx,_,_,rfl,hp2,T.ac,T.ax,zO2 _ _ _ _,.inl ⟨rfl,_,SqL.of hm2⟩,_,rfl,mv,[.int k,.int u,.int qq],rfl,?_⟩
   refine .inr ⟨SqT.of hM2,m,_,_,rfl,rfl,hm2,zd0 (by omega),?_⟩
   obtain ⟨P4,s4⟩:=fin mv _ (Same.refl _) hM2
   obtain ⟨dx4,hp4⟩:=P4.hp
   exact⟨_,rfl,p,_,dx4,_,_,rfl,hp4,T.ac,T.ad,zm0 _ _ _ _,q hz x' mv _ s4 P4⟩
noncomputable def zJ6 (K:W.Frag) (t:Adr):Sp:=fun vs H Q E=>∃ (p b s x m:Addr) (n r lim:Int) (hs a c:List Int) (ys:List V) (ms:List (List Int)),vs=[.ref p]/\zj2 t H p b s x m n r hs lim a c ys ms/\c.length<=5/\ys.length<=300 ∧
 (ys=[]->∀ od H',Told H H' od "nothing back"->E (.ref t.ad) od H') ∧
 (ys≠[]->∃ (ys0:List V) (ms0:List (List Int)) (tv:Addr) (i:Nat) (u v:Int),ys=ys0++[.ref tv]/\ms=ms0++[[(i:Int)+1,u,v]]/\H tv=some (.tup [.int ((i:Int)+1),.int u,.int v])/\i<c.length/\∀ x' H',zj5 p m H H'->zj2 t H' p b s x' m n r hs lim a (c.set i u) ys0 ms0->Q (.ref tv) H')
theorem ok_Play_back (T:Txt K mg t):FnOk P w K mg base (CXD P w) 4 t.bk t.bQ ["self"] (zJ6 K t):=by
 have GaE:FnOk P w K mg base CX0 1 t.bx t.bY ["places","move"] (zM1 K t):=zT1 T
 have GaK:FnOk P w K mg base CX0 2 t.al t.aI ["self","reason"] (zs7 K t):=ok_NothingBack_init T
 have GaL:FnOk P w K mg base CX0 1 t.bX t.cm ["move"] (zT2 K t):=ok_turned T
 refine T.dV.d.okD (CX:=CX0) zI4 (fun vs H Q E h=>?_) (fun cdv A outer s H vs Q E hr h=>?_)
 . obtain ⟨p,b,s,x,m,n,r,lim,hs,a,c,ys,ms,rfl,P0,hc5,hy3,qe,q⟩:=h
   rfl
 . obtain ⟨p,b,s,x,m,n,r,lim,hs,a,c,ys,ms,rfl,P0,hc5,hy3,qe,q⟩:=h
   have haE:Room 1 _:=hr.mono (by decide)
   have haM:Room 3 _:=hr.mono (by decide)
   have haL:Room 1 _:=hr.mono (by decide)
   refine⟨_,(za4 (zd1 (zb3 zg3 (zc3 zc1 rfl T.aa PySem.boot_len (za0 (zg1 (pv 0) rfl) za2)) za1 (zb9 _)) (za6 (zm4 zj7 rfl T.a9 T.dc T.cL GaK haM rfl T.c9 T.bE .nil zb4 (za0 zc2 za2))) zb5)
     (za4 (zb7 (i:=1) zI4.nd rfl (Or.inl rfl) (yf1 PySem.F.plainAttrs_list PySem.F.slot_list_pop PySem.F.type_list_pop yf2 (zg1 (pv 0) rfl)))
     (za4 (zw4 (pv 0) (za7 GaE haE rfl T.b2 T.b3 T.b1 .nil zb4 (za0 (zg1 (pv 0) rfl) (za0 (za7 GaL haL rfl T.eI T.eJ T.eH .nil zb4 (za0 (pv 1) za2)) za2))) rfl)
     (za6 (zb8 (pv 1)))))),?_⟩
   obtain ⟨dx,hp⟩:=P0.hp
   refine⟨_,rfl,p,_,dx,_,_,rfl,hp,T.ac,T.ax,zO2 _ _ _ _,m,_,rfl,.inl (SqL.of P0.hm),rfl,_,rfl,?_⟩
   rw[zf6]
   refine ite2 (fun h1=>?_) (fun h1=>?_)
   . have hy:ys=[]:=List.eq_nil_of_length_eq_zero (by simpa using h1)
     exact⟨(by show 1<=sizeLine;decide),fun y fy=>⟨y,_,rfl,za3,fun H' dx hx hd sx=>⟨rfl,some dx,hx,qe hy _ _ (zv9 (Same.refl _) fy hx hd sx)⟩⟩⟩
   . have hy:ys≠[]:=fun z=>h1 (by rw[z];rfl)
     obtain ⟨ys0,ms0,tv,i,u,v,rfl,rfl,htv,hi,q⟩:=q hy
     have hm:=P0.hm
     have nmp:m≠p:=fun z=>by rw[z,hp] at hm;cases hm
     have hl:(ys0++[V.ref tv])[(ys0++[V.ref tv]).length-1]?=some (.ref tv):=by rw[List.length_append];simp
     refine⟨_,rfl,p,_,dx,_,_,rfl,hp,T.ac,T.ax,zO2 _ _ _ _,.inl ⟨rfl,_,SqL.of hm⟩,m,_,_,rfl,rfl,hm,hl,?_⟩
     rw[List.dropLast_concat]
     have s1:zj5 p m H (upd H m (.lst ys0)):=(Same.two (Same.refl H) p m).updM
     have ip:=P0.ip
     have im:∃ ys,H m=some (.lst ys):=⟨_,hm⟩
     have hp1:(upd H m (.lst ys0)) p=some (.ins t.ac dx (zl2 b s x m)):=by rw[za8 nmp.symm];exact hp
     have hm1:(upd H m (.lst ys0)) m=some (.lst ys0):=za3
     have tm0:Tups H ys0 ms0:=by
       have key:∀ {ys:List V} {ks:List (List Int)} {y:V} {k:List Int},Tups H (ys++[y]) (ks++[k])->Tups H ys ks:=by
         intro ys
         induction ys with
         | nil =>
           intro ks y k h
           cases ks with
           | nil=>exact .nil
           | cons k' ks=>have:=zr8 h;simp at this
         | cons y' ys ih =>
           intro ks y k h
           cases ks with
           | nil=>have:=zr8 h;simp at this
           | cons k' ks=>cases h with | cons a t=>exact .cons a (ih t)
       exact key P0.tm
     have P1:zj2 t (upd H m (.lst ys0)) p b s x m n r hs lim a c ys0 ms0:=⟨P0.bm.same2 s1 P0.nb ip im,P0.nb,⟨dx,hp1⟩,s1.tup ip im P0.hs,s1.tup ip im P0.hx,hm1,s1.tups ip im tm0⟩
     have htv1:=s1.tup ip im htv
     revert s1 hp1 hm1 P1 htv1
     generalize upd H m (.lst ys0)=H1
     intro s1 hp1 hm1 P1 htv1
     refine⟨_,rfl,p,_,dx,_,_,rfl,hp1,T.ac,T.ad,zm0 _ _ _ _,_,rfl,tv,(i:Int)+1,u,v,rfl,.inr (SqT.of htv1),fun l2 f2=>?_⟩
     have s2:Same H1 (upd H1 l2 (.tup [.int ((i:Int)+1),.int v,.int u])):=Same.upd f2
     have h2:(upd H1 l2 (.tup [.int ((i:Int)+1),.int v,.int u])) l2=some (.tup [.int ((i:Int)+1),.int v,.int u]):=za3
     revert s2 h2
     generalize upd H1 l2 (.tup [.int ((i:Int)+1),.int v,.int u])=H2
     intro s2 h2
     refine⟨x,l2,(i:Int)+1,v,u,i,c,rfl,s2 _ _ P1.hx,.inr (SqT.of h2),⟨rfl,hi,by omega⟩,fun x' H3 s3 hx3=>?_⟩
     have s13:=s2.trans s3
     have P3:=P1.same s13
     have hp3:=s13 _ _ hp1
     refine⟨_,rfl,p,_,dx,_,rfl,hp3,T.ac,T.ad,yg5 _ _ _ _,?_⟩
     rw[yg4]
     have s4:zj5 p m H3 (upd H3 p (.ins t.ac dx (zl2 b s x' m))):=(Same.two (Same.refl H3) p m).updP
     have ip3:=P3.ip
     have im3:∃ ys,H3 m=some (.lst ys):=⟨_,P3.hm⟩
     exact⟨_,rfl,q x' _ ((s1.trans (Same.two s13 p m)).trans s4) ⟨P3.bm.same2 s4 P3.nb ip3 im3,P3.nb,⟨dx,za3⟩,s4.tup ip3 im3 P3.hs,s4.tup ip3 im3 hx3,by rw[za8 nmp];exact P3.hm,s4.tups ip3 im3 P3.tm⟩⟩
end
end Bt
namespace Bt
open PySem L2
section
variable {P:Program} {w:World} {K:W.Frag} {mg:Str->Option Value} {base:Heap} {t:Adr}
noncomputable def nbs (n r:Int) (hs:List Int) (lim:Int) (x:List Int):List (List Int):=(zp7 n r hs lim x x.length).map fun m=>x.set m.1 m.2
theorem zT4 {n r:Int} {hs:List Int} {lim:Int} {x:List Int} {i:Nat} {p:Int}:p∈zj4 n r hs lim x i (wide n)↔Lets n r hs lim x i p:=by
 unfold zj4 grid
 rw[List.mem_filter,decide_eq_true_eq]
 refine⟨fun h=>h.2,fun h=>⟨?_,h⟩⟩
 have:=h.on
 rw[List.mem_map]
 exact⟨(p+n).toNat,List.mem_range.mpr (by unfold wide;omega),by omega⟩
theorem zE9 {n r:Int} {hs:List Int} {lim:Int} {x:List Int} {k:Nat} {m:Nat×Int}:m∈zp7 n r hs lim x k↔m.1<k/\Lets n r hs lim x m.1 m.2:=by
 unfold zp7
 rw[List.mem_flatMap]
 constructor
 . rintro⟨i,hi,hm⟩
   obtain ⟨p,hp,rfl⟩:=List.mem_map.mp hm
   exact⟨List.mem_range.mp hi,zT4.mp hp⟩
 . rintro⟨hi,L⟩
   exact⟨m.1,List.mem_range.mpr hi,List.mem_map.mpr ⟨m.2,zT4.mpr L,rfl⟩⟩
theorem mem_nbs {n r:Int} {hs:List Int} {lim:Int} {x y:List Int}:y∈nbs n r hs lim x↔∃ i p,Lets n r hs lim x i p/\y=x.set i p:=by
 unfold nbs
 rw[List.mem_map]
 constructor
 . rintro⟨m,hm,rfl⟩
   exact⟨m.1,m.2,(zE9.mp hm).2,rfl⟩
 . rintro⟨i,p,L,rfl⟩
   exact⟨(i,p),zE9.mpr ⟨L.lt,L⟩,rfl⟩
section
variable {n r:Int} {hs:List Int} {lim:Int} {s:List Int}
end
open NumText in
noncomputable def mv3:List Str->Option (Int×Int×Int)
 | [a,b,c]=>match zt9 a,zn7 b,zn7 c with
   | some k,some s,some p=>some (k,s,p)
   | _,_,_=>none
 | _=>none
noncomputable def zX0 (z:Str):Option (Int×Int×Int):=mv3 (Txt.split z (Str.ofString " "))
noncomputable def zq1 (k s p:Int):Str:=Txt.join (Str.ofString " ") [sI k,zd6 s,zd6 p]
noncomputable def zP9 (xs:List Int):Str:=if xs=[] then Str.ofString "none" else Txt.join (Str.ofString " ") (xs.map zd6)
noncomputable def zu6 (K:W.Frag) (t:Adr):Sp:=fun vs H Q _=>∃ i:Int,vs=[.int i]/\i.natAbs<=100000/\Q (.str (zd6 i)) H
noncomputable def zJ7 (K:W.Frag) (t:Adr):Sp:=fun vs H Q _=>∃ i:Int,vs=[.int i]/\i.natAbs<=100000/\Q (.str (zd6 i)) H
noncomputable def zJ8 (K:W.Frag) (t:Adr):Sp:=fun vs H Q _=>∃ z:Str,vs=[.str z]/\z.length<=1000000/\∀ H',Same H H'->Q (.bl (zS4 z)) H'
noncomputable def zm1 (K:W.Frag) (t:Adr):Sp:=fun vs H Q _=>∃ (z:Str) (n:Int),vs=[.str z]/\z.length<=1000000/\zt9 z=some n/\∀ H',Same H H'->Q (.int n) H'
noncomputable def zw8 (K:W.Frag) (t:Adr):Sp:=fun vs H Q _=>∃ (z:Str) (n:Int),vs=[.str z]/\z.length<=1000000/\zn7 z=some n/\∀ H',Same H H'->Q (.int n) H'
noncomputable def zw1 (K:W.Frag) (t:Adr):Sp:=fun vs H Q _=>∃ (b a:Addr) (n r lim:Int) (hs xs:List Int),vs=[.ref b,.ref a]/\zg7 t H b n r hs lim/\ze0 n r hs.length xs ∧
 (SqL K H a (xs.map V.int)\/H a=some (.tup (xs.map V.int)))/\∀ H',Same H H'->Q (.str (zP9 xs)) H'
theorem zh2 {i:Int} (h:i.natAbs<=100000):i.natAbs.log2<1920:=by
 by_cases h0:i.natAbs=0
 . rw[h0];decide
 . have:i.natAbs.log2<17:=(Nat.log2_lt h0).mpr (by omega)
   omega
theorem zy8 {n:Nat} (h:n<=1000000):n<=sizeLine:=Nat.le_trans h (by decide)
theorem zD0 (T:Txt K mg t):FnOk P w K mg base CX0 1 t.aG t.aY ["place"] (zu6 K t):=by
 refine T.c5.ok sc_write_place (fun vs H Q E h=>?_) (fun cdv A outer s H vs Q E hr h=>?_)
 . obtain ⟨i,rfl,hi,q⟩:=h
   rfl
 . obtain ⟨i,rfl,hi,q⟩:=h
   refine⟨_,(za4 (zd1 (zb3 zg3 (pv 0) za1 (zb9 _)) (za6 (zb8 zc2)) zb5)
     (za6 (zb8 (zd9 zf7 rfl T.aw PyProof.Rows.boot_str (za0 (pv 0) za2))))),?_⟩
   refine⟨_,rfl,rfl,_,rfl,?_⟩
   unfold zd6 at q
   refine ite2 (fun h1=>?_) (fun h1=>?_)
   . have e:i=0:=by simpa using h1
     rw[if_pos e] at q
     exact q
   . have e:i≠0:=by simpa using h1
     rw[if_neg e] at q
     exact⟨_,rfl,i,rfl,zh2 hi,q⟩
theorem zQ0 (T:Txt K mg t):FnOk P w K mg base CX0 1 t.bv t.bW ["_law_place"] (zJ7 K t):=by
 refine T.fI.ok sc_w_say (fun vs H Q E h=>?_) (fun cdv A outer s H vs Q E hr h=>?_)
 . obtain ⟨i,rfl,hi,q⟩:=h
   rfl
 . obtain ⟨i,rfl,hi,q⟩:=h
   refine⟨_,(za4 (zd1 (zb3 zg3 (pv 0) za1 (zb9 _)) (za6 (zb8 zc2)) zb5)
     (za6 (zb8 (zd9 zf7 rfl T.aw PyProof.Rows.boot_str (za0 (pv 0) za2))))),?_⟩
   refine⟨_,rfl,rfl,_,rfl,?_⟩
   unfold zd6 at q
   refine ite2 (fun h1=>?_) (fun h1=>?_)
   . have e:i=0:=by simpa using h1
     rw[if_pos e] at q
     exact q
   . have e:i≠0:=by simpa using h1
     rw[if_neg e] at q
     exact⟨_,rfl,i,rfl,zh2 hi,q⟩
theorem ok_is_number (T:Txt K mg t):FnOk P w K mg base CX0 1 t.bn t.bT ["text"] (zJ8 K t):=by
 refine T.d5.ok sc_is_number (fun vs H Q E h=>?_) (fun cdv A outer s H vs Q E hr h=>?_)
 . obtain ⟨z,rfl,hz,q⟩:=h
   rfl
 . obtain ⟨z,rfl,hz,q⟩:=h
   refine⟨_,(za4 (zd1 (zh4 (zl7 PySem.F.plainAttrs_str PySem.F.slot_str_startswith PySem.F.type_str_startswith zS3 (pv 0) (za0 zc2 za2))) (za6 (zb8 (zq9 zg3 (pv 0) zc2 (zb9 _)))) zb5)
     (za4 (zd1 (PW.pt (zH1 (zb3 zg3 (zc3 zH3 rfl T.aa PySem.boot_len (za0 (pv 0) za2)) za1 (zb9 _)) (zG5 (zb3 zv2 (zc3 zH3 rfl T.aa PySem.boot_len (za0 (pv 0) za2)) (zs8 (v:=.int 4) rfl T.cP ⟨_,rfl⟩) (zb9 _))))) (za6 (zb8 ya9)) zb5)
     (za6 (zb8 (zc3 (call_all rfl) rfl T.f2 PyProof.Rows.boot_all (za0 (zr0 rfl zC5 (pi_str (pv 0)) (fun _ _ _ _ _=>(zc7 (i:=0) zC5.nd rfl (Or.inl rfl))) (fun _ _ _ _ _=>zn5) (fun _ _ _ _ _=>(zq9 op_in_str (pv 0) (zs8 (v:=.str (Str.ofString "0123456789")) rfl T.eF ⟨_,rfl⟩) rfl))) za2)))))),?_⟩
   refine⟨_,rfl,rfl,_,_,rfl,rfl,_,rfl,?_⟩
   unfold zS4 at q
   refine ite2 (fun h1=>?_) (fun h1=>?_)
   . simp only[h1,if_true] at q
     refine⟨_,rfl,rfl,?_⟩
     have:=q H (Same.refl _)
     have e:decide (V.str z=V.str (Str.ofString "0"))=decide (z=Str.ofString "0"):=by
       by_cases h:z=Str.ofString "0"
       . rw[decide_eq_true h,decide_eq_true (by rw[h])]
       . rw[decide_eq_false h,decide_eq_false (fun z=>h (by injection z))]
     rw[e]
     exact this
   . have e1:Txt.startswith z (Str.ofString "0")=false:=Bool.eq_false_iff.mpr h1
     simp only[e1,Bool.false_eq_true,if_false] at q
     refine⟨_,rfl,_,rfl,zy8 hz,rfl,_,rfl,?_⟩
     refine ite2 (fun h2=>?_) (fun h2=>?_)
     . have e2:z.length=0\/4<z.length:=.inl (by simpa using h2)
       rw[if_pos e2] at q
       exact iteT (q H (Same.refl _))
     . have n0:¬ z.length=0:=by simpa using h2
       refine⟨_,rfl,_,rfl,zy8 hz,_,_,rfl,rfl,_,rfl,?_⟩
       refine ite2 (fun h3=>?_) (fun h3=>?_)
       . have e2:z.length=0\/4<z.length:=.inr (by have:=of_decide_eq_true h3;omega)
         rw[if_pos e2] at q
         exact q H (Same.refl _)
       . have n4:¬ 4<z.length:=fun h=>h3 (decide_eq_true (by omega))
         rw[if_neg (by omega)] at q
         refine⟨_,rfl,_,rfl,fun D hD=>?_⟩
         refine comp_str (f:=fun c=>V.bl (decide (48<=c/\c<=57))) (zy8 hz) (fun c acc R hc h=>?_) ?_
         . refine⟨_,rfl,_,_,rfl,rfl,?_⟩
           rw[fig_in]
           exact h
         . refine⟨D,z.cps.toList.map fun c=>decide (48<=c/\c<=57),rfl,SqL.of (by rw[za3,List.map_map];rfl),?_⟩
           have:=q _ (Same.upd (o:=.lst (z.cps.toList.map fun c=>V.bl (decide (48<=c/\c<=57)))) hD)
           rw[List.all_map]
           exact this
theorem zq2 (T:Txt K mg t):FnOk P w K mg base CX0 2 t.an t.av ["text"] (zm1 K t):=by
 have GaN:FnOk P w K mg base CX0 1 t.bn t.bT ["text"] (zJ8 K t):=ok_is_number T
 refine T.c6.ok sc_read_number (fun vs H Q E h=>?_) (fun cdv A outer s H vs Q E hr h=>?_)
 . obtain ⟨z,n,rfl,hz,hn,q⟩:=h
   rfl
 . obtain ⟨z,n,rfl,hz,hn,q⟩:=h
   have haN:Room 1 _:=hr.mono (by decide)
   refine⟨_,(za4 (zd1 (zK5 (zh4 (za7 GaN haN rfl T.d7 T.d8 T.d6 .nil zb4 (za0 (pv 0) za2)))) (za6 zh3) zb5)
     (za6 (zb8 (zd9 call_int_text rfl T.ek PyProof.Rows.boot_int (za0 (pv 0) za2))))),?_⟩
   unfold zt9 at hn
   split at hn
   . rename_i h1
     injection hn with hn
     subst hn
     refine⟨_,rfl,_,rfl,hz,fun H1 s1=>⟨_,rfl,?_⟩⟩
     refine iteB (by rw[h1];rfl) ?_
     exact⟨_,rfl,_,_,rfl,isNum_int h1,by have:=(zI0 h1).2.2;omega,q _ s1⟩
   . cases hn
theorem zF9 (T:Txt K mg t):FnOk P w K mg base CX0 3 t.aK t.a6 ["text"] (zw8 K t):=by
 have GaO:FnOk P w K mg base CX0 2 t.an t.av ["text"] (zm1 K t):=zq2 T
 refine T.dn.ok zw7 (fun vs H Q E h=>?_) (fun cdv A outer s H vs Q E hr h=>?_)
 . obtain ⟨z,n,rfl,hz,hn,q⟩:=h
   rfl
 . obtain ⟨z,n,rfl,hz,hn,q⟩:=h
   have haO:Room 2 _:=hr.mono (by decide)
   refine⟨_,(za4 (zd1 (zb3 zg3 (pv 0) zc2 (zb9 _)) (za6 (zb8 za1)) zb5)
     (za4 (zb7 (i:=1) zw7.nd rfl (Or.inl rfl) (zl7 PySem.F.plainAttrs_str PySem.F.slot_str_startswith PySem.F.type_str_startswith zS3 (pv 0) (za0 zc2 za2)))
     (za4 (zb7 (i:=2) zw7.nd rfl (Or.inl rfl) (za7 GaO haO rfl T.ao T.ap T.an .nil zb4 (za0 (zX1 (zh4 (pv 1)) (zi4 sl_str (pv 0) (zl1 za1) zn6) (pv 0)) za2)))
     (za4 (zd1 (zb3 zg3 (pv 2) za1 (zb9 _)) (za6 zh3) zb5)
     (za6 (zb8 (zX1 (zh4 (pv 1)) (zn1 zh8 (pv 2)) (pv 2)))))))),?_⟩
   refine⟨_,rfl,rfl,_,rfl,?_⟩
   unfold zn7 at hn
   refine ite2 (fun h1=>?_) (fun h1=>?_)
   . have e:z=Str.ofString "tray":=by simpa using h1
     rw[if_pos e] at hn
     injection hn with hn
     subst hn
     exact q _ (Same.refl _)
   . have e:¬ z=Str.ofString "tray":=by simpa using h1
     rw[if_neg e] at hn
     refine⟨_,rfl,rfl,_,_,rfl,rfl,_,rfl,_,rfl,?_⟩
     cases hr0:zt9 (if Txt.startswith z (Str.ofString "-")=true then Txt.slice z (some 1) none else z) with
     | none=>rw[hr0] at hn;cases hn
     | some m =>
       rw[hr0] at hn
       have hn':(if m=0 then none else some (if Txt.startswith z (Str.ofString "-")=true then -m else m))=some n:=hn
       have hm:m≠0:=fun e0=>by rw[if_pos e0] at hn';cases hn'
       rw[if_neg hm] at hn'
       injection hn' with hn'
       refine ite2 (fun h2=>?_) (fun h2=>?_)
       . rw[if_pos h2] at hr0 hn'
         refine⟨_,rfl,_,rfl,z,rfl,zy8 hz,_,m,rfl,Nat.le_trans (Txt.slice_le z _ _) hz,hr0,fun H1 s1=>?_⟩
         refine⟨_,rfl,rfl,_,rfl,iteB (decide_eq_false (fun e=>hm (by injection e))) ?_⟩
         refine⟨_,rfl,_,rfl,iteA h2 ?_⟩
         subst hn'
         exact⟨_,rfl,_,rfl,q _ s1⟩
       . rw[if_neg h2] at hr0 hn'
         refine⟨_,rfl,z,m,rfl,hz,hr0,fun H1 s1=>?_⟩
         refine⟨_,rfl,rfl,_,rfl,iteB (decide_eq_false (fun e=>hm (by injection e))) ?_⟩
         refine⟨_,rfl,_,rfl,iteB (Bool.eq_false_iff.mpr h2) ?_⟩
         subst hn'
         exact⟨_,rfl,q _ s1⟩
theorem zH0 {x n:Int} (h1:-n<=x) (h2:x<=n) (hn:n<=4):(zd6 x).length<=4:=by
 have:x = -4\/x = -3\/x = -2\/x = -1\/x=0\/x=1\/x=2\/x=3\/x=4:=by omega
 rcases this with rfl | rfl | rfl | rfl | rfl | rfl | rfl | rfl | rfl<;>decide +kernel
theorem zD1:∀ {xs:List Int} {n:Int},(∀ x∈xs,-n<=x/\x<=n)->n<=4->(((xs.map zd6).map (·.length)).sum<=4*xs.length)
 | [],_,_,_=>by simp
 | x::xs,n,h,hn=>by
   have ih:=zD1 (xs:=xs) (fun y hy=>h y (List.mem_cons_of_mem _ hy)) hn
   obtain ⟨h1,h2⟩:=h x List.mem_cons_self
   have:=zH0 h1 h2 hn
   rw[List.map_cons,List.map_cons,List.sum_cons,List.length_cons]
   omega
theorem ok_write_standing (T:Txt K mg t):FnOk P w K mg base CX0 3 t.aE t.a0 ["beam","standing"] (zw1 K t):=by
 have Gae:FnOk P w K mg base CX0 2 t.ag t.aj ["beam","standing"] (zg8 K t):=zh6 T
 have GaP:FnOk P w K mg base CX0 1 t.aG t.aY ["place"] (zu6 K t):=zD0 T
 refine T.b4.ok zv6 (fun vs H Q E h=>?_) (fun cdv A outer s H vs Q E hr h=>?_)
 . obtain ⟨b,a,n,r,lim,hs,xs,rfl,B,V0,hS,q⟩:=h
   rfl
 . obtain ⟨b,a,n,r,lim,hs,xs,rfl,B,V0,hS,q⟩:=h
   have hae:Room 2 _:=hr.mono (by decide)
   have haP:Room 1 _:=hr.mono (by decide)
   refine⟨_,(za4 (zb7 (i:=2) zv6.nd rfl (Or.inl rfl) (za7 Gae hae rfl T.ak T.al T.aj .nil zb4 (za0 (pv 0) (za0 (pv 1) za2))))
     (za4 (zd1 (zb3 zg3 (zc3 zc1 rfl T.aa PySem.boot_len (za0 (pv 2) za2)) za1 (zb9 _)) (za6 (zb8 zc2)) zb5)
     (za6 (zb8 (zl7 PySem.F.plainAttrs_str PySem.F.slot_str_join PySem.F.type_str_join zH9 zc2 (za0 (zr0 rfl zs5 (ya0 (pv 2)) (fun _ _ _ _ _=>(zc7 (i:=0) zs5.nd rfl (Or.inl rfl))) (fun _ _ _ _ _=>zn5) (fun _ _ _ _ _=>(za7 GaP haP rfl T.aM T.aN T.aL .nil zb4 (za0 (pv 0) za2)))) za2)))))),?_⟩
   refine⟨_,rfl,_,rfl,b,a,n,r,lim,hs,xs,rfl,B,V0,hS,fun l H1 s1 hl=>?_⟩
   refine⟨_,rfl,l,_,rfl,.inr (SqT.of hl),rfl,_,rfl,?_⟩
   unfold zP9 at q
   have hw:=B.1.w
   have hvl:=V0.len
   refine ite2 (fun h1=>?_) (fun h1=>?_)
   . have e:xs=[]:=by
       rw[List.length_map] at h1
       have h1':((xs.length:Nat):Int)=0:=by simpa using h1
       exact List.eq_nil_of_length_eq_zero (by omega)
     rw[if_pos e] at q
     exact q _ s1
   . have e:xs≠[]:=fun e=>h1 (by rw[e];rfl)
     rw[if_neg e] at q
     refine⟨rfl,_,rfl,l,rfl,⟨_,SqT.of hl⟩,fun D hD=>?_⟩
     refine zX8 (f:=fun v=>match v with | .int z=>V.str (zd6 z) | v=>v) (SqT.of hl) hD (by rw[List.length_map];exact zy8 (by omega)) (fun x acc R hx h=>?_) ?_
     . obtain ⟨z,hz,rfl⟩:=List.mem_map.mp hx
       obtain ⟨z1,z2⟩:=V0.on z hz
       exact⟨_,rfl,z,rfl,by have:=B.1.n2;omega,h⟩
     . have em:(xs.map V.int).map (fun v=>match v with | .int z=>V.str (zd6 z) | v=>v)=(xs.map zd6).map V.str:=by
         rw[List.map_map,List.map_map];rfl
       refine⟨_,D,xs.map zd6,rfl,rfl,SqL.of (by rw[za3,em]),?_,q _ (s1.updT hD)⟩
       have:=zD1 V0.on B.1.n2
       have e1:(Str.ofString " ").length=1:=by decide
       rw[e1,List.length_map]
       omega
noncomputable def wRow (h x:Int):Str:=(((Str.ofString "weight "++sI h)++Str.ofString " ")++zd6 x)
noncomputable def zq3 (n r lim:Int):List Str:=[Str.ofString "notches "++sI n,Str.ofString "room "++sI r,Str.ofString "limit "++sI lim]
noncomputable def zT5 (n r lim:Int) (hs xs:List Int):List Str:=zq3 n r lim++List.zipWith wRow hs xs
noncomputable def zT6 (n r lim:Int) (hs xs:List Int):Str:=Txt.join (Str.ofString "\n") (zT5 n r lim hs xs)
structure ya7 (z:Str) (n r lim:Int) (hs xs:List Int):Prop where
 rows:∃ z0 z1 z2 zs a0 a1 a2,Txt.split z (Str.ofString "\n")=z0::z1::z2::zs/\Txt.split z0 (Str.ofString " ")=[Str.ofString "notches",a0]/\Txt.split z1 (Str.ofString " ")=[Str.ofString "room",a1]/\Txt.split z2 (Str.ofString " ")=[Str.ofString "limit",a2] ∧
   zt9 a0=some n/\zt9 a1=some r/\zt9 a2=some lim/\zs.length=hs.length/\xs.length=hs.length ∧
   ∀ (i:Nat) w h x,zs[i]?=some w->hs[i]?=some h->xs[i]?=some x->∃ a b,Txt.split w (Str.ofString " ")=[Str.ofString "weight",a,b]/\zt9 a=some h/\zn7 b=some x
noncomputable def zs3 (K:W.Frag) (t:Adr):Sp:=fun vs H Q _=>∃ (front row:Str) (ws:List Str) (many:Int),vs=[.str front,.str row,.int many]/\row.length<=1000000/\Txt.split row (Str.ofString " ")=front::ws/\(ws.length:Int)=many ∧
 ∀ l H',Same H H'->H' l=some (.lst (ws.map V.str))->Q (.ref l) H'
noncomputable def zD2 (K:W.Frag) (t:Adr):Sp:=fun vs H Q _=>∃ (row a b:Str) (h x:Int),vs=[.str row]/\row.length<=1000000/\Txt.split row (Str.ofString " ")=[Str.ofString "weight",a,b]/\zt9 a=some h/\zn7 b=some x ∧
 ∀ l H',Same H H'->H l=none->H' l=some (.tup [.int h,.int x])->Q (.ref l) H'
noncomputable def zJ9 (K:W.Frag) (t:Adr):Sp:=fun vs H Q _=>∃ (z:Str) (n r lim:Int) (hs xs:List Int),vs=[.str z]/\z.length<=1000000/\ya7 z n r lim hs xs/\zh5 n r hs lim/\ze0 n r hs.length xs ∧
 ∀ l b p H',Same H H'->zg7 t H' b n r hs lim->H' p=some (.tup (xs.map V.int))->H' l=some (.tup [.ref b,.ref p])->Q (.ref l) H'
theorem sum_le {ws:List Str} {B:Nat} (h:∀ w∈ws,w.length<=B):(ws.map (·.length)).sum<=B*ws.length:=by
 induction ws with
 | nil=>simp
 | cons w ws ih =>
   have:=ih fun x hx=>h x (List.mem_cons_of_mem _ hx)
   have:=h w List.mem_cons_self
   rw[List.map_cons,List.sum_cons,List.length_cons,Nat.mul_succ]
   omega
theorem wRow_len {h x n:Int} (h1:1<=h) (h2:h<=20) (x1:-n<=x) (x2:x<=n) (hn:n<=4):(wRow h x).length<=40:=by
 have e1:(Str.ofString "weight ").length=7:=by decide
 have e2:(Str.ofString " ").length=1:=by decide
 have e3:=zw6 (n:=h) (by omega) (by omega)
 have e4:=zH0 x1 x2 hn
 unfold wRow
 rw[zd5,zd5,zd5]
 omega
theorem zT7 {n r lim:Int} {hs xs:List Int} (ok:zh5 n r hs lim) (V0:ze0 n r hs.length xs):∀ w∈zT5 n r lim hs xs,w.length<=40:=by
 intro w hw
 have e1:(Str.ofString "notches ").length=8:=by decide
 have e2:(Str.ofString "room ").length=5:=by decide
 have e3:(Str.ofString "limit ").length=6:=by decide
 have i1:=zw6 (n:=n) (by have:=ok.n1;omega) (by have:=ok.n2;omega)
 have i2:=zw6 (n:=r) (by have:=ok.r1;omega) (by have:=ok.r2;omega)
 have i3:=zw6 (n:=lim) ok.l1 (by have:=ok.l2;omega)
 rcases List.mem_append.mp hw with hw | hw
 . unfold zq3 at hw
   simp only[List.mem_cons,List.not_mem_nil,or_false] at hw
   rcases hw with rfl | rfl | rfl<;>rw[zd5]<;>omega
 . obtain ⟨i,hi⟩:=List.getElem?_of_mem hw
   rw[List.getElem?_zipWith] at hi
   cases eh:hs[i]? with
   | none=>rw[eh] at hi;simp at hi
   | some h =>
     cases ex:xs[i]? with
     | none=>rw[eh,ex] at hi;simp at hi
     | some x =>
       rw[eh,ex] at hi
       injection hi with hi
       subst hi
       obtain ⟨a1,a2⟩:=ok.h h (List.mem_of_getElem? eh)
       obtain ⟨b1,b2⟩:=V0.on x (List.mem_of_getElem? ex)
       exact wRow_len a1 a2 b1 b2 ok.n2
theorem wRows_count {n r lim:Int} {hs xs:List Int} (V0:ze0 n r hs.length xs):(zT5 n r lim hs xs).length=3+hs.length:=by
 unfold zT5 zq3
 rw[List.length_append,List.length_zipWith,V0.len,Nat.min_self]
 rfl
end
end Bt
namespace Bt
open PySem L2
section
variable {P:Program} {w:World} {K:W.Frag} {mg:Str->Option Value} {base:Heap} {t:Adr}
theorem zA4 (T:Txt K mg t):FnOk P w K mg base CX0 1 t.aC t.aN ["front","row","many"] (zs3 K t):=by
 refine T.cz.ok zz9 (fun vs H Q E h=>?_) (fun cdv A outer s H vs Q E hr h=>?_)
 . obtain ⟨front,row,ws,many,rfl,hz,hsp,hm,q⟩:=h
   rfl
 . obtain ⟨front,row,ws,many,rfl,hz,hsp,hm,q⟩:=h
   refine⟨_,(za4 (zb7 (i:=3) zz9.nd rfl (Or.inl rfl) (zl7 PySem.F.plainAttrs_str PySem.F.slot_str_split PySem.F.type_str_split zP3 (pv 1) (za0 zc2 za2)))
     (za4 (zd1 (PW.pt (zH1 (zb3 zr2 (zc6 zd4 (pv 3) za1 (fun _ _=>rfl)) (pv 0) (zb9 _)) (zG5 (zb3 zr2 (zc3 zc1 rfl T.aa PySem.boot_len (za0 (pv 3) za2)) (zb0 ze8 (pv 2) za1) (zb9 _))))) (za6 zh3) zb5)
     (za6 (zb8 (zi4 zN3 (pv 3) (zl1 za1) zn6))))),?_⟩
   refine⟨_,rfl,rfl,_,_,rfl,rfl,by decide,hz,fun l hl=>?_⟩
   rw[hsp]
   have s1:Same H (upd H l (.lst ((front::ws).map V.str))):=Same.upd hl
   have h1:(upd H l (.lst ((front::ws).map V.str))) l=some (.lst ((front::ws).map V.str)):=za3
   revert s1 h1
   generalize upd H l (.lst ((front::ws).map V.str))=H1
   intro s1 h1
   refine⟨_,rfl,l,_,_,V.str front,rfl,rfl,SqL.of h1,at_0,_,rfl,rfl,_,rfl,iteB (by simp) ?_⟩
   refine⟨_,rfl,l,_,rfl,.inl (SqL.of h1),_,rfl,_,_,rfl,rfl,rfl,_,rfl,?_⟩
   refine iteB ?_ ?_
   . rw[List.length_map,List.length_cons,<-hm]
     simp
   . refine⟨_,rfl,_,rfl,l,_,rfl,SqL.of h1,fun p hp=>q p _ (s1.updT hp) ?_⟩
     rw[za3]
     have e:cutV ((front::ws).map V.str) (some 1) none=ws.map V.str:=by
       unfold cutV
       have e1:HT.sIx ((front::ws).map V.str).length 0 (some 1)=1:=by
         unfold HT.sIx
         rw[List.length_map,List.length_cons]
         simp
       have e2:HT.sIx ((front::ws).map V.str).length ((front::ws).map V.str).length none=((front::ws).map V.str).length:=rfl
       rw[e1,e2]
       simp
       try exact List.take_of_length_le (by simp)
     rw[e]
theorem ok_read_weight (T:Txt K mg t):FnOk P w K mg base CX0 4 t.aX t.bu ["row"] (zD2 K t):=by
 have GaQ:FnOk P w K mg base CX0 1 t.aC t.aN ["front","row","many"] (zs3 K t):=zA4 T
 have GaO:FnOk P w K mg base CX0 2 t.an t.av ["text"] (zm1 K t):=zq2 T
 have GaR:FnOk P w K mg base CX0 3 t.aK t.a6 ["text"] (zw8 K t):=zF9 T
 refine T.c1.ok zC4 (fun vs H Q E h=>?_) (fun cdv A outer s H vs Q E hr h=>?_)
 . obtain ⟨row,a,b,h,x,rfl,hz,hsp,ha,hb,q⟩:=h
   rfl
 . obtain ⟨row,a,b,h,x,rfl,hz,hsp,ha,hb,q⟩:=h
   have haQ:Room 1 _:=hr.mono (by decide)
   have haO:Room 2 _:=hr.mono (by decide)
   have haR:Room 3 _:=hr.mono (by decide)
   refine⟨_,(za4 (zb7 (i:=1) zC4.nd rfl (Or.inl rfl) (za7 GaQ haQ rfl T.az T.aA T.ay .nil zb4 (za0 zc2 (za0 (pv 0) (za0 za1 za2)))))
     (za6 (zb8 (zp9 (za0 (za7 GaO haO rfl T.ao T.ap T.an .nil zb4 (za0 (zc6 zd4 (pv 1) za1 (fun _ _=>rfl)) za2)) (za0 (za7 GaR haR rfl T.aR T.aS T.aQ .nil zb4 (za0 (zc6 zd4 (pv 1) za1 (fun _ _=>rfl)) za2)) za2)))))),?_⟩
   have hal:a.length<=1000000:=Nat.le_trans (PyProof.Rows.part_short (x:=row) (y:=Str.ofString " ") (by rw[hsp];simp)) hz
   have hbl:b.length<=1000000:=Nat.le_trans (PyProof.Rows.part_short (x:=row) (y:=Str.ofString " ") (by rw[hsp];simp)) hz
   refine⟨_,rfl,_,row,[a,b],2,rfl,hz,hsp,rfl,fun l H1 s1 h1=>?_⟩
   refine⟨_,rfl,l,_,_,_,rfl,rfl,SqL.of h1,rfl,a,h,rfl,hal,ha,fun H2 s2=>?_⟩
   refine⟨_,rfl,l,_,_,_,rfl,rfl,SqL.of (s2 _ _ h1),rfl,b,x,rfl,hbl,hb,fun H3 s3=>?_⟩
   exact⟨(by show 2<=sizeLine;decide),fun p hp=>q p _ (((s1.trans s2).trans s3).updT hp) (((s1.trans s2).trans s3).free hp) za3⟩
theorem ok_read_beam (T:Txt K mg t):FnOk P w K mg base CX0 5 t.bm t.bS ["text"] (zJ9 K t):=by
 have GaO:FnOk P w K mg base CX0 2 t.an t.av ["text"] (zm1 K t):=zq2 T
 have GaS:FnOk P w K mg base CX0 3 t.bg t.bM ["self","notches","room","hefts","limit"] (zI9 K t):=ok_Beam_init T
 have GaT:FnOk P w K mg base CX0 4 t.aX t.bu ["row"] (zD2 K t):=ok_read_weight T
 have Gae:FnOk P w K mg base CX0 2 t.ag t.aj ["beam","standing"] (zg8 K t):=zh6 T
 have GaQ:FnOk P w K mg base CX0 1 t.aC t.aN ["front","row","many"] (zs3 K t):=zA4 T
 refine T.d1.ok zj9 (fun vs H Q E h=>?_) (fun cdv A outer s H vs Q E hr h=>?_)
 . obtain ⟨z,n,r,lim,hs,xs,rfl,hz,hR,ok,V0,q⟩:=h
   rfl
 . obtain ⟨z,n,r,lim,hs,xs,rfl,hz,hR,ok,V0,q⟩:=h
   have haO:Room 2 _:=hr.mono (by decide)
   have haU:Room 4 _:=hr.mono (by decide)
   have haT:Room 4 _:=hr.mono (by decide)
   have hae:Room 2 _:=hr.mono (by decide)
   have haQ:Room 1 _:=hr.mono (by decide)
   refine⟨_,(za4 (zb7 (i:=1) zj9.nd rfl (Or.inl rfl) (zl7 PySem.F.plainAttrs_str PySem.F.slot_str_split PySem.F.type_str_split zP3 (pv 0) (za0 zc2 za2)))
     (za4 (zd1 (zb3 zH2 (zc3 zc1 rfl T.aa PySem.boot_len (za0 (pv 1) za2)) za1 (zb9 _)) (za6 zh3) zb5)
     (za4 (zb7 (i:=2) zj9.nd rfl (Or.inl rfl) (za7 GaO haO rfl T.ao T.ap T.an .nil zb4 (za0 (zc6 zd4 (za7 GaQ haQ rfl T.az T.aA T.ay .nil zb4 (za0 zc2 (za0 (zc6 zd4 (pv 1) za1 (fun _ _=>rfl)) (za0 za1 za2)))) za1 (fun _ _=>rfl)) za2)))
     (za4 (zb7 (i:=3) zj9.nd rfl (Or.inl rfl) (za7 GaO haO rfl T.ao T.ap T.an .nil zb4 (za0 (zc6 zd4 (za7 GaQ haQ rfl T.az T.aA T.ay .nil zb4 (za0 zc2 (za0 (zc6 zd4 (pv 1) za1 (fun _ _=>rfl)) (za0 za1 za2)))) za1 (fun _ _=>rfl)) za2)))
     (za4 (zb7 (i:=4) zj9.nd rfl (Or.inl rfl) (za7 GaO haO rfl T.ao T.ap T.an .nil zb4 (za0 (zc6 zd4 (za7 GaQ haQ rfl T.az T.aA T.ay .nil zb4 (za0 zc2 (za0 (zc6 zd4 (pv 1) za1 (fun _ _=>rfl)) (za0 za1 za2)))) za1 (fun _ _=>rfl)) za2)))
     (za4 (zW1 (i:=5) rfl zC1 (zq8 (zi4 zN3 (pv 1) (zl1 za1) zn6)) (fun _ _ _ _ _=>(zc7 (i:=0) zC1.nd rfl (Or.inl rfl))) (fun _ _ _ _ _=>zn5) (fun _ _ _ _ _=>(za7 GaT haT rfl T.c3 T.c4 T.c2 .nil zb4 (za0 (pv 0) za2))) zj9.nd rfl rfl)
     (za4 (zb7 (i:=6) zj9.nd rfl (Or.inl rfl) (yb5 T.fJ GaS haU rfl T.fX T.dM .nil zb4 (za0 (pv 2) (za0 (pv 3) (za0 (zr0 rfl zC2 (zq8 (pv 5)) (fun _ _ _ _ _=>(zc7 (i:=0) zC2.nd rfl (Or.inl rfl))) (fun _ _ _ _ _=>zn5) (fun _ _ _ _ _=>(zc6 (zH7 K rfl) (pv 0) za1 (fun _ _=>rfl)))) (za0 (pv 4) za2))))))
     (za6 (zb8 (zp9 (za0 (pv 6) (za0 (za7 Gae hae rfl T.ak T.al T.aj .nil zb4 (za0 (pv 6) (za0 (zr0 rfl zC3 (zq8 (pv 5)) (fun _ _ _ _ _=>(zc7 (i:=0) zC3.nd rfl (Or.inl rfl))) (fun _ _ _ _ _=>zn5) (fun _ _ _ _ _=>(zc6 (zH7 K rfl) (pv 0) za1 (fun _ _=>rfl)))) za2))) za2)))))))))))),?_⟩
   obtain ⟨⟨z0,z1,z2,zs,a0,a1,a2,hsp,p0,p1,p2,r0,r1,r2,hzl,hxl,hrow⟩⟩:=hR
   have short:∀ w∈Txt.split z (Str.ofString "\n"),w.length<=1000000:=fun w hw=>Nat.le_trans (PyProof.Rows.part_short hw) hz
   have sh2:∀ {w a:Str} {ws:List Str},w∈Txt.split z (Str.ofString "\n")->Txt.split w (Str.ofString " ")=ws->a∈ws->a.length<=1000000:=fun {w a ws} hw e ha=>Nat.le_trans (PyProof.Rows.part_short (x:=w) (y:=Str.ofString " ") (by rw[e];exact ha)) (short w hw)
   have m0:z0∈Txt.split z (Str.ofString "\n"):=by rw[hsp];simp
   have m1:z1∈Txt.split z (Str.ofString "\n"):=by rw[hsp];simp
   have m2:z2∈Txt.split z (Str.ofString "\n"):=by rw[hsp];simp
   have mz:∀ w∈zs,w∈Txt.split z (Str.ofString "\n"):=fun w hw=>by rw[hsp];simp[hw]
   have hw5:=ok.w
   refine⟨_,rfl,rfl,_,_,rfl,rfl,by decide,hz,fun l hl=>?_⟩
   rw[hsp]
   have s1:Same H (upd H l (.lst ((z0::z1::z2::zs).map V.str))):=Same.upd hl
   have h1:(upd H l (.lst ((z0::z1::z2::zs).map V.str))) l=some (.lst ((z0::z1::z2::zs).map V.str)):=za3
   revert s1 h1
   generalize upd H l (.lst ((z0::z1::z2::zs).map V.str))=H1
   intro s1 h1
   refine⟨_,rfl,l,_,rfl,.inl (SqL.of h1),_,_,rfl,rfl,_,rfl,iteB (zP0 (by rw[List.length_map];simp only[List.length_cons];omega)) ?_⟩
   refine⟨_,rfl,l,_,_,V.str z0,rfl,rfl,SqL.of h1,at_0,_,z0,[a0],1,rfl,short _ m0,p0,rfl,fun l2 H2 s2 h2=>?_⟩
   refine⟨l2,_,_,V.str a0,rfl,rfl,SqL.of h2,rfl,a0,n,rfl,sh2 m0 p0 (by simp),r0,fun H3 s3=>?_⟩
   have s13:=s2.trans s3
   refine⟨_,rfl,l,_,_,V.str z1,rfl,rfl,SqL.of (s13 _ _ h1),at_1,_,z1,[a1],1,rfl,short _ m1,p1,rfl,fun l4 H4 s4 h4=>?_⟩
   refine⟨l4,_,_,V.str a1,rfl,rfl,SqL.of h4,rfl,a1,r,rfl,sh2 m1 p1 (by simp),r1,fun H5 s5=>?_⟩
   have s15:=(s13.trans s4).trans s5
   refine⟨_,rfl,l,_,_,V.str z2,rfl,rfl,SqL.of (s15 _ _ h1),at_2,_,z2,[a2],1,rfl,short _ m2,p2,rfl,fun l6 H6 s6 h6=>?_⟩
   refine⟨l6,_,_,V.str a2,rfl,rfl,SqL.of h6,rfl,a2,lim,rfl,sh2 m2 p2 (by simp),r2,fun H7 s7=>?_⟩
   have s17:=(s15.trans s6).trans s7
   have s07:=s1.trans s17
   have h17:=s17 _ _ h1
   have ec:cutV ((z0::z1::z2::zs).map V.str) (some 3) none=zs.map V.str:=by
     unfold cutV
     have e1:HT.sIx ((z0::z1::z2::zs).map V.str).length 0 (some 3)=3:=by
       unfold HT.sIx
       rw[List.length_map]
       simp only[List.length_cons]
       simp
     have e2:HT.sIx ((z0::z1::z2::zs).map V.str).length ((z0::z1::z2::zs).map V.str).length none=((z0::z1::z2::zs).map V.str).length:=rfl
     rw[e1,e2]
     simp
     exact List.take_of_length_le (by simp)
   clear s2 s3 s4 s5 s6 s7 h2 h4 h6 s13 s15
   refine⟨_,rfl,_,rfl,l,_,rfl,SqL.of h17,fun p fp=>?_⟩
   rw[ec]
   have s8:Same H7 (upd H7 p (.lst (zs.map V.str))):=Same.upd fp
   have h8:(upd H7 p (.lst (zs.map V.str))) p=some (.lst (zs.map V.str)):=za3
   revert s8 h8
   generalize upd H7 p (.lst (zs.map V.str))=H8
   intro s8 h8
   refine⟨p,rfl,⟨_,SqL.of h8⟩,fun D hD=>?_⟩
   have hsl:sizeLine=16777216:=by decide
   refine zz4 (K:=K) (a:=p) (xs:=zs.map V.str) (fun i H'=>Same H8 H'/\∃ rs:List Addr,rs.length=i/\H' D=some (.lst (rs.map V.ref))/\∀ (j:Nat) c h x,rs[j]?=some c->hs[j]?=some h->xs[j]?=some x->H' c=some (.tup [.int h,.int x]))
     ⟨Same.upd hD,[],rfl,za3,fun j c h x e=>by simp at e⟩ (fun i H' iv=>SqL.of (iv.1 _ _ h8)) (fun i x H' N hi iv hN=>?_) (fun H' iv=>?_)
   . dsimp only[zv3]
     rw[List.getElem?_map] at hi
     cases hw:zs[i]? with
     | none=>rw[hw] at hi;cases hi
     | some wd =>
       rw[hw] at hi
       cases hi
       have hil:i<zs.length:=by
         rcases Nat.lt_or_ge i zs.length with h | h
         . exact h
         . rw[List.getElem?_eq_none h] at hw;cases hw
       have eh:hs[i]?=some hs[i]:=by simp
       have ex:xs[i]?=some xs[i]:=by simp
       obtain ⟨wa,wb,k1,k2,k3⟩:=hrow i wd _ _ hw eh ex
       obtain ⟨s9,rs,rl,hDr,hrs⟩:=iv
       refine iteT ⟨_,rfl,wd,wa,wb,_,_,rfl,short _ (mz _ (List.mem_of_getElem? hw)),k1,k2,k3,fun c H2 s2 fc hc=>⟨_,s2 _ _ hDr,?_,hN _ ⟨(s9.trans s2).put hD,rs++[c],?_,?_,?_⟩⟩⟩
       . rw[List.length_map];omega
       . rw[List.length_append,rl];rfl
       . rw[za3,List.map_append];rfl
       . intro j c' h x e1 e2 e3
         have cD:c≠D:=fun e=>by rw[e,hDr] at fc;cases fc
         rcases Nat.lt_or_ge j rs.length with hj | hj
         . rw[List.getElem?_append_left hj] at e1
           have h0:=hrs j c' h x e1 e2 e3
           have c'D:c'≠D:=fun e=>by rw[e,hDr] at h0;cases h0
           rw[za8 c'D]
           exact s2 _ _ h0
         . rw[List.getElem?_append_right hj] at e1
           have ej:j-rs.length=0:=by
             rcases Nat.eq_zero_or_pos (j-rs.length) with h | h
             . exact h
             . rw[List.getElem?_eq_none (by simp;omega)] at e1;cases e1
           have ej2:j=i:=by omega
           rw[ej] at e1
           cases e1
           subst ej2
           rw[eh] at e2
           rw[ex] at e3
           cases e2
           cases e3
           rw[za8 cD]
           exact hc
   . obtain ⟨s9,rs,rl,hDr,hrs⟩:=iv
     have hlr:rs.length=hs.length:=by rw[rl,List.length_map];exact hzl
     have s09:=(s07.trans s8).trans s9
     clear s17 h17 h1 h8 s1 s07 s8 s9
     have pick:∀ (H9:Hp) (D2:Addr),Same H' H9->H9 D2=none->∀ (k:Int) (ys:List Int),ys.length=hs.length->(∀ (j:Nat) c,rs[j]?=some c->∃ y,ys[j]?=some y/\∃ xs,H' c=some (.tup xs)/\atI xs k=some (.int y)) →
         ∀ Q2:Hp->Prop,Q2 (upd H9 D2 (.lst (ys.map V.int)))->∃ W:Nat->Nat->St->Hp->Prop,(∃ m,W 0 m [none] (upd H9 D2 (.lst [])))/\∀ i m σ' H',W i m σ' H'->((Itl K D).stop i H'/\Q2 H')\/((Itl K D).go i H'/\∃ N:St->Hp->Prop,(∀ σ2 H2,N σ2 H2->∃ m',m'<m/\W (i+1) m' σ2 H2) ∧
           ∀ v H2,(Itl K D).yld i H' v H2->zr1 0 v σ' H2 fun σ3 H3=>zv3 σ3 H3 fun b H4=>if b=true then zr4 D2 (tOp (rIxT K) (tVar 0) (tC (V.int k))) N σ3 H4 else N σ3 H4):=fun H9 D2 sm hD2 k ys hyl hy Q2 q2=>by
       have nD:D≠D2:=fun e=>by rw[<-e] at hD2;rw[sm _ _ hDr] at hD2;cases hD2
       refine zz4 (K:=K) (a:=D) (xs:=rs.map V.ref) (fun i H''=>H''=upd H9 D2 (.lst ((ys.take i).map V.int))) rfl (fun i H'' iv=>by rw[iv];exact SqL.of (by rw[za8 nD];exact sm _ _ hDr)) (fun i x H'' N hi iv hN=>?_) (fun H'' iv=>?_)
       . subst iv
         dsimp only[zv3]
         rw[List.getElem?_map] at hi
         cases hc:rs[i]? with
         | none=>rw[hc] at hi;cases hi
         | some c =>
           rw[hc] at hi
           cases hi
           obtain ⟨y,ey,tx,htx,hat⟩:=hy i c hc
           have nc:c≠D2:=fun e=>by rw[<-e] at hD2;rw[sm _ _ htx] at hD2;cases hD2
           refine iteT ⟨_,rfl,c,tx,_,_,rfl,rfl,SqT.of (by rw[za8 nc];exact sm _ _ htx),hat,_,za3,?_,hN _ ?_⟩
           . rw[List.length_map,List.length_take];omega
           . rw[zj6,List.take_succ,List.map_append,ey]
             rfl
       . rw[List.length_map,hlr,<-hyl,List.take_length] at iv
         rw[iv]
         exact q2
     refine⟨_,rfl,_,rfl,_,rfl,D,rfl,⟨_,SqL.of hDr⟩,fun D2 hD2=>?_⟩
     refine pick H' D2 (Same.refl _) hD2 0 hs rfl (fun j c hj=>?_) _ ?_
     . have hjl:j<rs.length:=by
         rcases Nat.lt_or_ge j rs.length with h | h
         . exact h
         . rw[List.getElem?_eq_none h] at hj;cases hj
       exact⟨hs[j],by simp,_,hrs j c _ (xs[j]'(by omega)) hj (by simp) (by simp),at_0⟩
     have s2:=Same.upd (o:=.lst (hs.map V.int)) hD2
     have h2:(upd H' D2 (.lst (hs.map V.int))) D2=some (.lst (hs.map V.int)):=za3
     revert s2 h2
     generalize upd H' D2 (.lst (hs.map V.int))=H10
     intro s2 h2
     refine⟨_,rfl,fun b dx fb fdx ndx=>?_⟩
     have s4:Same H10 (upd (upd H10 dx (.own b)) b (.ins t.aU dx [])):=(Same.upd fdx).updT (by rw[za8 (Ne.symm ndx)];exact fb)
     have e3b:D2≠b:=fun e=>by rw[<-e,h2] at fb;cases fb
     have e3d:D2≠dx:=fun e=>by rw[<-e,h2] at fdx;cases fdx
     refine⟨b,dx,D2,n,r,lim,hs,rfl,za3,.inl (SqL.of (by rw[za8 e3b,za8 e3d];exact h2)),ok,fun H5 B5 s5=>⟨rfl,?_⟩⟩
     have s25:Same H10 H5:=fun c o e=>s5 c o (s4 c o e) (zc0 e fb)
     have s9:=s2.trans s25
     refine⟨_,rfl,_,rfl,_,rfl,D,rfl,⟨_,SqL.of (s9 _ _ hDr)⟩,fun D3 hD3=>?_⟩
     refine pick H5 D3 s9 hD3 1 xs hxl (fun j c hj=>?_) _ ?_
     . have hjl:j<rs.length:=by
         rcases Nat.lt_or_ge j rs.length with h | h
         . exact h
         . rw[List.getElem?_eq_none h] at hj;cases hj
       exact⟨xs[j]'(by omega),by simp,_,hrs j c (hs[j]'(by omega)) _ hj (by simp) (by simp),at_1⟩
     have s6:=Same.upd (o:=.lst (xs.map V.int)) hD3
     refine⟨b,D3,n,r,lim,hs,xs,rfl,B5.same s6,V0,.inl (SqL.of za3),fun l7 H7 s7 h7=>?_⟩
     refine⟨(by show 2<=sizeLine;decide),fun l8 f8=>?_⟩
     have s8:=Same.upd (o:=.tup [.ref b,.ref l7]) f8
     have s68:=(s6.trans s7).trans s8
     exact q l8 b l7 _ ((s09.trans s9).trans s68) (B5.same s68) (s8 _ _ h7) za3
noncomputable def zw9 (K:W.Frag) (t:Adr):Sp:=fun vs H Q _=>∃ (a:Addr) (k s p:Int),vs=[.ref a]/\SqT K H a [.int k,.int s,.int p]/\(0<=k/\k<=9999)/\(-9999<=s/\s<=9999)/\(-9999<=p/\p<=9999)/\∀ H',Same H H'->Q (.str (zq1 k s p)) H'
noncomputable def zK0 (K:W.Frag) (t:Adr):Sp:=fun vs H Q E=>∃ (z:Str) (k s p:Int),vs=[.str z]/\z.length<=1000000/\zX0 z=some (k,s,p)/\∀ l H',Same H H'->H' l=some (.tup [.int k,.int s,.int p])->Q (.ref l) H'
theorem zw2 {n:Int} (h0:-9999<=n) (h:n<=9999):(sI n).length<=20:=by
 by_cases h1:0<=n
 . have:=zw6 (n:=n) h1 (by omega)
   omega
 . obtain ⟨k,rfl⟩:∃ k:Nat,n = -(((k+1:Nat)):Int):=⟨(-n).toNat-1,by omega⟩
   have e:toString (-(((k+1:Nat)):Int)) = "-"++toString (k+1):=rfl
   have h2:=zw6 (n:=((k+1:Nat):Int)) (by omega) (by omega)
   have e2:sI (-(((k+1:Nat)):Int))=Str.ofString "-"++sI (((k+1:Nat)):Int):=by
     have e5:toString (((k+1:Nat)):Int)=toString (k+1):=rfl
     unfold sI
     rw[e,e5]
     refine zq0 ?_
     rw[zh7,PySem.Str.ofString_eq_toList,PySem.Str.ofString_eq_toList,PySem.Str.ofString_eq_toList]
     simp
   rw[e2,zd5]
   have e3:(Str.ofString "-").length=1:=by decide
   omega
theorem zp8 {x:Int} (h0:-9999<=x) (h:x<=9999):(zd6 x).length<=20:=by
 unfold zd6
 split
 . decide
 . exact zw2 h0 h
theorem zG0 (T:Txt K mg t):FnOk P w K mg base CX0 2 t.aJ t.a5 ["move"] (zw9 K t):=by
 have GaP:FnOk P w K mg base CX0 1 t.aG t.aY ["place"] (zu6 K t):=zD0 T
 refine T.dm.ok sc_write_move (fun vs H Q E h=>?_) (fun cdv A outer s H vs Q E hr h=>?_)
 . obtain ⟨a,k,s,p,rfl,hA,⟨k1,k2⟩,⟨s1,s2⟩,⟨p1,p2⟩,q⟩:=h
   rfl
 . obtain ⟨a,k,s,p,rfl,hA,⟨k1,k2⟩,⟨s1,s2⟩,⟨p1,p2⟩,q⟩:=h
   have haP:Room 1 _:=hr.mono (by decide)
   refine⟨_,(za6 (zb8 (zl7 PySem.F.plainAttrs_str PySem.F.slot_str_join PySem.F.type_str_join zH9 zc2 (za0 (ze6 (za0 (zd9 zf7 rfl T.aw PyProof.Rows.boot_str (za0 (zc6 zf4 (pv 0) za1 (fun _ _=>rfl)) za2)) (za0 (za7 GaP haP rfl T.aM T.aN T.aL .nil zb4 (za0 (zc6 zf4 (pv 0) za1 (fun _ _=>rfl)) za2)) (za0 (za7 GaP haP rfl T.aM T.aN T.aL .nil zb4 (za0 (zc6 zf4 (pv 0) za1 (fun _ _=>rfl)) za2)) za2)))) za2)))),?_⟩
   refine⟨rfl,_,rfl,a,_,_,_,rfl,rfl,hA,at_0,k,rfl,zh2 (by omega),?_⟩
   refine⟨_,rfl,a,_,_,_,rfl,rfl,hA,at_1,s,rfl,by omega,?_⟩
   refine⟨_,rfl,a,_,_,_,rfl,rfl,hA,at_2,p,rfl,by omega,(by show 3<=sizeLine;decide),fun l hl=>?_⟩
   refine⟨_,l,[sI k,zd6 s,zd6 p],rfl,rfl,SqL.of za3,?_,q _ (Same.upd hl)⟩
   have:=zw2 (n:=k) (by omega) k2
   have:=zp8 s1 s2
   have:=zp8 p1 p2
   have e0:(Str.ofString " ").length=1:=by decide
   simp only[List.map_cons,List.map_nil,List.sum_cons,List.sum_nil,List.length_cons,List.length_nil,e0]
   omega
theorem mv3_some {ws:List Str} {m:Int×Int×Int} (h:mv3 ws=some m):∃ a b c,ws=[a,b,c]/\zt9 a=some m.1/\zn7 b=some m.2.1/\zn7 c=some m.2.2:=by
 match ws,h with
 | [a,b,c],h =>
   refine⟨a,b,c,rfl,?_⟩
   cases h1:zt9 a with
   | none=>simp[mv3,h1] at h
   | some x =>
     cases h2:zn7 b with
     | none=>simp[mv3,h1,h2] at h
     | some y =>
       cases h3:zn7 c with
       | none=>simp[mv3,h1,h2,h3] at h
       | some z =>
         simp[mv3,h1,h2,h3] at h
         subst h
         exact⟨rfl,rfl,rfl⟩
theorem ok_read_move (T:Txt K mg t):FnOk P w K mg base CX0 4 t.bl t.bR ["text"] (zK0 K t):=by
 have GaO:FnOk P w K mg base CX0 2 t.an t.av ["text"] (zm1 K t):=zq2 T
 have GaR:FnOk P w K mg base CX0 3 t.aK t.a6 ["text"] (zw8 K t):=zF9 T
 refine T.dX.ok zI5 (fun vs H Q E h=>?_) (fun cdv A outer s H vs Q E hr h=>?_)
 . obtain ⟨z,k,s,p,rfl,hz,hm,q⟩:=h
   rfl
 . obtain ⟨z,k,s,p,rfl,hz,hm,q⟩:=h
   have haO:Room 2 _:=hr.mono (by decide)
   have haR:Room 3 _:=hr.mono (by decide)
   refine⟨_,(za4 (zb7 (i:=1) zI5.nd rfl (Or.inl rfl) (zl7 PySem.F.plainAttrs_str PySem.F.slot_str_split PySem.F.type_str_split zP3 (pv 0) (za0 zc2 za2)))
     (za4 (zd1 (zb3 zr2 (zc3 zc1 rfl T.aa PySem.boot_len (za0 (pv 1) za2)) za1 (zb9 _)) (za6 zh3) zb5)
     (za6 (zb8 (zp9 (za0 (za7 GaO haO rfl T.ao T.ap T.an .nil zb4 (za0 (zc6 zd4 (pv 1) za1 (fun _ _=>rfl)) za2)) (za0 (za7 GaR haR rfl T.aR T.aS T.aQ .nil zb4 (za0 (zc6 zd4 (pv 1) za1 (fun _ _=>rfl)) za2)) (za0 (za7 GaR haR rfl T.aR T.aS T.aQ .nil zb4 (za0 (zc6 zd4 (pv 1) za1 (fun _ _=>rfl)) za2)) za2)))))))),?_⟩
   refine⟨_,rfl,rfl,_,_,rfl,rfl,by decide,hz,fun l hl=>?_⟩
   have short:∀ w∈Txt.split z (Str.ofString " "),w.length<=1000000:=fun w hw=>Nat.le_trans (PyProof.Rows.part_short hw) hz
   unfold zX0 at hm
   generalize Txt.split z (Str.ofString " ")=ws at hm short ⊢
   have s1:Same H (upd H l (.lst (ws.map V.str))):=Same.upd hl
   have h1:(upd H l (.lst (ws.map V.str))) l=some (.lst (ws.map V.str)):=za3
   revert s1 h1
   generalize upd H l (.lst (ws.map V.str))=H1
   intro s1 h1
   obtain ⟨wa,wb,wc,rfl,ha,hb,hc⟩:=mv3_some hm
   refine⟨_,rfl,l,_,rfl,.inl (SqL.of h1),rfl,_,rfl,iteF ?_⟩
   refine⟨_,rfl,l,_,_,V.str wa,rfl,rfl,SqL.of h1,at_0,wa,k,rfl,short _ (by simp),ha,fun H2 s2=>?_⟩
   refine⟨_,rfl,l,_,_,V.str wb,rfl,rfl,SqL.of (s2 _ _ h1),at_1,wb,s,rfl,short _ (by simp),hb,fun H3 s3=>?_⟩
   refine⟨_,rfl,l,_,_,V.str wc,rfl,rfl,SqL.of (s3 _ _ (s2 _ _ h1)),at_2,wc,p,rfl,short _ (by simp),hc,fun H4 s4=>?_⟩
   exact⟨(by show 3<=sizeLine;decide),fun c fc=>q c _ ((s1.trans (s2.trans (s3.trans s4))).updT fc) za3⟩
end
end Bt
namespace Bt
open PySem L2
section
variable {P:Program} {w:World} {K:W.Frag} {mg:Str->Option Value} {base:Heap} {t:Adr}
noncomputable def Ch (n r:Int) (hs:List Int) (lim:Int) (s:List Int):List (List Int×Nat×Int)->List Int->Prop
 | [],c=>c=s
 | e::es,c=>c=e.1.set e.2.1 e.2.2/\Lets n r hs lim e.1 e.2.1 e.2.2/\Ch n r hs lim s es e.1
noncomputable def rowE (e:List Int×Nat×Int):List Int:=[(e.2.1:Int)+1,e.1.getD e.2.1 0,e.2.2]
noncomputable def zu7 (es:List (List Int×Nat×Int)):List (List Int):=(es.map rowE).reverse
theorem zu8 (e:List Int×Nat×Int) (es:List (List Int×Nat×Int)):zu7 (e::es)=zu7 es++[rowE e]:=by unfold zu7;rw[List.map_cons,List.reverse_cons]
theorem zF0 (es:List (List Int×Nat×Int)):(zu7 es).length=es.length:=by unfold zu7;rw[List.length_reverse,List.length_map]
theorem Ch.valid {n r:Int} {hs:List Int} {lim:Int} {s:List Int} {w:Nat} (V0:ze0 n r w s):∀ {es:List (List Int×Nat×Int)} {c:List Int},Ch n r hs lim s es c->ze0 n r w c
 | [],c,h=>by obtain rfl:c=s:=h;exact V0
 | e::es,c,h=>by rw[h.1];exact h.2.1.valid (Ch.valid V0 h.2.2)
theorem yg6 {x:List Int} {i:Nat} {q:Int} (hi:i<x.length):(x.set i q).set i (x.getD i 0)=x:=by
 rw[List.set_set,List.getD_eq_getElem?_getD,List.getElem?_eq_getElem hi,Option.getD_some,List.set_getElem_self]
theorem zj2.updL {t:Adr} {H:Hp} {p b s x m l:Addr} {n r lim:Int} {hs a c:List Int} {ys:List V} {ms:List (List Int)} {vs:List V} {o:HO} (P:zj2 t H p b s x m n r hs lim a c ys ms) (hl:H l=some (.lst vs)) (nl:l≠m):zj2 t (upd H l o) p b s x m n r hs lim a c ys ms:=by
 obtain ⟨ok,dx,h',hb,hh⟩:=P.bm
 have k:∀ {c:Addr} {o':HO},H c=some o'->(∀ vs,o'≠.lst vs)->upd H l o c=some o':=fun e ne=>by
   rw[za8 (fun z=>by rw[z,hl] at e;injection e with e;exact ne _ e.symm)]
   exact e
 exact⟨⟨ok,dx,h',k hb (fun _ z=>nomatch z),k hh (fun _ z=>nomatch z)⟩,P.nb,let ⟨dx,z⟩:=P.hp;⟨dx,k z (fun _ z=>nomatch z)⟩,k P.hs (fun _ z=>nomatch z),k P.hx (fun _ z=>nomatch z),by rw[za8 nl.symm];exact P.hm,zx1 hl (fun _ z=>nomatch z) P.tm⟩
theorem cut_map (xs:List Int) (lo hi:Option Int):∃ ys:List Int,cutV (xs.map V.int) lo hi=ys.map V.int/\ys.length<=xs.length:=by
 unfold cutV
 refine⟨(xs.drop (HT.sIx (xs.map V.int).length 0 lo)).take (HT.sIx (xs.map V.int).length (xs.map V.int).length hi-HT.sIx (xs.map V.int).length 0 lo),by rw[List.map_take,List.map_drop],?_⟩
 rw[List.length_take,List.length_drop]
 omega
theorem zT8 {H:Hp} {ys:List V} {ks:List (List Int)} {k:List Int} (h:Tups H ys (ks++[k])):∃ y0 b,ys=y0++[.ref b]/\Tups H y0 ks/\H b=some (.tup (k.map V.int)):=by
 induction ks generalizing ys with
 | nil =>
   cases h with
   | cons a t =>
     obtain ⟨b,e,hb⟩:=a
     cases t
     exact⟨[],b,by rw[e];rfl,.nil,hb⟩
 | cons k' ks ih =>
   cases h with
   | cons a t =>
     obtain ⟨y0,b,e,h1,h2⟩:=ih t
     exact⟨_::y0,b,by rw[e];rfl,.cons a h1,h2⟩
inductive Dd
 | mv (k u q:Int)
 | back
 | look
 | show_
 | moves
noncomputable def zl3:Dd->Str
 | .mv k u q=>Str.ofString "move "++zq1 k u q
 | .back=>Str.ofString "back"
 | .look=>Str.ofString "look"
 | .show_=>Str.ofString "show"
 | .moves=>Str.ofString "moves"
noncomputable def ddOk:Dd->Prop
 | .mv k u q=>(0<=k/\k<=9)/\(-9<=u/\u<=9)/\(-9<=q/\q<=9)
 | _=>True
noncomputable def zQ1 (j:Nat):Str:=if j=6 then "nothing back" else zF7 (j+1)
noncomputable def clsD (t:Adr) (j:Nat):Addr:=if j=6 then t.ad else clsN t (j+1)
noncomputable def zN0 (hs c:List Int):Str:=((Str.ofString "tilt "++sI (zc5 hs c))++Str.ofString " ")++zu3 (zc5 hs c)
noncomputable def mvZ (xs:List Int) (m:Nat×Int):Str:=zq1 ((m.1:Int)+1) (xs.getD m.1 0) m.2
noncomputable def zZ7 (xs:List Int) (ms:List (Nat×Int)):Str:=if ms=[] then sI (ms.length:Int)++Str.ofString " moves" else ((sI (ms.length:Int)++Str.ofString " moves")++Str.ofString ": ")++Txt.join (Str.ofString ", ") (ms.map (mvZ xs))
inductive RefD (n r lim:Int) (hs:List Int):List Int->List (List Int×Nat×Int)->Dd->Nat->Prop
 | mv {c es k u q j}:refN n r lim hs c k u q=j+1->RefD n r lim hs c es (.mv k u q) j
 | back {c}:RefD n r lim hs c [] .back 6
inductive OkD (n r lim:Int) (hs:List Int):List Int->List (List Int×Nat×Int)->Dd->List Int->List (List Int×Nat×Int)->Str->Prop
 | mv {c es i q}:refN n r lim hs c ((i:Nat)+1:Int) (c.getD i 0) q=0->Lets n r hs lim c i q->OkD n r lim hs c es (.mv ((i:Int)+1) (c.getD i 0) q) (c.set i q) ((c,i,q)::es) (zN0 hs (c.set i q))
 | back {c es c0 i q}:OkD n r lim hs c ((c0,i,q)::es) .back c0 es (zq1 ((i:Int)+1) (c0.getD i 0) q)
 | look {c es}:OkD n r lim hs c es .look c es (zN0 hs c)
 | show_ {c es}:OkD n r lim hs c es .show_ c es (zP9 c)
 | moves {c es}:OkD n r lim hs c es .moves c es (zZ7 c (zp7 n r hs lim c c.length))
noncomputable def zG1 (n r lim:Int) (hs c:List Int) (es:List (List Int×Nat×Int)) (d:Dd) (c':List Int) (es':List (List Int×Nat×Int)) (z:Str):Prop :=
 OkD n r lim hs c es d c' es' z\/∃ j,RefD n r lim hs c es d j/\c'=c/\es'=es/\z=Str.ofString "refused: "++zQ1 j
theorem RefD.lt {n r lim:Int} {hs c:List Int} {es:List (List Int×Nat×Int)} {d:Dd} {j:Nat} (h:RefD n r lim hs c es d j):j<7:=by
 cases h with
 | mv h=>exact Nat.lt_succ_of_lt (Nat.le_trans (Nat.le_of_eq h.symm) (zO1 _ _ _ _ _ _ _ _))
 | back=>decide
theorem OkD.mvI {n r lim:Int} {hs c c':List Int} {es es':List (List Int×Nat×Int)} {k u w:Int} {z:Str} (h:OkD n r lim hs c es (.mv k u w) c' es' z):∃ i:Nat,k=(i:Int)+1/\u=c.getD i 0/\refN n r lim hs c k u w=0/\Lets n r hs lim c i w/\c'=c.set i w/\es'=(c,i,w)::es/\z=zN0 hs (c.set i w):=by
 cases h with
 | mv hz L=>exact⟨_,rfl,rfl,hz,L,rfl,rfl,rfl⟩
theorem OkD.backI {n r lim:Int} {hs c c':List Int} {es es':List (List Int×Nat×Int)} {z:Str} (h:OkD n r lim hs c es .back c' es' z):∃ (i:Nat) (w:Int),es=(c',i,w)::es'/\z=zq1 ((i:Int)+1) (c'.getD i 0) w:=by
 cases h with
 | back=>exact⟨_,_,rfl,rfl⟩
theorem OkD.ch {n r lim:Int} {hs s c c':List Int} {es es':List (List Int×Nat×Int)} {d:Dd} {z:Str} (h:OkD n r lim hs c es d c' es' z) (C:Ch n r hs lim s es c):Ch n r hs lim s es' c':=by
 cases h with
 | mv h L=>exact⟨rfl,L,C⟩
 | back=>exact C.2.2
 | look=>exact C
 | show_=>exact C
 | moves=>exact C
theorem zG1.ch {n r lim:Int} {hs s c c':List Int} {es es':List (List Int×Nat×Int)} {d:Dd} {z:Str} (h:zG1 n r lim hs c es d c' es' z) (C:Ch n r hs lim s es c):Ch n r hs lim s es' c':=by
 rcases h with h | ⟨j,_,rfl,rfl,_⟩
 . exact h.ch C
 . exact C
structure At29 (t:Adr) (H:Hp) (p b s0 x m:Addr) (n r lim:Int) (hs s c:List Int) (ys:List V) (es:List (List Int×Nat×Int)):Prop where
 pl:zj2 t H p b s0 x m n r hs lim s c ys (zu7 es)
 ch:Ch n r hs lim s es c
 vs:ze0 n r hs.length s
theorem At29.vc {t:Adr} {H:Hp} {p b s0 x m:Addr} {n r lim:Int} {hs s c:List Int} {ys:List V} {es:List (List Int×Nat×Int)} (A:At29 t H p b s0 x m n r lim hs s c ys es):ze0 n r hs.length c:=A.ch.valid A.vs
theorem At29.same {t:Adr} {H H':Hp} {p b s0 x m:Addr} {n r lim:Int} {hs s c:List Int} {ys:List V} {es:List (List Int×Nat×Int)} (A:At29 t H p b s0 x m n r lim hs s c ys es) (e:Same H H'):At29 t H' p b s0 x m n r lim hs s c ys es:=⟨A.pl.same e,A.ch,A.vs⟩
noncomputable def zz8 (K:W.Frag) (t:Adr):Sp:=fun vs H Q _=>∃ (p b s0 x m:Addr) (n r lim:Int) (hs s c:List Int) (ys:List V) (es:List (List Int×Nat×Int)),vs=[.ref p]/\At29 t H p b s0 x m n r lim hs s c ys es/\∀ H',Same H H'->Q (.str (zN0 hs c)) H'
noncomputable def zG2 (K:W.Frag) (t:Adr):Sp:=fun vs H Q _=>∃ (l:Addr) (xs:List Int) (rs:List Addr) (ms:List (Nat×Int)),vs=[.ref l]/\H l=some (.lst (rs.map V.ref))/\Rows H xs rs ms/\ms.length<=900/\(∀ m∈ms,m.1<=9/\(-9<=xs.getD m.1 0/\xs.getD m.1 0<=9)/\-9<=m.2/\m.2<=9)/\∀ H',Same H H'->Q (.str (zZ7 xs ms)) H'
noncomputable def ye0 (K:W.Frag) (t:Adr) (H:Hp) (p:Addr) (d:Dd) (Q:VK) (E:XK):Prop:=∃ (b s0 x m:Addr) (n r lim:Int) (hs s c:List Int) (ys:List V) (es:List (List Int×Nat×Int)),At29 t H p b s0 x m n r lim hs s c ys es/\ddOk d/\es.length<300 ∧
 ((∃ c' es' z,OkD n r lim hs c es d c' es' z/\∀ x' ys' H',zj5 p m H H'->zj2 t H' p b s0 x' m n r hs lim s c' ys' (zu7 es')->Q (.str z) H')\/∃ j,RefD n r lim hs c es d j/\∀ od H',Told H H' od (zQ1 j)->E (.ref (clsD t j)) od H')
noncomputable def zA5 (K:W.Frag) (t:Adr):Sp:=fun vs H Q E=>∃ (p:Addr) (k u q:Int),vs=[.ref p,.str (Str.ofString "move"),.str (zq1 k u q)]/\ye0 K t H p (.mv k u q) Q E
noncomputable def zG3 (K:W.Frag) (t:Adr):Sp:=fun vs H Q E=>∃ (p:Addr) (d:Dd),vs=[.ref p,.str (zl3 d)]/\ye0 K t H p d Q E
noncomputable def zT9 (K:W.Frag) (t:Adr):Sp:=fun vs H Q _=>∃ (p b s0 x m:Addr) (n r lim:Int) (hs s c:List Int) (ys:List V) (es:List (List Int×Nat×Int)) (d:Dd) (c':List Int) (es':List (List Int×Nat×Int)) (z:Str),vs=[.ref p,.str (zl3 d)]/\At29 t H p b s0 x m n r lim hs s c ys es/\ddOk d/\es.length<300/\zG1 n r lim hs c es d c' es' z ∧
 ∀ x' ys' H',zj5 p m H H'->zj2 t H' p b s0 x' m n r hs lim s c' ys' (zu7 es')->Q (.str z) H'
theorem yh6 {x:Int} (h1:-9<=x) (h2:x<=9):zn7 (zd6 x)=some x/\32∉(zd6 x).cps.toList:=by
 have:x = -9\/x = -8\/x = -7\/x = -6\/x = -5\/x = -4\/x = -3\/x = -2\/x = -1\/x=0\/x=1\/x=2\/x=3\/x=4\/x=5\/x=6\/x=7\/x=8\/x=9:=by omega
 rcases this with rfl | rfl | rfl | rfl | rfl | rfl | rfl | rfl | rfl | rfl | rfl | rfl | rfl | rfl | rfl | rfl | rfl | rfl | rfl<;>decide +kernel
theorem nines {x:Int} (h1:0<=x) (h2:x<=9):zt9 (sI x)=some x/\32∉(sI x).cps.toList:=by
 have:x=0\/x=1\/x=2\/x=3\/x=4\/x=5\/x=6\/x=7\/x=8\/x=9:=by omega
 rcases this with rfl | rfl | rfl | rfl | rfl | rfl | rfl | rfl | rfl | rfl<;>decide +kernel
theorem wMove_back {k u q:Int} (h:ddOk (.mv k u q)):zX0 (zq1 k u q)=some (k,u,q):=by
 obtain ⟨⟨k1,k2⟩,⟨u1,u2⟩,q1,q2⟩:=h
 have hk:=nines k1 k2
 have hu:=yh6 u1 u2
 have hq:=yh6 q1 q2
 unfold zX0 zq1
 rw[zL0,zz5 (by simp) fun w hw=>?_]
 . simp[mv3,hk.1,hu.1,hq.1]
 . simp only[List.mem_cons,List.not_mem_nil,or_false] at hw
   rcases hw with rfl | rfl | rfl
   . exact hk.2
   . exact hu.2
   . exact hq.2
theorem zy9 {k u q:Int} (k1:-9999<=k/\k<=9999) (u1:-9999<=u/\u<=9999) (q1:-9999<=q/\q<=9999):(zq1 k u q).length<=62:=by
 have a1:=zw2 k1.1 k1.2
 have a2:=zp8 u1.1 u1.2
 have a3:=zp8 q1.1 q1.2
 have e0:(Str.ofString " ").length=1:=by decide
 have h:=size_glued (Str.ofString " ") [sI k,zd6 u,zd6 q]
 rw[e0] at h
 simp only[List.map_cons,List.map_nil,List.sum_cons,List.sum_nil,List.length_cons,List.length_nil] at h
 show (Builtin.Str.glued _ _).length<=62
 omega
theorem zK1 {w y:Str} (h:y.cps.toList.take 5≠(Str.ofString "move ").cps.toList):Str.ofString "move "++w≠y:=fun e=>h (by
 rw[<-e,zh7,List.take_append_of_le_length (by decide)]
 decide)
theorem zZ8 (z:Int):(zu3 z).length<=5:=by
 unfold zu3
 split
 . decide
 . split<;>decide
theorem zK2 (T:Txt K mg t):FnOk P w K mg base CX0 5 t.aT t.bo ["play"] (zz8 K t):=by
 have GaV:FnOk P w K mg base CX0 4 t.cx t.cE ["beam","standing"] (yd7 K t):=ok_side T
 have Gaf:FnOk P w K mg base CX0 3 t.bw t.bU ["beam","standing"] (zJ0 K t):=zN8 T
 refine T.d9.ok sc_tell_tilt (fun vs H Q E h=>?_) (fun cdv A outer s H vs Q E hr h=>?_)
 . obtain ⟨p,b,s0,x,m,n,r,lim,hs,s,c,ys,es,rfl,A,q⟩:=h
   rfl
 . obtain ⟨p,b,s0,x,m,n,r,lim,hs,s,c,ys,es,rfl,A,q⟩:=h
   have haV:Room 4 _:=hr.mono (by decide)
   have haf:Room 3 _:=hr.mono (by decide)
   refine⟨_,(za6 (zb8 (zb0 zd3 (zb0 zd3 (zb0 zd3 zc2 (zd9 zf7 rfl T.aw PyProof.Rows.boot_str (za0 (za7 Gaf haf rfl T.bb T.bc T.ba .nil zb4 (za0 (zg1 (pv 0) rfl) (za0 (zg1 (pv 0) rfl) za2))) za2))) zc2) (za7 GaV haV rfl T.fO T.fP T.fN .nil zb4 (za0 (zg1 (pv 0) rfl) (za0 (zg1 (pv 0) rfl) za2)))))),?_⟩
   obtain ⟨dx,hp⟩:=A.pl.hp
   have ok:=A.pl.bm.1
   have tb:=(zJ1 ok A.vc).1
   have t9:-9999<=zc5 hs c/\zc5 hs c<=9999:=by unfold absI at tb;split at tb<;>omega
   have l1:=zw2 t9.1 t9.2
   have l2:=zZ8 (zc5 hs c)
   have e1:(Str.ofString "tilt ").length=5:=by decide
   have e2:(Str.ofString " ").length=1:=by decide
   have hsl:sizeLine=16777216:=by decide
   refine⟨_,rfl,p,_,dx,_,_,rfl,hp,T.ac,T.av,zJ3 _ _ _ _,_,rfl,p,_,dx,_,_,rfl,hp,T.ac,T.ad,zm0 _ _ _ _,b,x,n,r,lim,hs,c,rfl,A.pl.bm,A.vc,.inr A.pl.hx,fun H1 s1=>?_⟩
   have hp1:=s1 _ _ hp
   have A1:=A.same s1
   refine⟨zc5 hs c,rfl,zh2 (by omega),_,_,rfl,rfl,(by show (Str.ofString "tilt ").length+(sI (zc5 hs c)).length<=sizeLine;omega),_,_,rfl,rfl,(by show (Str.ofString "tilt "++sI (zc5 hs c)).length+(Str.ofString " ").length<=sizeLine;rw[zd5];omega),?_⟩
   refine⟨_,rfl,p,_,dx,_,_,rfl,hp1,T.ac,T.av,zJ3 _ _ _ _,_,rfl,p,_,dx,_,_,rfl,hp1,T.ac,T.ad,zm0 _ _ _ _,b,x,n,r,lim,hs,c,rfl,A1.pl.bm,A1.vc,.inr A1.pl.hx,fun H2 s2=>?_⟩
   exact⟨_,_,rfl,rfl,(by show ((Str.ofString "tilt "++sI (zc5 hs c))++Str.ofString " ").length+(zu3 (zc5 hs c)).length<=sizeLine;rw[zd5,zd5];omega),q H2 (s1.trans s2)⟩
theorem mem_rows {H:Hp} {xs:List Int} {rs:List Addr} {ms:List (Nat×Int)} (R:Rows H xs rs ms) {i:Nat} {v:V} (h:(rs.map V.ref)[i]?=some v):∃ (a:Addr) (m:Nat×Int),v = .ref a/\ms[i]?=some m/\zZ4 H xs a m:=by
 rw[List.getElem?_map] at h
 cases e:rs[i]? with
 | none=>rw[e] at h;cases h
 | some a =>
   rw[e] at h
   cases h
   have hi:i<ms.length:=by rw[<-R.1];exact (List.getElem?_eq_some_iff.mp e).1
   exact⟨a,ms[i],rfl,List.getElem?_eq_getElem hi,R.2 i a _ e (List.getElem?_eq_getElem hi)⟩
theorem zQ2:∀ {ws:List Str},(∀ w∈ws,w.length<=62)->(ws.map (·.length)).sum<=62*ws.length
 | [],_=>by simp
 | w::ws,h=>by
   have:=zQ2 fun x hx=>h x (List.mem_cons_of_mem _ hx)
   have:=h w List.mem_cons_self
   rw[List.map_cons,List.sum_cons,List.length_cons,Nat.mul_succ]
   omega
theorem ok_tell_moves (T:Txt K mg t):FnOk P w K mg base CX0 3 t.a8 t.bB ["row"] (zG2 K t):=by
 have GaW:FnOk P w K mg base CX0 2 t.aJ t.a5 ["move"] (zw9 K t):=zG0 T
 refine T.dt.ok zF6 (fun vs H Q E h=>?_) (fun cdv A outer s H vs Q E hr h=>?_)
 . obtain ⟨l,xs,rs,ms,rfl,hl,R,hm,hb,q⟩:=h
   rfl
 . obtain ⟨l,xs,rs,ms,rfl,hl,R,hm,hb,q⟩:=h
   have haW:Room 2 _:=hr.mono (by decide)
   refine⟨_,(za4 (zb7 (i:=1) zF6.nd rfl (Or.inl rfl) (zb0 zd3 (zd9 zf7 rfl T.aw PyProof.Rows.boot_str (za0 (zc3 zc1 rfl T.aa PySem.boot_len (za0 (pv 0) za2)) za2)) zc2))
     (za4 (zd1 (zb3 zg3 (zc3 zc1 rfl T.aa PySem.boot_len (za0 (pv 0) za2)) za1 (zb9 _)) (za6 (zb8 (pv 1))) zb5)
     (za6 (zb8 (zb0 zd3 (zb0 zd3 (pv 1) zc2) (zl7 PySem.F.plainAttrs_str PySem.F.slot_str_join PySem.F.type_str_join zH9 zc2 (za0 (zr0 rfl zA0 (zq8 (pv 0)) (fun _ _ _ _ _=>(zc7 (i:=0) zA0.nd rfl (Or.inl rfl))) (fun _ _ _ _ _=>zn5) (fun _ _ _ _ _=>(za7 GaW haW rfl T.be T.bf T.bd .nil zb4 (za0 (pv 0) za2)))) za2))))))),?_⟩
   have e1:(Str.ofString " moves").length=6:=by decide
   have e2:(Str.ofString ": ").length=2:=by decide
   have e3:(Str.ofString ", ").length=2:=by decide
   have hsl:sizeLine=16777216:=by decide
   have hrl:=R.1
   have l1:=zw2 (n:=(ms.length:Int)) (by omega) (by omega)
   refine⟨_,rfl,l,_,rfl,.inl (SqL.of hl),?_⟩
   rw[List.length_map,hrl]
   refine⟨(ms.length:Int),rfl,zh2 (by omega),_,_,rfl,rfl,(by show (sI (ms.length:Int)).length+(Str.ofString " moves").length<=sizeLine;omega),?_⟩
   refine⟨_,rfl,l,_,rfl,.inl (SqL.of hl),rfl,_,rfl,?_⟩
   rw[List.length_map,hrl]
   unfold zZ7 at q
   refine ite2 (fun h1=>?_) (fun h1=>?_)
   . have em:ms=[]:=List.eq_nil_of_length_eq_zero (by simpa using h1)
     rw[if_pos em] at q
     exact⟨_,rfl,q H (Same.refl _)⟩
   . have em:¬ ms=[]:=fun z=>h1 (by rw[z];rfl)
     rw[if_neg em] at q
     have wl:∀ w∈ms.map (mvZ xs),w.length<=62:=fun w hw=>by
       obtain ⟨y,hy,rfl⟩:=List.mem_map.mp hw
       obtain ⟨b1,b2,b3,b4⟩:=hb y hy
       exact zy9 (by omega) (by omega) (by omega)
     have sl:=zQ2 wl
     rw[List.length_map] at sl
     have jl:(Txt.join (Str.ofString ", ") (ms.map (mvZ xs))).length<=62*ms.length+2*ms.length:=by
       have h:=size_glued (Str.ofString ", ") (ms.map (mvZ xs))
       rw[e3,List.length_map] at h
       show (Builtin.Str.glued _ _).length<=_
       omega
     refine⟨_,rfl,_,_,rfl,rfl,(by show (sI (ms.length:Int)++Str.ofString " moves").length+(Str.ofString ": ").length<=sizeLine;rw[zd5];omega),?_⟩
     refine⟨rfl,_,rfl,l,rfl,⟨_,SqL.of hl⟩,fun D hD=>?_⟩
     refine zz4 (K:=K) (a:=l) (xs:=rs.map V.ref) (fun i H'=>Same H H'/\H' D=some (.lst (((ms.take i).map (mvZ xs)).map V.str))) ⟨Same.upd hD,za3⟩ (fun i H' iv=>SqL.of (iv.1 _ _ hl)) (fun i x H' N hi iv hN=>?_) (fun H' iv=>?_)
     . dsimp only[zv3]
       obtain ⟨a,m,rfl,em,ra⟩:=mem_rows R hi
       obtain ⟨b1,b2,b3,b4⟩:=hb m (List.mem_of_getElem? em)
       obtain ⟨sH,hD'⟩:=iv
       refine iteT ⟨_,rfl,a,(m.1:Int)+1,xs.getD m.1 0,m.2,rfl,SqT.of (sH _ _ ra),by omega,by omega,by omega,fun H2 s2=>⟨_,s2 _ _ hD',?_,hN _ ⟨(sH.trans s2).put hD,?_⟩⟩⟩
       . rw[List.length_map,List.length_map,List.length_take]
         omega
       . rw[za3,List.take_succ,List.map_append,List.map_append,em]
         rfl
     . rw[List.length_map,hrl,List.take_length] at iv
       exact⟨_,D,ms.map (mvZ xs),rfl,rfl,SqL.of iv.2,by rw[e3,List.length_map];omega,_,_,rfl,rfl,(by show ((sI (ms.length:Int)++Str.ofString " moves")++Str.ofString ": ").length+(Txt.join (Str.ofString ", ") (ms.map (mvZ xs))).length<=sizeLine;rw[zd5,zd5];omega),q _ iv.1⟩
theorem ok_answer_words (T:Txt K mg t):FnOk P w K mg base (CXD P w) 8 t.aO t.bd ["play","word","rest"] (zA5 K t):=by
 have GaX:FnOk P w K mg base (CXD P w) 7 t.bj t.bP ["self","move"] (zJ5 K t):=ok_Play_move T
 have GaY:FnOk P w K mg base CX0 5 t.aT t.bo ["play"] (zz8 K t):=zK2 T
 have GaZ:FnOk P w K mg base CX0 4 t.bl t.bR ["text"] (zK0 K t):=ok_read_move T
 refine T.cA.d.okD (CX:=CX0) sc_answer_words (fun vs H Q E h=>?_) (fun cdv A outer s H vs Q E hr h=>?_)
 . obtain ⟨p,k,u,w,rfl,b,s0,x,m,n,r,lim,hs,s,c,ys,es,A,hd,h3,h⟩:=h
   rfl
 . obtain ⟨p,k,u,w,rfl,b,s0,x,m,n,r,lim,hs,s,c,ys,es,A,hd,h3,h⟩:=h
   have haX:Room 7 _:=hr.mono (by decide)
   have haY:Room 5 _:=hr.mono (by decide)
   have haZ:Room 4 _:=hr.mono (by decide)
   refine⟨_,(za4 (zd1 (zb3 zg3 (pv 1) zc2 (zb9 _)) (za4 (ze7 (pe_meth (pv 0) T.ac T.dB GaX haX T.dU .nil zl8 (za0 (za7 GaZ haZ rfl T.dZ T.d0 T.dY .nil zb4 (za0 (pv 2) za2)) za2)))
     (za6 (zb8 (za7 GaY haY rfl T.bn T.bo T.bm .nil zb4 (za0 (pv 0) za2))))) zb5)
     pss_never),?_⟩
   obtain ⟨dx,hp⟩:=A.pl.hp
   have hz:=zy9 (k:=k) (u:=u) (q:=w) (by have:=hd.1;omega) (by have:=hd.2.1;omega) (by have:=hd.2.2;omega)
   have hyl:ys.length=es.length:=by rw[zr8 A.pl.tm,zF0]
   refine⟨_,rfl,rfl,_,rfl,iteT ?_⟩
   refine⟨_,rfl,p,dx,_,rfl,hp,pf_move _ _ _ _,_,rfl,zq1 k u w,k,u,w,rfl,by omega,wMove_back hd,fun l H1 s1 hl=>?_⟩
   refine⟨p,l,b,s0,x,m,n,r,lim,k,u,w,hs,s,c,ys,zu7 es,rfl,A.pl.same s1,A.vc,hl,by omega,fun hz x' tv H2 s2 P2=>?_,fun j od H' hj tl=>?_⟩
   . rcases h with ⟨c',es',z,hok,q⟩ | ⟨j,hr,_⟩
     . obtain ⟨i,rfl,rfl,hz',L,rfl,rfl,rfl⟩:=hok.mvI
       . rw[show (((i:Int)+1-1).toNat)=i by omega] at P2
         have P3:zj2 t H2 p b s0 x' m n r hs lim s (c.set i w) (ys++[.ref tv]) (zu7 ((c,i,w)::es)):=by rw[zu8];exact P2
         exact⟨_,rfl,p,b,s0,x',m,n,r,lim,hs,s,c.set i w,_,(c,i,w)::es,rfl,⟨P3,⟨rfl,L,A.ch⟩,A.vs⟩,fun H3 s3=>q x' _ H3 ((Same.two s1 p m).trans (s2.trans (Same.two s3 p m))) (P3.same s3)⟩
     . cases hr with
       | mv hj=>rw[hz] at hj;cases hj
   . rcases h with ⟨c',es',z,hok,_⟩ | ⟨j',hr,e⟩
     . obtain ⟨i,e1,e2,hz',_⟩:=hok.mvI
       rw[hz'] at hj
       cases hj
     . cases hr with
       | mv hj' =>
         have ej:j'=j:=by omega
         subst ej
         have hj6:j'<6:=by have:=zO1 n r lim hs c k u w;omega
         have e1:clsD t j'=clsN t (j'+1):=if_neg (by omega)
         have e2:zQ1 j'=zF7 (j'+1):=if_neg (by omega)
         rw[<-e1]
         exact e od H' (by rw[e2];exact tl.from s1)
theorem ok_answer_row (T:Txt K mg t):FnOk P w K mg base (CXD P w) 9 t.a7 t.bA ["play","row"] (zG3 K t):=by
 have Ga3:FnOk P w K mg base (CXD P w) 8 t.aO t.bd ["play","word","rest"] (zA5 K t):=ok_answer_words T
 have GaY:FnOk P w K mg base CX0 5 t.aT t.bo ["play"] (zz8 K t):=zK2 T
 have Ga4:FnOk P w K mg base CX0 3 t.aE t.a0 ["beam","standing"] (zw1 K t):=ok_write_standing T
 have Ga5:FnOk P w K mg base CX0 3 t.a8 t.bB ["row"] (zG2 K t):=ok_tell_moves T
 have GaW:FnOk P w K mg base CX0 2 t.aJ t.a5 ["move"] (zw9 K t):=zG0 T
 have Ga7:FnOk P w K mg base CX0 6 t.ck t.cC ["beam","standing"] (zZ5 K t):=ok_moves T
 have Ga8:FnOk P w K mg base (CXD P w) 4 t.bk t.bQ ["self"] (zJ6 K t):=ok_Play_back T
 refine T.dp.d.okD (CX:=CX0) zF5 (fun vs H Q E h=>?_) (fun cdv A outer s H vs Q E hr h=>?_)
 . obtain ⟨p,d,rfl,b,s0,x,m,n,r,lim,hs,s,c,ys,es,A,hd,h3,h⟩:=h
   rfl
 . obtain ⟨p,d,rfl,b,s0,x,m,n,r,lim,hs,s,c,ys,es,A,hd,h3,h⟩:=h
   have ha3:Room 8 _:=hr.mono (by decide)
   have haY:Room 5 _:=hr.mono (by decide)
   have ha4:Room 3 _:=hr.mono (by decide)
   have ha5:Room 3 _:=hr.mono (by decide)
   have haW:Room 2 _:=hr.mono (by decide)
   have ha7:Room 6 _:=hr.mono (by decide)
   have ha8:Room 4 _:=hr.mono (by decide)
   refine⟨_,(za4 (zd1 (zb3 zg3 (pv 1) zc2 (zb9 _)) (za6 (zb8 (za7 GaY haY rfl T.bn T.bo T.bm .nil zb4 (za0 (pv 0) za2)))) zb5)
     (za4 (zd1 (zb3 zg3 (pv 1) zc2 (zb9 _)) (za6 (zb8 (za7 Ga4 ha4 rfl T.b6 T.b7 T.b5 .nil zb4 (za0 (zg1 (pv 0) rfl) (za0 (zg1 (pv 0) rfl) za2))))) zb5)
     (za4 (zd1 (zb3 zg3 (pv 1) zc2 (zb9 _)) (za6 (zb8 (za7 Ga5 ha5 rfl T.dv T.dw T.du .nil zb4 (za0 (za7 Ga7 ha7 rfl T.fF T.fG T.fE .nil zb4 (za0 (zg1 (pv 0) rfl) (za0 (zg1 (pv 0) rfl) za2))) za2)))) zb5)
     (za4 (zd1 (zb3 zg3 (pv 1) zc2 (zb9 _)) (za6 (zb8 (za7 GaW haW rfl T.be T.bf T.bd .nil zb4 (za0 (pe_meth0 (pv 0) T.ac T.dC Ga8 ha8 T.dW .nil zl8) za2)))) zb5)
     (za4 (zb7 (i:=2) zF5.nd rfl (Or.inl rfl) (zl7 PySem.F.plainAttrs_str PySem.F.slot_str_partition PySem.F.type_str_partition mt_part (pv 1) (za0 zc2 za2)))
     (za6 (zb8 (za7 Ga3 ha3 rfl T.cC T.cD T.cB .nil zl8 (za0 (pv 0) (za0 (zc6 zf4 (pv 2) za1 (fun _ _=>rfl)) (za0 (zc6 zf4 (pv 2) za1 (fun _ _=>rfl)) za2))))))))))),?_⟩
   obtain ⟨dx,hp⟩:=A.pl.hp
   have hw5:=A.pl.bm.1.w
   have hn4:=A.pl.bm.1.n2
   have hcl:=A.vc.len
   have hyl:ys.length=es.length:=by rw[zr8 A.pl.tm,zF0]
   have strne:∀ {a b:Str},a≠b->decide (V.str a=V.str b)=false:=fun h=>decide_eq_false fun z=>h (by injection z)
   cases d with
   | look =>
     rcases h with ⟨c',es',z,hok,q⟩ | ⟨j,hr,_⟩
     . cases hok
       exact⟨_,rfl,rfl,_,rfl,iteT ⟨_,rfl,p,b,s0,x,m,n,r,lim,hs,s,c,ys,es,rfl,A,fun H1 s1=>q x ys H1 (Same.two s1 p m) (A.pl.same s1)⟩⟩
     . cases hr
   | show_ =>
     rcases h with ⟨c',es',z,hok,q⟩ | ⟨j,hr,_⟩
     . cases hok
       exact⟨_,rfl,rfl,_,rfl,iteF ⟨_,rfl,rfl,_,rfl,iteT ⟨_,rfl,p,_,dx,_,_,rfl,hp,T.ac,T.av,zJ3 _ _ _ _,_,rfl,p,_,dx,_,_,rfl,hp,T.ac,T.ad,zm0 _ _ _ _,b,x,n,r,lim,hs,c,rfl,A.pl.bm,A.vc,.inr A.pl.hx,fun H1 s1=>q x ys H1 (Same.two s1 p m) (A.pl.same s1)⟩⟩⟩
     . cases hr
   | moves =>
     rcases h with ⟨c',es',z,hok,q⟩ | ⟨j,hr,_⟩
     . cases hok
       refine⟨_,rfl,rfl,_,rfl,iteF ⟨_,rfl,rfl,_,rfl,iteF ⟨_,rfl,rfl,_,rfl,iteT ⟨_,rfl,p,_,dx,_,_,rfl,hp,T.ac,T.av,zJ3 _ _ _ _,_,rfl,p,_,dx,_,_,rfl,hp,T.ac,T.ad,zm0 _ _ _ _,b,x,n,r,lim,hs,c,rfl,A.pl.bm,A.vc,.inr A.pl.hx,fun l rs H1 s1 fl hl R=>?_⟩⟩⟩⟩
       have hrl:=zt6 n r hs lim c c.length
       have hwd:wide n<=9:=by unfold wide;omega
       have:c.length*wide n<=5*9:=Nat.mul_le_mul (by omega) hwd
       refine⟨l,c,rs,_,rfl,hl,R,by omega,fun y hy=>?_,fun H2 s2=>q x ys H2 (Same.two (s1.trans s2) p m) (A.pl.same (s1.trans s2))⟩
       obtain ⟨y1,L⟩:=zE9.mp hy
       have on1:=L.on
       have on2:=A.vc.on (c.getD y.1 0) (zj1 y1)
       omega
     . cases hr
   | back =>
     refine⟨_,rfl,rfl,_,rfl,iteF ⟨_,rfl,rfl,_,rfl,iteF ⟨_,rfl,rfl,_,rfl,iteF ⟨_,rfl,rfl,_,rfl,iteT ⟨_,rfl,p,dx,_,rfl,hp,pf_back _ _ _ _,p,b,s0,x,m,n,r,lim,hs,s,c,ys,zu7 es,rfl,A.pl,by omega,by omega,fun hy od H' tl=>?_,fun hy=>?_⟩⟩⟩⟩⟩
     . rcases h with ⟨c',es',z,hok,_⟩ | ⟨j,hr,e⟩
       . cases hok
         rw[hy] at hyl
         cases hyl
       . cases hr
         exact e od H' tl
     . rcases h with ⟨c',es',z,hok,q⟩ | ⟨j,hr,_⟩
       . obtain ⟨i,w,rfl,rfl⟩:=hok.backI
         . obtain ⟨e1,L,C⟩:=A.ch
           have e1':c=c'.set i w:=e1
           replace L:Lets n r hs lim c' i w:=L
           replace C:Ch n r hs lim s es' c':=C
           have tm:=A.pl.tm
           rw[zu8] at tm
           obtain ⟨ys0,tv,ey,tm0,htv⟩:=zT8 tm
           have hlt:=L.lt
           have hc':=(C.valid A.vs).len
           have V0:=C.valid A.vs
           have on1:=L.on
           have on2:=V0.on (c'.getD i 0) (zj1 hlt)
           refine⟨ys0,zu7 es',tv,i,c'.getD i 0,w,ey,by rw[zu8];rfl,htv,by rw[e1',List.length_set];exact hlt,fun x' H2 s2 P2=>?_⟩
           rw[e1',yg6 hlt] at P2
           have htv2:=s2.tup A.pl.ip ⟨_,A.pl.hm⟩ htv
           exact⟨tv,(i:Int)+1,c'.getD i 0,w,rfl,SqT.of htv2,by omega,by omega,by omega,fun H3 s3=>q x' ys0 H3 (s2.trans (Same.two s3 p m)) (P2.same s3)⟩
       . cases hr
         exact absurd (List.eq_nil_of_length_eq_zero (by rw[hyl];rfl)) hy
   | mv k u w =>
     have hz:=zy9 (k:=k) (u:=u) (q:=w) (by have:=hd.1;omega) (by have:=hd.2.1;omega) (by have:=hd.2.2;omega)
     have e5:(Str.ofString "move ").length=5:=by decide
     refine⟨_,rfl,rfl,_,rfl,iteB (strne (zK1 (by decide))) ⟨_,rfl,rfl,_,rfl,iteB (strne (zK1 (by decide))) ⟨_,rfl,rfl,_,rfl,iteB (strne (zK1 (by decide))) ⟨_,rfl,rfl,_,rfl,iteB (strne (zK1 (by decide))) ?_⟩⟩⟩⟩
     have ep:Txt.partition (zl3 (.mv k u w)) (Str.ofString " ")=(Str.ofString "move",Str.ofString " ",zq1 k u w):=by
       show Txt.partition (Str.ofString "move "++zq1 k u w) _=_
       rw[show Str.ofString "move " = Str.ofString "move"++⟨#[32]⟩ by decide,zL0]
       exact part_at (by decide)
     refine⟨_,rfl,rfl,_,_,rfl,rfl,by decide,(by show (Str.ofString "move "++zq1 k u w).length<=1000000;rw[zd5];omega),fun l H1 s1 fl hl=>?_⟩
     rw[ep] at hl
     refine⟨_,rfl,_,rfl,l,_,_,_,rfl,rfl,SqT.of hl,at_0,_,rfl,l,_,_,_,rfl,rfl,SqT.of hl,at_2,p,k,u,w,rfl,b,s0,x,m,n,r,lim,hs,s,c,ys,es,A.same s1,hd,h3,?_⟩
     rcases h with ⟨c',es',z,hok,q⟩ | ⟨j,hr,e⟩
     . exact .inl ⟨c',es',z,hok,fun x' ys' H2 s2 P2=>q x' ys' H2 ((Same.two s1 p m).trans s2) P2⟩
     . exact .inr ⟨j,hr,fun od H2 tl=>e od H2 (tl.from s1)⟩
theorem xD (T:Txt K mg t) {j:Nat} (hj:j<7):XAsk K (clsD t j)/\ze1 K (clsD t j) "word"/\W.exmOne K (.ref (clsD t j)) (.ref t.ai)=some true:=by
 by_cases h6:j=6
 . subst h6
   exact⟨T.cM,T.aP,T.bi⟩
 . rw[show clsD t j=clsN t (j+1) from if_neg h6]
   exact xfacts T (by omega)
theorem wordD_len {j:Nat} (hj:j<7):(zQ1 j).length<=20:=by
 match j,hj with
 | 0,_=>decide
 | 1,_=>decide
 | 2,_=>decide
 | 3,_=>decide
 | 4,_=>decide
 | 5,_=>decide
 | 6,_=>decide
 | j+7,h=>exact absurd h (by omega)
theorem ok_answer (T:Txt K mg t):FnOk P w K mg base CX0 10 t.bZ t.cn ["play","row"] (zT9 K t):=by
 have Ga9:FnOk P w K mg base (CXD P w) 9 t.a7 t.bA ["play","row"] (zG3 K t):=ok_answer_row T
 refine T.eL.ok zS7 (fun vs H Q E h=>?_) (fun cdv A outer s H vs Q E hr h=>?_)
 . obtain ⟨p,b,s0,x,m,n,r,lim,hs,s,c,ys,es,d,c',es',z,rfl,A,hd,h3,S,q⟩:=h
   rfl
 . obtain ⟨p,b,s0,x,m,n,r,lim,hs,s,c,ys,es,d,c',es',z,rfl,A,hd,h3,S,q⟩:=h
   have ha9:Room 9 _:=hr.mono (by decide)
   refine⟨_,(za6 (ps_tryD (Ex:=fun σ9 cls od H9=>∃ j,RefD n r lim hs c es d j/\c'=c/\es'=es/\z=Str.ofString "refused: "++zQ1 j/\σ9=[some (.ref p),some (.str (zl3 d)),none]/\cls = .ref (clsD t j)/\Told H H9 od (zQ1 j)) (i:=2) ⟨rfl,rfl⟩ rfl T.ah zS7.nd rfl rfl (fun _=>(za6 (zb8 (pe_callS Ga9 ha9 rfl T.dr T.ds T.dq .nil passes_tryD (za0 (pv 0) (za0 (pv 1) za2)))))) (fun _=>(za6 (zb8 (zb0 zd3 zc2 (pe_xgetK K rfl (pv 2) rfl))))))),?_⟩
   refine⟨⟨_,rfl,_,rfl,p,d,rfl,b,s0,x,m,n,r,lim,hs,s,c,ys,es,A,hd,h3,?_⟩,fun σ' cls od H' a' hE fa=>?_⟩
   . rcases S with h | ⟨j,hr,e1,e2,e3⟩
     . exact .inl ⟨c',es',z,h,q⟩
     . exact .inr ⟨j,hr,fun od H' tl=>⟨j,hr,e1,e2,e3,rfl,rfl,tl⟩⟩
   . obtain ⟨j,hr,rfl,rfl,rfl,rfl,rfl,tl⟩:=hE
     obtain ⟨sH,dx,fs,rfl,hdx,hw⟩:=tl
     have hj:=hr.lt
     have hwl:=wordD_len hj
     have e1:(Str.ofString "refused: ").length=9:=by decide
     have hsl:sizeLine=16777216:=by decide
     have ne:dx≠a':=fun z=>by rw[z,fa] at hdx;cases hdx
     obtain ⟨X1,X2,X3⟩:=xD T hj
     refine⟨X3,?_⟩
     have s5:=sH.updT (o:=zM6 (.ref (clsD t j)) a' (some dx)) fa
     have HA:(upd H' a' (zM6 (.ref (clsD t j)) a' (some dx))) a'=_:=za3
     have HD:(upd H' a' (zM6 (.ref (clsD t j)) a' (some dx))) dx=_:=(za8 ne).trans hdx
     exact⟨_,rfl,a',_,dx,fs,_,rfl,HA,HD,X1,X2,hw,_,_,rfl,rfl,by omega,q x ys _ (Same.two s5 p m) (A.pl.same s5)⟩
end
end Bt
namespace Bt
open PySem L2
section
variable {P:Program} {w:World} {K:W.Frag} {mg:Str->Option Value} {base:Heap} {t:Adr}
theorem zK3 (T:Txt K mg t):FnOk P w K mg base CX0 1 t.bq t.bC ["_law_script","_law_k"] (zE7 K t):=by
 refine T.fW.ok sc_w_at (fun vs H Q E h=>?_) (fun cdv A outer s H vs Q E hr h=>?_)
 . obtain ⟨a,ns,k,rfl,hS,q⟩:=h
   rfl
 . obtain ⟨a,ns,k,rfl,hS,q⟩:=h
   refine⟨_,(za4 (zd1 (zb3 zH2 (pv 1) (zc3 zc1 rfl T.aa PySem.boot_len (za0 (pv 0) za2)) (zb9 _)) (za6 (zb8 (zc6 zd4 (pv 0) (pv 1) (fun _ _=>rfl)))) zb5)
     (za6 (zb8 za1))),?_⟩
   refine⟨_,rfl,_,rfl,a,_,rfl,.inl hS,_,_,rfl,rfl,_,rfl,?_⟩
   rw[List.length_map]
   refine ite2 (fun h1=>?_) (fun h1=>?_)
   . have hk:k<ns.length:=by have:=of_decide_eq_true h1;omega
     have e:ns.getD k 0=ns[k]:=by simp[hk]
     rw[e] at q
     exact⟨_,rfl,_,rfl,a,_,_,_,rfl,rfl,hS,zN4 (by simp[hk]),q⟩
   . have hk:¬ k<ns.length:=fun z=>h1 (decide_eq_true (by omega))
     have e:ns.getD k 0=0:=by simp[hk]
     rw[e] at q
     exact q
theorem zU0 (T:Txt K mg t):FnOk P w K mg base CX0 1 t.bD t.b0 ["_law_cell","_law_count","_law_base","_law_mix"] (zL9 K t):=by
 refine T.eP.ok zq6 (fun vs H Q E h=>?_) (fun cdv A outer s H vs Q E hr h=>?_)
 . obtain ⟨cell,base0,n,mix,rfl,⟨hn,hb,hb2⟩,q⟩:=h
   rfl
 . obtain ⟨cell,base0,n,mix,rfl,⟨hn,hb,hb2⟩,q⟩:=h
   refine⟨_,(za4 (zb7 (i:=4) zq6.nd rfl (Or.inl rfl) (ze6 za2))
     (za4 (zb7 (i:=5) zq6.nd rfl (Or.inl rfl) (pv 0))
     (za4 (zd1 (zh4 (pv 3)) (za6 (zb7 (i:=5) zq6.nd rfl (Or.inl rfl) (zb0 ze5 (zb0 zl5 (pv 0) za1) za1))) zb5)
     (za4 (zn9 PassesOwn.never rfl (zo2 rfl T.am (za0 (pv 1) za2)) (zc7 (i:=6) zq6.nd rfl (Or.inl rfl)) (za6 (zd1 (zh4 (pv 3)) (za4 (zb7 (i:=5) zq6.nd rfl (Or.inl rfl) (zb0 ze5 (zb0 zl5 (zb0 ze8 (zb0 ze8 (pv 5) (pv 6)) za1) za1) za1))
     (za6 (ze7 (zl7 PySem.F.plainAttrs_list PySem.F.slot_list_append PySem.F.type_list_append zk3 (pv 4) (za0 (zb0 ze5 (zb0 zi3 (pv 5) za1) (pv 2)) za2))))) (za4 (ze7 (zl7 PySem.F.plainAttrs_list PySem.F.slot_list_append PySem.F.type_list_append zk3 (pv 4) (za0 (zb0 ze5 (pv 5) (pv 2)) za2)))
     (za6 (zb7 (i:=5) zq6.nd rfl (Or.inl rfl) (zb0 zi3 (pv 5) (pv 2))))))))
     (za6 (zb8 (pv 4))))))),?_⟩
   refine⟨Nat.zero_le _,fun l hl=>?_⟩
   refine⟨_,rfl,_,rfl,_,rfl,?_⟩
   have e0:(zs6 cell base0 mix 0).2=[]:=rfl
   cases mix
   . refine iteF ?_
     refine⟨_,rfl,_,rfl,by omega,by omega,zk2 (n:=(n:Int).toNat) (fun i σ H'=>∃ v,σ=[some (.int cell),some (.int n),some (.int base0),some (.bl false),some (.ref l),some (.int (zs6 cell base0 false i).1),v]/\H'=upd H l (.lst ((zs6 cell base0 false i).2.map V.int))/\(zs6 cell base0 false i).2.length=i) ⟨none,rfl,rfl,rfl⟩ ?_ ?_⟩
     . rintro i σ H' hi ⟨v,rfl,rfl,hlen⟩
       refine⟨_,rfl,_,rfl,iteF ?_⟩
       refine⟨_,rfl,.inl ⟨rfl,_,SqL.of za3⟩,_,rfl,_,rfl,_,_,rfl,rfl,hb,l,_,_,rfl,rfl,za3,zd0 (by rw[List.length_map];omega),?_⟩
       refine⟨_,rfl,_,rfl,_,_,rfl,rfl,⟨hb,by omega⟩,_,rfl,?_,?_⟩
       . rw[zj6]
         show upd H l (.lst (_++[V.int _]))=upd H l (.lst ((_++[_]).map V.int))
         rw[List.map_append]
         rfl
       . show (_++[_]).length=i+1
         rw[List.length_append,hlen]
         rfl
     . rintro σ H' ⟨v,rfl,rfl,hlen⟩
       exact⟨_,rfl,q l hl⟩
   . refine iteT ?_
     refine⟨_,rfl,_,_,rfl,rfl,.inr ⟨by decide,by decide⟩,_,_,rfl,rfl,(by show (0:Int)<2147483647;decide),?_⟩
     refine⟨_,rfl,_,rfl,by omega,by omega,zk2 (n:=(n:Int).toNat) (fun i σ H'=>∃ v,σ=[some (.int cell),some (.int n),some (.int base0),some (.bl true),some (.ref l),some (.int (zs6 cell base0 true i).1),v]/\H'=upd H l (.lst ((zs6 cell base0 true i).2.map V.int))/\(zs6 cell base0 true i).2.length=i) ⟨none,rfl,rfl,rfl⟩ ?_ ?_⟩
     . rintro i σ H' hi ⟨v,rfl,rfl,hlen⟩
       refine⟨_,rfl,_,rfl,iteT ?_⟩
       refine⟨_,rfl,_,rfl,_,_,rfl,rfl,_,_,rfl,rfl,_,_,rfl,rfl,.inr ⟨by decide,by decide⟩,_,_,rfl,rfl,(by show (0:Int)<2147483647;decide),?_⟩
       refine⟨_,rfl,.inl ⟨rfl,_,SqL.of za3⟩,_,rfl,_,_,rfl,rfl,⟨by decide,by decide⟩,_,rfl,_,_,rfl,rfl,hb,l,_,_,rfl,rfl,za3,zd0 (by rw[List.length_map];omega),?_⟩
       refine⟨_,rfl,?_,?_⟩
       . rw[zj6]
         show upd H l (.lst (_++[V.int _]))=upd H l (.lst ((_++[_]).map V.int))
         rw[List.map_append]
         rfl
       . show (_++[_]).length=i+1
         rw[List.length_append,hlen]
         rfl
     . rintro σ H' ⟨v,rfl,rfl,hlen⟩
       exact⟨_,rfl,q l hl⟩
theorem ok_w_shape (T:Txt K mg t):FnOk P w K mg base CX0 2 t.bJ t.cf ["_law_script"] (zP7 K t):=by
 have Gba:FnOk P w K mg base CX0 1 t.bq t.bC ["_law_script","_law_k"] (zE7 K t):=zK3 T
 have Gbc:FnOk P w K mg base CX0 1 t.bD t.b0 ["_law_cell","_law_count","_law_base","_law_mix"] (zL9 K t):=zU0 T
 refine T.es.ok zk0 (fun vs H Q E h=>?_) (fun cdv A outer s H vs Q E hr h=>?_)
 . obtain ⟨a,ns,rfl,hS,q⟩:=h
   rfl
 . obtain ⟨a,ns,rfl,hS,q⟩:=h
   have hba:Room 1 _:=hr.mono (by decide)
   have hbc:Room 1 _:=hr.mono (by decide)
   refine⟨_,(za4 (zb7 (i:=1) zk0.nd rfl (Or.inl rfl) (za7 Gba hba rfl T.aC T.aD T.aB .nil zb4 (za0 (pv 0) (za0 za1 za2))))
     (za4 (zb7 (i:=2) zk0.nd rfl (Or.inl rfl) (zc6 zd4 (ze6 (za0 za1 (za0 za1 (za0 za1 (za0 za1 za2))))) (zb0 ze5 (pv 1) za1) (fun _ _=>rfl)))
     (za4 (zb7 (i:=3) zk0.nd rfl (Or.inl rfl) (zc3 (zK8 rfl) rfl T.co PyProof.Rows.boot_min (za0 (zc6 zd4 (ze6 (za0 za1 (za0 za1 (za0 za1 (za0 za1 za2))))) (zb0 zh1 (pv 2) za1) (fun _ _=>rfl)) (za0 (zc6 zd4 (ze6 (za0 za1 (za0 za1 (za0 za1 (za0 za1 (za0 za1 (za0 za1 za2))))))) (zb0 ze5 (zb0 zi3 (pv 1) za1) za1) (fun _ _=>rfl)) za2))))
     (za4 (zb7 (i:=4) zk0.nd rfl (Or.inl rfl) (zb0 ze8 za1 (zb0 ze5 (zb0 zi3 (pv 1) za1) za1)))
     (za4 (zb7 (i:=5) zk0.nd rfl (Or.inl rfl) (za7 Gba hba rfl T.aC T.aD T.aB .nil zb4 (za0 (pv 0) (za0 za1 za2))))
     (za4 (zW1 (i:=6) rfl zI6 (zq8 (za7 Gbc hbc rfl T.b9 T.ca T.b8 .nil zb4 (za0 (za7 Gba hba rfl T.aC T.aD T.aB .nil zb4 (za0 (pv 0) (za0 za1 za2))) (za0 (pv 3) (za0 za1 (za0 (zq9 zg3 (zb0 ze5 (pv 5) za1) za1 (zb9 _)) za2)))))) (fun _ _ _ _ _=>(zc7 (i:=0) zI6.nd rfl (Or.inl rfl))) (fun _ _ _ _ _=>zn5) (fun _ _ _ _ _=>(zb0 ze8 za1 (pv 0))) zk0.nd rfl rfl)
     (za4 (zd1 (zb3 zg3 (zb0 ze5 (zb0 zi3 (pv 5) za1) za1) za1 (zb9 _)) (za6 (zb7 (i:=6) zk0.nd rfl (Or.inl rfl) (zb0 zW0 (zi4 zN3 (pv 6) zn6 (zl1 za1)) (pv 3)))) zb5)
     (za4 (zd1 (zb3 zg3 (zb0 ze5 (zb0 zi3 (pv 5) za1) za1) za1 (zb9 _)) (za6 (zb7 (i:=6) zk0.nd rfl (Or.inl rfl) (zb0 zW0 (ze6 (za0 za1 za2)) (pv 3)))) zb5)
     (za6 (zb8 (ze6 (za0 (pv 2) (za0 (pv 4) (za0 (pv 6) za2)))))))))))))),?_⟩
   have hm1:0<=at0 ns 1 % 4:=Int.emod_nonneg _ (by decide)
   have hm2:at0 ns 1 % 4<4:=Int.emod_lt_of_pos _ (by decide)
   have hm3:0<=at0 ns 1 / 4 % 6:=Int.emod_nonneg _ (by decide)
   have hm4:at0 ns 1 / 4 % 6<6:=Int.emod_lt_of_pos _ (by decide)
   have hN:=zL8 ns
   obtain ⟨hW0,hW5⟩:=yf8 ns
   have h5:(if shN ns=1 then (5:Int) else if shN ns=2 then 4 else 3)<=5:=by repeat (first | decide | split)
   refine⟨_,rfl,a,ns,1,rfl,hS,?_⟩
   refine⟨by decide,fun l1 f1=>⟨_,rfl,_,_,rfl,rfl,(by show (0:Int)<4;decide),l1,_,_,_,rfl,rfl,SqL.of za3,zf3 (xs:=[2,3,1,4]) hm1 hm2,?_⟩⟩
   have s1:Same H (upd H l1 (.lst [.int 2,.int 3,.int 1,.int 4])):=Same.upd f1
   generalize upd H l1 (.lst [.int 2,.int 3,.int 1,.int 4])=H1 at s1 ⊢
   refine⟨by decide,fun l2 f2=>⟨_,rfl,_,_,rfl,rfl,l2,_,_,_,rfl,rfl,SqL.of za3,zf3 (xs:=[5,4,3,3]) (by show 0<=shN ns-1;omega) (by show shN ns-1<4;omega),?_⟩⟩
   have s2:Same H (upd H1 l2 (.lst [.int 5,.int 4,.int 3,.int 3])):=s1.updT f2
   generalize upd H1 l2 (.lst [.int 5,.int 4,.int 3,.int 3])=H2 at s2 ⊢
   refine⟨by decide,fun l3 f3=>⟨_,rfl,_,_,rfl,rfl,⟨by decide,by decide⟩,_,_,rfl,rfl,(by show (0:Int)<6;decide),l3,_,_,_,rfl,rfl,SqL.of za3,zf3 (xs:=[3,2,4,1,5,0]) hm3 hm4,_,_,rfl,?_⟩⟩
   have s3:Same H (upd H2 l3 (.lst [.int 3,.int 2,.int 4,.int 1,.int 5,.int 0])):=s2.updT f3
   generalize upd H2 l3 (.lst [.int 3,.int 2,.int 4,.int 1,.int 5,.int 0])=H3 at s3 ⊢
   refine⟨_,rfl,_,_,rfl,rfl,⟨by decide,by decide⟩,_,_,rfl,rfl,(by show (0:Int)<3;decide),_,_,rfl,rfl,?_⟩
   refine⟨_,rfl,a,ns,0,rfl,s3.seq hS,?_⟩
   have eW:(((shW ns).toNat:Nat):Int)=shW ns:=by omega
   refine⟨_,rfl,a,ns,2,rfl,s3.seq hS,_,rfl,_,rfl,_,_,rfl,rfl,(by show (0:Int)<2;decide),rfl,at0 ns 2,20,(shW ns).toNat,zv7 ns,?_,⟨by omega,by decide,by decide⟩,fun l4 f4=>⟨l4,rfl,⟨_,SqL.of za3⟩,fun D hD=>?_⟩⟩
   . rw[eW];rfl
   have s4:Same H (upd H3 l4 (.lst ((figs (at0 ns 2) (shW ns).toNat 20 (zv7 ns)).map V.int))):=s3.updT f4
   refine comp_list (f:=fun v=>match v with | .int z=>V.int (1+z) | v=>v) (SqL.of za3) hD (Nat.le_of_lt (zd0 (by rw[List.length_map,zI7];omega))) (fun x acc R hx h=>?_) ?_
   . obtain ⟨z,hz,rfl⟩:=List.mem_map.mp hx
     exact⟨_,rfl,_,_,rfl,rfl,h⟩
   have em:((figs (at0 ns 2) (shW ns).toNat 20 (zv7 ns)).map V.int).map (fun v=>match v with | .int z=>V.int (1+z) | v=>v)=(shH0 ns).map V.int:=by
     unfold shH0
     rw[List.map_map,List.map_map];rfl
   rw[em]
   have s5:=s4.updT (o:=.lst ((shH0 ns).map V.int)) hD
   have fD:H D=none:=s4.free hD
   have hHD:(upd (upd H3 l4 (.lst ((figs (at0 ns 2) (shW ns).toNat 20 (zv7 ns)).map V.int))) D (.lst ((shH0 ns).map V.int))) D=some (.lst ((shH0 ns).map V.int)):=za3
   clear em
   revert s5 hHD
   generalize upd (upd H3 l4 (.lst ((figs (at0 ns 2) (shW ns).toNat 20 (zv7 ns)).map V.int))) D (.lst ((shH0 ns).map V.int))=H5
   intro s5 hHD
   have hl0:=zY5 ns
   refine⟨_,rfl,_,_,rfl,rfl,⟨by decide,by decide⟩,_,_,rfl,rfl,(by show (0:Int)<5;decide),rfl,_,rfl,?_⟩
   show (if decide (V.int (at0 ns 0 / 2 % 5)=V.int 1)=true then _ else _)
   rw[zf6]
   by_cases m1:at0 ns 0 / 2 % 5=1
   . rw[decide_eq_true m1]
     refine iteT ?_
     refine⟨_,rfl,1,rfl,D,_,rfl,SqL.of hHD,fun l6 f6=>⟨_,rfl,l6,_,_,rfl,rfl,za3,(by show -(2 ^ 63)<=shW ns;omega),(by show shW ns<2 ^ 63;omega),?_,fun l7 f7=>?_⟩⟩
     . refine Nat.le_of_lt (zd0 ?_)
       have h1:(cutV ((shH0 ns).map V.int) none (some 1)).length<=(shW ns).toNat:=by rw[<-hl0,<-List.length_map (f:=V.int)];exact zl6 _ _ _
       have h2:(shW ns).toNat<=5:=by omega
       exact Nat.le_trans (Nat.mul_le_mul (Nat.le_trans h1 h2) h2) (by decide)
     have s6:=(s5.updT (o:=.lst (cutV ((shH0 ns).map V.int) none (some 1))) f6).updT (o:=.lst (List.replicate (shW ns).toNat (cutV ((shH0 ns).map V.int) none (some 1))).flatten) f7
     have f7':H l7=none:=(s5.updT (o:=.lst (cutV ((shH0 ns).map V.int) none (some 1))) f6).free f7
     refine⟨_,rfl,_,_,rfl,rfl,⟨by decide,by decide⟩,_,_,rfl,rfl,(by show (0:Int)<5;decide),rfl,_,rfl,?_⟩
     show (if decide (V.int (at0 ns 0 / 2 % 5)=V.int 2)=true then _ else _)
     rw[zf6,decide_eq_false (by omega)]
     refine iteF ?_
     refine⟨_,rfl,_,rfl,_,rfl,(by show 3<=sizeLine;decide),fun l8 f8=>?_⟩
     refine q l8 l7 _ (s6.updT f8) (s6.free f8) f7' ?_ za3
     rw[za8 (fun e=>by rw[<-e] at f8;rw[za3] at f8;cases f8),za3]
     have ec:cutV ((shH0 ns).map V.int) none (some 1)=((shH0 ns).take 1).map V.int:=by
       unfold cutV
       rw[HT.sIx_none,show (some (1:Int))=some ((1:Nat):Int) from rfl,HT.sIx_nat,List.drop_zero,Nat.sub_zero,List.map_take,List.length_map]
       by_cases h:1<=(shH0 ns).length
       . rw[Nat.min_eq_left h]
       . have:shH0 ns=[]:=List.eq_nil_of_length_eq_zero (by omega)
         rw[this];rfl
     have ef:(List.replicate (shW ns).toNat (((shH0 ns).take 1).map V.int)).flatten=(shH ns).map V.int:=by
       unfold shH
       rw[if_pos m1,List.map_flatten,List.map_replicate]
     show some (HO.lst (List.replicate (shW ns).toNat (cutV ((shH0 ns).map V.int) none (some 1))).flatten)=_
     rw[ec,ef]
   . rw[decide_eq_false m1]
     refine iteF ?_
     refine⟨_,rfl,_,_,rfl,rfl,⟨by decide,by decide⟩,_,_,rfl,rfl,(by show (0:Int)<5;decide),rfl,_,rfl,?_⟩
     show (if decide (V.int (at0 ns 0 / 2 % 5)=V.int 2)=true then _ else _)
     rw[zf6]
     by_cases m2:at0 ns 0 / 2 % 5=2
     . rw[decide_eq_true m2]
       refine iteT ?_
       refine⟨by decide,fun l6 f6=>⟨_,rfl,l6,_,_,rfl,rfl,za3,(by show -(2 ^ 63)<=shW ns;omega),(by show shW ns<2 ^ 63;omega),?_,fun l7 f7=>?_⟩⟩
       . refine Nat.le_of_lt (zd0 ?_)
         show 1*(shW ns).toNat<=1000
         omega
       have s6:=(s5.updT (o:=.lst [.int 20]) f6).updT (o:=.lst (List.replicate (shW ns).toNat [V.int 20]).flatten) f7
       have f7':H l7=none:=(s5.updT (o:=.lst [.int 20]) f6).free f7
       refine⟨_,rfl,_,rfl,_,rfl,(by show 3<=sizeLine;decide),fun l8 f8=>?_⟩
       refine q l8 l7 _ (s6.updT f8) (s6.free f8) f7' ?_ za3
       rw[za8 (fun e=>by rw[<-e] at f8;rw[za3] at f8;cases f8),za3]
       have ef:(List.replicate (shW ns).toNat [V.int 20]).flatten=(shH ns).map V.int:=by
         unfold shH
         rw[if_neg m1,if_pos m2,List.map_flatten,List.map_replicate]
         rfl
       show some (HO.lst (List.replicate (shW ns).toNat [V.int 20]).flatten)=_
       rw[ef]
     . rw[decide_eq_false m2]
       refine iteF ?_
       refine⟨_,rfl,_,rfl,_,rfl,(by show 3<=sizeLine;decide),fun l8 f8=>?_⟩
       refine q l8 D _ (s5.updT f8) (s5.free f8) fD ?_ za3
       rw[za8 (fun e=>by rw[<-e] at f8;rw[hHD] at f8;cases f8),hHD]
       have ef:shH ns=shH0 ns:=by
         unfold shH
         rw[if_neg m1,if_neg m2]
       rw[ef]
theorem ok_w_put (T:Txt K mg t):FnOk P w K mg base CX0 2 t.cl t.cD ["_law_script","_law_k","_law_more","_law_shape_here"] (zY7 K t):=by
 have Gbc:FnOk P w K mg base CX0 1 t.bD t.b0 ["_law_cell","_law_count","_law_base","_law_mix"] (zL9 K t):=zU0 T
 have Gba:FnOk P w K mg base CX0 1 t.bq t.bC ["_law_script","_law_k"] (zE7 K t):=zK3 T
 refine T.fH.ok zl9 (fun vs H Q E h=>?_) (fun cdv A outer s H vs Q E hr h=>?_)
 . obtain ⟨a,sh,h,ns,k,more,n,r,hs,rfl,hS,hsh,hh,⟨n1,n2,r1,hw⟩,q⟩:=h
   rfl
 . obtain ⟨a,sh,h,ns,k,more,n,r,hs,rfl,hS,hsh,hh,⟨n1,n2,r1,hw⟩,q⟩:=h
   have hbc:Room 1 _:=hr.mono (by decide)
   have hba:Room 1 _:=hr.mono (by decide)
   refine⟨_,(za4 (zA8 (pv 3) (zK9 rfl (zd8 (zc7 (i:=4) zl9.nd rfl (Or.inl rfl)) (zd8 (zc7 (i:=5) zl9.nd rfl (Or.inl rfl)) (zd8 (zc7 (i:=6) zl9.nd rfl (Or.inl rfl)) zv1)))))
     (za4 (zb7 (i:=7) zl9.nd rfl (Or.inl rfl) (zq9 zg3 (zb0 ze5 (za7 Gba hba rfl T.aC T.aD T.aB .nil zb4 (za0 (pv 0) (za0 za1 za2))) za1) za1 (zb9 _)))
     (za4 (zb7 (i:=8) zl9.nd rfl (Or.inl rfl) (zb0 ze8 (za7 Gba hba rfl T.aC T.aD T.aB .nil zb4 (za0 (pv 0) (za0 (pv 1) za2))) (pv 2)))
     (za4 (zb7 (i:=9) zl9.nd rfl (Or.inl rfl) (ze6 za2))
     (za4 (zn9 PassesOwn.never rfl (zq8 (za7 Gbc hbc rfl T.b9 T.ca T.b8 .nil zb4 (za0 (pv 8) (za0 (zc3 zc1 rfl T.aa PySem.boot_len (za0 (pv 6) za2)) (za0 (zb0 ze8 (zb0 zl5 za1 (pv 4)) za1) (za0 (pv 7) za2)))))) (zc7 (i:=10) zl9.nd rfl (Or.inl rfl)) (za4 (zb7 (i:=11) zl9.nd rfl (Or.inl rfl) (zb0 zh1 (pv 10) (pv 4)))
     (za4 (zd1 (zb3 zg3 (zb0 ze5 (pv 8) za1) za1 (zb9 _)) (za6 (zb7 (i:=11) zl9.nd rfl (Or.inl rfl) (pv 4))) zb5)
     (za4 (zd1 (PW.pt (zw3 (zb3 zr2 (pv 11) za1 (zb9 _)) (zv0 (zb3 zX3 (zl7 PySem.F.plainAttrs_list PySem.F.slot_list_count PySem.F.type_list_count mt_countL (pv 9) (za0 (pv 11) za2)) (pv 5) (zb9 _))))) (za6 (zb7 (i:=11) zl9.nd rfl (Or.inl rfl) za1)) zb5)
     (za6 (ze7 (zl7 PySem.F.plainAttrs_list PySem.F.slot_list_append PySem.F.type_list_append zk3 (pv 9) (za0 (pv 11) za2))))))))
     (za6 (zb8 (pv 9)))))))),?_⟩
   refine⟨_,rfl,sh,_,rfl,SqL.of hsh,rfl,_,_,rfl,_,_,rfl,_,_,rfl,rfl,?_⟩
   refine⟨_,rfl,a,ns,0,rfl,hS,_,_,rfl,rfl,(by show (0:Int)<2;decide),rfl,?_⟩
   refine⟨_,rfl,_,rfl,a,ns,k,rfl,hS,_,rfl,_,_,rfl,rfl,?_⟩
   refine⟨Nat.zero_le _,fun m fm=>?_⟩
   have s1:Same H (upd H m (.lst [])):=Same.upd fm
   refine⟨_,rfl,_,rfl,h,_,rfl,.inl (s1.seq hh),_,rfl,_,_,rfl,rfl,.inl ⟨by decide,by decide⟩,_,_,rfl,rfl,_,rfl,at0 ns k+more,2*n+1,hs.length,zv7 ns,?_,⟨by omega,by omega,by omega⟩,fun f ff=>⟨f,rfl,⟨_,SqL.of za3⟩,?_⟩⟩
   . rw[List.length_map];rfl
   have hfm:f≠m:=fun e=>by rw[e,za3] at ff;cases ff
   have ff0:H f=none:=s1.free ff
   have hlen:(figs (at0 ns k+more) hs.length (2*n+1) (zv7 ns)).length=hs.length:=zI7 _ _ _ _
   have hin:=zW7 (cell:=at0 ns k+more) (mix:=zv7 ns) (show (0:Int)<2*n+1 by omega) hs.length
   have hq:∀ H',Same H H'->H' m=some (.lst ((putL n r (decide (V.int ((at0 ns k+more) % 13)=V.int 12)) (figs (at0 ns k+more) hs.length (2*n+1) (zv7 ns))).map V.int))->Q (.ref m) H':=fun H' s' e=>q m H' s' fm e
   generalize figs (at0 ns k+more) hs.length (2*n+1) (zv7 ns)=fs at hlen hin hq ⊢
   have hput:∀ i,(putL n r (decide (V.int ((at0 ns k+more) % 13)=V.int 12)) (fs.take i)).length<=5:=fun i=>by
     rw[(yd6 _ (by omega) r1 (fs.take i) fun x hx=>hin x (List.mem_of_mem_take hx)).1,List.length_take];omega
   refine zA9 (K:=K) (a:=f) (xs:=fs.map V.int) (fun i σ H'=>∃ v10 v11,σ=[some (.ref a),some (.int k),some (.int more),some (.ref sh),some (.int n),some (.int r),some (.ref h),some (.bl (zv7 ns)),some (.int (at0 ns k+more)),some (.ref m),v10,v11] ∧
     H'=upd (upd (upd H m (.lst [])) f (.lst (fs.map V.int))) m (.lst ((putL n r (decide (V.int ((at0 ns k+more) % 13)=V.int 12)) (fs.take i)).map V.int))) ⟨none,none,rfl,?_⟩ ?_ ?_ ?_
   . exact (upd_id (by rw[za8 (Ne.symm hfm),za3];rfl)).symm
   . rintro i σ H' _ ⟨_,_,_,rfl⟩
     exact SqL.of (by rw[za8 hfm,za3])
   . rintro i x σ H' hi ⟨v10,v11,rfl,rfl⟩
     obtain ⟨z,rfl,hz⟩:=zz3 hi
     have etk:fs.take (i+1)=fs.take i++[z]:=by rw[List.take_succ,hz];rfl
     have hpi:=hput i
     generalize hlast:decide (V.int ((at0 ns k+more) % 13)=V.int 12)=last at hput hpi hq ⊢
     generalize hmade:putL n r last (fs.take i)=made at hpi
     have enext:putL n r last (fs.take (i+1))=zt0 n r last made z:=by rw[etk,zS9,hmade]
     have tail:∀ (p:Int),p=(if last=true then n else z-n)->True:=fun _ _=>trivial
     refine⟨_,rfl,_,rfl,_,_,rfl,rfl,?_⟩
     refine⟨_,rfl,_,_,rfl,rfl,(by show (0:Int)<13;decide),rfl,_,rfl,?_⟩
     show (if decide (V.int ((at0 ns k+more) % 13)=V.int 12)=true then _ else _)
     rw[hlast]
     cases last
     . refine iteF ?_
       refine⟨_,rfl,rfl,_,rfl,?_⟩
       refine ite2 (fun h1=>?_) (fun h1=>?_)
       . have hp0:z-n≠0:=fun e=>by
           have h1':(!decide (V.int (z-n)=V.int 0))=true:=h1
           rw[e] at h1';simp at h1'
         refine⟨_,rfl,.inl ⟨rfl,_,SqL.of za3⟩,_,rfl,m,made,z-n,rfl,rfl,SqL.of za3,_,rfl,_,_,rfl,rfl,_,rfl,?_⟩
         refine ite2 (fun h2=>?_) (fun h2=>?_)
         . have h2':r<=(made.count (z-n):Int):=of_decide_eq_true h2
           refine⟨_,rfl,.inl ⟨rfl,_,SqL.of za3⟩,_,rfl,m,_,_,rfl,rfl,za3,zd0 (by rw[List.length_map];omega),_,_,rfl,?_⟩
           rw[zj6,enext]
           unfold zt0
           rw[if_neg (show ¬ (false=true) by decide),if_pos ⟨hp0,h2'⟩,List.map_append]
           rfl
         . have h2':¬ r<=(made.count (z-n):Int):=fun e=>h2 (decide_eq_true e)
           refine⟨_,rfl,.inl ⟨rfl,_,SqL.of za3⟩,_,rfl,m,_,_,rfl,rfl,za3,zd0 (by rw[List.length_map];omega),_,_,rfl,?_⟩
           rw[zj6,enext]
           unfold zt0
           rw[if_neg (show ¬ (false=true) by decide),if_neg (fun e=>h2' e.2),List.map_append]
           rfl
       . have hp0:z-n=0:=by
           have h1':¬ (!decide (V.int (z-n)=V.int 0))=true:=h1
           rw[zf6] at h1'
           simpa using h1'
         refine iteF ?_
         refine⟨_,rfl,.inl ⟨rfl,_,SqL.of za3⟩,_,rfl,m,_,_,rfl,rfl,za3,zd0 (by rw[List.length_map];omega),_,_,rfl,?_⟩
         rw[zj6,enext]
         unfold zt0
         rw[if_neg (show ¬ (false=true) by decide),if_neg (fun e=>e.1 hp0),List.map_append]
         rfl
     . refine iteT ?_
       refine⟨_,rfl,?_⟩
       refine⟨_,rfl,rfl,_,rfl,?_⟩
       have hn0:n≠0:=by omega
       refine iteA (by show (!decide (V.int n=V.int 0))=true;rw[zf6];simpa using hn0) ?_
       refine⟨_,rfl,.inl ⟨rfl,_,SqL.of za3⟩,_,rfl,m,made,n,rfl,rfl,SqL.of za3,_,rfl,_,_,rfl,rfl,_,rfl,?_⟩
       refine ite2 (fun h2=>?_) (fun h2=>?_)
       . have h2':r<=(made.count n:Int):=of_decide_eq_true h2
         refine⟨_,rfl,.inl ⟨rfl,_,SqL.of za3⟩,_,rfl,m,_,_,rfl,rfl,za3,zd0 (by rw[List.length_map];omega),_,_,rfl,?_⟩
         rw[zj6,enext]
         unfold zt0
         rw[if_pos rfl,if_pos ⟨hn0,h2'⟩,List.map_append]
         rfl
       . have h2':¬ r<=(made.count n:Int):=fun e=>h2 (decide_eq_true e)
         refine⟨_,rfl,.inl ⟨rfl,_,SqL.of za3⟩,_,rfl,m,_,_,rfl,rfl,za3,zd0 (by rw[List.length_map];omega),_,_,rfl,?_⟩
         rw[zj6,enext]
         unfold zt0
         rw[if_pos rfl,if_neg (fun e=>h2' e.2),List.map_append]
         rfl
   . rintro σ H' ⟨v10,v11,rfl,rfl⟩
     rw[List.length_map,List.take_length]
     refine⟨_,rfl,hq _ ?_ za3⟩
     exact ((s1.updT ff).put fm)
noncomputable def zz0 (K:W.Frag) (t:Adr):Sp:=fun vs H Q _=>∃ (h a:Addr) (hs xs:List Int),vs=[.ref h,.ref a]/\SqL K H h (hs.map V.int)/\(SqL K H a (xs.map V.int)\/SqT K H a (xs.map V.int))/\(hs.length=xs.length/\xs.length<=5/\∀ x∈hs,1<=x/\x<=20)/\Q (.int (zc5 hs xs)) H
theorem zF1 (T:Txt K mg t):FnOk P w K mg base CX0 1 t.a1 t.be ["_law_hefts","_law_spots"] (zz0 K t):=by
 refine T.eQ.ok zE1 (fun vs H Q E h=>?_) (fun cdv A outer s H vs Q E hr h=>?_)
 . obtain ⟨h,a,hs,xs,rfl,hh,hS,⟨hl,h5,hhs⟩,q⟩:=h
   rfl
 . obtain ⟨h,a,hs,xs,rfl,hh,hS,⟨hl,h5,hhs⟩,q⟩:=h
   refine⟨_,(za4 (zb7 (i:=2) zE1.nd rfl (Or.inl rfl) za1)
     (za4 (zn9 PassesOwn.never rfl (zo2 rfl T.am (za0 (zc3 zc1 rfl T.aa PySem.boot_len (za0 (pv 0) za2)) za2)) (zc7 (i:=3) zE1.nd rfl (Or.inl rfl)) (za6 (zb7 (i:=2) zE1.nd rfl (Or.inl rfl) (zb0 ze8 (pv 2) (zb0 zl5 (zc6 zd4 (pv 0) (pv 3) (fun _ _=>rfl)) (zc6 zw5 (pv 1) (pv 3) (fun _ _=>rfl)))))))
     (za6 (zb8 (pv 2))))),?_⟩
   refine⟨_,rfl,h,_,rfl,.inl hh,?_⟩
   rw[List.length_map]
   refine⟨_,rfl,by omega,by omega,zk2 (n:=((hs.length:Nat):Int).toNat) (fun i σ H'=>∃ v,σ=[some (.ref h),some (.ref a),some (.int (zZ1 hs xs i)),v]/\H'=H) ⟨none,rfl,rfl⟩ ?_ ?_⟩
   . rintro j σ H' hj ⟨v,rfl,rfl⟩
     have hjh:j<hs.length:=by simpa using hj
     have e0:(0:Int)+(j:Int)=(j:Int):=by omega
     have ax:atI (xs.map V.int) (0+(j:Int))=some (.int (xs.getD j 0)):=by rw[e0];exact zf3 (by omega) (by omega)
     have ah:atI (hs.map V.int) (0+(j:Int))=some (.int (hs.getD j 0)):=by rw[e0];exact zf3 (by omega) (by omega)
     have hm:=hhs (hs.getD j 0) (zj1 hjh)
     have ixA:∀ (Q':VK),Q' (.int (xs.getD j 0)) H'->rIx K (.ref a) (.int (0+(j:Int))) H' Q':=fun Q' h=>by
       rcases hS with hS | hS
       . exact .inl ⟨a,_,_,_,rfl,rfl,hS,ax,h⟩
       . exact .inr (.inl ⟨a,_,_,_,rfl,rfl,hS,ax,h⟩)
     exact⟨_,rfl,_,rfl,_,rfl,h,_,_,_,rfl,rfl,hh,ah,_,rfl,_,rfl,ixA _ ⟨_,_,rfl,rfl,.inl ⟨by omega,by omega⟩,_,_,rfl,rfl,_,rfl,rfl⟩⟩
   . rintro σ H' ⟨v,rfl,rfl⟩
     rw[Int.toNat_natCast,sumTo_tilt hl]
     exact⟨_,rfl,q⟩
noncomputable def zQ3 (K:W.Frag) (t:Adr):Sp:=fun vs H Q _=>∃ (a:Addr) (ns:List Int) (low:Int),vs=[.ref a,.int low]/\SqL K H a (ns.map V.int)/\(0<=low/\low<=400)/\∀ lim,low<=lim->lim<=400->Q (.int lim) H
theorem ok_w_limit (T:Txt K mg t):FnOk P w K mg base CX0 2 t.bK t.cg ["_law_script","_law_low"] (zQ3 K t):=by
 have Gba:FnOk P w K mg base CX0 1 t.bq t.bC ["_law_script","_law_k"] (zE7 K t):=zK3 T
 refine T.ew.ok zG7 (fun vs H Q E h=>?_) (fun cdv A outer s H vs Q E hr h=>?_)
 . obtain ⟨a,ns,low,rfl,hS,⟨h0,h4⟩,q⟩:=h
   rfl
 . obtain ⟨a,ns,low,rfl,hS,⟨h0,h4⟩,q⟩:=h
   have hba:Room 1 _:=hr.mono (by decide)
   refine⟨_,(za4 (zb7 (i:=2) zG7.nd rfl (Or.inl rfl) (za7 Gba hba rfl T.aC T.aD T.aB .nil zb4 (za0 (pv 0) (za0 za1 za2))))
     (za4 (zb7 (i:=3) zG7.nd rfl (Or.inl rfl) (zb0 ze5 (zb0 zi3 (za7 Gba hba rfl T.aC T.aD T.aB .nil zb4 (za0 (pv 0) (za0 za1 za2))) za1) za1))
     (za4 (zd1 (zb3 zg3 (pv 3) za1 (zb9 _)) (za6 (zb8 (zc3 (zK8 rfl) rfl T.co PyProof.Rows.boot_min (za0 za1 (za0 (zb0 ze8 (pv 1) (zb0 ze5 (pv 2) za1)) za2))))) zb5)
     (za4 (zd1 (zb3 zg3 (pv 3) za1 (zb9 _)) (za6 (zb8 (zc3 (zK8 rfl) rfl T.co PyProof.Rows.boot_min (za0 za1 (za0 (zb0 ze8 (pv 1) (zb0 ze5 (pv 2) za1)) za2))))) zb5)
     (za4 (zd1 (zb3 zg3 (pv 3) za1 (zb9 _)) (za6 (zb8 (zc3 (zR2 rfl) rfl T.el PyProof.Rows.boot_max (za0 (pv 1) (za0 (zb0 ze5 (pv 2) za1) za2))))) zb5)
     (za6 (zb8 za1))))))),?_⟩
   refine⟨_,rfl,a,ns,5,rfl,hS,?_⟩
   refine⟨_,rfl,a,ns,0,rfl,hS,_,_,rfl,rfl,⟨by decide,by decide⟩,_,_,rfl,rfl,(by show (0:Int)<4;decide),?_⟩
   generalize ns.getD 5 0=c
   have m8:0<=c % 8:=Int.emod_nonneg _ (by decide)
   have m41:0<=c % 41:=Int.emod_nonneg _ (by decide)
   have m401:0<=c % 401:=Int.emod_nonneg _ (by decide)
   have m401':c % 401<401:=Int.emod_lt_of_pos _ (by decide)
   refine⟨_,rfl,rfl,_,rfl,?_⟩
   refine ite2 (fun h1=>?_) (fun h1=>?_)
   . refine⟨_,rfl,_,rfl,_,_,rfl,rfl,(by show (0:Int)<8;decide),_,_,rfl,rfl,_,_,rfl,?_⟩
     exact q _ (by split<;>omega) (by split<;>omega)
   refine⟨_,rfl,rfl,_,rfl,?_⟩
   refine ite2 (fun h2=>?_) (fun h2=>?_)
   . refine⟨_,rfl,_,rfl,_,_,rfl,rfl,(by show (0:Int)<41;decide),_,_,rfl,rfl,_,_,rfl,?_⟩
     exact q _ (by split<;>omega) (by split<;>omega)
   refine⟨_,rfl,rfl,_,rfl,?_⟩
   refine ite2 (fun h3=>?_) (fun h3=>?_)
   . refine⟨_,rfl,_,rfl,_,_,rfl,rfl,(by show (0:Int)<401;decide),_,_,rfl,?_⟩
     exact q _ (by split<;>omega) (by split<;>omega)
   exact q 400 h4 (by decide)
end
end Bt
namespace Bt
open PySem L2
section
variable {P:Program} {w:World} {K:W.Frag} {mg:Str->Option Value} {base:Heap} {t:Adr}
noncomputable def zl4 (n r:Int) (xs:List Int) (j:Nat):List Int:=(grid n j).filter fun p=>decide (p=0\/(xs.count p:Int)<r)
theorem zQ4 (n r:Int) (xs:List Int) (j:Nat):zl4 n r xs (j+1)=zl4 n r xs j++(if -n+(j:Int)=0\/(xs.count (-n+(j:Int)):Int)<r then [-n+(j:Int)] else []):=by
 unfold zl4 grid
 rw[List.range_succ,List.map_append,List.filter_append]
 congr 1
 by_cases h:-n+(j:Int)=0\/(xs.count (-n+(j:Int)):Int)<r
 . rw[if_pos h];simp[h]
 . rw[if_neg h];simp[h]
theorem zU1 (n r:Int) (xs:List Int) (j:Nat):(zl4 n r xs j).length<=j:=by
 unfold zl4 grid
 refine Nat.le_trans (List.length_filter_le _ _) ?_
 simp
theorem freeL_puts (n r:Int) (hs:List Int) (lim:Int) (xs:List Int) (i j:Nat):(zl4 n r xs j).filter (fun p=>decide (Lets n r hs lim xs i p))=zj4 n r hs lim xs i j:=by
 unfold zl4 zj4
 rw[List.filter_filter]
 refine List.filter_congr fun p _=>?_
 by_cases h:Lets n r hs lim xs i p
 . have:p=0\/(xs.count p:Int)<r:=by
     by_cases z:p=0
     . exact .inl z
     . exact .inr (h.room z)
   simp[h,this]
 . simp[h]
theorem filt_no {q:Int->Bool} {l:List Int} {p:Int} (h:q p=false):(l++[p]).filter q=l.filter q:=by simp[List.filter_append,h]
theorem filt_yes {q:Int->Bool} {l:List Int} {p:Int} (h:q p=true):(l++[p]).filter q=l.filter q++[p]:=by simp[List.filter_append,h]
theorem freeL_mem {n r:Int} {xs:List Int} {j:Nat} {p:Int} (h:p∈zl4 n r xs j):(∃ k,k<j/\p = -n+(k:Int))/\(p=0\/(xs.count p:Int)<r):=by
 unfold zl4 grid at h
 obtain ⟨h1,h2⟩:=List.mem_filter.mp h
 obtain ⟨k,hk,rfl⟩:=List.mem_map.mp h1
 exact⟨⟨k,List.mem_range.mp hk,rfl⟩,of_decide_eq_true h2⟩
noncomputable def zN1 (n r:Int) (hs:List Int) (lim:Int) (x:List Int) (i:Nat):List (List Int):=(zp7 n r hs lim x i).map fun m=>x.set m.1 m.2
theorem zQ5 (n r:Int) (hs:List Int) (lim:Int) (x:List Int) (i:Nat):zN1 n r hs lim x (i+1)=zN1 n r hs lim x i++(zj4 n r hs lim x i (wide n)).map fun p=>x.set i p:=by
 unfold zN1
 rw[zz7,List.map_append,List.map_map]
 rfl
noncomputable def zq4 (K:W.Frag) (H:Hp) (c:Addr) (n r:Int) (hs:List Int) (lim:Int):Prop:=∃ h,zh5 n r hs lim/\SqL K H c [.int n,.int r,.ref h,.int lim]/\SqL K H h (hs.map V.int)
theorem zq4.same {K:W.Frag} {H H':Hp} {c:Addr} {n r:Int} {hs:List Int} {lim:Int} (h:zq4 K H c n r hs lim) (s:Same H H'):zq4 K H' c n r hs lim:=let ⟨a,h0,h1,h2⟩:=h;⟨a,h0,s.seq h1,s.seq h2⟩
noncomputable def zU2 (K:W.Frag) (t:Adr):Sp:=fun vs H Q _=>∃ (c a:Addr) (n r lim:Int) (hs xs:List Int),vs=[.ref c,.ref a]/\zq4 K H c n r hs lim/\ze0 n r hs.length xs/\H a=some (.tup (xs.map V.int)) ∧
 ∀ l H' ys,Same H H'->H l=none->H' l=some (.lst ys)->Tups H' ys (nbs n r hs lim xs)->Q (.ref l) H'
theorem ok_w_near (T:Txt K mg t):FnOk P w K mg base CX0 2 t.b4 t.cq ["_law_scale","_law_spots"] (zU2 K t):=by
 have Gbf:FnOk P w K mg base CX0 1 t.a1 t.be ["_law_hefts","_law_spots"] (zz0 K t):=zF1 T
 refine T.e0.ok zj0 (fun vs H Q E h=>?_) (fun cdv A outer s H vs Q E hr h=>?_)
 . obtain ⟨c,a,n,r,lim,hs,xs,rfl,⟨h,ok,hc,hh⟩,V0,hT,q⟩:=h
   rfl
 . obtain ⟨c,a,n,r,lim,hs,xs,rfl,⟨h,ok,hc,hh⟩,V0,hT,q⟩:=h
   have hbf:Room 1 _:=hr.mono (by decide)
   refine⟨_,(za4 (zA8 (pv 0) (zK9 rfl (zd8 (zc7 (i:=2) zj0.nd rfl (Or.inl rfl)) (zd8 (zc7 (i:=3) zj0.nd rfl (Or.inr rfl)) (zd8 (zc7 (i:=4) zj0.nd rfl (Or.inl rfl)) (zd8 (zc7 (i:=5) zj0.nd rfl (Or.inl rfl)) zv1))))))
     (za4 (zb7 (i:=6) zj0.nd rfl (Or.inl rfl) (za7 Gbf hbf rfl T.aJ T.aK T.aI .nil zb4 (za0 (pv 4) (za0 (pv 1) za2))))
     (za4 (zW1 (i:=7) rfl zM7 (zD4 rfl T.am (za0 (zn1 zh8 (pv 2)) (za0 (zb0 ze8 (pv 2) za1) za2))) (fun _ _ _ _ _=>(zc7 (i:=0) zM7.nd rfl (Or.inl rfl))) (fun _ _ _ _ _=>(zO8 (PW.pt (zH1 (zb3 zg3 (pv 0) za1 (zb9 _)) (zG5 (zb3 zH2 (yc1 PySem.F.slot_tuple_count PySem.F.type_tuple_count (mt_countTK K rfl) (pv 2) (za0 (pv 0) za2)) (pv 1) (zb9 _))))))) (fun _ _ _ _ _=>(pv 0)) zj0.nd rfl rfl)
     (za4 (zb7 (i:=8) zj0.nd rfl (Or.inl rfl) (ze6 za2))
     (za4 (zn9 PassesOwn.never rfl (zo2 rfl T.am (za0 (zc3 zc1 rfl T.aa PySem.boot_len (za0 (pv 4) za2)) za2)) (zc7 (i:=9) zj0.nd rfl (Or.inl rfl)) (za4 (zb7 (i:=10) zj0.nd rfl (Or.inl rfl) (zb0 zh1 (pv 6) (zb0 zl5 (zc6 zd4 (pv 4) (pv 9) (fun _ _=>rfl)) (zc6 zf4 (pv 1) (pv 9) (fun _ _=>rfl)))))
     (za6 (zd1 (zb3 ye7 (zc3 zt7 rfl T.aW PyProof.Rows.boot_abs (za0 (pv 10) za2)) (pv 5) (zb9 _)) (za6 (zn9 PassesOwn.never rfl (zq8 (pv 7)) (zc7 (i:=11) zj0.nd rfl (Or.inl rfl)) (za6 (zd1 (PW.pt (zw3 (zb3 zr2 (pv 11) (zc6 zf4 (pv 1) (pv 9) (fun _ _=>rfl)) (zb9 _)) (zv0 (zb3 ye7 (zc3 zt7 rfl T.aW PyProof.Rows.boot_abs (za0 (zb0 ze8 (pv 10) (zb0 zl5 (zc6 zd4 (pv 4) (pv 9) (fun _ _=>rfl)) (pv 11))) za2)) (pv 5) (zb9 _))))) (za6 (ze7 (zl7 PySem.F.plainAttrs_list PySem.F.slot_list_append PySem.F.type_list_append zk3 (pv 8) (za0 (zb0 zv4 (zb0 zv4 (zi4 zB1 (pv 1) zn6 (zl1 (pv 9))) (zp9 (za0 (pv 11) za2))) (zi4 zB1 (pv 1) (zl1 (zb0 ze8 (pv 9) za1)) zn6)) za2)))) zb5)))) zb5))))
     (za6 (zb8 (pv 8)))))))),?_⟩
   have hlen:=V0.len
   have hw:=ok.w
   have n1:=ok.n1
   have n2:=ok.n2
   have hwide:wide n<=9:=by unfold wide;omega
   refine⟨_,rfl,c,_,rfl,hc,rfl,_,_,rfl,_,_,rfl,_,_,rfl,_,_,rfl,rfl,?_⟩
   refine⟨_,rfl,_,rfl,h,a,hs,xs,rfl,hh,.inr (SqT.of hT),⟨hlen.symm,by omega,ok.h⟩,?_⟩
   refine⟨_,rfl,_,rfl,_,rfl,_,_,rfl,rfl,-n,n+1,rfl,⟨by omega,by omega,by omega,by omega⟩,fun D hD=>?_⟩
   refine zB6 (fun j H'=>H'=upd H D (.lst ((zl4 n r xs j).map V.int))) rfl ?_ ?_
   . rintro j H' N hj rfl hN
     have hT':(upd H D (.lst ((zl4 n r xs j).map V.int))) a=some (.tup (xs.map V.int)):=Same.upd hD _ _ hT
     have hD':(upd H D (.lst ((zl4 n r xs j).map V.int))) D=some (.lst ((zl4 n r xs j).map V.int)):=za3
     have no:¬ (-n+(j:Int)=0\/(xs.count (-n+(j:Int)):Int)<r)->(upd H D (.lst ((zl4 n r xs j).map V.int)))=upd H D (.lst ((zl4 n r xs (j+1)).map V.int)):=fun z=>by rw[zQ4,if_neg z,List.append_nil]
     have fl:=zU1 n r xs j
     have yes:(-n+(j:Int)=0\/(xs.count (-n+(j:Int)):Int)<r)->upd (upd H D (.lst ((zl4 n r xs j).map V.int))) D (.lst ((zl4 n r xs j).map V.int++[.int (-n+(j:Int))]))=upd H D (.lst ((zl4 n r xs (j+1)).map V.int)):=fun z=>by
       rw[zj6,zQ4,if_pos z,List.map_append]
       rfl
     refine⟨_,rfl,rfl,_,rfl,?_⟩
     rw[zf6]
     refine ite2 (fun h2=>?_) (fun h2=>?_)
     . refine iteT ⟨_,rfl,_,hD',zd0 (by rw[List.length_map];unfold wide at *;omega),hN _ (yes (.inl (by simpa using h2)))⟩
     . refine⟨_,rfl,⟨_,_,rfl,hT'⟩,_,rfl,_,xs,_,rfl,rfl,SqT.of hT',_,rfl,_,_,rfl,rfl,_,rfl,?_⟩
       refine ite2 (fun h3=>?_) (fun h3=>?_)
       . exact⟨_,rfl,_,hD',zd0 (by rw[List.length_map];unfold wide at *;omega),hN _ (yes (.inr (of_decide_eq_true h3)))⟩
       . exact hN _ (no fun z=>z.elim (fun z=>h2 (by simp[z])) (fun z=>h3 (decide_eq_true z)))
   . rintro H' rfl
     have s1:Same H (upd H D (.lst ((zl4 n r xs (n+1 - -n).toNat).map V.int))):=Same.upd hD
     have hD1:(upd H D (.lst ((zl4 n r xs (n+1 - -n).toNat).map V.int))) D=some (.lst ((zl4 n r xs (wide n)).map V.int)):=za3
     revert s1 hD1
     generalize upd H D (.lst ((zl4 n r xs (n+1 - -n).toNat).map V.int))=H1
     intro s1 hD1
     refine⟨Nat.zero_le _,fun m fm=>?_⟩
     have fm0:=s1.free fm
     have s2:Same H1 (upd H1 m (.lst [])):=Same.upd fm
     have hm2:(upd H1 m (.lst [])) m=some (.lst []):=za3
     revert s2 hm2
     generalize upd H1 m (.lst [])=H2
     intro s2 hm2
     refine⟨_,rfl,h,_,rfl,.inl ((s1.trans s2).seq hh),?_⟩
     rw[List.length_map]
     refine⟨_,rfl,by omega,by omega,zk2 (n:=((hs.length:Nat):Int).toNat) (fun i σ H'=>∃ v9 v10 v11 ys,σ=[some (.ref c),some (.ref a),some (.int n),some (.int r),some (.ref h),some (.int lim),some (.int (zc5 hs xs)),some (.ref D),some (.ref m),v9,v10,v11]/\Same H1 H'/\H' m=some (.lst ys)/\Tups H' ys (zN1 n r hs lim xs i)) ⟨none,none,none,[],rfl,s2,hm2,.nil⟩ ?_ ?_⟩
     . rintro i σ H3 hi ⟨v9,v10,v11,ys,rfl,s3,hm3,T3⟩
       have hi':i<hs.length:=by simpa using hi
       have e0:(0:Int)+(i:Int)=(i:Int):=by omega
       rw[e0]
       have ax:atI (xs.map V.int) (i:Int)=some (.int (xs.getD i 0)):=zf3 (by omega) (by omega)
       have ah:atI (hs.map V.int) (i:Int)=some (.int (hs.getD i 0)):=zf3 (by omega) (by omega)
       have hmem:=ok.h (hs.getD i 0) (zj1 hi')
       have s03:=s1.trans s3
       have hrl:=zt6 n r hs lim xs i
       have hmul:i*wide n<=5*9:=Nat.mul_le_mul (by omega) hwide
       have hnl:(zN1 n r hs lim xs i).length<=45:=by unfold zN1;rw[List.length_map];omega
       refine⟨_,rfl,_,rfl,_,rfl,h,_,_,_,rfl,rfl,s03.seq hh,ah,_,rfl,_,rfl,a,_,_,_,rfl,rfl,SqT.of (s03 _ _ hT),ax,_,_,rfl,rfl,.inl ⟨by omega,by omega⟩,_,_,rfl,rfl,?_⟩
       refine⟨_,rfl,_,rfl,_,rfl,_,_,rfl,rfl,_,rfl,?_⟩
       have eheld:zc5 hs xs-hs.getD i 0*xs.getD i 0=zi2 hs xs i:=rfl
       rw[eheld]
       refine ite2 (fun h1=>?_) (fun h1=>?_)
       . have h1':absI (zi2 hs xs i)<=lim:=of_decide_eq_true h1
         have hfr:=zU1 n r xs (wide n)
         have hput:=freeL_puts n r hs lim xs i (wide n)
         have hmemF:∀ p∈zl4 n r xs (wide n),(-n<=p/\p<=n)/\(p≠0->(xs.count p:Int)<r):=fun p hp=>by
           obtain ⟨⟨k,hk,rfl⟩,h2⟩:=freeL_mem hp
           exact⟨by unfold wide at hk;omega,fun z=>h2.resolve_left z⟩
         have hD3:=s3 _ _ hD1
         generalize zl4 n r xs (wide n)=fr at hD3 hfr hput hmemF
         refine⟨_,rfl,D,rfl,⟨_,SqL.of hD3⟩,zA9 (K:=K) (a:=D) (xs:=fr.map V.int) (fun j σ H'=>∃ v11 ys,σ=[some (.ref c),some (.ref a),some (.int n),some (.int r),some (.ref h),some (.int lim),some (.int (zc5 hs xs)),some (.ref D),some (.ref m),some (.int (i:Int)),some (.int (zi2 hs xs i)),v11]/\Same H1 H'/\H' D=some (.lst (fr.map V.int))/\H' m=some (.lst ys) ∧
           Tups H' ys (zN1 n r hs lim xs i++((fr.take j).filter fun p=>decide (Lets n r hs lim xs i p)).map fun p=>xs.set i p)) ⟨v11,ys,rfl,s3,hD3,hm3,by simpa using T3⟩ (fun j σ H' _ ⟨_,_,_,_,e,_⟩=>SqL.of e) ?_ ?_⟩
         . rintro j x σ H4 hj ⟨v11,ys,rfl,s4,hD4,hm4,T4⟩
           obtain ⟨p,rfl,hz⟩:=zz3 hj
           obtain ⟨hp1,hp2⟩:=hmemF p (List.mem_of_getElem? hz)
           have etk:fr.take (j+1)=fr.take j++[p]:=by rw[List.take_succ,hz];rfl
           have s04:=s1.trans s4
           have no:¬ Lets n r hs lim xs i p->Tups H4 ys (zN1 n r hs lim xs i++((fr.take (j+1)).filter fun p=>decide (Lets n r hs lim xs i p)).map fun p=>xs.set i p):=fun z=>by
             rw[etk,filt_no (decide_eq_false z)]
             exact T4
           refine⟨_,rfl,_,rfl,_,rfl,a,_,_,_,rfl,rfl,SqT.of (s04 _ _ hT),ax,rfl,_,rfl,?_⟩
           rw[zf6]
           refine ite2 (fun h2=>?_) (fun h2=>?_)
           . have h2':p≠xs.getD i 0:=by simpa using h2
             refine⟨_,rfl,_,rfl,_,rfl,h,_,_,_,rfl,rfl,s04.seq hh,ah,_,rfl,_,_,rfl,rfl,.inl ⟨by omega,by omega⟩,_,_,rfl,rfl,_,rfl,_,rfl,_,_,rfl,rfl,_,rfl,?_⟩
             refine ite2 (fun h3=>?_) (fun h3=>?_)
             . have h3':absI (zi2 hs xs i+hs.getD i 0*p)<=lim:=of_decide_eq_true h3
               have L:Lets n r hs lim xs i p:=⟨by omega,hp1,h2',hp2,h1',h3'⟩
               refine⟨_,rfl,.inl ⟨rfl,_,SqL.of hm4⟩,?_⟩
               refine⟨_,rfl,_,rfl,_,rfl,a,_,rfl,SqT.of (s04 _ _ hT),?_,fun l1 f1=>?_⟩
               . rw[HT.sIx_none,HT.sIx_nat,List.length_map,Nat.min_eq_left (by omega)]
                 omega
               have sa:Same H4 (upd H4 l1 (.tup (cutV (xs.map V.int) none (some (i:Int))))):=Same.upd f1
               have ha:(upd H4 l1 (.tup (cutV (xs.map V.int) none (some (i:Int))))) l1=some (.tup (cutV (xs.map V.int) none (some (i:Int)))):=za3
               revert sa ha
               generalize upd H4 l1 (.tup (cutV (xs.map V.int) none (some (i:Int))))=Ha
               intro sa ha
               refine⟨_,rfl,(by show 1<=sizeLine;decide),fun l2 f2=>?_⟩
               have sb:Same Ha (upd Ha l2 (.tup [.int p])):=Same.upd f2
               have hb:(upd Ha l2 (.tup [.int p])) l2=some (.tup [.int p]):=za3
               revert sb hb
               generalize upd Ha l2 (.tup [.int p])=Hb
               intro sb hb
               have len1:=zl6 (xs.map V.int) none (some (i:Int))
               rw[List.length_map] at len1
               refine⟨l1,l2,_,_,rfl,rfl,sb _ _ ha,hb,Nat.le_of_lt (zd0 (by show _+1<=_;omega)),fun l3 Hc sc hc3=>?_⟩
               have s4c:=sa.trans (sb.trans sc)
               have s0c:=s04.trans s4c
               refine⟨_,rfl,_,rfl,_,_,rfl,rfl,_,rfl,a,_,rfl,SqT.of (s0c _ _ hT),?_,fun l4 f4=>?_⟩
               . rw[show ((i:Int)+1)=((i+1:Nat):Int) by omega,HT.sIx_nat,List.length_map]
                 omega
               have sd:Same Hc (upd Hc l4 (.tup (cutV (xs.map V.int) (some ((i:Int)+1)) none))):=Same.upd f4
               have hd:(upd Hc l4 (.tup (cutV (xs.map V.int) (some ((i:Int)+1)) none))) l4=some (.tup (cutV (xs.map V.int) (some ((i:Int)+1)) none)):=za3
               revert sd hd
               generalize upd Hc l4 (.tup (cutV (xs.map V.int) (some ((i:Int)+1)) none))=Hd
               intro sd hd
               have e5:=zO0 xs i p (by omega)
               refine⟨l3,l4,_,_,rfl,rfl,sd _ _ hc3,hd,?_,fun l5 He se he=>?_⟩
               . rw[<-List.length_append,e5,List.length_map,List.length_set]
                 exact Nat.le_of_lt (zd0 (by omega))
               rw[e5] at he
               have s4e:=s4c.trans (sd.trans se)
               have hme:=s4e _ _ hm4
               have hyl:=zr8 T4
               rw[List.length_append,List.length_map] at hyl
               have hfl:((fr.take j).filter fun p=>decide (Lets n r hs lim xs i p)).length<=fr.length:=Nat.le_trans (List.length_filter_le _ _) (by rw[List.length_take];omega)
               refine⟨m,_,_,rfl,rfl,hme,zd0 (by omega),?_⟩
               refine⟨_,_,rfl,(s4.trans s4e).put fm,by rw[za8 (zc0 hD1 fm)];exact s4e _ _ hD4,za3,?_⟩
               rw[etk,filt_yes (decide_eq_true L),List.map_append,<-List.append_assoc]
               refine zL1 (zx1 hme (fun _ z=>nomatch z) (s4e.tups T4)) ?_
               rw[za8 (fun z=>by rw[z,hme] at he;cases he)]
               exact he
             . exact⟨_,_,rfl,s4,hD4,hm4,no fun L=>h3 (decide_eq_true L.behind)⟩
           . have h2':p=xs.getD i 0:=by simpa using h2
             exact iteF ⟨_,_,rfl,s4,hD4,hm4,no fun L=>L.ne h2'⟩
         . rintro σ H4 ⟨v11,ys,rfl,s4,hD4,hm4,T4⟩
           rw[List.length_map,List.take_length,hput,<-zQ5] at T4
           exact⟨_,_,_,ys,rfl,s4,hm4,T4⟩
       . have h1':¬ absI (zi2 hs xs i)<=lim:=fun z=>h1 (decide_eq_true z)
         refine⟨_,_,_,ys,rfl,s3,hm3,?_⟩
         rw[zQ5,zT3 _ h1']
         simpa using T3
     . rintro σ H3 ⟨v9,v10,v11,ys,rfl,s3,hm3,T3⟩
       rw[Int.toNat_natCast,<-hlen] at T3
       exact⟨_,rfl,q m H3 ys (s1.trans s3) fm0 hm3 T3⟩
end
end Bt
namespace Bt
open PySem L2
section
variable {P:Program} {w:World} {K:W.Frag} {mg:Str->Option Value} {base:Heap} {t:Adr}
structure zn3 (H H':Hp) (l sc h st go:Addr) (n r lim:Int) (hs s g:List Int):Prop where
 sm:Same H H'
 fsc:H sc=none
 fh:H h=none
 hl:H' l=some (.lst [.ref sc,.ref st,.ref go])
 hsc:H' sc=some (.lst [.int n,.int r,.ref h,.int lim])
 hh:H' h=some (.lst (hs.map V.int))
 hst:H' st=some (.tup (s.map V.int))
 hgo:H' go=some (.tup (g.map V.int))
 ok:zh5 n r hs lim
 vs:ze0 n r hs.length s
 vg:ze0 n r hs.length g
 ks:absI (zc5 hs s)<=lim
 kg:absI (zc5 hs g)<=lim
theorem zn3.mk5 {H:Hp} {h sc st go l:Addr} {n r lim:Int} {hs s g:List Int} (f1:H h=none) (f2:(upd H h (.lst (hs.map V.int))) sc=none) (f3:(upd (upd H h (.lst (hs.map V.int))) sc (.lst [.int n,.int r,.ref h,.int lim])) st=none)
   (f4:(upd (upd (upd H h (.lst (hs.map V.int))) sc (.lst [.int n,.int r,.ref h,.int lim])) st (.tup (s.map V.int))) go=none) (f5:(upd (upd (upd (upd H h (.lst (hs.map V.int))) sc (.lst [.int n,.int r,.ref h,.int lim])) st (.tup (s.map V.int))) go (.tup (g.map V.int))) l=none)
   (ok:zh5 n r hs lim) (v1:ze0 n r hs.length s) (v2:ze0 n r hs.length g) (k1:absI (zc5 hs s)<=lim) (k2:absI (zc5 hs g)<=lim) :
   zn3 H (upd (upd (upd (upd (upd H h (.lst (hs.map V.int))) sc (.lst [.int n,.int r,.ref h,.int lim])) st (.tup (s.map V.int))) go (.tup (g.map V.int))) l (.lst [.ref sc,.ref st,.ref go])) l sc h st go n r lim hs s g:=by
 have s5:=Same.upd (o:=.lst [.ref sc,.ref st,.ref go]) f5
 have s4:=(Same.upd (o:=.tup (g.map V.int)) f4).trans s5
 have s3:=(Same.upd (o:=.tup (s.map V.int)) f3).trans s4
 have s2:=(Same.upd (o:=.lst [.int n,.int r,.ref h,.int lim]) f2).trans s3
 exact⟨(Same.upd f1).trans s2,(Same.upd f1).free f2,f1,za3,s3 _ _ za3,s2 _ _ za3,s4 _ _ za3,s5 _ _ za3,ok,v1,v2,k1,k2⟩
theorem zn3.mk4 {H:Hp} {h sc st go l:Addr} {n r lim:Int} {hs s g:List Int} (hst:H st=some (.tup (s.map V.int))) (f1:H h=none) (f2:(upd H h (.lst (hs.map V.int))) sc=none)
   (f4:(upd (upd H h (.lst (hs.map V.int))) sc (.lst [.int n,.int r,.ref h,.int lim])) go=none) (f5:(upd (upd (upd H h (.lst (hs.map V.int))) sc (.lst [.int n,.int r,.ref h,.int lim])) go (.tup (g.map V.int))) l=none)
   (ok:zh5 n r hs lim) (v1:ze0 n r hs.length s) (v2:ze0 n r hs.length g) (k1:absI (zc5 hs s)<=lim) (k2:absI (zc5 hs g)<=lim) :
   zn3 H (upd (upd (upd (upd H h (.lst (hs.map V.int))) sc (.lst [.int n,.int r,.ref h,.int lim])) go (.tup (g.map V.int))) l (.lst [.ref sc,.ref st,.ref go])) l sc h st go n r lim hs s g:=by
 have s5:=Same.upd (o:=.lst [.ref sc,.ref st,.ref go]) f5
 have s4:=(Same.upd (o:=.tup (g.map V.int)) f4).trans s5
 have s2:=(Same.upd (o:=.lst [.int n,.int r,.ref h,.int lim]) f2).trans s4
 have s1:=(Same.upd (o:=.lst (hs.map V.int)) f1).trans s2
 exact⟨s1,(Same.upd f1).free f2,f1,za3,s4 _ _ za3,s2 _ _ za3,s1 _ _ hst,s5 _ _ za3,ok,v1,v2,k1,k2⟩
theorem zn3.from {H H1 H':Hp} {l sc h st go:Addr} {n r lim:Int} {hs s g:List Int} (s1:Same H H1) (C:zn3 H1 H' l sc h st go n r lim hs s g):zn3 H H' l sc h st go n r lim hs s g :=
 ⟨s1.trans C.sm,s1.free C.fsc,s1.free C.fh,C.hl,C.hsc,C.hh,C.hst,C.hgo,C.ok,C.vs,C.vg,C.ks,C.kg⟩
noncomputable def zU3 (K:W.Frag) (t:Adr):Sp:=fun vs H Q _=>∃ c:Int,vs=[.int c]/\∀ l sc h st go H' n r lim hs s g,zn3 H H' l sc h st go n r lim hs s g->Q (.ref l) H'
theorem ok_w_hard (T:Txt K mg t):FnOk P w K mg base CX0 1 t.b1 t.co ["_law_cell"] (zU3 K t):=by
 refine T.eR.ok zL7 (fun vs H Q E h=>?_) (fun cdv A outer s H vs Q E hr h=>?_)
 . obtain ⟨c,rfl,q⟩:=h
   rfl
 . obtain ⟨c,rfl,q⟩:=h
   refine⟨_,(WSs.h (zx2 (yf7 (i:=1) zL7.nd rfl (Or.inl rfl) (WE.mk (zb0 ze5 (zb0 zi3 (pv 0) za1) za1)))
     (zx2 (yd0 (zb3 zg3 (zb0 ze5 (pv 0) za1) za1 (zb9 _)) (zI1 (zP4 (zn2 (zb1 (zn2 (zb1 (WE.mk za1) (zb1 (WE.mk za1) (zb1 (zn2 (zb1 (WE.mk za1) (zb1 (WE.mk za1) (zb1 (WE.mk za1) (zb1 (WE.mk za1) (zb1 (WE.mk za1) zg5)))))) (zb1 (WE.mk (zb0 ze8 za1 (pv 1))) zg5))))) (zb1 (zs2 (zb1 (WE.mk (zn1 zh8 za1)) (zb1 (WE.mk (zn1 zh8 za1)) (zb1 (WE.mk za1) (zb1 (WE.mk za1) (zb1 (WE.mk za1) zg5)))))) (zb1 (zs2 (zb1 (WE.mk za1) (zb1 (WE.mk za1) (zb1 (WE.mk (zn1 zh8 za1)) (zb1 (WE.mk za1) (zb1 (WE.mk (zn1 zh8 za1)) zg5)))))) zg5)))))) zN6)
     (zx2 (yd0 (zb3 zg3 (zb0 ze5 (pv 0) za1) za1 (zb9 _)) (zI1 (zP4 (zn2 (zb1 (zn2 (zb1 (WE.mk za1) (zb1 (WE.mk za1) (zb1 (zn2 (zb1 (WE.mk za1) (zb1 (WE.mk za1) (zb1 (WE.mk za1) (zb1 (WE.mk za1) zg5))))) (zb1 (WE.mk (zb0 ze8 za1 (pv 1))) zg5))))) (zb1 (zs2 (zb1 (WE.mk za1) (zb1 (WE.mk za1) (zb1 (WE.mk za1) (zb1 (WE.mk (zn1 zh8 za1)) zg5))))) (zb1 (zs2 (zb1 (WE.mk (zn1 zh8 za1)) (zb1 (WE.mk za1) (zb1 (WE.mk (zn1 zh8 za1)) (zb1 (WE.mk za1) zg5))))) zg5)))))) zN6)
     (zx2 (yd0 (zb3 zg3 (zb0 ze5 (pv 0) za1) za1 (zb9 _)) (zI1 (zP4 (zn2 (zb1 (zn2 (zb1 (WE.mk za1) (zb1 (WE.mk za1) (zb1 (zn2 (zb1 (WE.mk za1) (zb1 (WE.mk za1) (zb1 (WE.mk za1) zg5)))) (zb1 (WE.mk (zb0 ze8 za1 (pv 1))) zg5))))) (zb1 (zs2 (zb1 (WE.mk za1) (zb1 (WE.mk (zn1 zh8 za1)) (zb1 (WE.mk za1) zg5)))) (zb1 (zs2 (zb1 (WE.mk za1) (zb1 (WE.mk za1) (zb1 (WE.mk (zn1 zh8 za1)) zg5)))) zg5)))))) zN6)
     (zx2 (yd0 (zb3 zg3 (zb0 ze5 (pv 0) za1) za1 (zb9 _)) (zI1 (zP4 (zn2 (zb1 (zn2 (zb1 (WE.mk za1) (zb1 (WE.mk za1) (zb1 (zn2 (zb1 (WE.mk za1) (zb1 (WE.mk za1) (zb1 (WE.mk za1) zg5)))) (zb1 (WE.mk (zb0 ze8 za1 (pv 1))) zg5))))) (zb1 (zs2 (zb1 (WE.mk za1) (zb1 (WE.mk za1) (zb1 (WE.mk (zn1 zh8 za1)) zg5)))) (zb1 (zs2 (zb1 (WE.mk za1) (zb1 (WE.mk (zn1 zh8 za1)) (zb1 (WE.mk za1) zg5)))) zg5)))))) zN6)
     (zx2 (yf7 (i:=2) zL7.nd rfl (Or.inl rfl) (we_ix zd4 (zn2 (zb1 (zs2 (zb1 (WE.mk za1) (zb1 (WE.mk za1) (zb1 (WE.mk za1) zg5)))) (zb1 (zs2 (zb1 (WE.mk (zn1 zh8 za1)) (zb1 (WE.mk (zn1 zh8 za1)) (zb1 (WE.mk (zn1 zh8 za1)) zg5)))) (zb1 (zs2 (zb1 (WE.mk za1) (zb1 (WE.mk za1) (zb1 (WE.mk za1) zg5)))) zg5)))) (WE.mk (zb0 zh1 (zb0 ze5 (pv 0) za1) za1)) (fun _ _=>rfl)))
     (zI1 (zP4 (zn2 (zb1 (zn2 (zb1 (WE.mk za1) (zb1 (WE.mk za1) (zb1 (zn2 (zb1 (WE.mk za1) (zb1 (WE.mk za1) (zb1 (WE.mk za1) zg5)))) (zb1 (WE.mk (zb0 ze8 za1 (pv 1))) zg5))))) (zb1 (WE.mk (pv 2)) (zb1 (zs2 (zb1 (WE.mk za1) (zb1 (WE.mk za1) (zb1 (WE.mk za1) zg5)))) zg5))))))))))))),?_⟩
   refine⟨_,rfl,_,_,rfl,rfl,⟨by decide,by decide⟩,_,_,rfl,rfl,(by show (0:Int)<3;decide),?_⟩
   refine⟨_,rfl,_,_,rfl,rfl,(by show (0:Int)<7;decide),rfl,_,rfl,?_⟩
   have m0:0<=c / 7 % 3:=Int.emod_nonneg _ (by decide)
   have m1:c / 7 % 3<3:=Int.emod_lt_of_pos _ (by decide)
   have c0:0<=c % 7:=Int.emod_nonneg _ (by decide)
   have c1:c % 7<7:=Int.emod_lt_of_pos _ (by decide)
   rw[zf6]
   refine ite2 (fun h0=>?_) (fun h0=>?_)
   . refine⟨(by show 5<=sizeLine;decide),fun h f1=>⟨_,rfl,_,_,rfl,rfl,(by show 4<=sizeLine;decide),fun sc f2=>⟨_,rfl,_,rfl,(by show 5<=sizeLine;decide),fun st f3=>⟨_,rfl,_,rfl,(by show 5<=sizeLine;decide),fun go f4=>⟨(by show 3<=sizeLine;decide),fun l f5=>?_⟩⟩⟩⟩⟩
     have t1:absI (zc5 [13,20,16,15,8] [-1,-1,1,0,1])=9:=by decide
     have t2:absI (zc5 [13,20,16,15,8] [1,1,-1,0,-1])=9:=by decide
     exact q l sc h st go _ 1 2 (9+c / 7 % 3) [13,20,16,15,8] [-1,-1,1,0,1] [1,1,-1,0,-1] (zn3.mk5 (n:=1) (r:=2) (lim:=(9+c / 7 % 3)) (hs:=[13,20,16,15,8]) (s:=[-1,-1,1,0,1]) (g:=[1,1,-1,0,-1]) f1 f2 f3 f4 f5 ⟨by decide,by decide,by decide,by decide,by omega,by omega,by decide,by decide,by decide⟩ ⟨rfl,by decide,by decide⟩ ⟨rfl,by decide,by decide⟩ (by omega) (by omega))
   have g0:c % 7≠0:=by simpa using h0
   refine⟨_,rfl,_,_,rfl,rfl,(by show (0:Int)<7;decide),rfl,_,rfl,?_⟩
   rw[zf6]
   refine ite2 (fun h1=>?_) (fun h1=>?_)
   . refine⟨(by show 4<=sizeLine;decide),fun h f1=>⟨_,rfl,_,_,rfl,rfl,(by show 4<=sizeLine;decide),fun sc f2=>⟨_,rfl,(by show 4<=sizeLine;decide),fun st f3=>⟨_,rfl,_,rfl,(by show 4<=sizeLine;decide),fun go f4=>⟨(by show 3<=sizeLine;decide),fun l f5=>?_⟩⟩⟩⟩⟩
     have t1:absI (zc5 [9,16,11,15] [2,0,1,-2])=1:=by decide
     have t2:absI (zc5 [9,16,11,15] [-2,0,-1,2])=1:=by decide
     exact q l sc h st go _ 2 1 (14+c / 7 % 3) [9,16,11,15] [2,0,1,-2] [-2,0,-1,2] (zn3.mk5 (n:=2) (r:=1) (lim:=(14+c / 7 % 3)) (hs:=[9,16,11,15]) (s:=[2,0,1,-2]) (g:=[-2,0,-1,2]) f1 f2 f3 f4 f5 ⟨by decide,by decide,by decide,by decide,by omega,by omega,by decide,by decide,by decide⟩ ⟨rfl,by decide,by decide⟩ ⟨rfl,by decide,by decide⟩ (by omega) (by omega))
   have g1:c % 7≠1:=by simpa using h1
   refine⟨_,rfl,_,_,rfl,rfl,(by show (0:Int)<7;decide),rfl,_,rfl,?_⟩
   rw[zf6]
   refine ite2 (fun h2=>?_) (fun h2=>?_)
   . refine⟨(by show 3<=sizeLine;decide),fun h f1=>⟨_,rfl,_,_,rfl,rfl,(by show 4<=sizeLine;decide),fun sc f2=>⟨_,rfl,(by show 3<=sizeLine;decide),fun st f3=>⟨_,rfl,(by show 3<=sizeLine;decide),fun go f4=>⟨(by show 3<=sizeLine;decide),fun l f5=>?_⟩⟩⟩⟩⟩
     have t1:absI (zc5 [15,19,16] [1,-3,3])=6:=by decide
     have t2:absI (zc5 [15,19,16] [1,3,-3])=24:=by decide
     exact q l sc h st go _ 3 2 (28+c / 7 % 3) [15,19,16] [1,-3,3] [1,3,-3] (zn3.mk5 (n:=3) (r:=2) (lim:=(28+c / 7 % 3)) (hs:=[15,19,16]) (s:=[1,-3,3]) (g:=[1,3,-3]) f1 f2 f3 f4 f5 ⟨by decide,by decide,by decide,by decide,by omega,by omega,by decide,by decide,by decide⟩ ⟨rfl,by decide,by decide⟩ ⟨rfl,by decide,by decide⟩ (by omega) (by omega))
   have g2:c % 7≠2:=by simpa using h2
   refine⟨_,rfl,_,_,rfl,rfl,(by show (0:Int)<7;decide),rfl,_,rfl,?_⟩
   rw[zf6]
   refine ite2 (fun h3=>?_) (fun h3=>?_)
   . refine⟨(by show 3<=sizeLine;decide),fun h f1=>⟨_,rfl,_,_,rfl,rfl,(by show 4<=sizeLine;decide),fun sc f2=>⟨_,rfl,(by show 3<=sizeLine;decide),fun st f3=>⟨_,rfl,(by show 3<=sizeLine;decide),fun go f4=>⟨(by show 3<=sizeLine;decide),fun l f5=>?_⟩⟩⟩⟩⟩
     have t1:absI (zc5 [14,20,18] [2,3,-4])=16:=by decide
     have t2:absI (zc5 [14,20,18] [1,-3,4])=26:=by decide
     exact q l sc h st go _ 4 3 (38+c / 7 % 3) [14,20,18] [2,3,-4] [1,-3,4] (zn3.mk5 (n:=4) (r:=3) (lim:=(38+c / 7 % 3)) (hs:=[14,20,18]) (s:=[2,3,-4]) (g:=[1,-3,4]) f1 f2 f3 f4 f5 ⟨by decide,by decide,by decide,by decide,by omega,by omega,by decide,by decide,by decide⟩ ⟨rfl,by decide,by decide⟩ ⟨rfl,by decide,by decide⟩ (by omega) (by omega))
   have g3:c % 7≠3:=by simpa using h3
   refine⟨(by show 3<=sizeLine;decide),fun t1 e1=>⟨_,rfl,_,rfl,_,rfl,(by show 3<=sizeLine;decide),fun t2 e2=>⟨(by show 3<=sizeLine;decide),fun t3 e3=>⟨(by show 3<=sizeLine;decide),fun ll e4=>?_⟩⟩⟩⟩
   have s4:=(((Same.upd (o:=.tup [.int 0,.int 0,.int 0]) e1).updT (o:=.tup [.int (-4),.int (-4),.int (-4)]) e2).updT (o:=.tup [.int 4,.int 4,.int 4]) e3).updT (o:=.lst [.ref t1,.ref t2,.ref t3]) e4
   have k1:(upd (upd (upd (upd H t1 (.tup [.int 0,.int 0,.int 0])) t2 (.tup [.int (-4),.int (-4),.int (-4)])) t3 (.tup [.int 4,.int 4,.int 4])) ll (.lst [.ref t1,.ref t2,.ref t3])) t1=some (.tup (([0,0,0]:List Int).map V.int)):=Same.upd e4 _ _ (Same.upd e3 _ _ (Same.upd e2 _ _ za3))
   have k2:(upd (upd (upd (upd H t1 (.tup [.int 0,.int 0,.int 0])) t2 (.tup [.int (-4),.int (-4),.int (-4)])) t3 (.tup [.int 4,.int 4,.int 4])) ll (.lst [.ref t1,.ref t2,.ref t3])) t2=some (.tup (([-4,-4,-4]:List Int).map V.int)):=Same.upd e4 _ _ (Same.upd e3 _ _ za3)
   have k3:(upd (upd (upd (upd H t1 (.tup [.int 0,.int 0,.int 0])) t2 (.tup [.int (-4),.int (-4),.int (-4)])) t3 (.tup [.int 4,.int 4,.int 4])) ll (.lst [.ref t1,.ref t2,.ref t3])) t3=some (.tup (([4,4,4]:List Int).map V.int)):=Same.upd e4 _ _ za3
   have k4:(upd (upd (upd (upd H t1 (.tup [.int 0,.int 0,.int 0])) t2 (.tup [.int (-4),.int (-4),.int (-4)])) t3 (.tup [.int 4,.int 4,.int 4])) ll (.lst [.ref t1,.ref t2,.ref t3])) ll=some (.lst [.ref t1,.ref t2,.ref t3]):=za3
   dsimp only
   revert s4 k1 k2 k3 k4
   generalize upd (upd (upd (upd H t1 (.tup [.int 0,.int 0,.int 0])) t2 (.tup [.int (-4),.int (-4),.int (-4)])) t3 (.tup [.int 4,.int 4,.int 4])) ll (.lst [.ref t1,.ref t2,.ref t3])=H4
   intro s4 k1 k2 k3 k4
   have hy:∃ y x,atI [V.ref t1,V.ref t2,V.ref t3] (c % 7-4)=some (.ref y)/\H4 y=some (.tup (x.map V.int))/\ze0 4 3 3 x/\absI (zc5 [20,20,20] x)<=240:=by
     have:c % 7=4\/c % 7=5\/c % 7=6:=by omega
     rcases this with e | e | e<;>rw[e]
     . exact⟨t1,[0,0,0],rfl,k1,⟨rfl,by decide,by decide⟩,by decide⟩
     . exact⟨t2,[-4,-4,-4],rfl,k2,⟨rfl,by decide,by decide⟩,by decide⟩
     . exact⟨t3,[4,4,4],rfl,k3,⟨rfl,by decide,by decide⟩,by decide⟩
   obtain ⟨y,x,ay,hyx,Vx,kx⟩:=hy
   refine⟨_,rfl,_,_,rfl,rfl,(by show (0:Int)<7;decide),_,_,rfl,rfl,ll,_,_,_,rfl,rfl,SqL.of k4,ay,?_⟩
   refine⟨(by show 3<=sizeLine;decide),fun h f1=>⟨_,rfl,_,_,rfl,rfl,(by show 4<=sizeLine;decide),fun sc f2=>⟨_,rfl,(by show 3<=sizeLine;decide),fun go f4=>⟨(by show 3<=sizeLine;decide),fun l f5=>?_⟩⟩⟩⟩
   have t2:absI (zc5 [20,20,20] [4,4,4])=240:=by decide
   exact q l sc h y go _ 4 3 (240+c / 7 % 3) [20,20,20] x [4,4,4] (zn3.from s4 (zn3.mk4 (n:=4) (r:=3) (lim:=240+c / 7 % 3) (hs:=[20,20,20]) (s:=x) (g:=[4,4,4]) hyx f1 f2 f4 f5 ⟨by decide,by decide,by decide,by decide,by omega,by omega,by decide,by decide,by decide⟩ Vx ⟨rfl,by decide,by decide⟩ (by omega) (by omega)))
end
end Bt
namespace Bt
open PySem L2
section
variable {P:Program} {w:World} {K:W.Frag} {mg:Str->Option Value} {base:Heap} {t:Adr}
theorem st_eq {T:TS} {D:Ends} {σ σ':St} {H:Hp} (e:σ=σ') (h:T D σ' H):T D σ H:=e▸h
theorem use_finA {R:Addr->Hp->Prop} {S:Addr->Hp->Prop} {G:Prop} (main:(∀ o H',S o H'->R o H')->G) (fin:∀ o H',S o H'->R o H'):G:=main fin
theorem use_finB {R:Addr->Addr->Option V->Hp->Prop} {S:Addr->Addr->Hp->Prop} {G:Prop} (main:(∀ x y v H',S x y H'->R x y v H')->G) (fin:∀ x y v H',S x y H'->R x y v H'):G:=main fin
theorem rep0 (k:Nat):(List.replicate k [V.int 0]).flatten=(List.replicate k (0:Int)).map V.int:=by
 induction k with
 | zero=>rfl
 | succ k ih=>rw[List.replicate_succ,List.flatten_cons,ih,List.replicate_succ,List.map_cons];rfl
theorem valid0 {n r:Int} (hn:1<=n) (k:Nat):ze0 n r k (List.replicate k 0) :=
 ⟨List.length_replicate,fun x hx=>by rw[(List.mem_replicate.mp hx).2];omega,fun x hx h0=>absurd (List.mem_replicate.mp hx).2 h0⟩
theorem validP {n r nt:Int} (hr:1<=r) (h1:1<=nt) (h2:nt<=n) (k:Nat):ze0 n r (k+2) (nt::-nt::List.replicate k 0):=by
 refine⟨by simp,fun x hx=>?_,fun x hx h0=>?_⟩
 . rcases List.mem_cons.mp hx with rfl | hx
   . omega
   . rcases List.mem_cons.mp hx with rfl | hx
     . omega
     . rw[(List.mem_replicate.mp hx).2];omega
 . have hz:(List.replicate k (0:Int)).count x=0:=List.count_eq_zero.mpr fun z=>h0 (List.mem_replicate.mp z).2
   rw[List.count_cons,List.count_cons,hz]
   by_cases e1:nt=x
   . have e2:¬ (-nt=x):=by omega
     simp[e1,e2]
     split<;>omega
   . by_cases e2:-nt=x
     . simp[e1,e2];omega
     . simp[e1,e2];omega
noncomputable def zU4 (K:W.Frag) (t:Adr):Sp:=fun vs H Q _=>∃ (a:Addr) (ns:List Int),vs=[.ref a]/\SqL K H a (ns.map V.int)/\∀ l sc h st go H' n r lim hs s g,zn3 H H' l sc h st go n r lim hs s g->Q (.ref l) H'
theorem ok_w_case (T:Txt K mg t):FnOk P w K mg base CX0 3 t.b2 t.cp ["_law_script"] (zU4 K t):=by
 have Gbg:FnOk P w K mg base CX0 2 t.bJ t.cf ["_law_script"] (zP7 K t):=ok_w_shape T
 have Gbh:FnOk P w K mg base CX0 2 t.cl t.cD ["_law_script","_law_k","_law_more","_law_shape_here"] (zY7 K t):=ok_w_put T
 have Gba:FnOk P w K mg base CX0 1 t.bq t.bC ["_law_script","_law_k"] (zE7 K t):=zK3 T
 have Gbi:FnOk P w K mg base CX0 1 t.b1 t.co ["_law_cell"] (zU3 K t):=ok_w_hard T
 have Gbf:FnOk P w K mg base CX0 1 t.a1 t.be ["_law_hefts","_law_spots"] (zz0 K t):=zF1 T
 have Gbj:FnOk P w K mg base CX0 2 t.bK t.cg ["_law_script","_law_low"] (zQ3 K t):=ok_w_limit T
 refine T.eV.ok zh0 (fun vs H Q E h=>?_) (fun cdv A outer s H vs Q E hr h=>?_)
 . obtain ⟨a,ns,rfl,hS,q⟩:=h
   rfl
 . obtain ⟨a,ns,rfl,hS,q⟩:=h
   have hbg:Room 2 _:=hr.mono (by decide)
   have hbh:Room 2 _:=hr.mono (by decide)
   have hba:Room 1 _:=hr.mono (by decide)
   have hbi:Room 1 _:=hr.mono (by decide)
   have hbf:Room 1 _:=hr.mono (by decide)
   have hbj:Room 2 _:=hr.mono (by decide)
   refine⟨_,(za4 (zb7 (i:=1) zh0.nd rfl (Or.inl rfl) (za7 Gbg hbg rfl T.eu T.ev T.et .nil zb4 (zc9 (pv 0) za2)))
     (za4 (zA8 (pv 1) (zK9 rfl (zd8 (zc7 (i:=2) zh0.nd rfl (Or.inl rfl)) (zd8 (zc7 (i:=3) zh0.nd rfl (Or.inl rfl)) (zd8 (zc7 (i:=4) zh0.nd rfl (Or.inl rfl)) zv1)))))
     (za4 (zb7 (i:=5) zh0.nd rfl (Or.inl rfl) (za7 Gbh hbh rfl T.cF T.cG T.cE .nil zb4 (zc9 (pv 0) (zc9 za1 (zc9 za1 (zc9 (pv 1) za2))))))
     (za4 (zb7 (i:=6) zh0.nd rfl (Or.inl rfl) (za7 Gbh hbh rfl T.cF T.cG T.cE .nil zb4 (zc9 (pv 0) (zc9 za1 (zc9 za1 (zc9 (pv 1) za2))))))
     (za4 (zb7 (i:=7) zh0.nd rfl (Or.inl rfl) (za7 Gba hba rfl T.aC T.aD T.aB .nil zb4 (zc9 (pv 0) (zc9 za1 za2))))
     (za4 (zd1 (zb3 zg3 (zb0 ze5 (pv 7) za1) za1 (zb9 _)) (za6 (zb8 (za7 Gbi hbi rfl T.eT T.eU T.eS .nil zb4 (zc9 (zb0 zi3 (pv 7) za1) za2)))) zb5)
     (za4 (zd1 (zb3 zg3 (zb0 ze5 (pv 7) za1) za1 (zb9 _)) (za6 (zb7 (i:=6) zh0.nd rfl (Or.inl rfl) (zd9 zH4 rfl T.bO PyProof.Rows.boot_list (zc9 (pv 5) za2)))) zb5)
     (za4 (zd1 (PW.pt (zw3 (zb3 zg3 (zb0 ze5 (pv 7) za1) za1 (zb9 _)) (zv0 (zb3 zv2 (zc3 zc1 rfl T.aa PySem.boot_len (zc9 (pv 4) za2)) za1 (zb9 _))))) (za4 (zA8 (zc6 zd4 (pv 4) za1 (fun _ _=>rfl)) (pg_sub (pv 4) za1 set_list))
     (za4 (zb7 (i:=8) zh0.nd rfl (Or.inl rfl) (zb0 ze8 za1 (zb0 ze5 (zb0 zi3 (pv 7) za1) (pv 2))))
     (za4 (zb7 (i:=5) zh0.nd rfl (Or.inl rfl) (zb0 zW0 (ze6 (zc9 za1 za2)) (zc3 zc1 rfl T.aa PySem.boot_len (zc9 (pv 4) za2))))
     (za4 (zb7 (i:=6) zh0.nd rfl (Or.inl rfl) (zb0 yf3 (ze6 (zc9 (pv 8) (zc9 (zn1 zh8 (pv 8)) za2))) (zb0 zW0 (ze6 (zc9 za1 za2)) (zb0 zh1 (zc3 zc1 rfl T.aa PySem.boot_len (zc9 (pv 4) za2)) za1))))
     (za6 (zd1 (zb3 zg3 (zb0 ze5 (zb0 zi3 (pv 7) za1) za1) za1 (zb9 _)) (za6 (ps_par (i:=5) (j:=6) rfl zh0.nd rfl rfl (by decide) rfl rfl (zc9 (pv 6) (zc9 (pv 5) za2)) rfl)) zb5)))))) zb5)
     (za4 (zb7 (i:=9) zh0.nd rfl (Or.inl rfl) (zc3 (zR2 rfl) rfl T.el PyProof.Rows.boot_max (zc9 (zc3 zt7 rfl T.aW PyProof.Rows.boot_abs (zc9 (za7 Gbf hbf rfl T.aJ T.aK T.aI .nil zb4 (zc9 (pv 4) (zc9 (pv 5) za2))) za2)) (zc9 (zc3 zt7 rfl T.aW PyProof.Rows.boot_abs (zc9 (za7 Gbf hbf rfl T.aJ T.aK T.aI .nil zb4 (zc9 (pv 4) (zc9 (pv 6) za2))) za2)) za2))))
     (za6 (zb8 (ze6 (zc9 (ze6 (zc9 (pv 2) (zc9 (pv 3) (zc9 (pv 4) (zc9 (za7 Gbj hbj rfl T.ey T.ez T.ex .nil zb4 (zc9 (pv 0) (zc9 (pv 9) za2))) za2))))) (zc9 (zd9 zn4 rfl T.aV PyProof.Rows.boot_tuple (zc9 (pv 5) za2)) (zc9 (zd9 zn4 rfl T.aV PyProof.Rows.boot_tuple (zc9 (pv 6) za2)) za2))))))))))))))),?_⟩
   refine⟨_,rfl,a,ns,rfl,hS,fun sh h H1 s1 fsh fh hh hsh=>?_⟩
   refine⟨_,rfl,sh,_,rfl,SqL.of hsh,rfl,_,_,rfl,_,_,rfl,_,_,rfl,rfl,?_⟩
   have okT:∀ lim:Int,0<=lim->lim<=400->zh5 (shN ns) (shR ns) (shH ns) lim:=fun lim z1 z2=>sh_ok ns z1 z2
   have ok0:=okT 0 (by decide) (by decide)
   refine⟨_,rfl,_,rfl,a,sh,h,ns,3,0,shN ns,shR ns,shH ns,rfl,s1.seq hS,hsh,SqL.of hh,⟨ok0.n1,ok0.n2,ok0.r1,ok0.w⟩,fun fi H2 s2 ffi hfi=>?_⟩
   have V1:=yf9 ns 3 0 (shH ns).length ok0.n1 ok0.r1
   generalize zY6 ns 3 0 (shN ns) (shR ns) (shH ns).length=s0 at V1 hfi
   have s02:=s1.trans s2
   refine⟨_,rfl,_,rfl,a,sh,h,ns,4,1000003,shN ns,shR ns,shH ns,rfl,s02.seq hS,s2 _ _ hsh,SqL.of (s2 _ _ hh),⟨ok0.n1,ok0.n2,ok0.r1,ok0.w⟩,fun la0 H3 s3 fla hla=>?_⟩
   have V2:=yf9 ns 4 1000003 (shH ns).length ok0.n1 ok0.r1
   generalize zY6 ns 4 1000003 (shN ns) (shR ns) (shH ns).length=g0 at V2 hla
   have s03:=s02.trans s3
   have hh3:=s3 _ _ (s2 _ _ hh)
   have hfi3:=s3 _ _ hfi
   have S3:SqL K H3 a (ns.map V.int):=s03.seq hS
   generalize shN ns=n at *
   generalize shR ns=r at *
   generalize shH ns=hs0 at *
   have n1:=ok0.n1
   have n2:=ok0.n2
   have hw5:=ok0.w
   refine⟨_,rfl,a,ns,6,rfl,S3,?_⟩
   generalize ns.getD 6 0=c
   refine⟨_,rfl,_,_,rfl,rfl,(by show (0:Int)<12;decide),rfl,_,rfl,?_⟩
   refine ite2 (fun h1=>?_) (fun h1=>?_)
   . exact⟨_,rfl,_,_,rfl,rfl,⟨by decide,by decide⟩,_,rfl,fun l sc h' st go H' n r lim hs s g C=>q l sc h' st go H' n r lim hs s g (zn3.from s03 C)⟩
   refine use_finA (R:=?R1) (S:=fun o H'=>Same H H'/\H' h=some (.lst (hs0.map V.int))/\H' fi=some (.lst (s0.map V.int))/\∃ g,H' o=some (.lst (g.map V.int))/\ze0 n r hs0.length g) (fun fin1=>?main1) ?fin1
   case main1 =>
     refine⟨_,rfl,_,_,rfl,rfl,(by show (0:Int)<12;decide),rfl,_,rfl,?_⟩
     refine ite2 (fun h2=>?_) (fun h2=>?_)
     . refine⟨_,rfl,fi,_,rfl,.inl (SqL.of hfi3),fun l4 f4=>?_⟩
       have s4:Same H3 (upd H3 l4 (.lst (s0.map V.int))):=Same.upd f4
       have h4:(upd H3 l4 (.lst (s0.map V.int))) l4=some (.lst (s0.map V.int)):=za3
       revert s4 h4
       generalize upd H3 l4 (.lst (s0.map V.int))=H4
       intro s4 h4
       exact fin1 l4 H4 ⟨s03.trans s4,s4 _ _ hh3,s4 _ _ hfi3,s0,h4,V1⟩
     . exact fin1 la0 H3 ⟨s03,hh3,hfi3,g0,hla,V2⟩
   case fin1 =>
     rintro la H4 ⟨s4,hh4,hfi4,g,hla4,V2⟩
     dsimp only[L2.start,List.map,List.length,List.replicate,List.append,List.set]
     refine use_finB (R:=?R2) (S:=fun x y H'=>Same H H'/\∃ hs s g,H' h=some (.lst (List.map V.int hs))/\H' x=some (.lst (List.map V.int s))/\H' y=some (.lst (List.map V.int g))/\(∀ lim:Int,0<=lim->lim<=400->zh5 n r hs lim)/\ze0 n r hs.length s/\ze0 n r hs.length g) (fun fin2=>?main2) ?fin2
     case main2 =>
       refine⟨_,rfl,_,_,rfl,rfl,(by show (0:Int)<3;decide),rfl,_,rfl,?_⟩
       refine ite2 (fun h3=>?_) (fun h3=>?_)
       . refine⟨_,rfl,h,_,rfl,.inl (SqL.of hh4),_,_,rfl,rfl,_,rfl,?_⟩
         rw[List.length_map]
         refine ite2 (fun h4=>?_) (fun h4=>?_)
         . have h4':1<hs0.length:=by have:=of_decide_eq_true h4;omega
           obtain ⟨x0,x1,tl,rfl⟩:∃ x0 x1 tl,hs0=x0::x1::tl:=by
             match hs0,h4' with
             | x0::x1::tl,_=>exact⟨x0,x1,tl,rfl⟩
           have a0:atI (List.map V.int (x0::x1::tl)) 0=some (.int x0):=by
             unfold atI ixN
             rw[if_pos (by decide),if_pos (by simp only[List.length_map,List.length_cons];omega)]
             rfl
           have i1:ixN (List.map V.int (x0::x1::tl)).length 1=some 1:=by
             unfold ixN
             rw[if_pos (by decide),if_pos (by simp only[List.length_map,List.length_cons];omega)]
             rfl
           refine⟨_,rfl,h,_,_,_,rfl,rfl,SqL.of hh4,a0,_,rfl,h,_,1,1,rfl,rfl,hh4,i1,?_⟩
           have s5:Same H (upd H4 h (.lst ((List.map V.int (x0::x1::tl)).set 1 (.int x0)))):=s4.put fh
           have hh5:(upd H4 h (.lst ((List.map V.int (x0::x1::tl)).set 1 (.int x0)))) h=some (.lst ((x0::x0::tl).map V.int)):=za3
           revert s5 hh5
           generalize upd H4 h (.lst ((List.map V.int (x0::x1::tl)).set 1 (.int x0)))=H5
           intro s5 hh5
           have ok5:∀ lim:Int,0<=lim->lim<=400->zh5 n r (x0::x0::tl) lim:=fun lim z1 z2=>by
             have o:=okT lim z1 z2
             refine⟨o.n1,o.n2,o.r1,o.r2,o.l1,o.l2,o.w,fun x hx=>?_,o.most⟩
             rcases List.mem_cons.mp hx with rfl | hx
             . exact o.h _ (.head _)
             . rcases List.mem_cons.mp hx with rfl | hx
               . exact o.h _ (.head _)
               . exact o.h _ (.tail _ (.tail _ hx))
           refine⟨_,rfl,_,_,rfl,rfl,⟨by decide,by decide⟩,_,rfl,_,_,rfl,rfl,(by show 0<n;omega),_,_,rfl,rfl,?_⟩
           have hm0:0<=c / 3 % n:=Int.emod_nonneg _ (by omega)
           have hm1:c / 3 % n<n:=Int.emod_lt_of_pos _ (by omega)
           have hnt:1<=1+c / 3 % n/\1+c / 3 % n<=n:=by omega
           have wl:tl.length+2<=5:=hw5
           have hsl:sizeLine=16777216:=by decide
           refine⟨(by show 1<=sizeLine;decide),fun l6 f6=>⟨_,rfl,h,_,rfl,.inl (SqL.of (Same.upd f6 _ _ hh5)),l6,_,_,rfl,rfl,za3,?_,?_,?_,fun p6 e6=>?_⟩⟩
           . simp only[List.length_map,List.length_cons];omega
           . simp only[List.length_map,List.length_cons];omega
           . simp only[List.length_map,List.length_cons,List.length_nil,Int.toNat_natCast];omega
           have s6:=(Same.upd (o:=.lst [.int 0]) f6).updT (o:=.lst (List.replicate (((List.map V.int (x0::x0::tl)).length:Nat):Int).toNat [V.int 0]).flatten) e6
           have k6:(upd (upd H5 l6 (.lst [.int 0])) p6 (.lst (List.replicate (((List.map V.int (x0::x0::tl)).length:Nat):Int).toNat [V.int 0]).flatten)) p6=some (.lst ((List.replicate (tl.length+2) (0:Int)).map V.int)):=by
             rw[za3,rep0,Int.toNat_natCast,List.length_map]
             rfl
           dsimp only
           revert s6 k6
           generalize upd (upd H5 l6 (.lst [.int 0])) p6 (.lst (List.replicate (((List.map V.int (x0::x0::tl)).length:Nat):Int).toNat [V.int 0]).flatten)=H6
           intro s6 k6
           have hh6:=s6 _ _ hh5
           generalize hnv:1+c / 3 % n=nt at hnt ⊢
           refine⟨_,rfl,_,rfl,_,rfl,(by show 2<=sizeLine;decide),fun l7 f7=>⟨(by show 1<=sizeLine;decide),fun l8 f8=>?_⟩⟩
           have s78:=(Same.upd (o:=.lst [.int nt,.int (-nt)]) f7).updT (o:=.lst [.int 0]) f8
           have k7:(upd (upd H6 l7 (.lst [.int nt,.int (-nt)])) l8 (.lst [.int 0])) l7=some (.lst [.int nt,.int (-nt)]):=Same.upd f8 _ _ za3
           have k8:(upd (upd H6 l7 (.lst [.int nt,.int (-nt)])) l8 (.lst [.int 0])) l8=some (.lst [.int 0]):=za3
           dsimp only
           revert s78 k7 k8
           generalize upd (upd H6 l7 (.lst [.int nt,.int (-nt)])) l8 (.lst [.int 0])=H8
           intro s78 k7 k8
           refine⟨_,rfl,h,_,rfl,.inl (SqL.of (s78 _ _ hh6)),_,_,rfl,rfl,l8,_,_,rfl,rfl,k8,?_,?_,?_,fun p8 e8=>?_⟩
           . simp only[List.length_map,List.length_cons];omega
           . simp only[List.length_map,List.length_cons];omega
           . simp only[List.length_map,List.length_cons,List.length_nil];omega
           have el:((((List.map V.int (x0::x0::tl)).length:Nat):Int)-2).toNat=tl.length:=by
             simp only[List.length_map,List.length_cons]
             omega
           rw[el,rep0]
           have s9:Same H8 (upd H8 p8 (.lst ((List.replicate tl.length (0:Int)).map V.int))):=Same.upd e8
           have k9:(upd H8 p8 (.lst ((List.replicate tl.length (0:Int)).map V.int))) p8=some (.lst ((List.replicate tl.length (0:Int)).map V.int)):=za3
           revert s9 k9
           generalize upd H8 p8 (.lst ((List.replicate tl.length (0:Int)).map V.int))=H9
           intro s9 k9
           refine⟨l7,p8,_,_,rfl,rfl,s9 _ _ k7,k9,?_,fun p9 e9=>?_⟩
           . simp only[List.length_map,List.length_replicate,List.length_cons,List.length_nil];omega
           have s10:Same H9 (upd H9 p9 (.lst ([V.int nt,V.int (-nt)]++(List.replicate tl.length (0:Int)).map V.int))):=Same.upd e9
           have k10:(upd H9 p9 (.lst ([V.int nt,V.int (-nt)]++(List.replicate tl.length (0:Int)).map V.int))) p9=some (.lst ((nt::-nt::List.replicate tl.length 0).map V.int)):=za3
           revert s10 k10
           generalize upd H9 p9 (.lst ([V.int nt,V.int (-nt)]++(List.replicate tl.length (0:Int)).map V.int))=H10
           intro s10 k10
           have s610:=s78.trans (s9.trans s10)
           have sE:Same H H10:=s5.trans (s6.trans s610)
           have hhE:=s610 _ _ hh6
           have hpE:=s610 _ _ k6
           have Va:ze0 n r (x0::x0::tl).length (List.replicate (tl.length+2) 0):=valid0 n1 _
           have Vb:ze0 n r (x0::x0::tl).length (nt::-nt::List.replicate tl.length 0):=validP ok0.r1 hnt.1 hnt.2 _
           refine⟨_,rfl,_,_,rfl,rfl,⟨by decide,by decide⟩,_,_,rfl,rfl,(by show (0:Int)<2;decide),rfl,_,rfl,?_⟩
           generalize some (V.int nt)=v8
           refine ite2 (fun h5=>?_) (fun h5=>?_)
           . refine⟨_,rfl,_,rfl,_,_,rfl,?_⟩
             exact fin2 p9 p6 v8 H10 ⟨sE,_,_,_,hhE,k10,hpE,ok5,Vb,Va⟩
           . exact fin2 p6 p9 v8 H10 ⟨sE,_,_,_,hhE,hpE,k10,ok5,Va,Vb⟩
         . exact fin2 fi la _ H4 ⟨s4,hs0,s0,g,hh4,hfi4,hla4,okT,V1,V2⟩
       . exact iteF (fin2 fi la _ H4 ⟨s4,hs0,s0,g,hh4,hfi4,hla4,okT,V1,V2⟩)
     case fin2 =>
       rintro x y v H5 ⟨s5,hs,s,g,hh5,hx5,hy5,ok5,V1,V2⟩
       dsimp only[List.set]
       refine st_eq (σ':=[some (.ref a),some (.ref sh),some (.int n),some (.int r),some (.ref h),some (.ref x),some (.ref y),some (.int c),v,none]) rfl ?_
       have hw:hs.length<=5:=(ok5 0 (by decide) (by decide)).w
       have hhs:=(ok5 0 (by decide) (by decide)).h
       have l1:=V1.len
       have l2:=V2.len
       obtain ⟨tl1,tl2⟩:=zJ1 (ok5 0 (by decide) (by decide)) V1
       obtain ⟨tl3,tl4⟩:=zJ1 (ok5 0 (by decide) (by decide)) V2
       refine⟨_,rfl,_,rfl,h,x,hs,s,rfl,SqL.of hh5,.inl (SqL.of hx5),⟨l1.symm,by omega,hhs⟩,_,rfl,_,rfl,_,rfl,h,y,hs,g,rfl,SqL.of hh5,.inl (SqL.of hy5),⟨l2.symm,by omega,hhs⟩,_,rfl,_,_,rfl,?_⟩
       have ea1:(if zc5 hs s<0 then -zc5 hs s else zc5 hs s)=absI (zc5 hs s):=rfl
       have ea2:(if zc5 hs g<0 then -zc5 hs g else zc5 hs g)=absI (zc5 hs g):=rfl
       rw[ea1,ea2]
       have hlow:∃ low:Int,(if absI (zc5 hs g)>absI (zc5 hs s) then absI (zc5 hs g) else absI (zc5 hs s))=low/\absI (zc5 hs s)<=low/\absI (zc5 hs g)<=low/\low<=240:=⟨_,rfl,by split<;>omega,by split<;>omega,by split<;>omega⟩
       obtain ⟨low,elow,w1,w2,w3⟩:=hlow
       rw[elow]
       refine⟨_,rfl,_,rfl,_,rfl,_,rfl,_,rfl,a,ns,low,rfl,s5.seq hS,⟨by omega,by omega⟩,fun lim z1 z2=>⟨(by show 4<=sizeLine;decide),fun sc fsc=>?_⟩⟩
       have s6:Same H5 (upd H5 sc (.lst [.int n,.int r,.ref h,.int lim])):=Same.upd fsc
       have k6:(upd H5 sc (.lst [.int n,.int r,.ref h,.int lim])) sc=some (.lst [.int n,.int r,.ref h,.int lim]):=za3
       dsimp only
       revert s6 k6
       generalize upd H5 sc (.lst [.int n,.int r,.ref h,.int lim])=H6
       intro s6 k6
       refine⟨_,rfl,x,_,rfl,.inl ⟨SqL.of (s6 _ _ hx5),fun st fst=>?_⟩⟩
       have s7:Same H6 (upd H6 st (.tup (s.map V.int))):=Same.upd fst
       have k7:(upd H6 st (.tup (s.map V.int))) st=some (.tup (s.map V.int)):=za3
       revert s7 k7
       generalize upd H6 st (.tup (s.map V.int))=H7
       intro s7 k7
       refine⟨_,rfl,y,_,rfl,.inl ⟨SqL.of (s7 _ _ (s6 _ _ hy5)),fun go fgo=>⟨(by show 3<=sizeLine;decide),fun l fl=>?_⟩⟩⟩
       have s8:Same H7 (upd (upd H7 go (.tup (g.map V.int))) l (.lst [.ref sc,.ref st,.ref go])):=(Same.upd fgo).updT fl
       have s58:=s6.trans (s7.trans s8)
       exact q l sc h st go _ n r lim hs s g ⟨s5.trans s58,s5.free fsc,fh,za3,s8 _ _ (s7 _ _ k6),s58 _ _ hh5,s8 _ _ k7,Same.upd fl _ _ za3,ok5 lim (by omega) z2,V1,V2,by omega,by omega⟩
end
end Bt
namespace Bt
open PySem L2
section
variable {P:Program} {w:World} {K:W.Frag} {mg:Str->Option Value} {base:Heap} {t:Adr}
noncomputable def zU5 (K:W.Frag) (t:Adr):Sp:=fun vs H Q _=>∃ (c a:Addr) (cell n r lim:Int) (hs xs:List Int),vs=[.ref c,.ref a,.int cell]/\zq4 K H c n r hs lim/\ze0 n r hs.length xs/\H a=some (.tup (xs.map V.int))/\∀ v H',Same H H'->(v = .non\/∃ (i:Nat) (q:Int) (mv:Addr),v = .ref mv/\Lets n r hs lim xs i q/\H' mv=some (.tup [.int ((i:Int)+1),.int (xs.getD i 0),.int q]))->Q v H'
theorem ok_w_pick (T:Txt K mg t):FnOk P w K mg base CX0 3 t.b8 t.ct ["_law_scale","_law_spots","_law_cell"] (zU5 K t):=by
 have Gbk:FnOk P w K mg base CX0 2 t.b4 t.cq ["_law_scale","_law_spots"] (zU2 K t):=ok_w_near T
 refine T.fd.ok zE4 (fun vs H Q E h=>?_) (fun cdv A outer s H vs Q E hr h=>?_)
 . obtain ⟨c,a,cell,n,r,lim,hs,xs,rfl,S,V0,ha,q⟩:=h
   rfl
 . obtain ⟨c,a,cell,n,r,lim,hs,xs,rfl,S,V0,ha,q⟩:=h
   have hbk:Room 2 _:=hr.mono (by decide)
   refine⟨_,(za4 (zb7 (i:=3) zE4.nd rfl (Or.inl rfl) (za7 Gbk hbk rfl T.e2 T.e3 T.e1 .nil zb4 (za0 (pv 0) (za0 (pv 1) za2))))
     (za4 (zd1 (zb3 (ya3 (Nat.lt_of_succ_lt (yb9 hr))) (pv 3) (ze6 za2) (zb9 _)) (za6 (zb8 ye2)) zb5)
     (za4 (zb7 (i:=4) zE4.nd rfl (Or.inr rfl) (zc6 zd4 (pv 3) (zb0 ze5 (pv 2) (zc3 zc1 rfl T.aa PySem.boot_len (za0 (pv 3) za2))) (fun _ _=>rfl)))
     (za4 (zb7 (i:=5) zE4.nd rfl (Or.inl rfl) (zc6 zd4 (zr0 rfl zM9 (zo2 rfl T.am (za0 (zc3 zc1 rfl T.aa PySem.boot_len (za0 (pv 1) za2)) za2)) (fun _ _ _ _ _=>(zc7 (i:=0) zM9.nd rfl (Or.inl rfl))) (fun _ _ _ _ _=>(zO8 (zb3 zr2 (zc6 (zH7 K rfl) (pv 1) (pv 0) (fun _ _=>rfl)) (zc6 (zH7 K rfl) (pv 2) (pv 0) (fun _ _=>rfl)) (zb9 _)))) (fun _ _ _ _ _=>(pv 0))) za1 (fun _ _=>rfl)))
     (za6 (zb8 (zp9 (za0 (zb0 ze8 (pv 5) za1) (za0 (zc6 zf4 (pv 1) (pv 5) (fun _ _=>rfl)) (za0 (zc6 zf4 (pv 4) (pv 5) (fun _ _=>rfl)) za2)))))))))),?_⟩
   have hlen:=V0.len
   have hw:=(let ⟨_,h,_⟩:=S;h:zh5 n r hs lim).w
   refine⟨_,rfl,_,rfl,c,a,n,r,lim,hs,xs,rfl,S,V0,ha,fun l H1 ys s1 fl hl TN=>?_⟩
   have hyl:=zr8 TN
   refine⟨_,rfl,Nat.zero_le _,fun l2 f2=>?_⟩
   have s2:Same H1 (upd H1 l2 (.lst [])):=Same.upd f2
   refine⟨l,l2,ys,rfl,rfl,SqL.of (s2 _ _ hl),SqL.of za3,_,rfl,?_⟩
   revert s2
   generalize upd H1 l2 (.lst [])=H2
   intro s2
   have s02:=s1.trans s2
   have hl2:=s2 _ _ hl
   have TN2:=s2.tups TN
   refine ite2 (fun h1=>?_) (fun h1=>?_)
   . exact q .non H2 s02 (.inl rfl)
   have hpos:0<ys.length:=by
     cases ys with
     | nil=>exact absurd rfl h1
     | cons _ _=>simp
   have i1:0<=cell % (ys.length:Int):=Int.emod_nonneg _ (by omega)
   have i2:cell % (ys.length:Int)<ys.length:=Int.emod_lt_of_pos _ (by omega)
   obtain ⟨j,ej⟩:∃ j:Nat,cell % (ys.length:Int)=(j:Int):=⟨_,(Int.toNat_of_nonneg i1).symm⟩
   have hj:j<ys.length:=by omega
   obtain ⟨b,y,e1,e2,hb⟩:=yc9 TN2 (List.getElem?_eq_getElem hj)
   obtain ⟨i,p,L,rfl⟩:=mem_nbs.mp (List.mem_of_getElem? e2)
   have hi:=L.lt
   refine⟨_,rfl,_,rfl,_,rfl,l,_,rfl,.inl (SqL.of hl2),_,_,rfl,rfl,(by show (0:Int)<(ys.length:Int);omega),l,_,_,_,rfl,rfl,SqL.of hl2,(by show atI ys (cell % (ys.length:Int))=_;rw[ej];exact zD5 (by rw[List.getElem?_eq_getElem hj,e1])),?_⟩
   have ha2:=s02 _ _ ha
   refine⟨_,rfl,a,_,rfl,.inr (SqT.of ha2),?_⟩
   rw[List.length_map]
   refine⟨_,rfl,by omega,by omega,fun D hD=>?_⟩
   have gd:∀ k,k<xs.length->((xs.set i p).getD k 0=xs.getD k 0↔k≠i):=fun k hk=>by
     rw[List.getD_eq_getElem?_getD,List.getD_eq_getElem?_getD,List.getElem?_set]
     by_cases e:i=k
     . subst e
       rw[if_pos rfl,if_pos hk]
       refine⟨fun z=>absurd ?_ L.ne,fun z=>absurd rfl z⟩
       rw[List.getD_eq_getElem?_getD]
       exact z
     . rw[if_neg e]
       exact⟨fun _ z=>e z.symm,fun _=>rfl⟩
   refine zB6 (fun j H'=>H'=upd H2 D (.lst (if i<j then [V.int (i:Int)] else []))) (by rw[if_neg (Nat.not_lt_zero _)]) ?_ ?_
   . rintro k H' N hk rfl hN
     have hk':k<xs.length:=by simpa using hk
     have hD':(upd H2 D (.lst (if i<k then [V.int (i:Int)] else []))) D=some (.lst (if i<k then [V.int (i:Int)] else [])):=za3
     have sD:Same H2 (upd H2 D (.lst (if i<k then [V.int (i:Int)] else []))):=Same.upd hD
     have e0:(0:Int)+(k:Int)=(k:Int):=by omega
     have ax:atI (xs.map V.int) (0+(k:Int))=some (.int (xs.getD k 0)):=by rw[e0];exact zf3 (by omega) (by omega)
     have ay:atI ((xs.set i p).map V.int) (0+(k:Int))=some (.int ((xs.set i p).getD k 0)):=by rw[e0];exact zf3 (by omega) (by rw[List.length_set];omega)
     refine⟨_,rfl,_,rfl,b,_,_,_,rfl,rfl,SqT.of (sD _ _ hb),ay,_,rfl,_,rfl,a,_,_,_,rfl,rfl,SqT.of (sD _ _ ha2),ax,rfl,_,rfl,?_⟩
     rw[zf6]
     refine ite2 (fun h2=>?_) (fun h2=>?_)
     . have hki:k=i:=Classical.byContradiction fun z=>by
         have:=(gd k hk').mpr z
         rw[decide_eq_true this] at h2
         cases h2
       subst hki
       refine⟨_,rfl,_,hD',zd0 (by rw[if_neg (Nat.lt_irrefl _)];decide),hN _ ?_⟩
       rw[zj6,if_neg (Nat.lt_irrefl _),if_pos (Nat.lt_succ_self _),e0]
       rfl
     . have hki:k≠i:=(gd k hk').mp (Classical.byContradiction fun z=>h2 (by rw[decide_eq_false z];rfl))
       refine hN _ ?_
       by_cases hlt:i<k
       . rw[if_pos hlt,if_pos (by omega)]
       . rw[if_neg hlt,if_neg (by omega)]
   . rintro H' rfl
     rw[Int.toNat_natCast,if_pos hi]
     have s3:Same H2 (upd H2 D (.lst [V.int (i:Int)])):=Same.upd hD
     have ax:atI (xs.map V.int) (i:Int)=some (.int (xs.getD i 0)):=zf3 (by omega) (by omega)
     have ay:atI ((xs.set i p).map V.int) (i:Int)=some (.int p):=by
       have:=zf3 (xs:=xs.set i p) (i:=(i:Int)) (by omega) (by rw[List.length_set];omega)
       rw[Int.toNat_natCast,getD_set_self hi] at this
       exact this
     refine⟨D,_,_,_,rfl,rfl,SqL.of za3,rfl,?_⟩
     refine⟨_,rfl,_,_,rfl,rfl,_,rfl,_,rfl,a,_,_,_,rfl,rfl,SqT.of (s3 _ _ ha2),ax,_,rfl,_,rfl,b,_,_,_,rfl,rfl,SqT.of (s3 _ _ hb),ay,(by show 3<=sizeLine;decide),fun mv fmv=>?_⟩
     exact q (.ref mv) _ (s02.trans (s3.updT fmv)) (.inr ⟨i,p,mv,rfl,L,za3⟩)
end
end Bt
namespace Bt
open PySem L2
section
variable {P:Program} {w:World} {K:W.Frag} {mg:Str->Option Value} {base:Heap} {t:Adr}
noncomputable def zM2 (K:W.Frag) (t:Adr):Sp:=fun vs H Q _=>∃ (sc a m:Addr) (n r lim k s p:Int) (hs xs:List Int),vs=[.ref sc,.ref a,.ref m]/\zq4 K H sc n r hs lim/\H a=some (.tup (xs.map V.int)) ∧
 H m=some (.tup [.int k,.int s,.int p])/\(hs.length=xs.length/\xs.length<=5/\(∀ x∈hs,1<=x/\x<=20))/\Q (.str (zF7 (refN n r lim hs xs k s p))) H
theorem zU6 (T:Txt K mg t):FnOk P w K mg base CX0 2 t.bE t.b3 ["_law_scale","_law_spots","_law_move"] (zM2 K t):=by
 have Gbf:FnOk P w K mg base CX0 1 t.a1 t.be ["_law_hefts","_law_spots"] (zz0 K t):=zF1 T
 refine T.eZ.ok zn0 (fun vs H Q E h=>?_) (fun cdv A outer s H vs Q E hr h=>?_)
 . obtain ⟨sc,a,m,n,r,lim,k,s,p,hs,xs,rfl,⟨h,_,hsc,hh⟩,hT,hm,⟨hl,h5_1,hhs⟩,q⟩:=h
   rfl
 . obtain ⟨sc,a,m,n,r,lim,k,s,p,hs,xs,rfl,⟨h,_,hsc,hh⟩,hT,hm,⟨hl,h5_1,hhs⟩,q⟩:=h
   have hbf:Room 1 _:=hr.mono (by decide)
   refine⟨_,(za4 (zA8 (pv 0) (zK9 rfl (zd8 (zc7 (i:=3) zn0.nd rfl (Or.inl rfl)) (zd8 (zc7 (i:=4) zn0.nd rfl (Or.inl rfl)) (zd8 (zc7 (i:=5) zn0.nd rfl (Or.inl rfl)) (zd8 (zc7 (i:=6) zn0.nd rfl (Or.inl rfl)) zv1))))))
     (za4 (zA8 (pv 2) (ye6 rfl (zd8 (zc7 (i:=7) zn0.nd rfl (Or.inl rfl)) (zd8 (zc7 (i:=8) zn0.nd rfl (Or.inl rfl)) (zd8 (zc7 (i:=9) zn0.nd rfl (Or.inl rfl)) zv1)))))
     (za4 (zd1 (PW.pt (zH1 (zb3 zH2 (pv 7) za1 (zb9 _)) (zH1 (zb3 zv2 (pv 7) (zc3 zc1 rfl T.aa PySem.boot_len (za0 (pv 5) za2)) (zb9 _)) (zG5 (zb3 zr2 (zc6 zf4 (pv 1) (zb0 zh1 (pv 7) za1) (fun _ _=>rfl)) (pv 8) (zb9 _)))))) (za6 (zb8 zc2)) zb5)
     (za4 (zd1 (PW.pt (zH1 (zb3 zH2 (pv 9) (zn1 zh8 (pv 3)) (zb9 _)) (zG5 (zb3 zv2 (pv 9) (pv 3) (zb9 _))))) (za6 (zb8 zc2)) zb5)
     (za4 (zd1 (zb3 zg3 (pv 9) (pv 8) (zb9 _)) (za6 (zb8 zc2)) zb5)
     (za4 (zd1 (PW.pt (zw3 (zb3 zr2 (pv 9) za1 (zb9 _)) (zv0 (zb3 zX3 (yc1 PySem.F.slot_tuple_count PySem.F.type_tuple_count zD6 (pv 1) (za0 (pv 9) za2)) (pv 4) (zb9 _))))) (za6 (zb8 zc2)) zb5)
     (za4 (zb7 (i:=10) zn0.nd rfl (Or.inl rfl) (zb0 zh1 (za7 Gbf hbf rfl T.aJ T.aK T.aI .nil zb4 (za0 (pv 5) (za0 (pv 1) za2))) (zb0 zl5 (zc6 zd4 (pv 5) (zb0 zh1 (pv 7) za1) (fun _ _=>rfl)) (pv 8))))
     (za4 (zd1 (zb3 zv2 (zc3 zt7 rfl T.aW PyProof.Rows.boot_abs (za0 (pv 10) za2)) (pv 6) (zb9 _)) (za6 (zb8 zc2)) zb5)
     (za4 (zd1 (zb3 zv2 (zc3 zt7 rfl T.aW PyProof.Rows.boot_abs (za0 (zb0 ze8 (pv 10) (zb0 zl5 (zc6 zd4 (pv 5) (zb0 zh1 (pv 7) za1) (fun _ _=>rfl)) (pv 9))) za2)) (pv 6) (zb9 _)) (za6 (zb8 zc2)) zb5)
     (za6 (zb8 zc2))))))))))),?_⟩
   unfold refN at q
   have hS:SqL K H a (xs.map V.int)\/SqT K H a (xs.map V.int):=.inr (SqT.of hT)
   refine⟨_,rfl,sc,_,rfl,hsc,rfl,_,_,rfl,_,_,rfl,_,_,rfl,_,_,rfl,rfl,?_⟩
   refine⟨_,rfl,m,_,rfl,SqT.of hm,rfl,_,_,rfl,_,_,rfl,_,_,rfl,rfl,?_⟩
   refine⟨_,rfl,_,_,rfl,rfl,_,rfl,ite2 (fun h1=>?_) (fun h1=>?_)⟩
   . have hb:¬ zw0 xs k s:=fun z=>by have:=z.1;have:=of_decide_eq_true h1;omega
     rw[if_pos hb] at q
     refine iteT ?_
     exact q
   have h1':1<=k:=Int.not_lt.mp fun z=>h1 (decide_eq_true z)
   refine⟨_,rfl,_,rfl,h,_,rfl,.inl hh,_,_,rfl,rfl,_,rfl,?_⟩
   rw[List.length_map]
   refine ite2 (fun h2=>?_) (fun h2=>?_)
   . have hb:¬ zw0 xs k s:=fun z=>by have:=z.1;have:=of_decide_eq_true h2;omega
     rw[if_pos hb] at q
     refine iteT ?_
     exact q
   have h2':k<=hs.length:=Int.not_lt.mp fun z=>h2 (decide_eq_true z)
   have ax:atI (xs.map V.int) (k-1)=some (.int (xs.getD (k-1).toNat 0)):=zf3 (by omega) (by omega)
   have ah:atI (hs.map V.int) (k-1)=some (.int (hs.getD (k-1).toNat 0)):=zf3 (by omega) (by omega)
   have hm1:=hhs (hs.getD (k-1).toNat 0) (zj1 (by omega))
   refine⟨_,rfl,_,rfl,_,_,rfl,rfl,a,_,_,_,rfl,rfl,SqT.of hT,ax,_,rfl,rfl,_,rfl,?_⟩
   rw[zf6]
   refine ite2 (fun h3=>?_) (fun h3=>?_)
   . have hb:¬ zw0 xs k s:=fun z=>by simp at h3;exact h3 (by simpa using z.2)
     rw[if_pos hb] at q
     exact q
   have h3':xs.getD (k-1).toNat 0=s:=by simpa using h3
   have hg:zw0 xs k s:=⟨⟨h1',by omega⟩,h3'⟩
   rw[if_neg (fun z=>z hg)] at q
   refine⟨_,rfl,_,rfl,_,rfl,_,_,rfl,rfl,_,rfl,ite2 (fun h4=>?_) (fun h4=>?_)⟩
   . rw[if_pos (.inl (of_decide_eq_true h4))] at q
     refine iteT ?_
     exact q
   have h4':¬ p < -n:=fun z=>h4 (decide_eq_true z)
   refine⟨_,rfl,_,rfl,_,_,rfl,rfl,_,rfl,ite2 (fun h5=>?_) (fun h5=>?_)⟩
   . rw[if_pos (.inr (of_decide_eq_true h5))] at q
     exact q
   have h5':¬ n<p:=fun z=>h5 (decide_eq_true z)
   rw[if_neg (fun z=>z.elim h4' h5')] at q
   refine⟨_,rfl,_,rfl,rfl,_,rfl,?_⟩
   rw[zf6]
   refine ite2 (fun h6=>?_) (fun h6=>?_)
   . rw[if_pos (of_decide_eq_true h6)] at q
     exact q
   have h6':p≠s:=fun z=>h6 (decide_eq_true z)
   rw[if_neg h6'] at q
   have fin:(if lim<absI (zi2 hs xs (k-1).toNat) then (5:Nat) else if lim<absI (zi2 hs xs (k-1).toNat+hs.getD (k-1).toNat 0*p) then 6 else 0)=(if lim<absI (zc5 hs xs-hs.getD (k-1).toNat 0*s) then (5:Nat) else if lim<absI (zc5 hs xs-hs.getD (k-1).toNat 0*s+hs.getD (k-1).toNat 0*p) then 6 else 0):=by unfold zi2;rw[h3']
   rw[fin] at q
   refine⟨_,rfl,rfl,_,rfl,?_⟩
   rw[zf6]
   refine ite2 (fun h7=>?_) (fun h7=>?_)
   . have h7':p≠0:=by simpa using h7
     refine⟨_,rfl,⟨_,_,rfl,hT⟩,_,rfl,a,xs,p,rfl,rfl,SqT.of hT,_,rfl,_,_,rfl,rfl,_,rfl,?_⟩
     refine ite2 (fun h8=>?_) (fun h8=>?_)
     . have h8':r<=(xs.count p:Int):=of_decide_eq_true h8
       rw[if_pos (show zC7 r xs p=true from decide_eq_true ⟨h7',h8'⟩)] at q
       exact q
     have h8':¬ r<=(xs.count p:Int):=fun z=>h8 (decide_eq_true z)
     rw[if_neg (fun z:zC7 r xs p=true=>h8' (of_decide_eq_true z).2)] at q
     refine⟨_,rfl,_,rfl,h,a,hs,xs,rfl,hh,hS,⟨hl,h5_1,hhs⟩,_,rfl,_,rfl,_,_,rfl,rfl,h,_,_,_,rfl,rfl,hh,ah,_,rfl,_,_,rfl,rfl,.inl ⟨by omega,by omega⟩,_,_,rfl,rfl,?_⟩
     refine⟨_,rfl,_,rfl,_,rfl,_,_,rfl,rfl,_,rfl,ite2 (fun h9=>?_) (fun h9=>?_)⟩
     . rw[if_pos (show lim<absI (zc5 hs xs-hs.getD (k-1).toNat 0*s) from of_decide_eq_true h9)] at q
       exact q
     rw[if_neg (fun z:lim<absI (zc5 hs xs-hs.getD (k-1).toNat 0*s)=>h9 (decide_eq_true z))] at q
     refine⟨_,rfl,_,rfl,_,rfl,_,_,rfl,rfl,h,_,_,_,rfl,rfl,hh,ah,_,rfl,_,_,rfl,rfl,.inl ⟨by omega,by omega⟩,_,_,rfl,rfl,_,rfl,_,rfl,_,_,rfl,rfl,_,rfl,ite2 (fun h9=>?_) (fun h9=>?_)⟩
     . rw[if_pos (show lim<absI (zc5 hs xs-hs.getD (k-1).toNat 0*s+hs.getD (k-1).toNat 0*p) from of_decide_eq_true h9)] at q
       exact q
     rw[if_neg (fun z:lim<absI (zc5 hs xs-hs.getD (k-1).toNat 0*s+hs.getD (k-1).toNat 0*p)=>h9 (decide_eq_true z))] at q
     exact q
   . have h7':p=0:=by simpa using h7
     rw[if_neg (fun z:zC7 r xs p=true=>(of_decide_eq_true z).1 h7')] at q
     refine iteF ?_
     refine⟨_,rfl,_,rfl,h,a,hs,xs,rfl,hh,hS,⟨hl,h5_1,hhs⟩,_,rfl,_,rfl,_,_,rfl,rfl,h,_,_,_,rfl,rfl,hh,ah,_,rfl,_,_,rfl,rfl,.inl ⟨by omega,by omega⟩,_,_,rfl,rfl,?_⟩
     refine⟨_,rfl,_,rfl,_,rfl,_,_,rfl,rfl,_,rfl,ite2 (fun h9=>?_) (fun h9=>?_)⟩
     . rw[if_pos (show lim<absI (zc5 hs xs-hs.getD (k-1).toNat 0*s) from of_decide_eq_true h9)] at q
       exact q
     rw[if_neg (fun z:lim<absI (zc5 hs xs-hs.getD (k-1).toNat 0*s)=>h9 (decide_eq_true z))] at q
     refine⟨_,rfl,_,rfl,_,rfl,_,_,rfl,rfl,h,_,_,_,rfl,rfl,hh,ah,_,rfl,_,_,rfl,rfl,.inl ⟨by omega,by omega⟩,_,_,rfl,rfl,_,rfl,_,rfl,_,_,rfl,rfl,_,rfl,ite2 (fun h9=>?_) (fun h9=>?_)⟩
     . rw[if_pos (show lim<absI (zc5 hs xs-hs.getD (k-1).toNat 0*s+hs.getD (k-1).toNat 0*p) from of_decide_eq_true h9)] at q
       exact q
     rw[if_neg (fun z:lim<absI (zc5 hs xs-hs.getD (k-1).toNat 0*s+hs.getD (k-1).toNat 0*p)=>h9 (decide_eq_true z))] at q
     exact q
theorem num_back0:∀ k:Nat,k<401->zt9 (sI k)=some (k:Int)/\32∉(sI k).cps.toList/\10∉(sI k).cps.toList:=by decide +kernel
theorem zD3 {n:Int} (h0:0<=n) (h1:n<=400):zt9 (sI n)=some n/\32∉(sI n).cps.toList/\10∉(sI n).cps.toList:=by
 obtain ⟨k,rfl⟩:=Int.eq_ofNat_of_zero_le h0
 exact num_back0 k (by omega)
theorem zQ6 {x:Int} (h1:-4<=x) (h2:x<=4):zn7 (zd6 x)=some x/\32∉(zd6 x).cps.toList/\10∉(zd6 x).cps.toList:=by
 have:x = -4\/x = -3\/x = -2\/x = -1\/x=0\/x=1\/x=2\/x=3\/x=4:=by omega
 rcases this with rfl | rfl | rfl | rfl | rfl | rfl | rfl | rfl | rfl<;>decide +kernel
theorem zF2 {c:Nat} {a b:Str} (ha:c∉a.cps.toList) (hb:c∉b.cps.toList):c∉(a++b).cps.toList:=by
 rw[zh7]
 intro h
 rcases List.mem_append.mp h with h | h
 . exact ha h
 . exact hb h
theorem rd_wBeam {n r lim:Int} {hs xs:List Int} (ok:zh5 n r hs lim) (V0:ze0 n r hs.length xs):ya7 (zT6 n r lim hs xs) n r lim hs xs:=by
 have hn:=zD3 (n:=n) (by have:=ok.n1;omega) (by have:=ok.n2;omega)
 have hr:=zD3 (n:=r) (by have:=ok.r1;omega) (by have:=ok.r2;omega)
 have hl:=zD3 (n:=lim) ok.l1 ok.l2
 have row:∀ i w,(List.zipWith wRow hs xs)[i]?=some w->∃ h x,hs[i]?=some h/\xs[i]?=some x/\w=wRow h x/\(1<=h/\h<=20)/\(-4<=x/\x<=4):=fun i w hi=>by
   rw[List.getElem?_zipWith] at hi
   cases eh:hs[i]? with
   | none=>rw[eh] at hi;simp at hi
   | some h =>
     cases ex:xs[i]? with
     | none=>rw[eh,ex] at hi;simp at hi
     | some x =>
       rw[eh,ex] at hi
       injection hi with hi
       have b:=V0.on x (List.mem_of_getElem? ex)
       exact⟨h,x,by first | rfl | exact eh,by first | rfl | exact ex,hi.symm,ok.h h (List.mem_of_getElem? eh),by have:=ok.n2;omega⟩
 have hsp:Txt.split (zT6 n r lim hs xs) (Str.ofString "\n")=zT5 n r lim hs xs:=by
   unfold zT6
   rw[yh4]
   refine zz5 (by unfold zT5 zq3;simp) fun w hw=>?_
   rcases List.mem_append.mp hw with hw | hw
   . unfold zq3 at hw
     simp only[List.mem_cons,List.not_mem_nil,or_false] at hw
     rcases hw with rfl | rfl | rfl
     . exact zF2 (by decide) hn.2.2
     . exact zF2 (by decide) hr.2.2
     . exact zF2 (by decide) hl.2.2
   . obtain ⟨i,hi⟩:=List.getElem?_of_mem hw
     obtain ⟨h,x,_,_,rfl,⟨h1,h2⟩,x1,x2⟩:=row i w hi
     exact zF2 (zF2 (zF2 (by decide) (zD3 (by omega) (by omega)).2.2) (by decide)) (zQ6 x1 x2).2.2
 refine⟨⟨_,_,_,List.zipWith wRow hs xs,sI n,sI r,sI lim,hsp,?_,?_,?_,hn.1,hr.1,hl.1,?_,V0.len,?_⟩⟩
 . rw[show Str.ofString "notches " = Str.ofString "notches"++⟨#[32]⟩ by decide,zL0]
   exact ya4 (by decide) hn.2.1
 . rw[show Str.ofString "room " = Str.ofString "room"++⟨#[32]⟩ by decide,zL0]
   exact ya4 (by decide) hr.2.1
 . rw[show Str.ofString "limit " = Str.ofString "limit"++⟨#[32]⟩ by decide,zL0]
   exact ya4 (by decide) hl.2.1
 . rw[List.length_zipWith,V0.len,Nat.min_self]
 . intro i w h x hw hh hx
   obtain ⟨h',x',e1,e2,rfl,⟨h1,h2⟩,x1,x2⟩:=row i w hw
   rw[hh] at e1
   rw[hx] at e2
   cases e1
   cases e2
   have k1:=zD3 (n:=h) (by omega) (by omega)
   have k2:=zQ6 x1 x2
   refine⟨sI h,zd6 x,?_,k1.1,k2.1⟩
   unfold wRow
   rw[show Str.ofString "weight " = Str.ofString "weight"++⟨#[32]⟩ by decide,zL0]
   exact split3 (by decide) k1.2.1 k2.2.1
theorem zU7 {ws:List Str} (h:∀ w∈ws,w.length<=40) (hl:ws.length<=8):(Txt.join (Str.ofString "\n") ws).length<=400:=by
 have:=size_glued (Str.ofString "\n") ws
 have e1:(Str.ofString "\n").length=1:=by decide
 have h2:=sum_le h
 rw[e1] at this
 show (Builtin.Str.glued (Str.ofString "\n") ws).length<=400
 omega
theorem due0 (n r lim:Int):(((((Str.ofString "notches "++sI n)++Str.ofString "\nroom ")++sI r)++Str.ofString "\nlimit ")++sI lim)=Txt.join (Str.ofString "\n") (zq3 n r lim):=by
 show _=Builtin.Str.glued _ _
 rw[StrLaws.glued_eq_join,yh4]
 refine zq0 ?_
 unfold zq3
 rw[zr7,zr7]
 show _=_++10::(_++10::(Str.ofString "limit "++sI lim).cps.toList)
 have e1:(Str.ofString "\nroom ").cps.toList=10::(Str.ofString "room ").cps.toList:=by decide
 have e2:(Str.ofString "\nlimit ").cps.toList=10::(Str.ofString "limit ").cps.toList:=by decide
 simp only[zh7,e1,e2]
 simp
theorem due1 (z:Str) (h x:Int):((((z++Str.ofString "\nweight ")++sI h)++Str.ofString " ")++zd6 x)=(z++Str.ofString "\n")++wRow h x:=by
 refine zq0 ?_
 unfold wRow
 have e1:(Str.ofString "\nweight ").cps.toList=(Str.ofString "\n").cps.toList++(Str.ofString "weight ").cps.toList:=by decide
 simp only[zh7,e1,List.append_assoc]
theorem zZ9 {n r lim:Int} {hs c:List Int} {k u q:Int} (h:refN n r lim hs c k u q=0):∃ i:Nat,k=(i:Int)+1/\u=c.getD i 0/\Lets n r hs lim c i q:=by
 unfold refN at h
 by_cases h1:zw0 c k u
 . rw[if_neg (fun z=>z h1)] at h
   obtain ⟨⟨a1,a2⟩,a3⟩:=h1
   by_cases h2:q < -n\/n<q
   . rw[if_pos h2] at h;cases h
   rw[if_neg h2] at h
   by_cases h3:q=u
   . rw[if_pos h3] at h;cases h
   rw[if_neg h3] at h
   by_cases h4:zC7 r c q=true
   . rw[if_pos h4] at h;cases h
   rw[if_neg h4] at h
   by_cases h5:lim<absI (zi2 hs c (k-1).toNat)
   . rw[if_pos h5] at h;cases h
   rw[if_neg h5] at h
   by_cases h6:lim<absI (zi2 hs c (k-1).toNat+hs.getD (k-1).toNat 0*q)
   . rw[if_pos h6] at h;cases h
   refine⟨(k-1).toNat,by omega,a3.symm,by omega,⟨by omega,by omega⟩,by rw[a3];exact h3,fun h0=>?_,by omega,by omega⟩
   exact Int.not_le.mp fun z=>h4 (decide_eq_true ⟨h0,z⟩)
 . rw[if_pos h1] at h;cases h
theorem ye1 {j:Nat} (h:j<6):decide (V.str (zF7 (j+1))=V.str (Str.ofString ""))=false:=by
 match j,h with
 | 0,_=>decide
 | 1,_=>decide
 | 2,_=>decide
 | 3,_=>decide
 | 4,_=>decide
 | 5,_=>decide
 | i+6,h=>exact absurd h (by omega)
theorem ref_lets {n r lim:Int} {hs c:List Int} {i:Nat} {q:Int} (L:Lets n r hs lim c i q):refN n r lim hs c ((i:Int)+1) (c.getD i 0) q=0:=by
 have e:((i:Int)+1-1).toNat=i:=by omega
 have h1:=L.on
 have h2:=L.ne
 have h3:=L.room
 have h4:=L.held
 have h5:=L.behind
 have hlt:=L.lt
 unfold refN
 rw[if_neg (fun z=>z ⟨⟨by omega,by omega⟩,by rw[e]⟩),if_neg (by omega),if_neg h2,if_neg (fun z=>by have:=of_decide_eq_true z;have:=h3 this.1;omega),e,if_neg (by omega),if_neg (by omega)]
theorem word_eq {R:Nat} (h:R<=6):decide (V.str (zF7 R)=V.str (Str.ofString ""))=decide (R=0):=by
 cases R with
 | zero=>rfl
 | succ j=>rw[ye1 (by omega),decide_eq_false (by omega)]
theorem wordN_len {R:Nat} (h:R<=6):(zF7 R).length<=20:=by
 match R,h with
 | 0,_=>decide
 | 1,_=>decide
 | 2,_=>decide
 | 3,_=>decide
 | 4,_=>decide
 | 5,_=>decide
 | 6,_=>decide
theorem use_finW {R:Str->Hp->Prop} {S:Str->Hp->Prop} {G:Prop} (main:(∀ z o,S z o->R z o)->G) (fin:∀ z o,S z o->R z o):G:=main fin
end
end Bt
namespace Bt
open PySem L2
section
variable {P:Program} {w:World} {K:W.Frag} {mg:Str->Option Value} {base:Heap} {t:Adr}
theorem use_finJ {R:Int->Prop} {S:Int->Prop} {G:Prop} (main:(∀ o,S o->R o)->G) (fin:∀ o,S o->R o):G:=main fin
noncomputable def zG4 (K:W.Frag) (t:Adr):Sp:=fun vs H Q _=>∃ (c a:Addr) (n r lim cell:Int) (hs xs:List Int),vs=[.ref c,.ref a,.int cell]/\zq4 K H c n r hs lim/\ze0 n r hs.length xs/\H a=some (.tup (xs.map V.int))/\∀ (mv:Addr) (H':Hp) (k s p:Int),Same H H'->H mv=none->H' mv=some (.tup [.int k,.int s,.int p])->((0<=k/\k<=9)/\(-9<=s/\s<=9)/\(-9<=p/\p<=9))->Q (.ref mv) H'
theorem ok_w_any_move (T:Txt K mg t):FnOk P w K mg base CX0 1 t.a9 t.bG ["_law_scale","_law_now","_law_cell"] (zG4 K t):=by
 refine T.dx.ok zi1 (fun vs H Q E h=>?_) (fun cdv A outer s H vs Q E hr h=>?_)
 . obtain ⟨c,a,n,r,lim,cell,hs,xs,rfl,⟨h,ok,hc,hh⟩,V0,ha,q⟩:=h
   rfl
 . obtain ⟨c,a,n,r,lim,cell,hs,xs,rfl,⟨h,ok,hc,hh⟩,V0,ha,q⟩:=h
   refine⟨_,(za4 (zb7 (i:=3) zi1.nd rfl (Or.inl rfl) (zc3 zc1 rfl T.aa PySem.boot_len (za0 (zc6 zd4 (pv 0) za1 (fun _ _=>rfl)) za2)))
     (za4 (zb7 (i:=4) zi1.nd rfl (Or.inl rfl) (zb0 ze5 (pv 2) (zb0 ze8 (pv 3) za1)))
     (za4 (zb7 (i:=5) zi1.nd rfl (Or.inl rfl) (zb0 zi3 (pv 2) (zb0 ze8 (pv 3) za1)))
     (za4 (zb7 (i:=6) zi1.nd rfl (Or.inl rfl) (zb0 zh1 (zb0 zh1 (zb0 ze5 (zb0 zi3 (pv 5) za1) (zb0 ze8 (zb0 zl5 za1 (zc6 zd4 (pv 0) za1 (fun _ _=>rfl))) za1)) (zc6 zd4 (pv 0) za1 (fun _ _=>rfl))) za1))
     (za4 (zd1 (PW.pt (zw3 (zb3 zv2 (zb0 ze5 (pv 5) za1) za1 (zb9 _)) (zw3 (zb3 zX3 (pv 4) za1 (zb9 _)) (zv0 (zb3 ye7 (pv 4) (pv 3) (zb9 _)))))) (za6 (zb7 (i:=6) zi1.nd rfl (Or.inl rfl) (zc6 zf4 (pv 1) (zb0 zh1 (pv 4) za1) (fun _ _=>rfl)))) zb5)
     (za4 (zb7 (i:=7) zi1.nd rfl (Or.inl rfl) (zb0 zh1 (zb0 zh1 (zb0 ze5 (zb0 zi3 (pv 5) za1) (zb0 ze8 (zb0 zl5 za1 (zc6 zd4 (pv 0) za1 (fun _ _=>rfl))) za1)) (zc6 zd4 (pv 0) za1 (fun _ _=>rfl))) za1))
     (za6 (zb8 (zp9 (za0 (pv 4) (za0 (pv 6) (za0 (pv 7) za2)))))))))))),?_⟩
   have hw:=ok.w
   have n1:=ok.n1
   have n2:=ok.n2
   have hlen:=V0.len
   refine⟨_,rfl,c,_,_,_,rfl,rfl,hc,rfl,h,_,rfl,.inl hh,?_⟩
   rw[List.length_map]
   refine⟨_,rfl,_,rfl,_,_,rfl,rfl,_,_,rfl,rfl,(by show (0:Int)<(hs.length:Int)+2;omega),?_⟩
   refine⟨_,rfl,_,rfl,_,_,rfl,rfl,_,_,rfl,rfl,⟨by show (0:Int)<(hs.length:Int)+2;omega,by show (hs.length:Int)+2<1073741824;omega⟩,?_⟩
   have w1:0<=cell % ((hs.length:Int)+2):=Int.emod_nonneg _ (by omega)
   have w2:cell % ((hs.length:Int)+2)<(hs.length:Int)+2:=Int.emod_lt_of_pos _ (by omega)
   dsimp only
   revert w1 w2
   generalize cell % ((hs.length:Int)+2)=w3
   generalize cell / ((hs.length:Int)+2)=rest
   intro w1 w2
   refine⟨_,rfl,_,_,rfl,rfl,⟨by decide,by decide⟩,_,rfl,c,_,_,_,rfl,rfl,hc,rfl,_,_,rfl,rfl,.inl ⟨by decide,by decide⟩,_,_,rfl,rfl,_,_,rfl,rfl,(by show (0:Int)<2*n+3;omega),_,rfl,c,_,_,_,rfl,rfl,hc,rfl,_,_,rfl,rfl,_,_,rfl,rfl,?_⟩
   have t1:0<=rest / 3 % (2*n+3):=Int.emod_nonneg _ (by omega)
   have t2:rest / 3 % (2*n+3)<2*n+3:=Int.emod_lt_of_pos _ (by omega)
   have t3:-9<=rest / 3 % (2*n+3)-n-1/\rest / 3 % (2*n+3)-n-1<=9:=by omega
   dsimp only
   revert t3
   generalize rest / 3 % (2*n+3)-n-1=src0
   intro t3
   refine⟨_,rfl,_,_,rfl,rfl,(by show (0:Int)<3;decide),_,_,rfl,rfl,_,rfl,?_⟩
   refine use_finJ (R:=?R2) (S:=fun o=>-9<=o/\o<=9) (fun fin=>?main2) ?fin2
   case main2 =>
     refine ite2 (fun h2=>?_) (fun h2=>?_)
     . refine⟨_,rfl,_,_,rfl,rfl,_,rfl,ite2 (fun h3=>?_) (fun h3=>?_)⟩
       . refine⟨_,rfl,_,rfl,_,_,rfl,rfl,_,rfl,ite2 (fun h4=>?_) (fun h4=>?_)⟩
         . have h3':(1:Int)<=w3:=of_decide_eq_true h3
           have h4':w3<=(hs.length:Int):=of_decide_eq_true h4
           have ax:atI (xs.map V.int) (w3-1)=some (.int (xs.getD (w3-1).toNat 0)):=zf3 (by omega) (by omega)
           have on:=V0.on (xs.getD (w3-1).toNat 0) (zj1 (by omega))
           refine⟨_,rfl,_,rfl,_,_,rfl,rfl,a,_,_,_,rfl,rfl,SqT.of ha,ax,?_⟩
           dsimp only[List.set]
           clear ax
           revert on
           generalize xs.getD (w3-1).toNat 0=src1
           intro on
           exact fin src1 ⟨by omega,by omega⟩
         . dsimp only[List.set]
           exact fin src0 t3
       . dsimp only[List.set]
         exact fin src0 t3
     . dsimp only[List.set]
       exact fin src0 t3
   intro src hsrc
   refine⟨_,rfl,_,_,rfl,rfl,⟨by decide,by decide⟩,_,rfl,c,_,_,_,rfl,rfl,hc,rfl,_,_,rfl,rfl,.inl ⟨by decide,by decide⟩,_,_,rfl,rfl,_,_,rfl,rfl,(by show (0:Int)<2*n+5;omega),_,rfl,c,_,_,_,rfl,rfl,hc,rfl,_,_,rfl,rfl,_,_,rfl,rfl,?_⟩
   have u1:0<=rest / 33 % (2*n+5):=Int.emod_nonneg _ (by omega)
   have u2:rest / 33 % (2*n+5)<2*n+5:=Int.emod_lt_of_pos _ (by omega)
   exact⟨_,rfl,_,rfl,_,rfl,(by show 3<=sizeLine;decide),fun mv fmv=>q mv _ w3 src (rest / 33 % (2*n+5)-n-2) (Same.upd fmv) fmv za3 ⟨⟨w1,by omega⟩,hsrc,by omega⟩⟩
end
end Bt
namespace Bt
open PySem L2
section
variable {P:Program} {w:World} {K:W.Frag} {mg:Str->Option Value} {base:Heap} {t:Adr}
theorem wMove_eq (k u q:Int):(((sI k++Str.ofString " ")++zd6 u)++Str.ofString " ")++zd6 q=zq1 k u q:=by
 refine zq0 ?_
 show _=(Builtin.Str.glued _ _).cps.toList
 rw[StrLaws.glued_eq_join]
 show _=(Str.join (Str.ofString " ") [sI k,zd6 u,zd6 q]).cps.toList
 simp only[Str.join,zh7,List.append_assoc]
structure Lw (K:W.Frag) (H0 H:Hp) (sc nw md:Addr) (n r lim:Int) (hs s c:List Int) (yd:List V) (es:List (List Int×Nat×Int)):Prop where
 sm:Same H0 H
 fd:H0 md=none
 sc:zq4 K H0 sc n r hs lim
 nw:H nw=some (.tup (c.map V.int))
 md:H md=some (.lst yd)
 td:Tups H yd (zu7 es)
 ch:Ch n r hs lim s es c
 vs:ze0 n r hs.length s
theorem Lw.same {K:W.Frag} {H0 H H':Hp} {sc nw md:Addr} {n r lim:Int} {hs s c:List Int} {yd:List V} {es:List (List Int×Nat×Int)} (I:Lw K H0 H sc nw md n r lim hs s c yd es) (e:Same H H'):Lw K H0 H' sc nw md n r lim hs s c yd es:=⟨I.sm.trans e,I.fd,I.sc,e _ _ I.nw,e _ _ I.md,e.tups I.td,I.ch,I.vs⟩
theorem Lw.vc {K:W.Frag} {H0 H:Hp} {sc nw md:Addr} {n r lim:Int} {hs s c:List Int} {yd:List V} {es:List (List Int×Nat×Int)} (I:Lw K H0 H sc nw md n r lim hs s c yd es):ze0 n r hs.length c:=I.ch.valid I.vs
noncomputable def zQ7 (K:W.Frag) (H0 H:Hp) (sc md:Addr) (n r lim:Int) (hs s c:List Int) (yd:List V) (es:List (List Int×Nat×Int)) (Q:VK):Prop :=
 ∀ o nw' c' yd' es' d z H',zr5 md H H'->Lw K H0 H' sc nw' md n r lim hs s c' yd' es'->zG1 n r lim hs c es d c' es' z->ddOk d->yd'.length<=yd.length+1->H' o=some (.lst [.str (zl3 d),.ref nw',.str z])->Q (.ref o) H'
noncomputable def zq5 (K:W.Frag) (t:Adr):Sp:=fun vs H Q _=>∃ (mv:Addr) (k u q:Int),vs=[.ref mv]/\H mv=some (.tup [.int k,.int u,.int q])/\((-99<=k/\k<=99)/\(-99<=u/\u<=99)/\(-99<=q/\q<=99))/\Q (.str (zq1 k u q)) H
noncomputable def zM3 (K:W.Frag) (t:Adr):Sp:=fun vs H Q _=>∃ (h a:Addr) (n r lim:Int) (hs xs:List Int),vs=[.ref h,.ref a]/\SqL K H h (hs.map V.int)/\H a=some (.tup (xs.map V.int))/\zh5 n r hs lim/\ze0 n r hs.length xs/\∀ H',Same H H'->Q (.str (zN0 hs xs)) H'
noncomputable def zU8 (K:W.Frag) (t:Adr):Sp:=fun vs H Q _=>∃ (a:Addr) (n r:Int) (w:Nat) (xs:List Int),vs=[.ref a]/\H a=some (.tup (xs.map V.int))/\ze0 n r w xs/\n<=4/\w<=5/\∀ H',Same H H'->Q (.str (zP9 xs)) H'
noncomputable def zU9 (K:W.Frag) (t:Adr):Sp:=fun vs H Q _=>∃ (sc a:Addr) (n r lim:Int) (hs xs:List Int),vs=[.ref sc,.ref a]/\zq4 K H sc n r hs lim/\H a=some (.tup (xs.map V.int))/\ze0 n r hs.length xs/\Q (.str (zT6 n r lim hs xs)) H
noncomputable def zA6 (K:W.Frag) (t:Adr):Sp:=fun vs H Q _=>∃ (sc a:Addr) (n r lim:Int) (hs xs:List Int),vs=[.ref sc,.ref a]/\zq4 K H sc n r hs lim/\H a=some (.tup (xs.map V.int))/\ze0 n r hs.length xs/\∀ H',Same H H'->Q (.str (zZ7 xs (zp7 n r hs lim xs xs.length))) H'
noncomputable def zQ8 (K:W.Frag) (t:Adr):Sp:=fun vs H Q _=>∃ (sc nw md mv:Addr) (H0:Hp) (n r lim k u q:Int) (hs s c:List Int) (yd:List V) (es:List (List Int×Nat×Int)),vs=[.ref sc,.ref nw,.ref md,.ref mv]/\Lw K H0 H sc nw md n r lim hs s c yd es/\es.length<300/\H mv=some (.tup [.int k,.int u,.int q])/\ddOk (.mv k u q)/\zQ7 K H0 H sc md n r lim hs s c yd es Q
noncomputable def zV0 (K:W.Frag) (t:Adr):Sp:=fun vs H Q _=>∃ (sc nw md:Addr) (H0:Hp) (n r lim:Int) (hs s c:List Int) (yd:List V) (es:List (List Int×Nat×Int)),vs=[.ref nw,.ref md]/\Lw K H0 H sc nw md n r lim hs s c yd es/\es.length<300/\zQ7 K H0 H sc md n r lim hs s c yd es Q
noncomputable def zV1 (K:W.Frag) (t:Adr):Sp:=fun vs H Q _=>∃ (sc nw md:Addr) (H0:Hp) (n r lim cell:Int) (hs s c:List Int) (yd:List V) (es:List (List Int×Nat×Int)),vs=[.ref sc,.ref nw,.int cell]/\Lw K H0 H sc nw md n r lim hs s c yd es/\zQ7 K H0 H sc md n r lim hs s c yd es Q
theorem zu9 (T:Txt K mg t):FnOk P w K mg base CX0 2 t.aw t.aH ["_law_move"] (zq5 K t):=by
 have Gbm:FnOk P w K mg base CX0 1 t.bv t.bW ["_law_place"] (zJ7 K t):=zQ0 T
 refine T.c7.ok sc_w_move_text (fun vs H Q E h=>?_) (fun cdv A outer s H vs Q E hr h=>?_)
 . obtain ⟨mv,k,u,q0,rfl,hm,⟨⟨k1,k2⟩,⟨u1,u2⟩,q1,q2⟩,q⟩:=h
   rfl
 . obtain ⟨mv,k,u,q0,rfl,hm,⟨⟨k1,k2⟩,⟨u1,u2⟩,q1,q2⟩,q⟩:=h
   have hbm:Room 1 _:=hr.mono (by decide)
   refine⟨_,(za6 (zb8 (zb0 zd3 (zb0 zd3 (zb0 zd3 (zb0 zd3 (zd9 zf7 rfl T.aw PyProof.Rows.boot_str (za0 (zc6 zf4 (pv 0) za1 (fun _ _=>rfl)) za2)) zc2) (za7 Gbm hbm rfl T.a6 T.a7 T.a5 .nil zb4 (za0 (zc6 zf4 (pv 0) za1 (fun _ _=>rfl)) za2))) zc2) (za7 Gbm hbm rfl T.a6 T.a7 T.a5 .nil zb4 (za0 (zc6 zf4 (pv 0) za1 (fun _ _=>rfl)) za2))))),?_⟩
   have a1:=zw2 (n:=k) (by omega) (by omega)
   have a2:=zp8 (x:=u) (by omega) (by omega)
   have a3:=zp8 (x:=q0) (by omega) (by omega)
   have e0:(Str.ofString " ").length=1:=by decide
   have hsl:sizeLine=16777216:=by decide
   rw[<-wMove_eq] at q
   refine⟨_,rfl,mv,_,_,_,rfl,rfl,SqT.of hm,at_0,k,rfl,zh2 (by omega),_,_,rfl,rfl,(by show (sI k).length+(Str.ofString " ").length<=sizeLine;omega),?_⟩
   refine⟨_,rfl,mv,_,_,_,rfl,rfl,SqT.of hm,at_1,u,rfl,by omega,_,_,rfl,rfl,(by show (sI k++Str.ofString " ").length+(zd6 u).length<=sizeLine;rw[zd5];omega),_,_,rfl,rfl,(by show ((sI k++Str.ofString " ")++zd6 u).length+(Str.ofString " ").length<=sizeLine;rw[zd5,zd5];omega),?_⟩
   exact⟨_,rfl,mv,_,_,_,rfl,rfl,SqT.of hm,at_2,q0,rfl,by omega,_,_,rfl,rfl,(by show (((sI k++Str.ofString " ")++zd6 u)++Str.ofString " ").length+(zd6 q0).length<=sizeLine;rw[zd5,zd5,zd5];omega),q⟩
theorem zV2 (T:Txt K mg t):FnOk P w K mg base CX0 2 t.bF t.b7 ["_law_hefts","_law_spots"] (zM3 K t):=by
 have Gbf:FnOk P w K mg base CX0 1 t.a1 t.be ["_law_hefts","_law_spots"] (zz0 K t):=zF1 T
 refine T.fc.ok zE3 (fun vs H Q E h=>?_) (fun cdv A outer s H vs Q E hr h=>?_)
 . obtain ⟨h,a,n,r,lim,hs,xs,rfl,hh,ha,ok,V0,q⟩:=h
   rfl
 . obtain ⟨h,a,n,r,lim,hs,xs,rfl,hh,ha,ok,V0,q⟩:=h
   have hbf:Room 1 _:=hr.mono (by decide)
   refine⟨_,(za4 (zb7 (i:=2) zE3.nd rfl (Or.inl rfl) (za7 Gbf hbf rfl T.aJ T.aK T.aI .nil zb4 (za0 (pv 0) (za0 (pv 1) za2))))
     (za4 (zb7 (i:=3) zE3.nd rfl (Or.inl rfl) zc2)
     (za4 (zd1 (zb3 zr2 (pv 2) za1 (zb9 _)) (za6 (zb7 (i:=3) zE3.nd rfl (Or.inl rfl) (zc6 zd4 (ze6 (za0 zc2 (za0 zc2 za2))) (zd9 call_int1 rfl T.ek PyProof.Rows.boot_int (za0 (zq9 zv2 (pv 2) za1 (zb9 _)) za2)) (fun _ _=>rfl)))) zb5)
     (za6 (zb8 (zb0 zd3 (zb0 zd3 (zb0 zd3 zc2 (zd9 zf7 rfl T.aw PyProof.Rows.boot_str (za0 (pv 2) za2))) zc2) (pv 3))))))),?_⟩
   have hw:=ok.w
   have hlen:=V0.len
   have tb:=(zJ1 ok V0).1
   have t9:-9999<=zc5 hs xs/\zc5 hs xs<=9999:=by unfold absI at tb;split at tb<;>omega
   have l1:=zw2 t9.1 t9.2
   have l2:=zZ8 (zc5 hs xs)
   have e1:(Str.ofString "tilt ").length=5:=by decide
   have e2:(Str.ofString " ").length=1:=by decide
   have hsl:sizeLine=16777216:=by decide
   unfold zN0 at q
   refine⟨_,rfl,_,rfl,h,a,hs,xs,rfl,hh,.inr (SqT.of ha),⟨hlen.symm,by omega,ok.h⟩,_,rfl,rfl,_,rfl,?_⟩
   rw[zf6]
   generalize zc5 hs xs=am at *
   refine use_finW (R:=?R) (S:=fun z H'=>Same H H'/\z=zu3 am) (fun fin=>?main) ?fin
   case main =>
     refine ite2 (fun h1=>?_) (fun h1=>?_)
     . have h1':am≠0:=by simpa using h1
       refine⟨(by show 2<=sizeLine;decide),fun l f=>?_⟩
       have s1:Same H (upd H l (.lst [.str (Str.ofString "left"),.str (Str.ofString "right")])):=Same.upd f
       have hl:(upd H l (.lst [.str (Str.ofString "left"),.str (Str.ofString "right")])) l=some (.lst [.str (Str.ofString "left"),.str (Str.ofString "right")]):=za3
       dsimp only
       revert s1 hl
       generalize upd H l (.lst [.str (Str.ofString "left"),.str (Str.ofString "right")])=H1
       intro s1 hl
       obtain ⟨wd,hx,hwd⟩:∃ wd:Str,atI [V.str (Str.ofString "left"),V.str (Str.ofString "right")] (if decide (0<am)=true then 1 else 0)=some (.str wd)/\wd=zu3 am:=by
         by_cases h2:0<am
         . rw[decide_eq_true h2]
           exact⟨_,rfl,by unfold zu3;rw[if_neg (by omega),if_pos h2]⟩
         . rw[decide_eq_false h2]
           exact⟨_,rfl,by unfold zu3;rw[if_pos (by omega)]⟩
       refine⟨_,rfl,_,_,rfl,rfl,.inr ⟨_,rfl,l,_,_,_,rfl,rfl,SqL.of hl,hx,?_⟩⟩
       dsimp only[List.set]
       exact fin wd H1 ⟨s1,hwd⟩
     . have h1':am=0:=by simpa using h1
       exact fin (Str.ofString "level") H ⟨Same.refl _,by rw[h1'];rfl⟩
   rintro z H1 ⟨s1,rfl⟩
   exact⟨_,rfl,am,rfl,zh2 (by omega),_,_,rfl,rfl,(by show (Str.ofString "tilt ").length+(sI am).length<=sizeLine;omega),_,_,rfl,rfl,(by show (Str.ofString "tilt "++sI am).length+(Str.ofString " ").length<=sizeLine;rw[zd5];omega),_,rfl,_,_,rfl,rfl,(by show ((Str.ofString "tilt "++sI am)++Str.ofString " ").length+(zu3 am).length<=sizeLine;rw[zd5,zd5];omega),q H1 s1⟩
theorem ok_w_goal (T:Txt K mg t):FnOk P w K mg base CX0 2 t.b6 t.cs ["_law_spots"] (zU8 K t):=by
 have Gbm:FnOk P w K mg base CX0 1 t.bv t.bW ["_law_place"] (zJ7 K t):=zQ0 T
 refine T.e8.ok sc_w_goal (fun vs H Q E h=>?_) (fun cdv A outer s H vs Q E hr h=>?_)
 . obtain ⟨a,n,r,w,xs,rfl,ha,V0,hn,hw,q⟩:=h
   rfl
 . obtain ⟨a,n,r,w,xs,rfl,ha,V0,hn,hw,q⟩:=h
   have hbm:Room 1 _:=hr.mono (by decide)
   refine⟨_,(za4 (zd1 (zb3 zg3 (zc3 zc1 rfl T.aa PySem.boot_len (za0 (pv 0) za2)) za1 (zb9 _)) (za6 (zb8 zc2)) zb5)
     (za6 (zb8 (zl7 PySem.F.plainAttrs_str PySem.F.slot_str_join PySem.F.type_str_join zH9 zc2 (za0 (zr0 rfl zM8 (ya0 (pv 0)) (fun _ _ _ _ _=>(zc7 (i:=0) zM8.nd rfl (Or.inl rfl))) (fun _ _ _ _ _=>zn5) (fun _ _ _ _ _=>(za7 Gbm hbm rfl T.a6 T.a7 T.a5 .nil zb4 (za0 (pv 0) za2)))) za2))))),?_⟩
   have hvl:=V0.len
   refine⟨_,rfl,a,_,rfl,.inr (SqT.of ha),rfl,_,rfl,?_⟩
   unfold zP9 at q
   refine ite2 (fun h1=>?_) (fun h1=>?_)
   . have e:xs=[]:=by
       rw[List.length_map] at h1
       have h1':((xs.length:Nat):Int)=0:=by simpa using h1
       exact List.eq_nil_of_length_eq_zero (by omega)
     rw[if_pos e] at q
     exact q _ (Same.refl _)
   . have e:xs≠[]:=fun e=>h1 (by rw[e];rfl)
     rw[if_neg e] at q
     refine⟨rfl,_,rfl,a,rfl,⟨_,SqT.of ha⟩,fun D hD=>?_⟩
     refine zX8 (f:=fun v=>match v with | .int z=>V.str (zd6 z) | v=>v) (SqT.of ha) hD (by rw[List.length_map];exact zy8 (by omega)) (fun x acc R hx h=>?_) ?_
     . obtain ⟨z,hz,rfl⟩:=List.mem_map.mp hx
       obtain ⟨z1,z2⟩:=V0.on z hz
       exact⟨_,rfl,z,rfl,by omega,h⟩
     . have em:(xs.map V.int).map (fun v=>match v with | .int z=>V.str (zd6 z) | v=>v)=(xs.map zd6).map V.str:=by
         rw[List.map_map,List.map_map];rfl
       refine⟨_,D,xs.map zd6,rfl,rfl,SqL.of (by rw[za3,em]),?_,q _ (Same.upd hD)⟩
       have:=zD1 V0.on hn
       have e1:(Str.ofString " ").length=1:=by decide
       rw[e1,List.length_map]
       omega
theorem ok_w_text (T:Txt K mg t):FnOk P w K mg base CX0 2 t.b5 t.cr ["_law_scale","_law_spots"] (zU9 K t):=by
 have Gbm:FnOk P w K mg base CX0 1 t.bv t.bW ["_law_place"] (zJ7 K t):=zQ0 T
 refine T.e4.ok zE2 (fun vs H Q E h=>?_) (fun cdv A outer s H vs Q E hr h=>?_)
 . obtain ⟨sc,a,n,r,lim,hs,xs,rfl,⟨h,ok,hsc,hh⟩,ha,V0,q⟩:=h
   rfl
 . obtain ⟨sc,a,n,r,lim,hs,xs,rfl,⟨h,ok,hsc,hh⟩,ha,V0,q⟩:=h
   have hbm:Room 1 _:=hr.mono (by decide)
   refine⟨_,(za4 (zb7 (i:=2) zE2.nd rfl (Or.inl rfl) (zb0 zd3 (zb0 zd3 (zb0 zd3 (zb0 zd3 (zb0 zd3 zc2 (zd9 zf7 rfl T.aw PyProof.Rows.boot_str (za0 (zc6 zd4 (pv 0) za1 (fun _ _=>rfl)) za2))) zc2) (zd9 zf7 rfl T.aw PyProof.Rows.boot_str (za0 (zc6 zd4 (pv 0) za1 (fun _ _=>rfl)) za2))) zc2) (zd9 zf7 rfl T.aw PyProof.Rows.boot_str (za0 (zc6 zd4 (pv 0) za1 (fun _ _=>rfl)) za2))))
     (za4 (zn9 PassesOwn.never rfl (zo2 rfl T.am (za0 (zc3 zc1 rfl T.aa PySem.boot_len (za0 (pv 1) za2)) za2)) (zc7 (i:=3) zE2.nd rfl (Or.inl rfl)) (za6 (zb7 (i:=2) zE2.nd rfl (Or.inl rfl) (zb0 zd3 (zb0 zd3 (zb0 zd3 (zb0 zd3 (pv 2) zc2) (zd9 zf7 rfl T.aw PyProof.Rows.boot_str (za0 (zc6 zd4 (zc6 zd4 (pv 0) za1 (fun _ _=>rfl)) (pv 3) (fun _ _=>rfl)) za2))) zc2) (za7 Gbm hbm rfl T.a6 T.a7 T.a5 .nil zb4 (za0 (zc6 zf4 (pv 1) (pv 3) (fun _ _=>rfl)) za2))))))
     (za6 (zb8 (pv 2))))),?_⟩
   have hw5:=ok.w
   have hvl:=V0.len
   have hsl:sizeLine=16777216:=by decide
   have e1:(Str.ofString "notches ").length=8:=by decide
   have e2:(Str.ofString "\nroom ").length=6:=by decide
   have e3:(Str.ofString "\nlimit ").length=7:=by decide
   have e4:(Str.ofString "\nweight ").length=8:=by decide
   have e5:(Str.ofString " ").length=1:=by decide
   have i1:=zw6 (n:=n) (by have:=ok.n1;omega) (by have:=ok.n2;omega)
   have i2:=zw6 (n:=r) (by have:=ok.r1;omega) (by have:=ok.r2;omega)
   have i3:=zw6 (n:=lim) ok.l1 (by have:=ok.l2;omega)
   have o1:=ok.n1;have o2:=ok.n2;have o3:=ok.r1;have o4:=ok.r2;have o5:=ok.l1;have o6:=ok.l2
   refine⟨_,rfl,sc,_,_,_,rfl,rfl,hsc,rfl,n,rfl,zh2 (by omega),_,_,rfl,rfl,(by show (Str.ofString "notches ").length+(sI n).length<=sizeLine;omega),_,_,rfl,rfl,(by show (Str.ofString "notches "++sI n).length+(Str.ofString "\nroom ").length<=sizeLine;rw[zd5];omega),?_⟩
   refine⟨_,rfl,sc,_,_,_,rfl,rfl,hsc,rfl,r,rfl,zh2 (by omega),_,_,rfl,rfl,(by show ((Str.ofString "notches "++sI n)++Str.ofString "\nroom ").length+(sI r).length<=sizeLine;rw[zd5,zd5];omega),_,_,rfl,rfl,(by show (((Str.ofString "notches "++sI n)++Str.ofString "\nroom ")++sI r).length+(Str.ofString "\nlimit ").length<=sizeLine;rw[zd5,zd5,zd5];omega),?_⟩
   refine⟨_,rfl,sc,_,_,_,rfl,rfl,hsc,rfl,lim,rfl,zh2 (by omega),_,_,rfl,rfl,(by show ((((Str.ofString "notches "++sI n)++Str.ofString "\nroom ")++sI r)++Str.ofString "\nlimit ").length+(sI lim).length<=sizeLine;rw[zd5,zd5,zd5,zd5];omega),?_⟩
   have hd:=due0 n r lim
   refine⟨_,rfl,a,_,rfl,.inr (SqT.of ha),?_⟩
   rw[List.length_map]
   refine⟨_,rfl,by omega,by omega,zk2 (n:=((xs.length:Nat):Int).toNat) (fun i σ H'=>∃ v9,σ=[some (.ref sc),some (.ref a),some (.str (Txt.join (Str.ofString "\n") (zq3 n r lim++(List.zipWith wRow hs xs).take i))),v9]/\H'=H) ⟨none,?_,rfl⟩ ?_ ?_⟩
   . rw[List.take_zero,List.append_nil,<-hd]
     rfl
   . rintro i σ H' hi ⟨v9,rfl,rfl⟩
     have hix:i<xs.length:=by simpa using hi
     have hih:i<hs.length:=by omega
     have eh:hs[i]?=some hs[i]:=List.getElem?_eq_getElem hih
     have ex:xs[i]?=some xs[i]:=List.getElem?_eq_getElem hix
     have e0:(0:Int)+(i:Int)=(i:Int):=by omega
     have ah:atI (hs.map V.int) (0+(i:Int))=some (.int hs[i]):=by rw[e0];exact zN4 eh
     have ax:atI (xs.map V.int) (0+(i:Int))=some (.int xs[i]):=by rw[e0];exact zN4 ex
     obtain ⟨u1,u2⟩:=ok.h hs[i] (List.mem_of_getElem? eh)
     obtain ⟨x1,x2⟩:=V0.on xs[i] (List.mem_of_getElem? ex)
     have j1:=zw6 (n:=hs[i]) (by omega) (by omega)
     have j2:=zH0 x1 x2 o2
     have jz:(Txt.join (Str.ofString "\n") (zq3 n r lim++(List.zipWith wRow hs xs).take i)).length<=400:=by
       refine zU7 (fun w hw=>zT7 ok V0 w ?_) ?_
       . rcases List.mem_append.mp hw with hw | hw
         . exact List.mem_append_left _ hw
         . exact List.mem_append_right _ (List.mem_of_mem_take hw)
       . rw[List.length_append,List.length_take,List.length_zipWith]
         show 3+_<=8
         omega
     have ez:((((Txt.join (Str.ofString "\n") (zq3 n r lim++(List.zipWith wRow hs xs).take i)++Str.ofString "\nweight ")++sI hs[i])++Str.ofString " ")++zd6 xs[i])=Txt.join (Str.ofString "\n") (zq3 n r lim++(List.zipWith wRow hs xs).take (i+1)):=by
       rw[due1,<-join_snoc _ (by unfold zq3;simp),List.take_succ,List.getElem?_zipWith,eh,ex,List.append_assoc]
       rfl
     revert jz ez
     generalize Txt.join (Str.ofString "\n") (zq3 n r lim++(List.zipWith wRow hs xs).take i)=z
     generalize Txt.join (Str.ofString "\n") (zq3 n r lim++(List.zipWith wRow hs xs).take (i+1))=z'
     intro jz ez
     refine⟨_,rfl,_,_,rfl,rfl,(by omega),?_⟩
     refine⟨_,rfl,sc,_,_,_,rfl,rfl,hsc,rfl,_,rfl,h,_,_,_,rfl,rfl,hh,ah,hs[i],rfl,zh2 (by omega),_,_,rfl,rfl,(by show (z++Str.ofString "\nweight ").length+(sI hs[i]).length<=sizeLine;rw[zd5];omega),?_⟩
     refine⟨_,_,rfl,rfl,(by show ((z++Str.ofString "\nweight ")++sI hs[i]).length+(Str.ofString " ").length<=sizeLine;rw[zd5,zd5];omega),?_⟩
     refine⟨_,rfl,_,rfl,a,_,_,_,rfl,rfl,SqT.of ha,ax,xs[i],rfl,(by omega),_,_,rfl,rfl,(by show (((z++Str.ofString "\nweight ")++sI hs[i])++Str.ofString " ").length+(zd6 xs[i]).length<=sizeLine;rw[zd5,zd5,zd5];omega),?_⟩
     subst ez
     exact⟨_,rfl,rfl⟩
   . rintro σ H' ⟨v9,rfl,rfl⟩
     have et:(List.zipWith wRow hs xs).take ((xs.length:Nat):Int).toNat=List.zipWith wRow hs xs:=by
       refine List.take_of_length_le ?_
       rw[List.length_zipWith,Int.toNat_natCast]
       omega
     rw[et]
     exact⟨_,rfl,q⟩
end
end Bt
namespace Bt
open PySem L2
section
variable {P:Program} {w:World} {K:W.Frag} {mg:Str->Option Value} {base:Heap} {t:Adr}
theorem mvs_eq (n:Int):(sI n++Str.ofString " moves")++Str.ofString ": " = sI n++Str.ofString " moves: ":=by
 refine zq0 ?_
 have e:(Str.ofString " moves: ").cps.toList=(Str.ofString " moves").cps.toList++(Str.ofString ": ").cps.toList:=by decide
 rw[zh7,zh7,zh7,e,List.append_assoc]
theorem ok_w_moves_text (T:Txt K mg t):FnOk P w K mg base CX0 3 t.aP t.bf ["_law_scale","_law_now"] (zA6 K t):=by
 have Gbn:FnOk P w K mg base CX0 2 t.bE t.b3 ["_law_scale","_law_spots","_law_move"] (zM2 K t):=zU6 T
 have Gbo:FnOk P w K mg base CX0 2 t.aw t.aH ["_law_move"] (zq5 K t):=zu9 T
 refine T.cH.ok zn8 (fun vs H Q E h=>?_) (fun cdv A outer s H vs Q E hr h=>?_)
 . obtain ⟨sc,a,n,r,lim,hs,xs,rfl,S,ha,V0,q⟩:=h
   rfl
 . obtain ⟨sc,a,n,r,lim,hs,xs,rfl,S,ha,V0,q⟩:=h
   have hbn:Room 2 _:=hr.mono (by decide)
   have hbo:Room 2 _:=hr.mono (by decide)
   refine⟨_,(za4 (zb7 (i:=2) zn8.nd rfl (Or.inl rfl) (ze6 za2))
     (za4 (zn9 PassesOwn.never rfl (zo2 rfl T.am (za0 (zc3 zc1 rfl T.aa PySem.boot_len (za0 (pv 1) za2)) za2)) (zc7 (i:=3) zn8.nd rfl (Or.inl rfl)) (za6 (zn9 PassesOwn.never rfl (zD4 rfl T.am (za0 (zn1 zh8 (zc6 zd4 (pv 0) za1 (fun _ _=>rfl))) (za0 (zb0 ze8 (zc6 zd4 (pv 0) za1 (fun _ _=>rfl)) za1) za2))) (zc7 (i:=4) zn8.nd rfl (Or.inl rfl)) (za6 (zd1 (zb3 zg3 (za7 Gbn hbn rfl T.cc T.cd T.cb .nil zb4 (za0 (pv 0) (za0 (pv 1) (za0 (zp9 (za0 (zb0 ze8 (pv 3) za1) (za0 (zc6 zf4 (pv 1) (pv 3) (fun _ _=>rfl)) (za0 (pv 4) za2)))) za2)))) zc2 (zb9 _)) (za6 (ze7 (zl7 PySem.F.plainAttrs_list PySem.F.slot_list_append PySem.F.type_list_append zk3 (pv 2) (za0 (za7 Gbo hbo rfl T.aF T.aG T.aE .nil zb4 (za0 (zp9 (za0 (zb0 ze8 (pv 3) za1) (za0 (zc6 zf4 (pv 1) (pv 3) (fun _ _=>rfl)) (za0 (pv 4) za2)))) za2)) za2)))) zb5)))))
     (za4 (zd1 (zb3 (ya3 (Nat.lt_of_succ_lt (yb9 hr))) (pv 2) (ze6 za2) (zb9 _)) (za6 (zb8 zc2)) zb5)
     (za6 (zb8 (zb0 zd3 (zb0 zd3 (zd9 zf7 rfl T.aw PyProof.Rows.boot_str (za0 (zc3 zc1 rfl T.aa PySem.boot_len (za0 (pv 2) za2)) za2)) zc2) (zl7 PySem.F.plainAttrs_str PySem.F.slot_str_join PySem.F.type_str_join zH9 zc2 (za0 (pv 2) za2)))))))),?_⟩
   obtain ⟨h,ok,hsc,hh⟩:=id S
   have hw:=ok.w
   have hvl:=V0.len
   have n1:=ok.n1
   have n2:=ok.n2
   have hwide:wide n<=9:=by unfold wide;omega
   have e1:(Str.ofString " moves: ").length=8:=by decide
   have e3:(Str.ofString ", ").length=2:=by decide
   have hsl:sizeLine=16777216:=by decide
   refine⟨Nat.zero_le _,fun du fdu=>?_⟩
   refine⟨_,rfl,a,_,rfl,.inr (SqT.of (Same.upd fdu _ _ ha)),?_⟩
   rw[List.length_map]
   refine⟨_,rfl,by omega,by omega,zk2 (n:=((xs.length:Nat):Int).toNat) (fun i σ H'=>∃ v3 v4,σ=[some (.ref sc),some (.ref a),some (.ref du),v3,v4]/\Same H H'/\H' du=some (.lst (((zp7 n r hs lim xs i).map (mvZ xs)).map V.str))) ⟨none,none,rfl,Same.upd fdu,za3⟩ ?_ ?_⟩
   . rintro i σ H5 hi ⟨v3,v4,rfl,s5,hdu5⟩
     have hix:i<xs.length:=by simpa using hi
     have e0:(0:Int)+(i:Int)=(i:Int):=by omega
     have ax:atI (xs.map V.int) (0+(i:Int))=some (.int (xs.getD i 0)):=by rw[e0];exact zf3 (by omega) (by omega)
     have on:=V0.on (xs.getD i 0) (zj1 hix)
     have hrl:=zt6 n r hs lim xs i
     have hmul:i*wide n<=5*9:=Nat.mul_le_mul (by omega) hwide
     refine⟨_,rfl,sc,_,_,_,rfl,rfl,s5.seq hsc,rfl,_,rfl,_,rfl,sc,_,_,_,rfl,rfl,s5.seq hsc,rfl,_,_,rfl,rfl,-n,n+1,rfl,⟨by omega,by omega,by omega,by omega⟩,zk2 (lo:=-n) (n:=(n+1 - -n).toNat) (fun j σ H'=>∃ v4,σ=[some (.ref sc),some (.ref a),some (.ref du),some (.int (0+(i:Int))),v4]/\Same H H'/\H' du=some (.lst (((zp7 n r hs lim xs i++(zj4 n r hs lim xs i j).map fun p=>(i,p)).map (mvZ xs)).map V.str))) ⟨v4,rfl,s5,by rw[hdu5];simp[zj4,grid]⟩ ?_ ?_⟩
     . rintro j σ H6 hj ⟨v4,rfl,s6,hdu6⟩
       have hjp:=zE8 n r hs lim xs i j
       have ha6:=s6 _ _ ha
       refine⟨_,rfl,_,rfl,_,rfl,_,_,rfl,rfl,_,rfl,_,rfl,a,_,_,_,rfl,rfl,SqT.of ha6,ax,_,rfl,(by show 3<=sizeLine;decide),fun l7 f7=>?_⟩
       have s7:Same H6 (upd H6 l7 (.tup [.int (0+(i:Int)+1),.int (xs.getD i 0),.int (-n+(j:Int))])):=Same.upd f7
       have h7:(upd H6 l7 (.tup [.int (0+(i:Int)+1),.int (xs.getD i 0),.int (-n+(j:Int))])) l7=some (.tup [.int ((i:Int)+1),.int (xs.getD i 0),.int (-n+(j:Int))]):=by rw[za3,e0]
       dsimp only
       revert s7 h7
       generalize upd H6 l7 (.tup [.int (0+(i:Int)+1),.int (xs.getD i 0),.int (-n+(j:Int))])=H7
       intro s7 h7
       have s07:=s6.trans s7
       refine⟨sc,a,l7,n,r,lim,(i:Int)+1,xs.getD i 0,-n+(j:Int),hs,xs,rfl,S.same s07,s07 _ _ ha,h7,⟨hvl.symm,by omega,ok.h⟩,rfl,_,rfl,?_⟩
       rw[word_eq (zO1 _ _ _ _ _ _ _ _)]
       refine ite2 (fun hL=>?_) (fun hL=>?_)
       . obtain ⟨i',ei,_,L⟩:=zZ9 (of_decide_eq_true hL)
         obtain rfl:i'=i:=by omega
         refine⟨_,rfl,.inl ⟨rfl,_,SqL.of (s7 _ _ hdu6)⟩,_,rfl,_,_,rfl,rfl,_,rfl,_,rfl,a,_,_,_,rfl,rfl,SqT.of (s07 _ _ ha),ax,_,rfl,(by show 3<=sizeLine;decide),fun l8 f8=>?_⟩
         have s8:Same H7 (upd H7 l8 (.tup [.int (0+(i':Int)+1),.int (xs.getD i' 0),.int (-n+(j:Int))])):=Same.upd f8
         have h8:(upd H7 l8 (.tup [.int (0+(i':Int)+1),.int (xs.getD i' 0),.int (-n+(j:Int))])) l8=some (.tup [.int ((i':Int)+1),.int (xs.getD i' 0),.int (-n+(j:Int))]):=by rw[za3,e0]
         dsimp only
         revert s8 h8
         generalize upd H7 l8 (.tup [.int (0+(i':Int)+1),.int (xs.getD i' 0),.int (-n+(j:Int))])=H8
         intro s8 h8
         have hdu8:=s8 _ _ (s7 _ _ hdu6)
         have on2:=L.on
         refine⟨l8,(i':Int)+1,xs.getD i' 0,-n+(j:Int),rfl,h8,⟨⟨by omega,by omega⟩,⟨by omega,by omega⟩,by omega,by omega⟩,du,_,_,rfl,rfl,hdu8,zd0 (by rw[List.length_map,List.length_map,List.length_append,List.length_map];omega),_,rfl,(s07.trans s8).put fdu,?_⟩
         rw[za3,zz6,if_pos L]
         simp[mvZ]
       . refine⟨_,rfl,s07,?_⟩
         rw[zz6,if_neg (fun L=>hL (decide_eq_true (ref_lets L))),List.append_nil]
         exact s7 _ _ hdu6
     . rintro σ H6 ⟨v4,rfl,s6,hdu6⟩
       refine⟨_,v4,rfl,s6,?_⟩
       rw[zz7]
       exact hdu6
   . rintro σ H5 ⟨v3,v4,rfl,s5,hdu5⟩
     rw[Int.toNat_natCast] at hdu5
     have hrl:=zt6 n r hs lim xs xs.length
     have hmul:xs.length*wide n<=5*9:=Nat.mul_le_mul (by omega) hwide
     have hb:∀ y∈zp7 n r hs lim xs xs.length,(mvZ xs y).length<=62:=fun y hy=>by
       obtain ⟨y1,L⟩:=zE9.mp hy
       have on1:=L.on
       have on2:=V0.on (xs.getD y.1 0) (zj1 y1)
       exact zy9 (by omega) (by omega) (by omega)
     unfold zZ7 at q
     generalize zp7 n r hs lim xs xs.length=ms at *
     refine⟨_,rfl,Nat.zero_le _,fun l2 f2=>?_⟩
     have s2:Same H5 (upd H5 l2 (.lst [])):=Same.upd f2
     refine⟨du,l2,_,rfl,rfl,SqL.of (s2 _ _ hdu5),SqL.of za3,_,rfl,?_⟩
     have hdu6:=s2 _ _ hdu5
     have s02:=s5.trans s2
     revert s02 hdu6
     clear s2
     generalize upd H5 l2 (.lst [])=H6
     intro hdu6 s02
     cases ms with
     | nil=>exact iteT (q H6 s02)
     | cons m ms =>
       rw[if_neg (fun z=>nomatch z),mvs_eq] at q
       have wl:∀ w∈(m::ms).map (mvZ xs),w.length<=62:=fun w hw=>by
         obtain ⟨y,hy,rfl⟩:=List.mem_map.mp hw
         exact hb y hy
       have sl:=zQ2 wl
       rw[List.length_map] at sl
       have l1:=zw2 (n:=((m::ms).length:Int)) (by omega) (by omega)
       have jl:(Txt.join (Str.ofString ", ") ((m::ms).map (mvZ xs))).length<=62*(m::ms).length+2*(m::ms).length:=by
         have h:=size_glued (Str.ofString ", ") ((m::ms).map (mvZ xs))
         rw[e3,List.length_map] at h
         show (Builtin.Str.glued _ _).length<=_
         omega
       refine iteF ⟨_,rfl,du,_,rfl,.inl (SqL.of hdu6),?_⟩
       rw[List.length_map,List.length_map]
       exact⟨((m::ms).length:Int),rfl,zh2 (by omega),_,_,rfl,rfl,(by show (sI ((m::ms).length:Int)).length+(Str.ofString " moves: ").length<=sizeLine;omega),rfl,_,rfl,_,du,(m::ms).map (mvZ xs),rfl,rfl,SqL.of hdu6,by rw[e3,List.length_map];omega,_,_,rfl,rfl,(by show (sI ((m::ms).length:Int)++Str.ofString " moves: ").length+(Txt.join (Str.ofString ", ") ((m::ms).map (mvZ xs))).length<=sizeLine;rw[zd5];omega),q H6 s02⟩
theorem ok_w_moved (T:Txt K mg t):FnOk P w K mg base CX0 3 t.bL t.ch ["_law_scale","_law_now","_law_made","_law_move"] (zQ8 K t):=by
 have Gbn:FnOk P w K mg base CX0 2 t.bE t.b3 ["_law_scale","_law_spots","_law_move"] (zM2 K t):=zU6 T
 have Gbp:FnOk P w K mg base CX0 2 t.bF t.b7 ["_law_hefts","_law_spots"] (zM3 K t):=zV2 T
 have Gbo:FnOk P w K mg base CX0 2 t.aw t.aH ["_law_move"] (zq5 K t):=zu9 T
 refine T.eA.ok zG8 (fun vs H Q E h=>?_) (fun cdv A outer s H vs Q E hr h=>?_)
 . obtain ⟨sc,nw,md,mv,H0,n,r,lim,k,u,w,hs,s,c,yd,es,rfl,I,h3,hmv,hd,q⟩:=h
   rfl
 . obtain ⟨sc,nw,md,mv,H0,n,r,lim,k,u,w,hs,s,c,yd,es,rfl,I,h3,hmv,hd,q⟩:=h
   have hbn:Room 2 _:=hr.mono (by decide)
   have hbp:Room 2 _:=hr.mono (by decide)
   have hbo:Room 2 _:=hr.mono (by decide)
   refine⟨_,(za4 (zb7 (i:=4) zG8.nd rfl (Or.inl rfl) (za7 Gbn hbn rfl T.cc T.cd T.cb .nil zb4 (za0 (pv 0) (za0 (pv 1) (za0 (pv 3) za2)))))
     (za4 (zd1 (zb3 zr2 (pv 4) zc2 (zb9 _)) (za6 (zb8 (ze6 (za0 (zb0 zd3 zc2 (za7 Gbo hbo rfl T.aF T.aG T.aE .nil zb4 (za0 (pv 3) za2))) (za0 (pv 1) (za0 (zb0 zd3 zc2 (pv 4)) za2)))))) zb5)
     (za4 (ze7 (zl7 PySem.F.plainAttrs_list PySem.F.slot_list_append PySem.F.type_list_append zk3 (pv 2) (za0 (pv 3) za2)))
     (za4 (zb7 (i:=5) zG8.nd rfl (Or.inl rfl) (zb0 zv4 (zb0 zv4 (zi4 zB1 (pv 1) zn6 (zl1 (zb0 zh1 (zc6 zf4 (pv 3) za1 (fun _ _=>rfl)) za1))) (zp9 (za0 (zc6 zf4 (pv 3) za1 (fun _ _=>rfl)) za2))) (zi4 zB1 (pv 1) (zl1 (zc6 zf4 (pv 3) za1 (fun _ _=>rfl))) zn6)))
     (za6 (zb8 (ze6 (za0 (zb0 zd3 zc2 (za7 Gbo hbo rfl T.aF T.aG T.aE .nil zb4 (za0 (pv 3) za2))) (za0 (pv 5) (za0 (za7 Gbp hbp rfl T.cf T.cg T.ce .nil zb4 (za0 (zc6 zd4 (pv 0) za1 (fun _ _=>rfl)) (za0 (pv 5) za2))) za2)))))))))),?_⟩
   obtain ⟨h,ok,hsc0,hh0⟩:=id I.sc
   have hw:=ok.w
   have Vc:=I.vc
   have hcl:=Vc.len
   have hyl:yd.length=es.length:=by rw[zr8 I.td,zF0]
   have e6:(Str.ofString "move ").length=5:=by decide
   have e7:(Str.ofString "refused: ").length=9:=by decide
   have hsl:sizeLine=16777216:=by decide
   have hz:=zy9 (k:=k) (u:=u) (q:=w) (by have:=hd.1;omega) (by have:=hd.2.1;omega) (by have:=hd.2.2;omega)
   refine⟨_,rfl,_,rfl,_,rfl,sc,nw,mv,n,r,lim,k,u,w,hs,c,rfl,I.sc.same I.sm,I.nw,hmv,⟨by omega,by omega,ok.h⟩,_,rfl,rfl,_,rfl,?_⟩
   have hR6:=zO1 n r lim hs c k u w
   have wl:=wordN_len hR6
   refine ite2 (fun h1=>?_) (fun h1=>?_)
   . obtain ⟨j,hj⟩:∃ j,refN n r lim hs c k u w=j+1:=by
       cases e:refN n r lim hs c k u w with
       | zero=>rw[e] at h1;exact absurd h1 (by decide)
       | succ j=>exact⟨j,rfl⟩
     have hw9:zF7 (refN n r lim hs c k u w)=zQ1 j:=by rw[hj];exact (if_neg (by omega)).symm
     refine⟨_,rfl,mv,k,u,w,rfl,hmv,⟨⟨by have:=hd.1;omega,by have:=hd.1;omega⟩,⟨by have:=hd.2.1;omega,by have:=hd.2.1;omega⟩,by have:=hd.2.2;omega,by have:=hd.2.2;omega⟩,_,_,rfl,rfl,(by omega),_,rfl,_,rfl,_,_,rfl,rfl,(by omega),(by show 3<=sizeLine;decide),fun l9 f9=>?_⟩
     exact q l9 nw c yd es (.mv k u w) _ _ (fun b o e _=>Same.upd f9 b o e) (I.same (Same.upd f9)) (.inr ⟨j,.mv hj,rfl,rfl,rfl⟩) hd (by omega) (by rw[za3,hw9];rfl)
   . have hR:refN n r lim hs c k u w=0:=by
       cases e:refN n r lim hs c k u w with
       | zero=>rfl
       | succ j=>rw[e] at h1;exact absurd (by rw[ye1 (by omega)];rfl) h1
     obtain ⟨i,rfl,rfl,L⟩:=zZ9 hR
     have e1:(i:Int)+1-1=(i:Int):=by omega
     have hlt:=L.lt
     refine⟨_,rfl,.inl ⟨rfl,_,SqL.of I.md⟩,_,rfl,md,_,_,rfl,rfl,I.md,zd0 (by omega),?_⟩
     have k3:∀ {a:Addr} {vs:List V},H a=some (.tup vs)->(upd H md (.lst (yd++[.ref mv]))) a=some (.tup vs):=fun e=>by
       rw[za8 (fun z=>by rw[z,I.md] at e;cases e)]
       exact e
     have s1:zr5 md H (upd H md (.lst (yd++[.ref mv]))):=fun b o e hb=>by rw[za8 hb];exact e
     have hmv1:=k3 hmv
     have hnw1:=k3 I.nw
     have hmd1:(upd H md (.lst (yd++[.ref mv]))) md=some (.lst (yd++[.ref mv])):=za3
     have td1:Tups (upd H md (.lst (yd++[.ref mv]))) (yd++[.ref mv]) (zu7 ((c,i,w)::es)):=by
       rw[zu8]
       exact zL1 (zx1 I.md (fun _ z=>nomatch z) I.td) hmv1
     have sm1:Same H0 (upd H md (.lst (yd++[.ref mv]))):=fun b o e=>s1 b o (I.sm _ _ e) (zc0 e I.fd)
     revert s1 hmv1 hnw1 hmd1 td1 sm1
     generalize upd H md (.lst (yd++[.ref mv]))=H1
     intro s1 hmv1 hnw1 hmd1 td1 sm1
     refine⟨_,rfl,_,rfl,mv,_,_,_,rfl,rfl,SqT.of hmv1,rfl,_,_,rfl,rfl,_,rfl,nw,_,rfl,SqT.of hnw1,?_,fun l1 f1=>?_⟩
     . rw[e1,HT.sIx_none,HT.sIx_nat,List.length_map,Nat.min_eq_left (by omega)]
       omega
     rw[e1] at *
     have sa:Same H1 (upd H1 l1 (.tup (cutV (c.map V.int) none (some (i:Int))))):=Same.upd f1
     have ha1:(upd H1 l1 (.tup (cutV (c.map V.int) none (some (i:Int))))) l1=some (.tup (cutV (c.map V.int) none (some (i:Int)))):=za3
     revert sa ha1
     generalize upd H1 l1 (.tup (cutV (c.map V.int) none (some (i:Int))))=Ha
     intro sa ha1
     refine⟨_,rfl,mv,_,_,_,rfl,rfl,SqT.of (sa _ _ hmv1),rfl,(by show 1<=sizeLine;decide),fun l2 f2=>?_⟩
     have sb:Same Ha (upd Ha l2 (.tup [.int (w)])):=Same.upd f2
     have hb2:(upd Ha l2 (.tup [.int (w)])) l2=some (.tup [.int (w)]):=za3
     revert sb hb2
     generalize upd Ha l2 (.tup [.int (w)])=Hb
     intro sb hb2
     have len1:=zl6 (c.map V.int) none (some (i:Int))
     rw[List.length_map] at len1
     refine⟨l1,l2,_,_,rfl,rfl,sb _ _ ha1,hb2,Nat.le_of_lt (zd0 (by show _+1<=_;omega)),fun l3 Hc sc' hc3=>?_⟩
     have s4c:=sa.trans (sb.trans sc')
     refine⟨_,rfl,_,rfl,mv,_,_,_,rfl,rfl,SqT.of (s4c _ _ hmv1),rfl,_,rfl,nw,_,rfl,SqT.of (s4c _ _ hnw1),?_,fun l4 f4=>?_⟩
     . rw[show ((i:Int)+1)=((i+1:Nat):Int) by omega,HT.sIx_nat,List.length_map]
       omega
     have sd:Same Hc (upd Hc l4 (.tup (cutV (c.map V.int) (some ((i:Int)+1)) none))):=Same.upd f4
     have hd4:(upd Hc l4 (.tup (cutV (c.map V.int) (some ((i:Int)+1)) none))) l4=some (.tup (cutV (c.map V.int) (some ((i:Int)+1)) none)):=za3
     revert sd hd4
     generalize upd Hc l4 (.tup (cutV (c.map V.int) (some ((i:Int)+1)) none))=Hd
     intro sd hd4
     have e5:=zO0 c i (w) (by omega)
     refine⟨l3,l4,_,_,rfl,rfl,sd _ _ hc3,hd4,?_,fun l5 He se he=>?_⟩
     . rw[<-List.length_append,e5,List.length_map,List.length_set]
       exact Nat.le_of_lt (zd0 (by omega))
     rw[e5] at he
     have s_e:=s4c.trans (sd.trans se)
     have Vn:ze0 n r hs.length (c.set i w):=L.valid Vc
     have tb:=(zJ1 ok Vn).1
     refine⟨_,rfl,mv,(i:Int)+1,c.getD i 0,w,rfl,s_e _ _ hmv1,⟨⟨by have:=hd.1;omega,by have:=hd.1;omega⟩,⟨by have:=hd.2.1;omega,by have:=hd.2.1;omega⟩,by have:=hd.2.2;omega,by have:=hd.2.2;omega⟩,_,_,rfl,rfl,(by omega),_,rfl,_,rfl,sc,_,_,_,rfl,rfl,(sm1.trans s_e).seq hsc0,rfl,_,rfl,h,l5,n,r,lim,hs,c.set i w,rfl,(sm1.trans s_e).seq hh0,he,ok,Vn,fun Hf sf=>⟨(by show 3<=sizeLine;decide),fun l9 f9=>?_⟩⟩
     have s9:=s_e.trans (sf.updT f9 (o:=.lst [.str (Str.ofString "move "++zq1 ((i:Int)+1) (c.getD i 0) w),.ref l5,.str (zN0 hs (c.set i w))]))
     have h59:=(sf.updT f9 (o:=.lst [.str (Str.ofString "move "++zq1 ((i:Int)+1) (c.getD i 0) w),.ref l5,.str (zN0 hs (c.set i w))])) _ _ he
     exact q l9 l5 (c.set i w) (yd++[.ref mv]) ((c,i,w)::es) (.mv ((i:Int)+1) (c.getD i 0) w) _ _ (fun b o e hb=>s9 _ _ (s1 b o e hb)) ⟨sm1.trans s9,I.fd,I.sc,h59,s9 _ _ hmd1,s9.tups td1,⟨rfl,L,I.ch⟩,I.vs⟩ (.inl (.mv hR L)) hd (by rw[List.length_append,List.length_singleton];omega) (by rw[za3];rfl)
theorem ok_w_back (T:Txt K mg t):FnOk P w K mg base CX0 3 t.b9 t.cu ["_law_now","_law_made"] (zV0 K t):=by
 have Gbo:FnOk P w K mg base CX0 2 t.aw t.aH ["_law_move"] (zq5 K t):=zu9 T
 refine T.fh.ok zS8 (fun vs H Q E h=>?_) (fun cdv A outer s H vs Q E hr h=>?_)
 . obtain ⟨sc,nw,md,H0,n,r,lim,hs,s,c,yd,es,rfl,I,h3,q⟩:=h
   rfl
 . obtain ⟨sc,nw,md,H0,n,r,lim,hs,s,c,yd,es,rfl,I,h3,q⟩:=h
   have hbo:Room 2 _:=hr.mono (by decide)
   refine⟨_,(za4 (zd1 (zb3 (ya3 (Nat.lt_of_succ_lt (yb9 hr))) (pv 1) (ze6 za2) (zb9 _)) (za6 (zb8 (ze6 (za0 zc2 (za0 (pv 0) (za0 zc2 za2)))))) zb5)
     (za4 (zb7 (i:=2) zS8.nd rfl (Or.inl rfl) (yf1 PySem.F.plainAttrs_list PySem.F.slot_list_pop PySem.F.type_list_pop yf2 (pv 1)))
     (za6 (zb8 (ze6 (za0 zc2 (za0 (zb0 zv4 (zb0 zv4 (zi4 zB1 (pv 0) zn6 (zl1 (zb0 zh1 (zc6 zf4 (pv 2) za1 (fun _ _=>rfl)) za1))) (zp9 (za0 (zc6 zf4 (pv 2) za1 (fun _ _=>rfl)) za2))) (zi4 zB1 (pv 0) (zl1 (zc6 zf4 (pv 2) za1 (fun _ _=>rfl))) zn6)) (za0 (za7 Gbo hbo rfl T.aF T.aG T.aE .nil zb4 (za0 (pv 2) za2)) za2)))))))),?_⟩
   have hyl:yd.length=es.length:=by rw[zr8 I.td,zF0]
   have hw:=(let ⟨_,h,_⟩:=I.sc;h:zh5 n r hs lim).w
   have hn2:=(let ⟨_,h,_⟩:=I.sc;h:zh5 n r hs lim).n2
   refine⟨_,rfl,Nat.zero_le _,fun l0 f0=>?_⟩
   have s0:Same H (upd H l0 (.lst [])):=Same.upd f0
   refine⟨md,l0,yd,rfl,rfl,SqL.of (s0 _ _ I.md),SqL.of za3,_,rfl,?_⟩
   have J:=I.same s0
   have x0:zr5 md H (upd H l0 (.lst [])):=fun b o e _=>s0 b o e
   revert x0 J
   clear s0
   generalize upd H l0 (.lst [])=H1
   intro J x0
   cases es with
   | nil =>
     obtain rfl:yd=[]:=List.eq_nil_of_length_eq_zero hyl
     refine iteT ⟨_,rfl,(by show 3<=sizeLine;decide),fun l9 f9=>?_⟩
     exact q l9 nw c [] [] .back _ _ (fun b o e hb=>Same.upd f9 _ _ (x0 b o e hb)) (J.same (Same.upd f9)) (.inr ⟨6,.back,rfl,rfl,rfl⟩) trivial (Nat.zero_le _) (by rw[za3];rfl)
   | cons e es =>
     obtain ⟨c0,i,w⟩:=e
     obtain ⟨ec,L,ch⟩:=J.ch
     replace ec:c=c0.set i w:=ec
     replace L:Lets n r hs lim c0 i w:=L
     replace ch:Ch n r hs lim s es c0:=ch
     have td:=J.td
     rw[zu8] at td
     obtain ⟨y0,mv,rfl,td0,hmv⟩:=zT8 td
     replace hmv:H1 mv=some (.tup [.int ((i:Int)+1),.int (c0.getD i 0),.int w]):=hmv
     have V0:=ch.valid J.vs
     have hx0:=V0.len
     have hlt:=L.lt
     have hcl:c.length=c0.length:=by rw[ec,List.length_set]
     have on1:=L.on
     have on2:=V0.on (c0.getD i 0) (zj1 hlt)
     have hl1:(y0++[V.ref mv])[(y0++[V.ref mv]).length-1]?=some (.ref mv):=by rw[List.length_append];simp
     have e1:(i:Int)+1-1=(i:Int):=by omega
     refine iteB (by cases y0<;>rfl) ?_
     refine⟨_,rfl,.inl ⟨rfl,_,SqL.of J.md⟩,md,_,_,rfl,rfl,J.md,hl1,?_⟩
     rw[List.dropLast_concat]
     have k3:∀ {a:Addr} {vs:List V},H1 a=some (.tup vs)->(upd H1 md (.lst y0)) a=some (.tup vs):=fun e=>by
       rw[za8 (fun z=>by rw[z,J.md] at e;cases e)]
       exact e
     have s1:zr5 md H (upd H1 md (.lst y0)):=fun b o e hb=>by rw[za8 hb];exact x0 b o e hb
     have hmv1:=k3 hmv
     have hnw1:=k3 J.nw
     have hmd1:(upd H1 md (.lst y0)) md=some (.lst y0):=za3
     have td1:Tups (upd H1 md (.lst y0)) y0 (zu7 es):=zx1 J.md (fun _ z=>nomatch z) td0
     have sm1:Same H0 (upd H1 md (.lst y0)):=fun b o e=>by rw[za8 (zc0 e J.fd)];exact J.sm _ _ e
     revert s1 hmv1 hnw1 hmd1 td1 sm1
     generalize upd H1 md (.lst y0)=H2
     intro s1 hmv1 hnw1 hmd1 td1 sm1
     refine⟨_,rfl,_,rfl,mv,_,_,_,rfl,rfl,SqT.of hmv1,rfl,_,_,rfl,rfl,_,rfl,nw,_,rfl,SqT.of hnw1,?_,fun l1 f1=>?_⟩
     . rw[e1,HT.sIx_none,HT.sIx_nat,List.length_map,Nat.min_eq_left (by omega)]
       omega
     rw[e1] at *
     have sa:Same H2 (upd H2 l1 (.tup (cutV (c.map V.int) none (some (i:Int))))):=Same.upd f1
     have ha1:(upd H2 l1 (.tup (cutV (c.map V.int) none (some (i:Int))))) l1=some (.tup (cutV (c.map V.int) none (some (i:Int)))):=za3
     revert sa ha1
     generalize upd H2 l1 (.tup (cutV (c.map V.int) none (some (i:Int))))=Ha
     intro sa ha1
     refine⟨_,rfl,mv,_,_,_,rfl,rfl,SqT.of (sa _ _ hmv1),rfl,(by show 1<=sizeLine;decide),fun l2 f2=>?_⟩
     have sb:Same Ha (upd Ha l2 (.tup [.int (c0.getD i 0)])):=Same.upd f2
     have hb2:(upd Ha l2 (.tup [.int (c0.getD i 0)])) l2=some (.tup [.int (c0.getD i 0)]):=za3
     revert sb hb2
     generalize upd Ha l2 (.tup [.int (c0.getD i 0)])=Hb
     intro sb hb2
     have len1:=zl6 (c.map V.int) none (some (i:Int))
     rw[List.length_map] at len1
     refine⟨l1,l2,_,_,rfl,rfl,sb _ _ ha1,hb2,Nat.le_of_lt (zd0 (by show _+1<=_;omega)),fun l3 Hc sc' hc3=>?_⟩
     have s4c:=sa.trans (sb.trans sc')
     refine⟨_,rfl,_,rfl,mv,_,_,_,rfl,rfl,SqT.of (s4c _ _ hmv1),rfl,_,rfl,nw,_,rfl,SqT.of (s4c _ _ hnw1),?_,fun l4 f4=>?_⟩
     . rw[show ((i:Int)+1)=((i+1:Nat):Int) by omega,HT.sIx_nat,List.length_map]
       omega
     have sd:Same Hc (upd Hc l4 (.tup (cutV (c.map V.int) (some ((i:Int)+1)) none))):=Same.upd f4
     have hd4:(upd Hc l4 (.tup (cutV (c.map V.int) (some ((i:Int)+1)) none))) l4=some (.tup (cutV (c.map V.int) (some ((i:Int)+1)) none)):=za3
     revert sd hd4
     generalize upd Hc l4 (.tup (cutV (c.map V.int) (some ((i:Int)+1)) none))=Hd
     intro sd hd4
     have e5:=zO0 c i (c0.getD i 0) (by omega)
     refine⟨l3,l4,_,_,rfl,rfl,sd _ _ hc3,hd4,?_,fun l5 He se he=>?_⟩
     . rw[<-List.length_append,e5,List.length_map,List.length_set]
       exact Nat.le_of_lt (zd0 (by omega))
     rw[e5] at he
     have s_e:=s4c.trans (sd.trans se)
     rw[ec,yg6 hlt] at he
     refine⟨_,rfl,mv,(i:Int)+1,c0.getD i 0,w,rfl,s_e _ _ hmv1,⟨⟨by omega,by omega⟩,⟨by omega,by omega⟩,by omega,by omega⟩,(by show 3<=sizeLine;decide),fun l9 f9=>?_⟩
     have s9:=s_e.updT f9 (o:=.lst [.str (Str.ofString "back"),.ref l5,.str (zq1 ((i:Int)+1) (c0.getD i 0) w)])
     have h59:=(Same.upd f9 (o:=.lst [.str (Str.ofString "back"),.ref l5,.str (zq1 ((i:Int)+1) (c0.getD i 0) w)])) _ _ he
     exact q l9 l5 c0 y0 es .back _ _ (fun b o e hb=>s9 _ _ (s1 b o e hb)) ⟨sm1.trans s9,J.fd,J.sc,h59,s9 _ _ hmd1,s9.tups td1,ch,J.vs⟩ (.inl .back) trivial (by rw[List.length_append,List.length_singleton];omega) (by rw[za3];rfl)
theorem ok_w_look (T:Txt K mg t):FnOk P w K mg base CX0 4 t.ca t.cv ["_law_scale","_law_now","_law_cell"] (zV1 K t):=by
 have Gbq:FnOk P w K mg base CX0 3 t.aP t.bf ["_law_scale","_law_now"] (zA6 K t):=ok_w_moves_text T
 have Gbp:FnOk P w K mg base CX0 2 t.bF t.b7 ["_law_hefts","_law_spots"] (zM3 K t):=zV2 T
 have Gbr:FnOk P w K mg base CX0 2 t.b6 t.cs ["_law_spots"] (zU8 K t):=ok_w_goal T
 refine T.fl.ok sc_w_look (fun vs H Q E h=>?_) (fun cdv A outer s H vs Q E hr h=>?_)
 . obtain ⟨sc,nw,md,H0,n,r,lim,cell,hs,s,c,yd,es,rfl,I,q⟩:=h
   rfl
 . obtain ⟨sc,nw,md,H0,n,r,lim,cell,hs,s,c,yd,es,rfl,I,q⟩:=h
   have hbq:Room 3 _:=hr.mono (by decide)
   have hbp:Room 2 _:=hr.mono (by decide)
   have hbr:Room 2 _:=hr.mono (by decide)
   refine⟨_,(za4 (zd1 (zb3 zg3 (zb0 ze5 (pv 2) za1) za1 (zb9 _)) (za6 (zb8 (ze6 (za0 zc2 (za0 (pv 1) (za0 (za7 Gbp hbp rfl T.cf T.cg T.ce .nil zb4 (za0 (zc6 zd4 (pv 0) za1 (fun _ _=>rfl)) (za0 (pv 1) za2))) za2)))))) zb5)
     (za4 (zd1 (zb3 zg3 (zb0 ze5 (pv 2) za1) za1 (zb9 _)) (za6 (zb8 (ze6 (za0 zc2 (za0 (pv 1) (za0 (za7 Gbr hbr rfl T.fa T.fb T.e9 .nil zb4 (za0 (pv 1) za2)) za2)))))) zb5)
     (za6 (zb8 (ze6 (za0 zc2 (za0 (pv 1) (za0 (za7 Gbq hbq rfl T.cJ T.cK T.cI .nil zb4 (za0 (pv 0) (za0 (pv 1) za2))) za2)))))))),?_⟩
   obtain ⟨h,ok,hsc0,hh0⟩:=id I.sc
   have hw:=ok.w
   have hn:=ok.n2
   have Vc:=I.vc
   have fin:∀ (d:Dd) (z:Str),OkD n r lim hs c es d c es z->ddOk d->∀ H1,Same H H1->∀ l9,H1 l9=none->Q (.ref l9) (upd H1 l9 (.lst [.str (zl3 d),.ref nw,.str z])):=fun d z hz hd H1 s1 l9 f9 =>
     q l9 nw c yd es d z _ (fun b o e _=>(s1.updT f9) b o e) (I.same (s1.updT f9)) (.inl hz) hd (by omega) za3
   refine⟨_,rfl,_,_,rfl,rfl,(by show (0:Int)<3;decide),rfl,_,rfl,ite2 (fun h1=>?_) (fun h1=>?_)⟩
   . exact⟨_,rfl,_,rfl,sc,_,_,_,rfl,rfl,I.sm.seq hsc0,rfl,_,rfl,h,nw,n,r,lim,hs,c,rfl,I.sm.seq hh0,I.nw,ok,Vc,fun H1 s1=>⟨(by show 3<=sizeLine;decide),fun l9 f9=>fin .look _ .look trivial H1 s1 l9 f9⟩⟩
   refine⟨_,rfl,_,_,rfl,rfl,(by show (0:Int)<3;decide),rfl,_,rfl,ite2 (fun h2=>?_) (fun h2=>?_)⟩
   . exact⟨_,rfl,_,rfl,nw,n,r,hs.length,c,rfl,I.nw,Vc,hn,hw,fun H1 s1=>⟨(by show 3<=sizeLine;decide),fun l9 f9=>fin .show_ _ .show_ trivial H1 s1 l9 f9⟩⟩
   . exact⟨_,rfl,_,rfl,_,rfl,sc,nw,n,r,lim,hs,c,rfl,I.sc.same I.sm,I.nw,Vc,fun H1 s1=>⟨(by show 3<=sizeLine;decide),fun l9 f9=>fin .moves _ .moves trivial H1 s1 l9 f9⟩⟩
end
end Bt
namespace Bt
open PySem L2
section
variable {P:Program} {w:World} {K:W.Frag} {mg:Str->Option Value} {base:Heap} {t:Adr}
noncomputable def zV3 (K:W.Frag) (t:Adr):Sp:=fun vs H Q _=>∃ (sc nw md:Addr) (H0:Hp) (n r lim cell:Int) (hs s c:List Int) (yd:List V) (es:List (List Int×Nat×Int)),vs=[.ref sc,.ref nw,.ref md,.int cell]/\Lw K H0 H sc nw md n r lim hs s c yd es/\es.length<299/\zQ7 K H0 H sc md n r lim hs s c yd es Q
theorem use_finH9 {R:Hp->Prop} {S:Hp->Prop} {G:Prop} (main:(∀ o,S o->R o)->G) (fin:∀ o,S o->R o):G:=main fin
theorem ok_w_deed (T:Txt K mg t):FnOk P w K mg base CX0 5 t.cb t.cw ["_law_scale","_law_now","_law_made","_law_cell"] (zV3 K t):=by
 have Gbs:FnOk P w K mg base CX0 3 t.b8 t.ct ["_law_scale","_law_spots","_law_cell"] (zU5 K t):=ok_w_pick T
 have Gbt:FnOk P w K mg base CX0 4 t.ca t.cv ["_law_scale","_law_now","_law_cell"] (zV1 K t):=ok_w_look T
 have Gbu:FnOk P w K mg base CX0 3 t.bL t.ch ["_law_scale","_law_now","_law_made","_law_move"] (zQ8 K t):=ok_w_moved T
 have Gbv:FnOk P w K mg base CX0 3 t.b9 t.cu ["_law_now","_law_made"] (zV0 K t):=ok_w_back T
 have Gbw:FnOk P w K mg base CX0 1 t.a9 t.bG ["_law_scale","_law_now","_law_cell"] (zG4 K t):=ok_w_any_move T
 refine T.fp.ok zE5 (fun vs H Q E h=>?_) (fun cdv A outer s H vs Q E hr h=>?_)
 . obtain ⟨sc,nw,md,H0,n,r,lim,cell,hs,s,c,yd,es,rfl,I,h3,q⟩:=h
   rfl
 . obtain ⟨sc,nw,md,H0,n,r,lim,cell,hs,s,c,yd,es,rfl,I,h3,q⟩:=h
   have hbs:Room 3 _:=hr.mono (by decide)
   have hbt:Room 4 _:=hr.mono (by decide)
   have hbu:Room 3 _:=hr.mono (by decide)
   have hbv:Room 3 _:=hr.mono (by decide)
   have hbw:Room 1 _:=hr.mono (by decide)
   refine⟨_,(za4 (zb7 (i:=4) zE5.nd rfl (Or.inl rfl) (zb0 ze5 (pv 3) za1))
     (za4 (zb7 (i:=5) zE5.nd rfl (Or.inl rfl) (zb0 zl5 (zb0 zi3 (pv 3) za1) (zc6 zd4 (ze6 (za0 za1 (za0 za1 za2))) (zb0 ze5 (zb0 zi3 (pv 3) za1) za1) (fun _ _=>rfl))))
     (za4 (zb7 (i:=6) zE5.nd rfl (Or.inl rfl) (za7 Gbs hbs rfl T.ff T.fg T.fe .nil zb4 (za0 (pv 0) (za0 (pv 1) (za0 (pv 5) za2)))))
     (za4 (zd1 (PW.pt (zw3 (zb3 zH2 (pv 4) za1 (zb9 _)) (zv0 (zb3 op_notN (pv 6) ye2 (zb9 _))))) (za6 (zb8 (za7 Gbu hbu rfl T.bJ T.bK T.bI .nil zb4 (za0 (pv 0) (za0 (pv 1) (za0 (pv 2) (za0 (pv 6) za2))))))) zb5)
     (za4 (zd1 (zb3 zH2 (pv 4) za1 (zb9 _)) (za6 (zb8 (za7 Gbu hbu rfl T.bJ T.bK T.bI .nil zb4 (za0 (pv 0) (za0 (pv 1) (za0 (pv 2) (za0 (za7 Gbw hbw rfl T.dz T.dA T.dy .nil zb4 (za0 (pv 0) (za0 (pv 1) (za0 (pv 5) za2)))) za2))))))) zb5)
     (za4 (zd1 (zb3 zg3 (pv 4) za1 (zb9 _)) (za6 (zb8 (za7 Gbv hbv rfl T.fj T.fk T.fi .nil zb4 (za0 (pv 1) (za0 (pv 2) za2))))) zb5)
     (za6 (zb8 (za7 Gbt hbt rfl T.fn T.fo T.fm .nil zb4 (za0 (pv 0) (za0 (pv 1) (za0 (zb0 ze8 (pv 5) (pv 4)) za2)))))))))))),?_⟩
   have S:=I.sc.same I.sm
   have V0:=I.vc
   have hw:=(let ⟨_,h,_⟩:=S;h:zh5 n r hs lim).w
   have hn1:=(let ⟨_,h,_⟩:=S;h:zh5 n r hs lim).n1
   have hn2:=(let ⟨_,h,_⟩:=S;h:zh5 n r hs lim).n2
   have hlen:=V0.len
   have fin:∀ H1,Same H H1->zQ7 K H0 H1 sc md n r lim hs s c yd es Q:=fun H1 s1 o nw' c' yd' es' d z H' x I' st hd hl ho=>q o nw' c' yd' es' d z H' (fun b u e hb=>x b u (s1 _ _ e) hb) I' st hd hl ho
   refine⟨_,rfl,_,_,rfl,rfl,(by show (0:Int)<8;decide),?_⟩
   refine⟨_,rfl,_,_,rfl,rfl,⟨by decide,by decide⟩,(by show 2<=sizeLine;decide),fun l2 f2=>?_⟩
   have s2:Same H (upd H l2 (.lst [.int 1,.int 48271])):=Same.upd f2
   have h2:(upd H l2 (.lst [.int 1,.int 48271])) l2=some (.lst [.int 1,.int 48271]):=za3
   dsimp only
   revert s2 h2
   generalize upd H l2 (.lst [.int 1,.int 48271])=H2
   intro s2 h2
   obtain ⟨fac,hfac,fb⟩:∃ o:Int,atI [V.int 1,V.int 48271] (cell / 8 % 2)=some (.int o)/\(-(2 ^ 64)<o/\o<2 ^ 64):=by
     have:cell / 8 % 2=0\/cell / 8 % 2=1:=by omega
     rcases this with e | e<;>rw[e]
     . exact⟨1,rfl,by decide,by decide⟩
     . exact⟨48271,rfl,by decide,by decide⟩
   refine⟨_,rfl,_,_,rfl,rfl,⟨by decide,by decide⟩,_,_,rfl,rfl,(by show (0:Int)<2;decide),l2,_,_,_,rfl,rfl,SqL.of h2,hfac,_,_,rfl,rfl,.inr fb,?_⟩
   dsimp only
   generalize cell / 8*fac=more
   generalize cell % 8=kind
   clear hfac fb h2 f2
   refine⟨_,rfl,_,rfl,_,rfl,sc,nw,more,n,r,lim,hs,c,rfl,S.same s2,V0,s2 _ _ I.nw,fun v H1 s1 hv=>?_⟩
   have s01:=s2.trans s1
   have I1:=I.same s01
   have S1:=S.same s01
   refine⟨_,rfl,_,_,rfl,rfl,_,rfl,?_⟩
   refine use_finH9 (R:=?R) (S:=fun H'=>Same H H'/\H'=H1) (fun fn=>?main) ?fn
   case main =>
     refine ite2 (fun h1=>?yes) (fun h1=>?no)
     case no =>
       refine iteF ?_
       exact fn H1 ⟨s01,rfl⟩
     case yes =>
       refine⟨_,rfl,rfl,_,rfl,?_⟩
       rcases hv with e | ⟨i,q0,mv,e,L,hmv⟩
       . refine iteB (by rw[decide_eq_true e];rfl) ?_
         exact fn H1 ⟨s01,rfl⟩
       . refine iteA (by rw[decide_eq_false (by rw[e];exact fun z=>nomatch z)];rfl) ?_
         have on1:=L.on
         have on2:=V0.on (c.getD i 0) (zj1 L.lt)
         have hlt:=L.lt
         exact⟨_,rfl,_,rfl,_,rfl,_,rfl,sc,nw,md,mv,H0,n,r,lim,(i:Int)+1,c.getD i 0,q0,hs,s,c,yd,es,by rw[e];rfl,I1,by omega,hmv,⟨⟨by omega,by omega⟩,⟨by omega,by omega⟩,by omega,by omega⟩,fin H1 s01⟩
   rintro H1 ⟨s01,rfl⟩
   refine⟨_,rfl,_,_,rfl,rfl,_,rfl,ite2 (fun h1=>?_) (fun h1=>?_)⟩
   . refine⟨_,rfl,_,rfl,_,rfl,_,rfl,_,rfl,_,rfl,sc,nw,n,r,lim,more,hs,c,rfl,S1,V0,I1.nw,fun mv H4 k u w s4 f4 h4 hb=>?_⟩
     exact⟨sc,nw,md,mv,H0,n,r,lim,k,u,w,hs,s,c,yd,es,rfl,I1.same s4,by omega,h4,hb,fin H4 (s01.trans s4)⟩
   refine⟨_,rfl,rfl,_,rfl,ite2 (fun h2=>?_) (fun h2=>?_)⟩
   . exact⟨_,rfl,_,rfl,sc,nw,md,H0,n,r,lim,hs,s,c,yd,es,rfl,I1,by omega,fin H1 s01⟩
   . exact⟨_,rfl,_,rfl,_,rfl,_,rfl,_,_,rfl,rfl,sc,nw,md,H0,n,r,lim,more+kind,hs,s,c,yd,es,rfl,I1,fin H1 s01⟩
theorem zG1.len {n r lim:Int} {hs c c':List Int} {es es':List (List Int×Nat×Int)} {d:Dd} {z:Str} (h:zG1 n r lim hs c es d c' es' z):es'.length<=es.length+1:=by
 rcases h with h | ⟨j,_,rfl,rfl,_⟩
 . cases h<;>simp<;>omega
 . omega
structure Runs (n r lim:Int) (hs s:List Int) (xs:List (Dd×Str)) (st:Nat->List Int×List (List Int×Nat×Int)):Prop where
 zero:st 0=(s,[])
 step:∀ (k:Nat) (x:Dd×Str),xs[k]?=some x->zG1 n r lim hs (st k).1 (st k).2 x.1 (st (k+1)).1 (st (k+1)).2 x.2
 ok:∀ x∈xs,ddOk x.1
theorem Runs.lens {n r lim:Int} {hs s:List Int} {xs:List (Dd×Str)} {st:Nat->List Int×List (List Int×Nat×Int)} (R:Runs n r lim hs s xs st):∀ k,k<=xs.length->(st k).2.length<=k
 | 0,_=>by rw[R.zero];exact Nat.le_refl _
 | k+1,h=>by
   have:=R.lens k (by omega)
   have:=(R.step k _ (List.getElem?_eq_getElem (by omega))).len
   omega
theorem Runs.snoc {n r lim:Int} {hs s:List Int} {xs:List (Dd×Str)} {st:Nat->List Int×List (List Int×Nat×Int)} (R:Runs n r lim hs s xs st) {d:Dd} {z:Str} {c':List Int} {es':List (List Int×Nat×Int)} (h:zG1 n r lim hs (st xs.length).1 (st xs.length).2 d c' es' z) (hd:ddOk d) :
   Runs n r lim hs s (xs++[(d,z)]) (fun k=>if k<=xs.length then st k else (c',es')):=by
 refine⟨by show (if 0<=xs.length then st 0 else _)=_;rw[if_pos (Nat.zero_le _)];exact R.zero,fun k x hx=>?_,fun x hx=>?_⟩
 . by_cases hk:k<xs.length
   . rw[List.getElem?_append_left hk] at hx
     have:=R.step k x hx
     show zG1 n r lim hs (if k<=xs.length then st k else _).1 (if k<=xs.length then st k else _).2 x.1 (if k+1<=xs.length then st (k+1) else _).1 (if k+1<=xs.length then st (k+1) else _).2 x.2
     rw[if_pos (by omega),if_pos (by omega)]
     exact this
   . rw[List.getElem?_append_right (by omega)] at hx
     have hk2:k=xs.length:=by
       rcases Nat.eq_or_lt_of_le (Nat.not_lt.mp hk) with e | e
       . exact e.symm
       . rw[List.getElem?_eq_none (by rw[List.length_singleton];omega)] at hx;cases hx
     subst hk2
     rw[Nat.sub_self] at hx
     cases hx
     show zG1 n r lim hs (if xs.length<=xs.length then st xs.length else _).1 (if xs.length<=xs.length then st xs.length else _).2 d (if xs.length+1<=xs.length then st (xs.length+1) else _).1 (if xs.length+1<=xs.length then st (xs.length+1) else _).2 z
     rw[if_pos (Nat.le_refl _),if_neg (by omega)]
     exact h
 . rcases List.mem_append.mp hx with h | h
   . exact R.ok x h
   . rw[List.mem_singleton.mp h];exact hd
noncomputable def zQ9 (K:W.Frag) (t:Adr):Sp:=fun vs H Q _=>∃ (z:Str) (l:Addr) (n r lim:Int) (hs s:List Int) (xs:List (Dd×Str)) (st:Nat->List Int×List (List Int×Nat×Int)),vs=[.str z,.ref l]/\z.length<=1000000/\ya7 z n r lim hs s/\zh5 n r hs lim/\ze0 n r hs.length s/\absI (zc5 hs s)<=lim/\H l=some (.lst (xs.map fun x=>.str (zl3 x.1)))/\xs.length<=100/\Runs n r lim hs s xs st ∧
 ∀ o H',Same H H'->H' o=some (.lst (xs.map fun x=>.str x.2))->Q (.ref o) H'
theorem ok_answers (T:Txt K mg t):FnOk P w K mg base CX0 11 t.bI t.ce ["text","rows"] (zQ9 K t):=by
 have Gby:FnOk P w K mg base CX0 5 t.bm t.bS ["text"] (zJ9 K t):=ok_read_beam T
 have Gbz:FnOk P w K mg base CX0 5 t.bi t.bO ["self","beam","start"] (zJ4 K t):=ok_Play_init T
 have GbA:FnOk P w K mg base CX0 10 t.bZ t.cn ["play","row"] (zT9 K t):=ok_answer T
 refine T.eo.ok zu1 (fun vs H Q E h=>?_) (fun cdv A outer s H vs Q E hr h=>?_)
 . obtain ⟨z,l,n,r,lim,hs,s,xs,st,rfl,hz,RB,ok,V0,ks,hl,hxl,R,q⟩:=h
   rfl
 . obtain ⟨z,l,n,r,lim,hs,s,xs,st,rfl,hz,RB,ok,V0,ks,hl,hxl,R,q⟩:=h
   have hby:Room 5 _:=hr.mono (by decide)
   have hbB:Room 6 _:=hr.mono (by decide)
   have hbA:Room 10 _:=hr.mono (by decide)
   refine⟨_,(za4 (zb7 (i:=2) zu1.nd rfl (Or.inl rfl) (za7 Gby hby rfl T.d3 T.d4 T.d2 .nil zb4 (za0 (pv 0) za2)))
     (za4 (zb7 (i:=3) zu1.nd rfl (Or.inl rfl) (yb5 T.fK Gbz hbB rfl T.fY T.dS .nil zb4 (za0 (zc6 zf4 (pv 2) za1 (fun _ _=>rfl)) (za0 (zc6 zf4 (pv 2) za1 (fun _ _=>rfl)) za2))))
     (za4 (zb7 (i:=4) zu1.nd rfl (Or.inl rfl) (ze6 za2))
     (za4 (zn9 PassesOwn.never rfl (zq8 (pv 1)) (zc7 (i:=5) zu1.nd rfl (Or.inl rfl)) (za6 (ze7 (zl7 PySem.F.plainAttrs_list PySem.F.slot_list_append PySem.F.type_list_append zk3 (pv 4) (za0 (za7 GbA hbA rfl T.eN T.eO T.eM .nil zb4 (za0 (pv 3) (za0 (pv 5) za2))) za2)))))
     (za6 (zb8 (pv 4))))))),?_⟩
   refine⟨_,rfl,z,n,r,lim,hs,s,rfl,hz,RB,ok,V0,fun l1 b pl H1 s1 B hp hl1=>?_⟩
   refine⟨_,rfl,l1,_,_,_,rfl,rfl,SqT.of hl1,at_0,_,rfl,l1,_,_,_,rfl,rfl,SqT.of hl1,at_1,fun p dx fp fdx ndx=>?_⟩
   have sp3:Same H1 (upd (upd H1 dx (.own p)) p (.ins t.ac dx [])):=(Same.upd fdx).updT (by rw[za8 (Ne.symm ndx)];exact fp)
   have hp3:(upd (upd H1 dx (.own p)) p (.ins t.ac dx [])) p=some (.ins t.ac dx []):=za3
   revert sp3 hp3
   generalize upd (upd H1 dx (.own p)) p (.ins t.ac dx [])=H3
   intro sp3 hp3
   have nbp:b≠p:=fun z=>by obtain ⟨_,_,_,hb,_⟩:=B;rw[z,fp] at hb;cases hb
   refine⟨p,b,pl,dx,n,r,lim,hs,s,rfl,hp3,nbp,B.same sp3,V0,.inr (sp3 _ _ hp),ks,fun H4 s0 m x4 fm4 P4=>⟨rfl,?_⟩⟩
   have fp0:H p=none:=s1.free fp
   have fm0:H m=none:=s1.free (sp3.free fm4)
   have s04:Same H H4:=fun c o e=>x4 c o (sp3 _ _ (s1 _ _ e)) (zc0 e fp0)
   refine⟨Nat.zero_le _,fun td ftd=>?_⟩
   have ntm:td≠m:=(zc0 P4.hm ftd).symm
   have ntp:td≠p:=(let ⟨dx,z⟩:=P4.hp;zc0 z ftd).symm
   have ftd0:H td=none:=s04.free ftd
   have s5:Same H4 (upd H4 td (.lst [])):=Same.upd ftd
   have htd5:(upd H4 td (.lst [])) td=some (.lst []):=za3
   dsimp only
   revert s5 htd5
   generalize upd H4 td (.lst [])=H5
   intro s5 htd5
   have s05:=s04.trans s5
   refine⟨_,rfl,l,rfl,⟨_,SqL.of (s05 _ _ hl)⟩,zA9 (K:=K) (a:=l) (xs:=xs.map fun x=>V.str (zl3 x.1)) (fun i σ H'=>∃ v5 x ys,σ=[some (.str z),some (.ref l),some (.ref l1),some (.ref p),some (.ref td),v5]/\Same H H'/\At29 t H' p b s0 x m n r lim hs s (st i).1 ys (st i).2/\H' td=some (.lst ((xs.take i).map fun x=>V.str x.2))) ⟨none,s0,[],rfl,s05,⟨by rw[R.zero];exact P4.same s5,by rw[R.zero];rfl,V0⟩,htd5⟩ (fun i σ H' _ ⟨_,_,_,_,sm,_⟩=>SqL.of (sm _ _ hl)) ?_ ?_⟩
   . rintro k v σ H6 hk ⟨v5,x,ys,rfl,sm,A,htd⟩
     rw[List.getElem?_map] at hk
     cases e:xs[k]? with
     | none=>rw[e] at hk;cases hk
     | some y =>
       rw[e] at hk
       cases hk
       have hk2:k<xs.length:=(List.getElem?_eq_some_iff.mp e).1
       have hlen:=R.lens k (by omega)
       have stp:=R.step k y e
       refine⟨_,rfl,.inl ⟨rfl,_,SqL.of htd⟩,_,rfl,_,rfl,p,b,s0,x,m,n,r,lim,hs,s,(st k).1,ys,(st k).2,y.1,(st (k+1)).1,(st (k+1)).2,y.2,rfl,A,R.ok y (List.mem_of_getElem? e),by omega,stp,fun x' ys' H7 s7 P7=>?_⟩
       have htd7:H7 td=some (.lst ((xs.take k).map fun x=>V.str x.2)):=s7 _ _ htd ntp ntm
       refine⟨td,_,_,rfl,rfl,htd7,zd0 (by rw[List.length_map,List.length_take];omega),?_⟩
       refine⟨_,x',ys',rfl,fun a o e'=>?_,⟨P7.updL htd7 ntm,stp.ch A.ch,V0⟩,?_⟩
       . rw[za8 (zc0 e' ftd0)]
         exact s7 _ _ (sm _ _ e') (zc0 e' fp0) (zc0 e' fm0)
       . rw[za3,List.take_succ,e,List.map_append]
         rfl
   . rintro σ H6 ⟨v5,x,ys,rfl,sm,A,htd⟩
     rw[List.length_map,List.take_length] at htd
     exact⟨_,rfl,q td H6 sm htd⟩
end
end Bt
namespace Bt
open PySem L2
section
variable {P:Program} {w:World} {K:W.Frag} {mg:Str->Option Value} {base:Heap} {t:Adr}
theorem Lw.updL {K:W.Frag} {H0 H:Hp} {sc nw md l:Addr} {n r lim:Int} {hs s c:List Int} {yd vs:List V} {es:List (List Int×Nat×Int)} {o:HO} (I:Lw K H0 H sc nw md n r lim hs s c yd es) (hl:H l=some (.lst vs)) (nl:md≠l) (f:H0 l=none):Lw K H0 (upd H l o) sc nw md n r lim hs s c yd es :=
 ⟨fun b u e=>by rw[za8 (zc0 e f)];exact I.sm _ _ e,I.fd,I.sc,by rw[za8 (fun z=>by have:=I.nw;rw[z,hl] at this;cases this)];exact I.nw,by rw[za8 nl];exact I.md,zx1 hl (fun _ z=>nomatch z) I.td,I.ch,I.vs⟩
structure L29 (K:W.Frag) (H1 H:Hp) (sc nw md la ld l8:Addr) (n r lim:Int) (hs s c:List Int) (yd cs:List V) (es:List (List Int×Nat×Int)) (xs:List (Dd×Str)) (stt:Nat->List Int×List (List Int×Nat×Int)):Prop where
 lw:Lw K H1 H sc nw md n r lim hs s c yd es
 l8:H l8=some (.lst cs)
 la:H la=some (.lst (xs.map fun x=>V.str (zl3 x.1)))
 ld:H ld=some (.lst (xs.map fun x=>V.str x.2))
 R:Runs n r lim hs s xs stt
 at_:stt xs.length=(c,es)
theorem ok_law (T:Txt K mg t):FnOk P w K mg base CX0 12 t.cG t.cI ["_law_script"] (sp_law K t):=by
 have GbC:FnOk P w K mg base CX0 3 t.b2 t.cp ["_law_script"] (zU4 K t):=ok_w_case T
 have GbD:FnOk P w K mg base CX0 11 t.bI t.ce ["text","rows"] (zQ9 K t):=ok_answers T
 have GbE:FnOk P w K mg base CX0 5 t.cb t.cw ["_law_scale","_law_now","_law_made","_law_cell"] (zV3 K t):=ok_w_deed T
 have GbF:FnOk P w K mg base CX0 2 t.b5 t.cr ["_law_scale","_law_spots"] (zU9 K t):=ok_w_text T
 have Gba:FnOk P w K mg base CX0 1 t.bq t.bC ["_law_script","_law_k"] (zE7 K t):=zK3 T
 refine T.fZ.ok zo0 (fun vs H Q E h=>?_) (fun cdv A outer s H vs Q E hr h=>?_)
 . obtain ⟨a,ns,rfl,hS,hlen,q⟩:=h
   rfl
 . obtain ⟨a,ns,rfl,hS,hlen,q⟩:=h
   have hbC:Room 3 _:=hr.mono (by decide)
   have hbD:Room 11 _:=hr.mono (by decide)
   have hbE:Room 5 _:=hr.mono (by decide)
   have hbF:Room 2 _:=hr.mono (by decide)
   have hba:Room 1 _:=hr.mono (by decide)
   refine⟨_,(za4 (zA8 (za7 GbC hbC rfl T.eX T.eY T.eW .nil zb4 (za0 (pv 0) za2)) (zK9 rfl (zd8 (zc7 (i:=1) zo0.nd rfl (Or.inl rfl)) (zd8 (zc7 (i:=2) zo0.nd rfl (Or.inl rfl)) (zd8 (zc7 (i:=3) zo0.nd rfl (Or.inl rfl)) zv1)))))
     (za4 (zb7 (i:=4) zo0.nd rfl (Or.inl rfl) (pv 2))
     (za4 (zb7 (i:=5) zo0.nd rfl (Or.inl rfl) (ze6 za2))
     (za4 (zb7 (i:=6) zo0.nd rfl (Or.inl rfl) (ze6 za2))
     (za4 (zb7 (i:=7) zo0.nd rfl (Or.inl rfl) (ze6 za2))
     (za4 (zn9 PassesOwn.never rfl (zq8 (zb0 yf3 (ze6 (za0 za1 (za0 za1 (za0 (za7 Gba hba rfl T.aC T.aD T.aB .nil zb4 (za0 (pv 0) (za0 za1 za2))) za2)))) (zi4 zN3 (pv 0) (zl1 za1) (zl1 za1)))) (zc7 (i:=8) zo0.nd rfl (Or.inl rfl)) (za4 (zA8 (za7 GbE hbE rfl T.fr T.fs T.fq .nil zb4 (za0 (pv 1) (za0 (pv 4) (za0 (pv 5) (za0 (pv 8) za2))))) (zK9 rfl (zd8 (zc7 (i:=9) zo0.nd rfl (Or.inl rfl)) (zd8 (zc7 (i:=4) zo0.nd rfl (Or.inl rfl)) (zd8 (zc7 (i:=10) zo0.nd rfl (Or.inl rfl)) zv1)))))
     (za4 (ze7 (zl7 PySem.F.plainAttrs_list PySem.F.slot_list_append PySem.F.type_list_append zk3 (pv 6) (za0 (pv 9) za2)))
     (za6 (ze7 (zl7 PySem.F.plainAttrs_list PySem.F.slot_list_append PySem.F.type_list_append zk3 (pv 7) (za0 (pv 10) za2)))))))
     (za4 (zb7 (i:=11) zo0.nd rfl (Or.inl rfl) (zd9 zH4 rfl T.bO PyProof.Rows.boot_list (za0 (pv 6) za2)))
     (za4 (zb7 (i:=12) zo0.nd rfl (Or.inl rfl) (za7 GbD hbD rfl T.eq T.er T.ep .nil zb4 (za0 (za7 GbF hbF rfl T.e6 T.e7 T.e5 .nil zb4 (za0 (pv 1) (za0 (pv 2) za2))) (za0 (pv 11) za2))))
     (za4 (zd1 (PW.pt (zH1 (zb3 (op_neL (Nat.lt_of_succ_lt (yb9 hr))) (pv 11) (pv 6) (zb9 _)) (zH1 (zK5 (zh4 (zc3 zX6 rfl T.bj PyProof.Rows.boot_isinstance (za0 (pv 12) (za0 (yb0 (v:=.ty "list") rfl T.bO PyProof.Rows.boot_list rfl) za2))))) (zG5 (zb3 zr2 (zc3 zc1 rfl T.aa PySem.boot_len (za0 (pv 12) za2)) (zc3 zc1 rfl T.aa PySem.boot_len (za0 (pv 7) za2)) (zb9 _)))))) (za6 (zb8 ya9)) zb5)
     (za4 (zn9 PassesOwn.never rfl (zo2 rfl T.am (za0 (zc3 zc1 rfl T.aa PySem.boot_len (za0 (pv 7) za2)) za2)) (zc7 (i:=13) zo0.nd rfl (Or.inl rfl)) (za6 (zd1 (PW.pt (zH1 (zK5 (zh4 (zc3 zX6 rfl T.bj PyProof.Rows.boot_isinstance (za0 (zc6 zd4 (pv 12) (pv 13) (fun _ _=>rfl)) (za0 (yb0 (v:=.ty "str") rfl T.aw PyProof.Rows.boot_str rfl) za2))))) (zG5 (zb3 zr2 (zc6 zd4 (pv 12) (pv 13) (fun _ _=>rfl)) (zc6 zd4 (pv 7) (pv 13) (fun _ _=>rfl)) (zb9 _))))) (za6 (zb8 ya9)) zb5)))
     (za6 (zb8 ya9)))))))))))),?_⟩
   refine⟨_,rfl,a,ns,rfl,hS,fun l sc h st go H1 n r lim hs s g C=>?_⟩
   refine⟨l,_,rfl,SqL.of C.hl,rfl,_,_,rfl,_,_,rfl,_,_,rfl,rfl,?_⟩
   have hw:=C.ok.w
   have hsl:=C.vs.len
   have S1:zq4 K H1 sc n r hs lim:=⟨h,C.ok,SqL.of C.hsc,SqL.of C.hh⟩
   refine⟨_,rfl,Nat.zero_le _,fun md fmd=>⟨Nat.zero_le _,fun la fla=>⟨Nat.zero_le _,fun ld fld=>?_⟩⟩⟩
   have s5:Same H1 (upd (upd (upd H1 md (.lst [])) la (.lst [])) ld (.lst [])):=((Same.upd fmd).updT fla).updT fld
   have n1:md≠la:=fun z=>by rw[<-z,za3] at fla;cases fla
   have n3:la≠ld:=fun z=>by rw[<-z,za3] at fld;cases fld
   have n2:md≠ld:=fun z=>by rw[<-z,za8 n1,za3] at fld;cases fld
   have hmd5:(upd (upd (upd H1 md (.lst [])) la (.lst [])) ld (.lst [])) md=some (.lst []):=by rw[za8 n2,za8 n1];exact za3
   have hla5:(upd (upd (upd H1 md (.lst [])) la (.lst [])) ld (.lst [])) la=some (.lst []):=by rw[za8 n3];exact za3
   have hld5:(upd (upd (upd H1 md (.lst [])) la (.lst [])) ld (.lst [])) ld=some (.lst []):=za3
   have fla1:H1 la=none:=(Same.upd fmd).free fla
   have fld1:H1 ld=none:=((Same.upd fmd).updT fla).free fld
   dsimp only
   revert s5 hmd5 hla5 hld5
   generalize upd (upd (upd H1 md (.lst [])) la (.lst [])) ld (.lst [])=H5
   intro s5 hmd5 hla5 hld5
   have I5:Lw K H1 H5 sc st md n r lim hs s s [] []:=⟨s5,fmd,S1,s5 _ _ C.hst,hmd5,.nil,rfl,C.vs⟩
   refine⟨_,rfl,a,ns,2,rfl,(C.sm.trans s5).seq hS,(by show 3<=sizeLine;decide),fun l7 f7=>?_⟩
   have s7:Same H5 (upd H5 l7 (.lst [.int 14,.int 7,.int (ns.getD 2 0)])):=Same.upd f7
   have h7:(upd H5 l7 (.lst [.int 14,.int 7,.int (ns.getD 2 0)])) l7=some (.lst [.int 14,.int 7,.int (ns.getD 2 0)]):=za3
   revert s7 h7
   generalize upd H5 l7 (.lst [.int 14,.int 7,.int (ns.getD 2 0)])=H7
   intro s7 h7
   generalize ns.getD 2 0=v0 at h7
   have s17:=s5.trans s7
   obtain ⟨cs,ecs,hcs⟩:=cut_map ns (some 7) (some 60)
   refine⟨_,rfl,_,rfl,_,rfl,a,_,rfl,(C.sm.trans s17).seq hS,fun l9 f9=>?_⟩
   have ec:(cutV (ns.map V.int) (some 7) (some 60))=cs.map V.int:=ecs
   rw[ec]
   have s9:Same H7 (upd H7 l9 (.lst (cs.map V.int))):=Same.upd f9
   have h9:(upd H7 l9 (.lst (cs.map V.int))) l9=some (.lst (cs.map V.int)):=za3
   revert s9 h9
   generalize upd H7 l9 (.lst (cs.map V.int))=H9
   intro s9 h9
   refine⟨l7,l9,_,_,rfl,rfl,s9 _ _ h7,h9,Nat.le_of_lt (zd0 (by rw[List.length_map];show 3+_<=_;omega)),fun l8 f8=>?_⟩
   have s59:=s7.trans s9
   have n8d:l8≠md:=(zc0 (s59 _ _ hmd5) f8).symm
   have n8a:l8≠la:=(zc0 (s59 _ _ hla5) f8).symm
   have n8l:l8≠ld:=(zc0 (s59 _ _ hld5) f8).symm
   have s8:Same H9 (upd H9 l8 (.lst ([.int 14,.int 7,.int v0]++cs.map V.int))):=Same.upd f8
   have h8:(upd H9 l8 (.lst ([.int 14,.int 7,.int v0]++cs.map V.int))) l8=some (.lst ((14::7::v0::cs).map V.int)):=za3
   revert s8 h8
   generalize upd H9 l8 (.lst ([.int 14,.int 7,.int v0]++cs.map V.int))=H8
   intro s8 h8
   have s58:=s59.trans s8
   have J8:L29 K H1 H8 sc st md la ld l8 n r lim hs s s [] ((14::7::v0::cs).map V.int) [] [] (fun _=>(s,[])):=⟨I5.same s58,h8,s58 _ _ hla5,s58 _ _ hld5,⟨rfl,fun k x hx=>by simp at hx,fun x hx=>by simp at hx⟩,rfl⟩
   refine⟨l8,rfl,⟨_,SqL.of h8⟩,zA9 (K:=K) (a:=l8) (xs:=(14::7::v0::cs).map V.int) (fun i σ H'=>∃ v8 v9 v10 nw c yd es xs stt,σ=[some (.ref a),some (.ref sc),some (.ref st),some (.ref go),some (.ref nw),some (.ref md),some (.ref la),some (.ref ld),v8,v9,v10,none,none,none]/\L29 K H1 H' sc nw md la ld l8 n r lim hs s c yd ((14::7::v0::cs).map V.int) es xs stt/\xs.length=i) ⟨none,none,none,st,s,[],[],[],_,rfl,J8,rfl⟩ (fun i σ H' _ ⟨_,_,_,_,_,_,_,_,_,_,I,_⟩=>SqL.of I.l8) ?_ ?_⟩
   . rintro k v σ H10 hk ⟨v8,v9,v10,nw,c,yd,es,xs,stt,rfl,J,rfl⟩
     obtain ⟨z,rfl,hz⟩:=zz3 hk
     have hk66:xs.length<66:=by have:=(List.getElem?_eq_some_iff.mp hz).1;simp only[List.length_cons] at this;omega
     have hes:=J.R.lens xs.length (Nat.le_refl _)
     rw[J.at_] at hes
     replace hes:es.length<=xs.length:=hes
     refine⟨_,rfl,_,rfl,_,rfl,_,rfl,sc,nw,md,H1,n,r,lim,z,hs,s,c,yd,es,rfl,J.lw,by omega,fun o nw' c' yd' es' d zz H11 x11 I11 stp hd hyl ho=>?_⟩
     have hla:=x11 _ _ J.la n1.symm
     have hld:=x11 _ _ J.ld n2.symm
     have h8':=x11 _ _ J.l8 n8d
     refine⟨o,_,rfl,SqL.of ho,rfl,_,_,rfl,_,_,rfl,_,_,rfl,rfl,?_⟩
     refine⟨_,rfl,.inl ⟨rfl,_,SqL.of hla⟩,_,rfl,la,_,_,rfl,rfl,hla,zd0 (by rw[List.length_map];omega),?_⟩
     have I12:=I11.updL (o:=.lst ((xs.map fun x=>V.str (zl3 x.1))++[.str (zl3 d)])) hla n1 fla1
     have hla2:(upd H11 la (.lst ((xs.map fun x=>V.str (zl3 x.1))++[.str (zl3 d)]))) la=some (.lst ((xs++[(d,zz)]).map fun x=>V.str (zl3 x.1))):=by rw[za3,List.map_append];rfl
     have hld2:(upd H11 la (.lst ((xs.map fun x=>V.str (zl3 x.1))++[.str (zl3 d)]))) ld=some (.lst (xs.map fun x=>V.str x.2)):=by rw[za8 n3.symm];exact hld
     have h82:(upd H11 la (.lst ((xs.map fun x=>V.str (zl3 x.1))++[.str (zl3 d)]))) l8=some (.lst ((14::7::v0::cs).map V.int)):=by rw[za8 n8a];exact h8'
     revert I12 hla2 hld2 h82
     generalize upd H11 la (.lst ((xs.map fun x=>V.str (zl3 x.1))++[.str (zl3 d)]))=H12
     intro I12 hla2 hld2 h82
     refine⟨_,rfl,.inl ⟨rfl,_,SqL.of hld2⟩,_,rfl,ld,_,_,rfl,rfl,hld2,zd0 (by rw[List.length_map];omega),?_⟩
     refine⟨_,_,_,nw',c',yd',es',xs++[(d,zz)],_,rfl,⟨I12.updL hld2 n2 fld1,by rw[za8 n8l];exact h82,by rw[za8 n3];exact hla2,by rw[za3,List.map_append];rfl,J.R.snoc (c':=c') (es':=es') (by rw[J.at_];exact stp) hd,?_⟩,by rw[List.length_append];rfl⟩
     rw[List.length_append]
     exact if_neg (by simp)
   . rintro σ H10 ⟨v8,v9,v10,nw,c,yd,es,xs,stt,rfl,J,hxl⟩
     rw[List.length_map,List.length_cons,List.length_cons,List.length_cons] at hxl
     refine⟨_,rfl,la,_,rfl,.inl (SqL.of J.la),fun lh flh=>?_⟩
     have sh:Same H10 (upd H10 lh (.lst (xs.map fun x=>V.str (zl3 x.1)))):=Same.upd flh
     have hlh:(upd H10 lh (.lst (xs.map fun x=>V.str (zl3 x.1)))) lh=some (.lst (xs.map fun x=>V.str (zl3 x.1))):=za3
     dsimp only
     revert sh hlh
     generalize upd H10 lh (.lst (xs.map fun x=>V.str (zl3 x.1)))=H11
     intro sh hlh
     have hla:=sh _ _ J.la
     have hld:=sh _ _ J.ld
     have s11:=J.lw.sm.trans sh
     have R:=J.R
     have hzl:(zT6 n r lim hs s).length<=400:=zU7 (zT7 C.ok C.vs) (by rw[wRows_count C.vs];omega)
     refine⟨_,rfl,_,rfl,sc,st,n,r,lim,hs,s,rfl,S1.same s11,s11 _ _ C.hst,C.vs,_,rfl,zT6 n r lim hs s,lh,n,r,lim,hs,s,xs,stt,rfl,by omega,rd_wBeam C.ok C.vs,C.ok,C.vs,C.ks,hlh,by omega,R,fun o H12 s12 ho=>?_⟩
     have hlh2:=s12 _ _ hlh
     have hla2:=s12 _ _ hla
     have hld2:=s12 _ _ hld
     refine⟨_,rfl,_,rfl,lh,la,_,_,rfl,rfl,SqL.of hlh2,SqL.of hla2,fun j x y e1 e2=>?_,_,rfl,iteB (by rw[decide_eq_true rfl];rfl) ?_⟩
     . rw[List.getElem?_map] at e1 e2
       cases e:xs[j]? with
       | none=>rw[e] at e1;cases e1
       | some u=>rw[e] at e1 e2;cases e1;cases e2;rfl
     refine⟨_,rfl,_,_,_,_,_,rfl,.ty _,.lst ho,rfl,_,rfl,iteF ?_⟩
     refine⟨_,rfl,o,_,rfl,.inl (SqL.of ho),_,rfl,ld,_,rfl,.inl (SqL.of hld2),rfl,_,rfl,iteB (by rw[decide_eq_true rfl];rfl) ?_⟩
     refine⟨_,rfl,ld,_,rfl,.inl (SqL.of hld2),?_⟩
     rw[List.length_map]
     refine⟨_,rfl,by omega,by omega,zk2 (n:=((xs.length:Nat):Int).toNat) (fun i σ H'=>∃ v13,σ=[some (.ref a),some (.ref sc),some (.ref st),some (.ref go),some (.ref nw),some (.ref md),some (.ref la),some (.ref ld),v8,v9,v10,some (.ref lh),some (.ref o),v13]/\H'=H12) ⟨none,rfl,rfl⟩ ?_ ?_⟩
     . rintro i σ H' hi ⟨v13,rfl,rfl⟩
       have hix:i<xs.length:=by simpa using hi
       have e0:(0:Int)+(i:Int)=(i:Int):=by omega
       have hx:atI (xs.map fun x=>V.str x.2) (0+(i:Int))=some (.str xs[i].2):=by rw[e0];exact zD5 (by rw[List.getElem?_map,List.getElem?_eq_getElem hix];rfl)
       refine⟨_,rfl,_,rfl,o,_,_,_,rfl,rfl,SqL.of ho,hx,_,_,_,_,_,rfl,.ty _,.str _,rfl,_,rfl,iteF ?_⟩
       refine⟨_,rfl,_,rfl,o,_,_,_,rfl,rfl,SqL.of ho,hx,_,rfl,_,rfl,ld,_,_,_,rfl,rfl,SqL.of hld2,hx,rfl,_,rfl,iteB (by rw[decide_eq_true rfl];rfl) ?_⟩
       exact⟨_,rfl,rfl⟩
     . rintro σ H' ⟨v13,rfl,rfl⟩
       exact q _
end
end Bt
namespace Bt
open PySem L2
theorem ar1 {us:List Value} (h:us.length=1):∃ x0,us=[x0]:=by
 match us,h with
 | [a0],_=>exact⟨a0,rfl⟩
theorem ar2 {us:List Value} (h:us.length=2):∃ x0 x1,us=[x0,x1]:=by
 match us,h with
 | [a0,a1],_=>exact⟨a0,a1,rfl⟩
theorem ar3 {us:List Value} (h:us.length=3):∃ x0 x1 x2,us=[x0,x1,x2]:=by
 match us,h with
 | [a0,a1,a2],_=>exact⟨a0,a1,a2,rfl⟩
theorem ar4 {us:List Value} (h:us.length=4):∃ x0 x1 x2 x3,us=[x0,x1,x2,x3]:=by
 match us,h with
 | [a0,a1,a2,a3],_=>exact⟨a0,a1,a2,a3,rfl⟩
theorem ar5 {us:List Value} (h:us.length=5):∃ x0 x1 x2 x3 x4,us=[x0,x1,x2,x3,x4]:=by
 match us,h with
 | [a0,a1,a2,a3,a4],_=>exact⟨a0,a1,a2,a3,a4,rfl⟩
theorem all_mk {l:W.OpenLaw} {w:World} {K:W.Frag} {h:Heap} {mg:Str->Option Value} {fa:Addr} (X:K.In h) (G:h.Ns mainGlobals mg) (hfa:mg "law" = some (.ref fa))
   {fD ce cf cg aM ch:Value} {fE ci:Option Addr} {fF:Array (Option Value)} {aj:Addr}
   {a4:Addr} {fG:Value} {fH:Option Addr} {fI:Nat} {fJ:Array (Option Value)} {fK fL:Value}
   {gp cu cv cw a5 cx:Value} {gq cy:Option Addr} {gr:Array (Option Value)} {au:Addr}
   {bc:Addr} {gs:Value} {gt:Option Addr} {gu:Nat} {gv:Array (Option Value)} {gw:Value}
   {g5 cW cX cY bd cZ:Value} {g6 c0:Option Addr} {g7:Array (Option Value)} {ax:Addr}
   {bw:Addr} {g8:Value} {g9:Option Addr} {ha:Nat} {hb:Array (Option Value)} {hc:Value}
   {fM cj ck cl aN cm:Value} {fN cn:Option Addr} {fO:Array (Option Value)} {aq:Addr}
   {a6:Addr} {fP:Value} {fQ:Option Addr} {fR:Nat} {fS:Array (Option Value)} {fT:Value}
   {ie dr ds dt bx du:Value} {ig dv:Option Addr} {ih:Array (Option Value)} {aB:Addr}
   {b5:Addr} {ii:Value} {ij:Option Addr} {ik:Nat} {il:Array (Option Value)} {im:Value}
   {eA bP bQ bR aD bS:Value} {eB bT:Option Addr} {eC:Array (Option Value)} {ao:Addr}
   {aO:Addr} {eD:Value} {eE:Option Addr} {eF:Nat} {eG:Array (Option Value)} {eH:Value}
   {eI bU bV bW aE bX:Value} {eJ bY:Option Addr} {eK:Array (Option Value)} {ap:Addr}
   {aP:Addr} {eL:Value} {eM:Option Addr} {eN:Nat} {eO:Array (Option Value)} {eP:Value}
   {gx cz cA cB a7 cC:Value} {gy cD:Option Addr} {gz:Array (Option Value)} {av:Addr}
   {be:Addr} {gA:Value} {gB:Option Addr} {gC:Nat} {gD:Array (Option Value)} {gE:Value}
   {eq bp bq br aC bs:Value} {er bt:Option Addr} {es:Array (Option Value)} {ak:Addr}
   {aF:Addr} {et:Value} {eu:Option Addr} {ev:Nat} {ew:Array (Option Value)} {ex:Value}
   {md me mf mh eQ mi:Value} {mj mk:Option Addr} {ml:Array (Option Value)} {aT:Addr}
   {pW pX pY pZ hd p0:Value} {p1 p2:Option Addr} {p3:Array (Option Value)} {c1:Addr}
   {he hf hg hh c2 hi:Value} {hj hk:Option Addr} {hm:Array (Option Value)} {aH:Addr}
   {io ip iq ir dw it:Value} {iu iv:Option Addr} {iw:Array (Option Value)} {aX:Addr}
   {eR eS eT eU bZ eV:Value} {eW eX:Option Addr} {eY:Array (Option Value)} {aw:Addr}
   {ix iy iz iA dx iB:Value} {iC iD:Option Addr} {iE:Array (Option Value)} {aY:Addr}
   {vo vp vq vr pH vs:Value} {vt vu:Option Addr} {vv:Array (Option Value)} {hn:Addr}
   {vw vx vy vz pI vA:Value} {vB vC:Option Addr} {vD:Array (Option Value)} {ho:Addr}
   {vE vF vG vH pJ vI:Value} {vJ vK:Option Addr} {vL:Array (Option Value)} {hp:Addr}
   {t0 t1 t2 t3 mm t4:Value} {t5 t6:Option Addr} {t7:Array (Option Value)} {fy:Addr}
   {p4 p5 p6 p7 hq p8:Value} {p9 qa:Option Addr} {qb:Array (Option Value)} {c3:Addr}
   {t8 t9 ua ub mn uc:Value} {ud ue:Option Addr} {uf:Array (Option Value)} {fz:Addr}
   {ug uh ui uj mo uk:Value} {ul um:Option Addr} {uo:Array (Option Value)} {fA:Addr}
   {rc rd re rf j1 rg:Value} {rh ri:Option Addr} {rj:Array (Option Value)} {dQ:Addr}
   {rk rl rm rn j2 ro:Value} {rp rq:Option Addr} {rr:Array (Option Value)} {dR:Addr}
   {vM vN vO vP pK vQ:Value} {vR vS:Option Addr} {vT:Array (Option Value)} {hr:Addr}
   {kp kq kr ks d7 kt:Value} {ku kv:Option Addr} {kw:Array (Option Value)} {bf:Addr}
   {hs ht hu hv c4 hw:Value} {hx hy:Option Addr} {hz:Array (Option Value)} {aI:Addr}
   {mp mq mr ms eZ mt:Value} {mu mv:Option Addr} {mw:Array (Option Value)} {bI:Addr}
   {iF iG iH iI dy iJ:Value} {iK iL:Option Addr} {iM:Array (Option Value)} {aZ:Addr}
   {vU vV vW vX pL vY:Value} {vZ v0:Option Addr} {v1:Array (Option Value)} {hA:Addr}
   {mx my mz mA e0 mB:Value} {mC mD:Option Addr} {mE:Array (Option Value)} {aU:Addr}
   {mF mG mH mI e1 mJ:Value} {mK mL:Option Addr} {mM:Array (Option Value)} {aV:Addr}
   {mN mO mP mQ e2 mR:Value} {mS mT:Option Addr} {mU:Array (Option Value)} {aW:Addr}
   {fU fV fW fX co fY:Value} {fZ f0:Option Addr} {f1:Array (Option Value)} {az:Addr}
   {kx ky kz kA d8 kB:Value} {kC kD:Option Addr} {kE:Array (Option Value)} {bg:Addr}
   {mV mW mX mY e3 mZ:Value} {m0 m1:Option Addr} {m2:Array (Option Value)} {bJ:Addr}
   {m3 m4 m5 m6 e4 m7:Value} {m8 m9:Option Addr} {na:Array (Option Value)} {bK:Addr}
   {iN iO iP iQ dz iR:Value} {iS iT:Option Addr} {iU:Array (Option Value)} {a0:Addr}
   {hB hC hD hE c5 hF:Value} {hG hH:Option Addr} {hI:Array (Option Value)} {aJ:Addr}
   {iV iW iX iY dA iZ:Value} {i0 i1:Option Addr} {i2:Array (Option Value)} {a1:Addr}
   {kF kG kH kI d9 kJ:Value} {kK kL:Option Addr} {kM:Array (Option Value)} {bh:Addr}
   {i3 i4 i5 i6 dB i7:Value} {i8 i9:Option Addr} {ja:Array (Option Value)} {a2:Addr}
   {nb nc nd ne e5 nf:Value} {ng nh:Option Addr} {ni:Array (Option Value)} {bL:Addr}
   {qc qd qe qf hJ qg:Value} {qh qi:Option Addr} {qj:Array (Option Value)} {c6:Addr}
   {rs rt ru rv j3 rx:Value} {ry rz:Option Addr} {rA:Array (Option Value)} {dS:Addr}
   {kN kO kP kQ ea kR:Value} {kS kT:Option Addr} {kU:Array (Option Value)} {bi:Addr}
   {hK hL hM hN c7 hO:Value} {hP hQ:Option Addr} {hR:Array (Option Value)} {aK:Addr}
   {nj nk nl nm e6 nn:Value} {no np:Option Addr} {nq:Array (Option Value)} {bM:Addr}
   {kV kW kX kY eb kZ:Value} {k0 k1:Option Addr} {k2:Array (Option Value)} {bj:Addr}
   {v2 v3 v4 v5 pM v6:Value} {v7 v8:Option Addr} {v9:Array (Option Value)} {hS:Addr}
   {rB rC rD rE j4 rF:Value} {rG rH:Option Addr} {rI:Array (Option Value)} {dT:Addr}
   {qk ql qm qn hT qo:Value} {qp qq:Option Addr} {qr:Array (Option Value)} {c8:Addr}
   {up uq ur ut nr uu:Value} {uv uw:Option Addr} {ux:Array (Option Value)} {fB:Addr}
   {rJ rK rL rM j5 rN:Value} {rO rP:Option Addr} {rQ:Array (Option Value)} {dU:Addr}
   {qs qt qu qv hU qw:Value} {qx qy:Option Addr} {qz:Array (Option Value)} {c9:Addr}
   {rR rS rT rU j6 rV:Value} {rW rX:Option Addr} {rY:Array (Option Value)} {dV:Addr}
   {rZ r0 r1 r2 j7 r3:Value} {r4 r5:Option Addr} {r6:Array (Option Value)} {dW:Addr}
   {r7 r8 r9 sa j8 sb:Value} {sc sd:Option Addr} {se:Array (Option Value)} {dX:Addr}
   {sf sg sh si j9 sj:Value} {sk sl:Option Addr} {sm:Array (Option Value)} {dY:Addr}
   {uy uz uA uB ns uC:Value} {uD uE:Option Addr} {uF:Array (Option Value)} {fC:Addr}
   {sn so sp sq ka sr:Value} {ss su:Option Addr} {sv:Array (Option Value)} {dZ:Addr}
   {sw sx sy sz kb sA:Value} {sB sC:Option Addr} {sD:Array (Option Value)} {d0:Addr}
   {jb jc jd je dC jf:Value} {jg jh:Option Addr} {ji:Array (Option Value)} {a3:Addr}
   {sE sF sG sH kc sI:Value} {sJ sK:Option Addr} {sL:Array (Option Value)} {d1:Addr}
   {sM sN sO sP kd sQ:Value} {sR sS:Option Addr} {sT:Array (Option Value)} {d2:Addr}
   {k3 k4 k5 k6 ec k7:Value} {k8 k9:Option Addr} {la:Array (Option Value)} {bk:Addr}
   {qA qB qC qD hV qE:Value} {qF qG:Option Addr} {qH:Array (Option Value)} {da:Addr}
   {sU sV sW sX ke sY:Value} {sZ s0:Option Addr} {s1:Array (Option Value)} {d3:Addr}
   {hW hX hY hZ db h0:Value} {h1 h2:Option Addr} {h3:Array (Option Value)} {aL:Addr}
   {s2 s3 s4 s5 kf s6:Value} {s7 s8:Option Addr} {s9:Array (Option Value)} {d4:Addr}
   {ta tb tc td kg te:Value} {tf tg:Option Addr} {th:Array (Option Value)} {d5:Addr}
   {wu wv ww wx ti wy:Value} {wz wA:Option Addr} {wB:Array (Option Value)} {qI:Addr}
   {ay:Addr}
   {ar:Addr}
   {af:Addr}
   {ah:Addr}
   {ae:Addr}
   {ai:Addr}
   {ab:Addr}
   {ac:Addr}
   {ag:Addr}
   {aa:Addr}
   {ad:Addr}
   {oz oA:Str} {qJ:Addr} {oB gc:List Value} {oC:List Str} {nt:List Value} {oD:Bool} {nu:Option Bool} {oE:Option Addr} {oF oG oH oI oJ:Option Value}
   {qK qL:Str} {tj:Addr} {qM h4:List Value} {qN:List Str} {oK:List Value} {qO:Bool} {oL:Option Bool} {qP:Option Addr} {qQ qR qS qT qU:Option Value}
   {nv nw:Str} {oM:Addr} {nx e7:List Value} {ny:List Str} {lb:List Value} {nz:Bool} {lc:Option Bool} {nA:Option Addr} {nB nC nD nE nF:Option Value}
   {tk tl:Str} {uG:Addr} {tm kh:List Value} {tn:List Str} {qV:List Value} {tp:Bool} {qW:Option Bool} {tq:Option Addr} {tr ts tt tu tv:Option Value}
   {ld le:Str} {nG:Addr} {lf ed:List Value} {lg:List Str} {jj:List Value} {lh:Bool} {jk:Option Bool} {li:Option Addr} {lj lk ll lm ln:Option Value}
   {lo lp:Str} {nH:Addr} {lq ee:List Value} {lr:List Str} {jl:List Value} {ls:Bool} {jm:Option Bool} {lt:Option Addr} {lu lv lw lx ly:Option Value}
   {oN oO:Str} {qX:Addr} {oP gd:List Value} {oQ:List Str} {nI:List Value} {oR:Bool} {nJ:Option Bool} {oS:Option Addr} {oT oU oV oW oX:Option Value}
   {jn jo:Str} {lz:Addr} {jp dD:List Value} {jq:List Str} {h5:List Value} {jr:Bool} {h6:Option Bool} {js:Option Addr} {jt ju jv jw jx:Option Value}
   {lA:ClassData}
   {bz:Tok}
   {dg:Tok}
   {cE:Tok}
   {bA:Tok}
   {dh:Tok}
   {a8:Tok}
   {cF:Tok}
   {bB:Tok}
   {e8:Tok}
   (wC:W.nsIn K mainGlobals "Beam" = some (some (.ref ay)))
   (wD:W.nsIn K mainGlobals "Play" = some (some (.ref ar)))
   (qY:W.nsIn K mainGlobals "NoWeight" = some (some (.ref af)))
   (tw:W.nsIn K mainGlobals "NoPlace" = some (some (.ref ah)))
   (oY:W.nsIn K mainGlobals "SamePlace" = some (some (.ref ae)))
   (uH:W.nsIn K mainGlobals "NoRoom" = some (some (.ref ai)))
   (nK:W.nsIn K mainGlobals "TipsInHand" = some (some (.ref ab)))
   (nL:W.nsIn K mainGlobals "TipsBehind" = some (some (.ref ac)))
   (qZ:W.nsIn K mainGlobals "PlayFull" = some (some (.ref ag)))
   (lB:W.nsIn K mainGlobals "NothingBack" = some (some (.ref aa)))
   (oZ:W.nsIn K mainGlobals "BeamError" = some (some (.ref ad)))
   (gF:W.findIn K (.ref ad) "__init__" = some (some (.ref aj)))
   (uI:W.isFn K (.ref aj)=true)
   (gG:K.lookup aj=some ⟨fD,fE,.func (W.fnOf "__init__" "BeamError.__init__" (zb2 zf1) (za9 zf1) (za5 zf1) (.ref a4) ce cf cg ci aM ch),fF⟩)
   (gH:W.codeIn K aM "BeamError.__init__" = true) (aA:W.keepIn K (.ref aj)=true)
   (f2:K.lookup a4=some ⟨fG,fH,.seq #[fK,fL] fI,fJ⟩)
   (dc:W.findIn K (.ref af) "__init__" = some (some (.ref au)))
   (h7:W.isFn K (.ref au)=true)
   (h8:K.lookup au=some ⟨gp,gq,.func (W.fnOf "__init__" "NoWeight.__init__" (zb2 zf8) (za9 zf8) (za5 zf8) (.ref bc) cu cv cw cy a5 cx),gr⟩)
   (h9:W.codeIn K a5 "NoWeight.__init__" = true) (bl:W.keepIn K (.ref au)=true)
   (gI:K.lookup bc=some ⟨gs,gt,.seq #[gw] gu,gv⟩)
   (dE:W.findIn K (.ref ah) "__init__" = some (some (.ref ax)))
   (jy:W.isFn K (.ref ax)=true)
   (jz:K.lookup ax=some ⟨g5,g6,.func (W.fnOf "__init__" "NoPlace.__init__" (zb2 zg2) (za9 zg2) (za5 zg2) (.ref bw) cW cX cY c0 bd cZ),g7⟩)
   (jA:W.codeIn K bd "NoPlace.__init__" = true) (bC:W.keepIn K (.ref ax)=true)
   (ia:K.lookup bw=some ⟨g8,g9,.seq #[hc] ha,hb⟩)
   (cG:W.findIn K (.ref ae) "__init__" = some (some (.ref aq)))
   (gJ:W.isFn K (.ref aq)=true)
   (gK:K.lookup aq=some ⟨fM,fN,.func (W.fnOf "__init__" "SamePlace.__init__" (zb2 zf2) (za9 zf2) (za5 zf2) (.ref a6) cj ck cl cn aN cm),fO⟩)
   (gL:W.codeIn K aN "SamePlace.__init__" = true) (a9:W.keepIn K (.ref aq)=true)
   (f3:K.lookup a6=some ⟨fP,fQ,.seq #[fT] fR,fS⟩)
   (ef:W.findIn K (.ref ai) "__init__" = some (some (.ref aB)))
   (lC:W.isFn K (.ref aB)=true)
   (lD:K.lookup aB=some ⟨ie,ig,.func (W.fnOf "__init__" "NoRoom.__init__" (zb2 zg6) (za9 zg6) (za5 zg6) (.ref b5) dr ds dt dv bx du),ih⟩)
   (lE:W.codeIn K bx "NoRoom.__init__" = true) (b6:W.keepIn K (.ref aB)=true)
   (jB:K.lookup b5=some ⟨ii,ij,.seq #[im] ik,il⟩)
   (cp:W.findIn K (.ref ab) "__init__" = some (some (.ref ao)))
   (f4:W.isFn K (.ref ao)=true)
   (f5:K.lookup ao=some ⟨eA,eB,.func (W.fnOf "__init__" "TipsInHand.__init__" (zb2 ze2) (za9 ze2) (za5 ze2) (.ref aO) bP bQ bR bT aD bS),eC⟩)
   (f6:W.codeIn K aD "TipsInHand.__init__" = true) (aQ:W.keepIn K (.ref ao)=true)
   (e9:K.lookup aO=some ⟨eD,eE,.seq #[eH] eF,eG⟩)
   (cq:W.findIn K (.ref ac) "__init__" = some (some (.ref ap)))
   (f7:W.isFn K (.ref ap)=true)
   (f8:K.lookup ap=some ⟨eI,eJ,.func (W.fnOf "__init__" "TipsBehind.__init__" (zb2 ze3) (za9 ze3) (za5 ze3) (.ref aP) bU bV bW bY aE bX),eK⟩)
   (f9:W.codeIn K aE "TipsBehind.__init__" = true) (aR:W.keepIn K (.ref ap)=true)
   (fb:K.lookup aP=some ⟨eL,eM,.seq #[eP] eN,eO⟩)
   (dd:W.findIn K (.ref ag) "__init__" = some (some (.ref av)))
   (ib:W.isFn K (.ref av)=true)
   (ic:K.lookup av=some ⟨gx,gy,.func (W.fnOf "__init__" "PlayFull.__init__" (zb2 zf9) (za9 zf9) (za5 zf9) (.ref be) cz cA cB cD a7 cC),gz⟩)
   (id:W.codeIn K a7 "PlayFull.__init__" = true) (bm:W.keepIn K (.ref av)=true)
   (gM:K.lookup be=some ⟨gA,gB,.seq #[gE] gC,gD⟩)
   (b0:W.findIn K (.ref aa) "__init__" = some (some (.ref ak)))
   (fc:W.isFn K (.ref ak)=true)
   (fe:K.lookup ak=some ⟨eq,er,.func (W.fnOf "__init__" "NothingBack.__init__" (zb2 zd7) (za9 zd7) (za5 zd7) (.ref aF) bp bq br bt aC bs),es⟩)
   (ff:W.codeIn K aC "NothingBack.__init__" = true) (aG:W.keepIn K (.ref ak)=true)
   (ey:K.lookup aF=some ⟨et,eu,.seq #[ex] ev,ew⟩)
   (ge:W.findIn K (.ref ay) "__init__" = some (some (.ref aT)))
   (o0:W.isFn K (.ref aT)=true)
   (o1:K.lookup aT=some ⟨md,mj,.func (W.fnOf "__init__" "Beam.__init__" (zb2 zo3) (za9 zo3) (za5 zo3) .none me mf mh mk eQ mi),ml⟩)
   (o2:W.codeIn K eQ "Beam.__init__" = true) (di:W.keepIn K (.ref aT)=true)
   (ki:W.nsIn K mainGlobals "outside" = some (some (.ref c1)))
   (tx:K.lookup c1=some ⟨pW,p1,.func (W.fnOf "outside" "outside" (zb2 zt1) (za9 zt1) (za5 zt1) .none pX pY pZ p2 hd p0),p3⟩)
   (ty:W.codeIn K hd "outside" = true) (fg:W.keepIn K (.ref c1)=true)
   (dF:W.nsIn K mainGlobals "check_bounds" = some (some (.ref aH)))
   (jC:K.lookup aH=some ⟨he,hj,.func (W.fnOf "check_bounds" "check_bounds" (zb2 zi5) (za9 zi5) (za5 zi5) .none hf hg hh hk c2 hi),hm⟩)
   (jD:W.codeIn K c2 "check_bounds" = true) (bD:W.keepIn K (.ref aH)=true)
   (eg:W.nsIn K mainGlobals "check_hefts" = some (some (.ref aX)))
   (lF:K.lookup aX=some ⟨io,iu,.func (W.fnOf "check_hefts" "check_hefts" (zb2 zk4) (za9 zk4) (za5 zk4) .none ip iq ir iv dw it),iw⟩)
   (lG:W.codeIn K dw "check_hefts" = true) (b7:W.keepIn K (.ref aX)=true)
   (cr:W.nsIn K mainGlobals "check_standings" = some (some (.ref aw)))
   (ga:K.lookup aw=some ⟨eR,eW,.func (W.fnOf "check_standings" "check_standings" (zb2 zg9) (za9 zg9) (za5 zg9) .none eS eT eU eX bZ eV),eY⟩)
   (gb:W.codeIn K bZ "check_standings" = true) (aS:W.keepIn K (.ref aw)=true)
   (eh:W.nsIn K mainGlobals "as_standing" = some (some (.ref aY)))
   (lH:K.lookup aY=some ⟨ix,iC,.func (W.fnOf "as_standing" "as_standing" (zb2 zk5) (za9 zk5) (za5 zk5) .none iy iz iA iD dx iB),iE⟩)
   (lI:W.codeIn K dx "as_standing" = true) (b8:W.keepIn K (.ref aY)=true)
   (tz:W.nsIn K mainGlobals "tilt" = some (some (.ref hn)))
   (wE:K.lookup hn=some ⟨vo,vt,.func (W.fnOf "tilt" "tilt" (zb2 zB8) (za9 zB8) (za5 zB8) .none vp vq vr vu pH vs),vv⟩)
   (wF:W.codeIn K pH "tilt" = true) (nM:W.keepIn K (.ref hn)=true)
   (tA:W.nsIn K mainGlobals "side" = some (some (.ref ho)))
   (wG:K.lookup ho=some ⟨vw,vB,.func (W.fnOf "side" "side" (zb2 zL2) (za9 zL2) (za5 zL2) .none vx vy vz vC pI vA),vD⟩)
   (wH:W.codeIn K pI "side" = true) (nN:W.keepIn K (.ref ho)=true)
   (tB:W.nsIn K mainGlobals "past" = some (some (.ref hp)))
   (wI:K.lookup hp=some ⟨vE,vJ,.func (W.fnOf "past" "past" (zb2 zL3) (za9 zL3) (za5 zL3) .none vF vG vH vK pJ vI),vL⟩)
   (wJ:W.codeIn K pJ "past" = true) (nO:W.keepIn K (.ref hp)=true)
   (pN:W.nsIn K mainGlobals "keeps" = some (some (.ref fy)))
   (wa:K.lookup fy=some ⟨t0,t5,.func (W.fnOf "keeps" "keeps" (zb2 zD7) (za9 zD7) (za5 zD7) .none t1 t2 t3 t6 mm t4),t7⟩)
   (wb:W.codeIn K mm "keeps" = true) (jE:W.keepIn K (.ref fy)=true)
   (kj:W.nsIn K mainGlobals "in_hand" = some (some (.ref c3)))
   (tC:K.lookup c3=some ⟨p4,p9,.func (W.fnOf "in_hand" "in_hand" (zb2 zt2) (za9 zt2) (za5 zt2) .none p5 p6 p7 qa hq p8),qb⟩)
   (tD:W.codeIn K hq "in_hand" = true) (fh:W.keepIn K (.ref c3)=true)
   (pO:W.nsIn K mainGlobals "moved" = some (some (.ref fz)))
   (wc:K.lookup fz=some ⟨t8,ud,.func (W.fnOf "moved" "moved" (zb2 zD8) (za9 zD8) (za5 zD8) .none t9 ua ub ue mn uc),uf⟩)
   (wd:W.codeIn K mn "moved" = true) (jF:W.keepIn K (.ref fz)=true)
   (pP:W.nsIn K mainGlobals "moves" = some (some (.ref fA)))
   (we:K.lookup fA=some ⟨ug,ul,.func (W.fnOf "moves" "moves" (zb2 zv5) (za9 zv5) (za5 zv5) .none uh ui uj um mo uk),uo⟩)
   (wf:W.codeIn K mo "moves" = true) (jG:W.keepIn K (.ref fA)=true)
   (nP:W.nsIn K mainGlobals "turned" = some (some (.ref dQ)))
   (uJ:K.lookup dQ=some ⟨rc,rh,.func (W.fnOf "turned" "turned" (zb2 zx3) (za9 zx3) (za5 zx3) .none rd re rf ri j1 rg),rj⟩)
   (uK:W.codeIn K j1 "turned" = true) (gN:W.keepIn K (.ref dQ)=true)
   (nQ:W.nsIn K mainGlobals "behind" = some (some (.ref dR)))
   (uL:K.lookup dR=some ⟨rk,rp,.func (W.fnOf "behind" "behind" (zb2 zx4) (za9 zx4) (za5 zx4) .none rl rm rn rq j2 ro),rr⟩)
   (uM:W.codeIn K j2 "behind" = true) (gO:W.keepIn K (.ref dR)=true)
   (tE:W.nsIn K mainGlobals "full" = some (some (.ref hr)))
   (wK:K.lookup hr=some ⟨vM,vR,.func (W.fnOf "full" "full" (zb2 zL4) (za9 zL4) (za5 zL4) .none vN vO vP vS pK vQ),vT⟩)
   (wL:W.codeIn K pK "full" = true) (nR:W.keepIn K (.ref hr)=true)
   (fi:W.nsIn K mainGlobals "check_move" = some (some (.ref bf)))
   (nS:K.lookup bf=some ⟨kp,ku,.func (W.fnOf "check_move" "check_move" (zb2 zm5) (za9 zm5) (za5 zm5) .none kq kr ks kv d7 kt),kw⟩)
   (nT:W.codeIn K d7 "check_move" = true) (cH:W.keepIn K (.ref bf)=true)
   (dG:W.nsIn K mainGlobals "check_weight" = some (some (.ref aI)))
   (jH:K.lookup aI=some ⟨hs,hx,.func (W.fnOf "check_weight" "check_weight" (zb2 zi6) (za9 zi6) (za5 zi6) .none ht hu hv hy c4 hw),hz⟩)
   (jI:W.codeIn K c4 "check_weight" = true) (bE:W.keepIn K (.ref aI)=true)
   (gf:W.nsIn K mainGlobals "check_put" = some (some (.ref bI)))
   (o3:K.lookup bI=some ⟨mp,mu,.func (W.fnOf "check_put" "check_put" (zb2 zo4) (za9 zo4) (za5 zo4) .none mq mr ms mv eZ mt),mw⟩)
   (o4:W.codeIn K eZ "check_put" = true) (dj:W.keepIn K (.ref bI)=true)
   (ei:W.nsIn K mainGlobals "check_tilts" = some (some (.ref aZ)))
   (lJ:K.lookup aZ=some ⟨iF,iK,.func (W.fnOf "check_tilts" "check_tilts" (zb2 zk6) (za9 zk6) (za5 zk6) .none iG iH iI iL dy iJ),iM⟩)
   (lK:W.codeIn K dy "check_tilts" = true) (b9:W.keepIn K (.ref aZ)=true)
   (tF:W.nsIn K mainGlobals "puts" = some (some (.ref hA)))
   (wM:K.lookup hA=some ⟨vU,vZ,.func (W.fnOf "puts" "puts" (zb2 zB9) (za9 zB9) (za5 zB9) .none vV vW vX v0 pL vY),v1⟩)
   (wN:W.codeIn K pL "puts" = true) (nU:W.keepIn K (.ref hA)=true)
   (gg:W.findIn K (.ref ar) "__init__" = some (some (.ref aU)))
   (o5:W.isFn K (.ref aU)=true)
   (o6:K.lookup aU=some ⟨mx,mC,.func (W.fnOf "__init__" "Play.__init__" (zb2 zo5) (za9 zo5) (za5 zo5) .none my mz mA mD e0 mB),mE⟩)
   (o7:W.codeIn K e0 "Play.__init__" = true) (dk:W.keepIn K (.ref aU)=true)
   (gh:W.findIn K (.ref ar) "move" = some (some (.ref aV)))
   (o8:W.isFn K (.ref aV)=true)
   (o9:K.lookup aV=some ⟨mF,mK,.func (W.fnOf "move" "Play.move" (zb2 zo6) (za9 zo6) (za5 zo6) .none mG mH mI mL e1 mJ),mM⟩)
   (pa:W.codeIn K e1 "Play.move" = true) (bN:W.keepIn K (.ref aV)=true)
   (gi:W.findIn K (.ref ar) "back" = some (some (.ref aW)))
   (pb:W.isFn K (.ref aW)=true)
   (pc:K.lookup aW=some ⟨mN,mS,.func (W.fnOf "back" "Play.back" (zb2 zo7) (za9 zo7) (za5 zo7) .none mO mP mQ mT e2 mR),mU⟩)
   (pd:W.codeIn K e2 "Play.back" = true) (bO:W.keepIn K (.ref aW)=true)
   (cI:W.nsIn K mainGlobals "write_standing" = some (some (.ref az)))
   (gP:K.lookup az=some ⟨fU,fZ,.func (W.fnOf "write_standing" "write_standing" (zb2 zg0) (za9 zg0) (za5 zg0) .none fV fW fX f0 co fY),f1⟩)
   (gQ:W.codeIn K co "write_standing" = true) (ba:W.keepIn K (.ref az)=true)
   (fj:W.nsIn K mainGlobals "write_move" = some (some (.ref bg)))
   (nV:K.lookup bg=some ⟨kx,kC,.func (W.fnOf "write_move" "write_move" (zb2 zm6) (za9 zm6) (za5 zm6) .none ky kz kA kD d8 kB),kE⟩)
   (nW:W.codeIn K d8 "write_move" = true) (cJ:W.keepIn K (.ref bg)=true)
   (gj:W.nsIn K mainGlobals "read_move" = some (some (.ref bJ)))
   (pe:K.lookup bJ=some ⟨mV,m0,.func (W.fnOf "read_move" "read_move" (zb2 zo8) (za9 zo8) (za5 zo8) .none mW mX mY m1 e3 mZ),m2⟩)
   (pf:W.codeIn K e3 "read_move" = true) (dl:W.keepIn K (.ref bJ)=true)
   (gk:W.nsIn K mainGlobals "read_beam" = some (some (.ref bK)))
   (pg:K.lookup bK=some ⟨m3,m8,.func (W.fnOf "read_beam" "read_beam" (zb2 zg4) (za9 zg4) (za5 zg4) .none m4 m5 m6 m9 e4 m7),na⟩)
   (ph:W.codeIn K e4 "read_beam" = true) (dm:W.keepIn K (.ref bK)=true)
   (ej:W.nsIn K mainGlobals "read_weight" = some (some (.ref a0)))
   (lL:K.lookup a0=some ⟨iN,iS,.func (W.fnOf "read_weight" "read_weight" (zb2 zk7) (za9 zk7) (za5 zk7) .none iO iP iQ iT dz iR),iU⟩)
   (lM:W.codeIn K dz "read_weight" = true) (ca:W.keepIn K (.ref a0)=true)
   (dH:W.nsIn K mainGlobals "words_behind" = some (some (.ref aJ)))
   (jJ:K.lookup aJ=some ⟨hB,hG,.func (W.fnOf "words_behind" "words_behind" (zb2 zi7) (za9 zi7) (za5 zi7) .none hC hD hE hH c5 hF),hI⟩)
   (jK:W.codeIn K c5 "words_behind" = true) (bF:W.keepIn K (.ref aJ)=true)
   (ek:W.nsIn K mainGlobals "write_place" = some (some (.ref a1)))
   (lN:K.lookup a1=some ⟨iV,i0,.func (W.fnOf "write_place" "write_place" (zb2 zk8) (za9 zk8) (za5 zk8) .none iW iX iY i1 dA iZ),i2⟩)
   (lO:W.codeIn K dA "write_place" = true) (cb:W.keepIn K (.ref a1)=true)
   (fk:W.nsIn K mainGlobals "read_place" = some (some (.ref bh)))
   (nX:K.lookup bh=some ⟨kF,kK,.func (W.fnOf "read_place" "read_place" (zb2 zm7) (za9 zm7) (za5 zm7) .none kG kH kI kL d9 kJ),kM⟩)
   (nY:W.codeIn K d9 "read_place" = true) (cK:W.keepIn K (.ref bh)=true)
   (el:W.nsIn K mainGlobals "read_number" = some (some (.ref a2)))
   (lP:K.lookup a2=some ⟨i3,i8,.func (W.fnOf "read_number" "read_number" (zb2 zk9) (za9 zk9) (za5 zk9) .none i4 i5 i6 i9 dB i7),ja⟩)
   (lQ:W.codeIn K dB "read_number" = true) (cc:W.keepIn K (.ref a2)=true)
   (gl:W.nsIn K mainGlobals "is_number" = some (some (.ref bL)))
   (pi:K.lookup bL=some ⟨nb,ng,.func (W.fnOf "is_number" "is_number" (zb2 zj3) (za9 zj3) (za5 zj3) .none nc nd ne nh e5 nf),ni⟩)
   (pj:W.codeIn K e5 "is_number" = true) (dn:W.keepIn K (.ref bL)=true)
   (kk:W.nsIn K mainGlobals "answers" = some (some (.ref c6)))
   (tG:K.lookup c6=some ⟨qc,qh,.func (W.fnOf "answers" "answers" (zb2 zt3) (za9 zt3) (za5 zt3) .none qd qe qf qi hJ qg),qj⟩)
   (tH:W.codeIn K hJ "answers" = true) (fl:W.keepIn K (.ref c6)=true)
   (nZ:W.nsIn K mainGlobals "answer" = some (some (.ref dS)))
   (uN:K.lookup dS=some ⟨rs,ry,.func (W.fnOf "answer" "answer" (zb2 zx5) (za9 zx5) (za5 zx5) .none rt ru rv rz j3 rx),rA⟩)
   (uO:W.codeIn K j3 "answer" = true) (gR:W.keepIn K (.ref dS)=true)
   (fm:W.nsIn K mainGlobals "answer_row" = some (some (.ref bi)))
   (n0:K.lookup bi=some ⟨kN,kS,.func (W.fnOf "answer_row" "answer_row" (zb2 zm8) (za9 zm8) (za5 zm8) .none kO kP kQ kT ea kR),kU⟩)
   (n1:W.codeIn K ea "answer_row" = true) (cL:W.keepIn K (.ref bi)=true)
   (dI:W.nsIn K mainGlobals "answer_words" = some (some (.ref aK)))
   (jL:K.lookup aK=some ⟨hK,hP,.func (W.fnOf "answer_words" "answer_words" (zb2 zi8) (za9 zi8) (za5 zi8) .none hL hM hN hQ c7 hO),hR⟩)
   (jM:W.codeIn K c7 "answer_words" = true) (bG:W.keepIn K (.ref aK)=true)
   (gm:W.nsIn K mainGlobals "tell_tilt" = some (some (.ref bM)))
   (pk:K.lookup bM=some ⟨nj,no,.func (W.fnOf "tell_tilt" "tell_tilt" (zb2 zo9) (za9 zo9) (za5 zo9) .none nk nl nm np e6 nn),nq⟩)
   (pl:W.codeIn K e6 "tell_tilt" = true) (dp:W.keepIn K (.ref bM)=true)
   (fn:W.nsIn K mainGlobals "tell_moves" = some (some (.ref bj)))
   (n2:K.lookup bj=some ⟨kV,k0,.func (W.fnOf "tell_moves" "tell_moves" (zb2 zi0) (za9 zi0) (za5 zi0) .none kW kX kY k1 eb kZ),k2⟩)
   (n3:W.codeIn K eb "tell_moves" = true) (cM:W.keepIn K (.ref bj)=true)
   (tI:W.nsIn K mainGlobals "_law_at" = some (some (.ref hS)))
   (wO:K.lookup hS=some ⟨v2,v7,.func (W.fnOf "_law_at" "_law_at" (zb2 zL5) (za9 zL5) (za5 zL5) .none v3 v4 v5 v8 pM v6),v9⟩)
   (wP:W.codeIn K pM "_law_at" = true) (n4:W.keepIn K (.ref hS)=true)
   (n5:W.nsIn K mainGlobals "_law_figs" = some (some (.ref dT)))
   (uP:K.lookup dT=some ⟨rB,rG,.func (W.fnOf "_law_figs" "_law_figs" (zb2 zx6) (za9 zx6) (za5 zx6) .none rC rD rE rH j4 rF),rI⟩)
   (uQ:W.codeIn K j4 "_law_figs" = true) (gS:W.keepIn K (.ref dT)=true)
   (kl:W.nsIn K mainGlobals "_law_shape" = some (some (.ref c8)))
   (tJ:K.lookup c8=some ⟨qk,qp,.func (W.fnOf "_law_shape" "_law_shape" (zb2 zp0) (za9 zp0) (za5 zp0) .none ql qm qn qq hT qo),qr⟩)
   (tK:W.codeIn K hT "_law_shape" = true) (fo:W.keepIn K (.ref c8)=true)
   (pQ:W.nsIn K mainGlobals "_law_put" = some (some (.ref fB)))
   (wg:K.lookup fB=some ⟨up,uv,.func (W.fnOf "_law_put" "_law_put" (zb2 zD9) (za9 zD9) (za5 zD9) .none uq ur ut uw nr uu),ux⟩)
   (wh:W.codeIn K nr "_law_put" = true) (jN:W.keepIn K (.ref fB)=true)
   (n6:W.nsIn K mainGlobals "_law_tilt" = some (some (.ref dU)))
   (uR:K.lookup dU=some ⟨rJ,rO,.func (W.fnOf "_law_tilt" "_law_tilt" (zb2 zx7) (za9 zx7) (za5 zx7) .none rK rL rM rP j5 rN),rQ⟩)
   (uS:W.codeIn K j5 "_law_tilt" = true) (gT:W.keepIn K (.ref dU)=true)
   (km:W.nsIn K mainGlobals "_law_limit" = some (some (.ref c9)))
   (tL:K.lookup c9=some ⟨qs,qx,.func (W.fnOf "_law_limit" "_law_limit" (zb2 zt4) (za9 zt4) (za5 zt4) .none qt qu qv qy hU qw),qz⟩)
   (tM:W.codeIn K hU "_law_limit" = true) (fp:W.keepIn K (.ref c9)=true)
   (n7:W.nsIn K mainGlobals "_law_hard" = some (some (.ref dV)))
   (uT:K.lookup dV=some ⟨rR,rW,.func (W.fnOf "_law_hard" "_law_hard" (zb2 zx8) (za9 zx8) (za5 zx8) .none rS rT rU rX j6 rV),rY⟩)
   (uU:W.codeIn K j6 "_law_hard" = true) (gU:W.keepIn K (.ref dV)=true)
   (n8:W.nsIn K mainGlobals "_law_case" = some (some (.ref dW)))
   (uV:K.lookup dW=some ⟨rZ,r4,.func (W.fnOf "_law_case" "_law_case" (zb2 zx9) (za9 zx9) (za5 zx9) .none r0 r1 r2 r5 j7 r3),r6⟩)
   (uW:W.codeIn K j7 "_law_case" = true) (gV:W.keepIn K (.ref dW)=true)
   (n9:W.nsIn K mainGlobals "_law_word" = some (some (.ref dX)))
   (uX:K.lookup dX=some ⟨r7,sc,.func (W.fnOf "_law_word" "_law_word" (zb2 zy0) (za9 zy0) (za5 zy0) .none r8 r9 sa sd j8 sb),se⟩)
   (uY:W.codeIn K j8 "_law_word" = true) (gW:W.keepIn K (.ref dX)=true)
   (oa:W.nsIn K mainGlobals "_law_near" = some (some (.ref dY)))
   (uZ:K.lookup dY=some ⟨sf,sk,.func (W.fnOf "_law_near" "_law_near" (zb2 zr9) (za9 zr9) (za5 zr9) .none sg sh si sl j9 sj),sm⟩)
   (u0:W.codeIn K j9 "_law_near" = true) (gX:W.keepIn K (.ref dY)=true)
   (pR:W.nsIn K mainGlobals "_law_say" = some (some (.ref fC)))
   (wi:K.lookup fC=some ⟨uy,uD,.func (W.fnOf "_law_say" "_law_say" (zb2 zE0) (za9 zE0) (za5 zE0) .none uz uA uB uE ns uC),uF⟩)
   (wj:W.codeIn K ns "_law_say" = true) (jO:W.keepIn K (.ref fC)=true)
   (ob:W.nsIn K mainGlobals "_law_text" = some (some (.ref dZ)))
   (u1:K.lookup dZ=some ⟨sn,ss,.func (W.fnOf "_law_text" "_law_text" (zb2 zy1) (za9 zy1) (za5 zy1) .none so sp sq su ka sr),sv⟩)
   (u2:W.codeIn K ka "_law_text" = true) (gY:W.keepIn K (.ref dZ)=true)
   (oc:W.nsIn K mainGlobals "_law_goal" = some (some (.ref d0)))
   (u3:K.lookup d0=some ⟨sw,sB,.func (W.fnOf "_law_goal" "_law_goal" (zb2 zs0) (za9 zs0) (za5 zs0) .none sx sy sz sC kb sA),sD⟩)
   (u4:W.codeIn K kb "_law_goal" = true) (gZ:W.keepIn K (.ref d0)=true)
   (em:W.nsIn K mainGlobals "_law_move_text" = some (some (.ref a3)))
   (lR:K.lookup a3=some ⟨jb,jg,.func (W.fnOf "_law_move_text" "_law_move_text" (zb2 zl0) (za9 zl0) (za5 zl0) .none jc jd je jh dC jf),ji⟩)
   (lS:W.codeIn K dC "_law_move_text" = true) (cd:W.keepIn K (.ref a3)=true)
   (od:W.nsIn K mainGlobals "_law_lean" = some (some (.ref d1)))
   (u5:K.lookup d1=some ⟨sE,sJ,.func (W.fnOf "_law_lean" "_law_lean" (zb2 zy2) (za9 zy2) (za5 zy2) .none sF sG sH sK kc sI),sL⟩)
   (u6:W.codeIn K kc "_law_lean" = true) (g0:W.keepIn K (.ref d1)=true)
   (oe:W.nsIn K mainGlobals "_law_pick" = some (some (.ref d2)))
   (u7:K.lookup d2=some ⟨sM,sR,.func (W.fnOf "_law_pick" "_law_pick" (zb2 zs1) (za9 zs1) (za5 zs1) .none sN sO sP sS kd sQ),sT⟩)
   (u8:W.codeIn K kd "_law_pick" = true) (g1:W.keepIn K (.ref d2)=true)
   (fq:W.nsIn K mainGlobals "_law_any_move" = some (some (.ref bk)))
   (og:K.lookup bk=some ⟨k3,k8,.func (W.fnOf "_law_any_move" "_law_any_move" (zb2 zm9) (za9 zm9) (za5 zm9) .none k4 k5 k6 k9 ec k7),la⟩)
   (oh:W.codeIn K ec "_law_any_move" = true) (cN:W.keepIn K (.ref bk)=true)
   (kn:W.nsIn K mainGlobals "_law_moved" = some (some (.ref da)))
   (tN:K.lookup da=some ⟨qA,qF,.func (W.fnOf "_law_moved" "_law_moved" (zb2 zt5) (za9 zt5) (za5 zt5) .none qB qC qD qG hV qE),qH⟩)
   (tO:W.codeIn K hV "_law_moved" = true) (fr:W.keepIn K (.ref da)=true)
   (oi:W.nsIn K mainGlobals "_law_back" = some (some (.ref d3)))
   (u9:K.lookup d3=some ⟨sU,sZ,.func (W.fnOf "_law_back" "_law_back" (zb2 zy3) (za9 zy3) (za5 zy3) .none sV sW sX s0 ke sY),s1⟩)
   (va:W.codeIn K ke "_law_back" = true) (g2:W.keepIn K (.ref d3)=true)
   (dJ:W.nsIn K mainGlobals "_law_moves_text" = some (some (.ref aL)))
   (jP:K.lookup aL=some ⟨hW,h1,.func (W.fnOf "_law_moves_text" "_law_moves_text" (zb2 zi9) (za9 zi9) (za5 zi9) .none hX hY hZ h2 db h0),h3⟩)
   (jQ:W.codeIn K db "_law_moves_text" = true) (bH:W.keepIn K (.ref aL)=true)
   (oj:W.nsIn K mainGlobals "_law_look" = some (some (.ref d4)))
   (vb:K.lookup d4=some ⟨s2,s7,.func (W.fnOf "_law_look" "_law_look" (zb2 zy4) (za9 zy4) (za5 zy4) .none s3 s4 s5 s8 kf s6),s9⟩)
   (vc:W.codeIn K kf "_law_look" = true) (g3:W.keepIn K (.ref d4)=true)
   (ok:W.nsIn K mainGlobals "_law_deed" = some (some (.ref d5)))
   (vd:K.lookup d5=some ⟨ta,tf,.func (W.fnOf "_law_deed" "_law_deed" (zb2 zy5) (za9 zy5) (za5 zy5) .none tb tc td tg kg te),th⟩)
   (ve:W.codeIn K kg "_law_deed" = true) (g4:W.keepIn K (.ref d5)=true)
   (q0:W.nsIn K mainGlobals "law" = some (some (.ref qI)))
   (wQ:K.lookup qI=some ⟨wu,wz,.func (W.fnOf "law" "law" (zb2 zS5) (za9 zS5) (za5 zS5) .none wv ww wx wA ti wy),wB⟩)
   (wR:W.codeIn K ti "law" = true) (q1:W.keepIn K (.ref qI)=true)
   (wk:W.plainGet K ay Str.empty=true) (wl:W.hasDictIn K ay=true) (wm:W.plainOver K ay=true) (wn:W.findIn K (.ref ay) "__setattr__" = some (some (.builtin "object.__setattr__"))) (pS:W.makesIn K ay=true) (wo:W.keepIn K (.ref ay)=true)
   (de:W.findIn K (.ref ay) "notches" = some none)
   (fs:W.findIn K (.ref ay) "room" = some none)
   (en:W.findIn K (.ref ay) "hefts" = some none)
   (eo:W.findIn K (.ref ay) "limit" = some none)
   (wp:W.plainGet K ar Str.empty=true) (wq:W.hasDictIn K ar=true) (wr:W.plainOver K ar=true) (ws:W.findIn K (.ref ar) "__setattr__" = some (some (.builtin "object.__setattr__"))) (pT:W.makesIn K ar=true) (wt:W.keepIn K (.ref ar)=true)
   (ft:W.findIn K (.ref ar) "beam" = some none)
   (ep:W.findIn K (.ref ar) "start" = some none)
   (cO:W.findIn K (.ref ar) "standing" = some none)
   (fu:W.findIn K (.ref ar) "made" = some none)
   (pm:K.lookup af=some (excClassObj oz oA af qJ oB gc true oC nt oD nu oE oF oG oH oI oJ "ValueError.__new__")) (pn:MroV gc) (po:W.findIn K (.ref af) "__setattr__" = some (some (.builtin "object.__setattr__"))) (pp:W.keepIn K (.ref af)=true)
   (q2:K.lookup ah=some (excClassObj qK qL ah tj qM h4 true qN oK qO oL qP qQ qR qS qT qU "ValueError.__new__")) (q3:MroV h4) (q4:W.findIn K (.ref ah) "__setattr__" = some (some (.builtin "object.__setattr__"))) (q5:W.keepIn K (.ref ah)=true)
   (ol:K.lookup ae=some (excClassObj nv nw ae oM nx e7 true ny lb nz lc nA nB nC nD nE nF "ValueError.__new__")) (om:MroV e7) (on:W.findIn K (.ref ae) "__setattr__" = some (some (.builtin "object.__setattr__"))) (oo:W.keepIn K (.ref ae)=true)
   (tP:K.lookup ai=some (excClassObj tk tl ai uG tm kh true tn qV tp qW tq tr ts tt tu tv "ValueError.__new__")) (tQ:MroV kh) (tR:W.findIn K (.ref ai) "__setattr__" = some (some (.builtin "object.__setattr__"))) (tS:W.keepIn K (.ref ai)=true)
   (lT:K.lookup ab=some (excClassObj ld le ab nG lf ed true lg jj lh jk li lj lk ll lm ln "ValueError.__new__")) (lU:MroV ed) (lV:W.findIn K (.ref ab) "__setattr__" = some (some (.builtin "object.__setattr__"))) (lW:W.keepIn K (.ref ab)=true)
   (lX:K.lookup ac=some (excClassObj lo lp ac nH lq ee true lr jl ls jm lt lu lv lw lx ly "ValueError.__new__")) (lY:MroV ee) (lZ:W.findIn K (.ref ac) "__setattr__" = some (some (.builtin "object.__setattr__"))) (l0:W.keepIn K (.ref ac)=true)
   (pq:K.lookup ag=some (excClassObj oN oO ag qX oP gd true oQ nI oR nJ oS oT oU oV oW oX "ValueError.__new__")) (pr:MroV gd) (pt:W.findIn K (.ref ag) "__setattr__" = some (some (.builtin "object.__setattr__"))) (pu:W.keepIn K (.ref ag)=true)
   (jR:K.lookup aa=some (excClassObj jn jo aa lz jp dD true jq h5 jr h6 js jt ju jv jw jx "ValueError.__new__")) (jS:MroV dD) (jT:W.findIn K (.ref aa) "__setattr__" = some (some (.builtin "object.__setattr__"))) (jU:W.keepIn K (.ref aa)=true)
   (b1:W.findIn K (.ref af) "reason" = some none)
   (cP:W.findIn K (.ref af) "word" = some none)
   (cs:W.findIn K (.ref ah) "reason" = some none)
   (df:W.findIn K (.ref ah) "word" = some none)
   (bu:W.findIn K (.ref ae) "reason" = some none)
   (ct:W.findIn K (.ref ae) "word" = some none)
   (cQ:W.findIn K (.ref ai) "reason" = some none)
   (dK:W.findIn K (.ref ai) "word" = some none)
   (bn:W.findIn K (.ref ab) "reason" = some none)
   (b2:W.findIn K (.ref ab) "word" = some none)
   (bo:W.findIn K (.ref ac) "reason" = some none)
   (b3:W.findIn K (.ref ac) "word" = some none)
   (b4:W.findIn K (.ref ag) "reason" = some none)
   (cR:W.findIn K (.ref ag) "word" = some none)
   (bb:W.findIn K (.ref aa) "reason" = some none)
   (bv:W.findIn K (.ref aa) "word" = some none)
   (xw1:W.specialIn K (.builtin "object.__class__") "__get__" = some (some (.builtin "getset_descriptor.__get__")))
   (xw2:W.takesIn K (.builtin "object.__class__")=some true)
   (al:W.clsIn K ad=some lA) (am:W.typeIn K (.ref ad)=some (.type "type"))
   (an:W.subIn K (.ref ad) (.type "BaseException")=some true)
   (pv:W.findIn K (.ref af) "__getattribute__" = some (some (.builtin "BaseException.__getattribute__"))) (pw:W.findIn K (.ref af) "__getattr__" = some none) (px:W.mroIn K af (.type "BaseException")=some true) (py:W.hasDictIn K af=true) (pz:W.findIn K (.ref af) "__class__" = some (some (.builtin "object.__class__"))) (pA:W.mroIn K af (.type "object")=some true)
   (dL:W.subIn K (.ref af) (.ref ad)=some true)
   (q6:W.findIn K (.ref ah) "__getattribute__" = some (some (.builtin "BaseException.__getattribute__"))) (q7:W.findIn K (.ref ah) "__getattr__" = some none) (q8:W.mroIn K ah (.type "BaseException")=some true) (q9:W.hasDictIn K ah=true) (ra:W.findIn K (.ref ah) "__class__" = some (some (.builtin "object.__class__"))) (rb:W.mroIn K ah (.type "object")=some true)
   (d6:W.subIn K (.ref ah) (.ref ad)=some true)
   (op:W.findIn K (.ref ae) "__getattribute__" = some (some (.builtin "BaseException.__getattribute__"))) (oq:W.findIn K (.ref ae) "__getattr__" = some none) (os:W.mroIn K ae (.type "BaseException")=some true) (ot:W.hasDictIn K ae=true) (ou:W.findIn K (.ref ae) "__class__" = some (some (.builtin "object.__class__"))) (ov:W.mroIn K ae (.type "object")=some true)
   (dq:W.subIn K (.ref ae) (.ref ad)=some true)
   (tT:W.findIn K (.ref ai) "__getattribute__" = some (some (.builtin "BaseException.__getattribute__"))) (tU:W.findIn K (.ref ai) "__getattr__" = some none) (tV:W.mroIn K ai (.type "BaseException")=some true) (tW:W.hasDictIn K ai=true) (tX:W.findIn K (.ref ai) "__class__" = some (some (.builtin "object.__class__"))) (tY:W.mroIn K ai (.type "object")=some true)
   (ez:W.subIn K (.ref ai) (.ref ad)=some true)
   (l1:W.findIn K (.ref ab) "__getattribute__" = some (some (.builtin "BaseException.__getattribute__"))) (l2:W.findIn K (.ref ab) "__getattr__" = some none) (l3:W.mroIn K ab (.type "BaseException")=some true) (l4:W.hasDictIn K ab=true) (l5:W.findIn K (.ref ab) "__class__" = some (some (.builtin "object.__class__"))) (l6:W.mroIn K ab (.type "object")=some true)
   (cU:W.subIn K (.ref ab) (.ref ad)=some true)
   (l7:W.findIn K (.ref ac) "__getattribute__" = some (some (.builtin "BaseException.__getattribute__"))) (l8:W.findIn K (.ref ac) "__getattr__" = some none) (l9:W.mroIn K ac (.type "BaseException")=some true) (ma:W.hasDictIn K ac=true) (mb:W.findIn K (.ref ac) "__class__" = some (some (.builtin "object.__class__"))) (mc:W.mroIn K ac (.type "object")=some true)
   (cV:W.subIn K (.ref ac) (.ref ad)=some true)
   (pB:W.findIn K (.ref ag) "__getattribute__" = some (some (.builtin "BaseException.__getattribute__"))) (pC:W.findIn K (.ref ag) "__getattr__" = some none) (pD:W.mroIn K ag (.type "BaseException")=some true) (pE:W.hasDictIn K ag=true) (pF:W.findIn K (.ref ag) "__class__" = some (some (.builtin "object.__class__"))) (pG:W.mroIn K ag (.type "object")=some true)
   (dM:W.subIn K (.ref ag) (.ref ad)=some true)
   (jV:W.findIn K (.ref aa) "__getattribute__" = some (some (.builtin "BaseException.__getattribute__"))) (jW:W.findIn K (.ref aa) "__getattr__" = some none) (jX:W.mroIn K aa (.type "BaseException")=some true) (jY:W.hasDictIn K aa=true) (jZ:W.findIn K (.ref aa) "__class__" = some (some (.builtin "object.__class__"))) (j0:W.mroIn K aa (.type "object")=some true)
   (cS:W.subIn K (.ref aa) (.ref ad)=some true)
   (ow:W.specialIn K (.ref ad) "__getattribute__" = some (some (.builtin "type.__getattribute__"))) (ox:W.readsIn K ad (.type "type")=true) (oy:W.findCls K (.ref ad) (.type "type") "__init__" = some (.val (.ref aj)))
   (pU:W.nsIn K mainGlobals "tuple" = some none)
   (vf:W.nsIn K mainGlobals "len" = some none)
   (pV:W.nsIn K mainGlobals "range" = some none)
   (vg:W.nsIn K mainGlobals "sum" = some none)
   (vh:W.nsIn K mainGlobals "zip" = some none)
   (vi:W.nsIn K mainGlobals "abs" = some none)
   (vj:W.nsIn K mainGlobals "str" = some none)
   (vk:W.nsIn K mainGlobals "int" = some none)
   (vl:W.nsIn K mainGlobals "all" = some none)
   (vm:W.nsIn K mainGlobals "min" = some none)
   (vn:W.nsIn K mainGlobals "max" = some none)
   (tZ:W.nsIn K mainGlobals "list" = some none)
   (fv:W.nsIn K mainGlobals "isinstance" = some none)
   (dN:W.nsIn K mainGlobals "MOST_NOTCHES" = some (some (.int 4 bz)))
   (gn:W.nsIn K mainGlobals "MOST_ROOM" = some (some (.int 3 dg)))
   (fw:W.nsIn K mainGlobals "MOST_LIMIT" = some (some (.int 400 cE)))
   (dO:W.nsIn K mainGlobals "MOST_WEIGHTS" = some (some (.int 5 bA)))
   (go:W.nsIn K mainGlobals "MOST_HEFT" = some (some (.int 20 dh)))
   (cT:W.nsIn K mainGlobals "MOST_STANDINGS" = some (some (.int 1000 a8)))
   (fx:W.nsIn K mainGlobals "MOST_MOVES" = some (some (.int 300 cF)))
   (dP:W.nsIn K mainGlobals "MOST_FIGURES" = some (some (.int 4 bB)))
   (ko:W.nsIn K mainGlobals "FIGURES" = some (some (.str (Str.ofString "0123456789") e8))) :
   ∃ fd:FuncData,(∀ (s:Shared) (v:Value),BindsTo s fd ⟨[v],[]⟩ [("_law_script",v)])/\∀ base:Heap,K.In base->base.Ns mainGlobals mg->FnOk l.prog w K mg base CX0 12 fa fd ["_law_script"] (zY8 K):=by
 have e:=hfa.symm.trans (W.mg_of X G q0)
 cases e
 have F_BeamError_init:=zs9 (st:=zf1) gG gH aA
 have b_BeamError_init:zc4 K _ ["self","reason","word"] []:=fun s us X hl=>by
   rw[List.append_nil] at hl ⊢
   match us,hl with
   | [_,_,_],_=>exact BindsTo.of_defaults (fd:=W.fnOf "__init__" "BeamError.__init__" (zb2 zf1) (za9 zf1) (za5 zf1) (.ref a4) ce cf cg ci aM ch) rfl (X _ _ f2) rfl rfl rfl
 have F_NoWeight_init:=zs9 (st:=zf8) h8 h9 bl
 have b_NoWeight_init:zc4 K _ ["self","reason"] []:=fun s us X hl=>by
   rw[List.append_nil] at hl ⊢
   match us,hl with
   | [_,_],_=>exact BindsTo.of_defaults (fd:=W.fnOf "__init__" "NoWeight.__init__" (zb2 zf8) (za9 zf8) (za5 zf8) (.ref bc) cu cv cw cy a5 cx) rfl (X _ _ gI) rfl rfl rfl
 have F_NoPlace_init:=zs9 (st:=zg2) jz jA bC
 have b_NoPlace_init:zc4 K _ ["self","reason"] []:=fun s us X hl=>by
   rw[List.append_nil] at hl ⊢
   match us,hl with
   | [_,_],_=>exact BindsTo.of_defaults (fd:=W.fnOf "__init__" "NoPlace.__init__" (zb2 zg2) (za9 zg2) (za5 zg2) (.ref bw) cW cX cY c0 bd cZ) rfl (X _ _ ia) rfl rfl rfl
 have F_SamePlace_init:=zs9 (st:=zf2) gK gL a9
 have b_SamePlace_init:zc4 K _ ["self","reason"] []:=fun s us X hl=>by
   rw[List.append_nil] at hl ⊢
   match us,hl with
   | [_,_],_=>exact BindsTo.of_defaults (fd:=W.fnOf "__init__" "SamePlace.__init__" (zb2 zf2) (za9 zf2) (za5 zf2) (.ref a6) cj ck cl cn aN cm) rfl (X _ _ f3) rfl rfl rfl
 have F_NoRoom_init:=zs9 (st:=zg6) lD lE b6
 have b_NoRoom_init:zc4 K _ ["self","reason"] []:=fun s us X hl=>by
   rw[List.append_nil] at hl ⊢
   match us,hl with
   | [_,_],_=>exact BindsTo.of_defaults (fd:=W.fnOf "__init__" "NoRoom.__init__" (zb2 zg6) (za9 zg6) (za5 zg6) (.ref b5) dr ds dt dv bx du) rfl (X _ _ jB) rfl rfl rfl
 have F_TipsInHand_init:=zs9 (st:=ze2) f5 f6 aQ
 have b_TipsInHand_init:zc4 K _ ["self","reason"] []:=fun s us X hl=>by
   rw[List.append_nil] at hl ⊢
   match us,hl with
   | [_,_],_=>exact BindsTo.of_defaults (fd:=W.fnOf "__init__" "TipsInHand.__init__" (zb2 ze2) (za9 ze2) (za5 ze2) (.ref aO) bP bQ bR bT aD bS) rfl (X _ _ e9) rfl rfl rfl
 have F_TipsBehind_init:=zs9 (st:=ze3) f8 f9 aR
 have b_TipsBehind_init:zc4 K _ ["self","reason"] []:=fun s us X hl=>by
   rw[List.append_nil] at hl ⊢
   match us,hl with
   | [_,_],_=>exact BindsTo.of_defaults (fd:=W.fnOf "__init__" "TipsBehind.__init__" (zb2 ze3) (za9 ze3) (za5 ze3) (.ref aP) bU bV bW bY aE bX) rfl (X _ _ fb) rfl rfl rfl
 have F_PlayFull_init:=zs9 (st:=zf9) ic id bm
 have b_PlayFull_init:zc4 K _ ["self","reason"] []:=fun s us X hl=>by
   rw[List.append_nil] at hl ⊢
   match us,hl with
   | [_,_],_=>exact BindsTo.of_defaults (fd:=W.fnOf "__init__" "PlayFull.__init__" (zb2 zf9) (za9 zf9) (za5 zf9) (.ref be) cz cA cB cD a7 cC) rfl (X _ _ gM) rfl rfl rfl
 have F_NothingBack_init:=zs9 (st:=zd7) fe ff aG
 have b_NothingBack_init:zc4 K _ ["self","reason"] []:=fun s us X hl=>by
   rw[List.append_nil] at hl ⊢
   match us,hl with
   | [_,_],_=>exact BindsTo.of_defaults (fd:=W.fnOf "__init__" "NothingBack.__init__" (zb2 zd7) (za9 zd7) (za5 zd7) (.ref aF) bp bq br bt aC bs) rfl (X _ _ ey) rfl rfl rfl
 have F_Beam_init:=zc8 (st:=zo3) o1 o2 di
 have b_Beam_init:=F_Beam_init.binds (ps:=["self","notches","room","hefts","limit"]) fun _ _ _ _ _ _ us hl=>by obtain ⟨x0,x1,x2,x3,x4,rfl⟩:=ar5 hl;rfl
 have F_outside:=zc8 (st:=zt1) tx ty fg
 have b_outside:=F_outside.binds (ps:=["number","low","high"]) fun _ _ _ _ _ _ us hl=>by obtain ⟨x0,x1,x2,rfl⟩:=ar3 hl;rfl
 have F_check_bounds:=zc8 (st:=zi5) jC jD bD
 have b_check_bounds:=F_check_bounds.binds (ps:=["notches","room","limit"]) fun _ _ _ _ _ _ us hl=>by obtain ⟨x0,x1,x2,rfl⟩:=ar3 hl;rfl
 have F_check_hefts:=zc8 (st:=zk4) lF lG b7
 have b_check_hefts:=F_check_hefts.binds (ps:=["hefts"]) fun _ _ _ _ _ _ us hl=>by obtain ⟨x0,rfl⟩:=ar1 hl;rfl
 have F_check_standings:=zc8 (st:=zg9) ga gb aS
 have b_check_standings:=F_check_standings.binds (ps:=["notches","weights"]) fun _ _ _ _ _ _ us hl=>by obtain ⟨x0,x1,rfl⟩:=ar2 hl;rfl
 have F_as_standing:=zc8 (st:=zk5) lH lI b8
 have b_as_standing:=F_as_standing.binds (ps:=["beam","standing"]) fun _ _ _ _ _ _ us hl=>by obtain ⟨x0,x1,rfl⟩:=ar2 hl;rfl
 have F_tilt:=zc8 (st:=zB8) wE wF nM
 have b_tilt:=F_tilt.binds (ps:=["beam","standing"]) fun _ _ _ _ _ _ us hl=>by obtain ⟨x0,x1,rfl⟩:=ar2 hl;rfl
 have F_side:=zc8 (st:=zL2) wG wH nN
 have b_side:=F_side.binds (ps:=["beam","standing"]) fun _ _ _ _ _ _ us hl=>by obtain ⟨x0,x1,rfl⟩:=ar2 hl;rfl
 have F_past:=zc8 (st:=zL3) wI wJ nO
 have b_past:=F_past.binds (ps:=["beam","tipped"]) fun _ _ _ _ _ _ us hl=>by obtain ⟨x0,x1,rfl⟩:=ar2 hl;rfl
 have F_keeps:=zc8 (st:=zD7) wa wb jE
 have b_keeps:=F_keeps.binds (ps:=["beam","standing"]) fun _ _ _ _ _ _ us hl=>by obtain ⟨x0,x1,rfl⟩:=ar2 hl;rfl
 have F_in_hand:=zc8 (st:=zt2) tC tD fh
 have b_in_hand:=F_in_hand.binds (ps:=["beam","standing","weight"]) fun _ _ _ _ _ _ us hl=>by obtain ⟨x0,x1,x2,rfl⟩:=ar3 hl;rfl
 have F_moved:=zc8 (st:=zD8) wc wd jF
 have b_moved:=F_moved.binds (ps:=["beam","standing","move"]) fun _ _ _ _ _ _ us hl=>by obtain ⟨x0,x1,x2,rfl⟩:=ar3 hl;rfl
 have F_moves:=zc8 (st:=zv5) we wf jG
 have b_moves:=F_moves.binds (ps:=["beam","standing"]) fun _ _ _ _ _ _ us hl=>by obtain ⟨x0,x1,rfl⟩:=ar2 hl;rfl
 have F_turned:=zc8 (st:=zx3) uJ uK gN
 have b_turned:=F_turned.binds (ps:=["move"]) fun _ _ _ _ _ _ us hl=>by obtain ⟨x0,rfl⟩:=ar1 hl;rfl
 have F_behind:=zc8 (st:=zx4) uL uM gO
 have b_behind:=F_behind.binds (ps:=["places","move"]) fun _ _ _ _ _ _ us hl=>by obtain ⟨x0,x1,rfl⟩:=ar2 hl;rfl
 have F_full:=zc8 (st:=zL4) wK wL nR
 have b_full:=F_full.binds (ps:=["beam","places","place"]) fun _ _ _ _ _ _ us hl=>by obtain ⟨x0,x1,x2,rfl⟩:=ar3 hl;rfl
 have F_check_move:=zc8 (st:=zm5) nS nT cH
 have b_check_move:=F_check_move.binds (ps:=["beam","places","weight","taken","put"]) fun _ _ _ _ _ _ us hl=>by obtain ⟨x0,x1,x2,x3,x4,rfl⟩:=ar5 hl;rfl
 have F_check_weight:=zc8 (st:=zi6) jH jI bE
 have b_check_weight:=F_check_weight.binds (ps:=["places","weight","taken"]) fun _ _ _ _ _ _ us hl=>by obtain ⟨x0,x1,x2,rfl⟩:=ar3 hl;rfl
 have F_check_put:=zc8 (st:=zo4) o3 o4 dj
 have b_check_put:=F_check_put.binds (ps:=["beam","places","taken","put"]) fun _ _ _ _ _ _ us hl=>by obtain ⟨x0,x1,x2,x3,rfl⟩:=ar4 hl;rfl
 have F_check_tilts:=zc8 (st:=zk6) lJ lK b9
 have b_check_tilts:=F_check_tilts.binds (ps:=["beam","held","added"]) fun _ _ _ _ _ _ us hl=>by obtain ⟨x0,x1,x2,rfl⟩:=ar3 hl;rfl
 have F_puts:=zc8 (st:=zB9) wM wN nU
 have b_puts:=F_puts.binds (ps:=["beam","places","weight"]) fun _ _ _ _ _ _ us hl=>by obtain ⟨x0,x1,x2,rfl⟩:=ar3 hl;rfl
 have F_Play_init:=zc8 (st:=zo5) o6 o7 dk
 have b_Play_init:=F_Play_init.binds (ps:=["self","beam","start"]) fun _ _ _ _ _ _ us hl=>by obtain ⟨x0,x1,x2,rfl⟩:=ar3 hl;rfl
 have F_Play_move:=zc8 (st:=zo6) o9 pa bN
 have b_Play_move:=F_Play_move.binds (ps:=["self","move"]) fun _ _ _ _ _ _ us hl=>by obtain ⟨x0,x1,rfl⟩:=ar2 hl;rfl
 have F_Play_back:=zc8 (st:=zo7) pc pd bO
 have b_Play_back:=F_Play_back.binds (ps:=["self"]) fun _ _ _ _ _ _ us hl=>by obtain ⟨x0,rfl⟩:=ar1 hl;rfl
 have F_write_standing:=zc8 (st:=zg0) gP gQ ba
 have b_write_standing:=F_write_standing.binds (ps:=["beam","standing"]) fun _ _ _ _ _ _ us hl=>by obtain ⟨x0,x1,rfl⟩:=ar2 hl;rfl
 have F_write_move:=zc8 (st:=zm6) nV nW cJ
 have b_write_move:=F_write_move.binds (ps:=["move"]) fun _ _ _ _ _ _ us hl=>by obtain ⟨x0,rfl⟩:=ar1 hl;rfl
 have F_read_move:=zc8 (st:=zo8) pe pf dl
 have b_read_move:=F_read_move.binds (ps:=["text"]) fun _ _ _ _ _ _ us hl=>by obtain ⟨x0,rfl⟩:=ar1 hl;rfl
 have F_read_beam:=zc8 (st:=zg4) pg ph dm
 have b_read_beam:=F_read_beam.binds (ps:=["text"]) fun _ _ _ _ _ _ us hl=>by obtain ⟨x0,rfl⟩:=ar1 hl;rfl
 have F_read_weight:=zc8 (st:=zk7) lL lM ca
 have b_read_weight:=F_read_weight.binds (ps:=["row"]) fun _ _ _ _ _ _ us hl=>by obtain ⟨x0,rfl⟩:=ar1 hl;rfl
 have F_words_behind:=zc8 (st:=zi7) jJ jK bF
 have b_words_behind:=F_words_behind.binds (ps:=["front","row","many"]) fun _ _ _ _ _ _ us hl=>by obtain ⟨x0,x1,x2,rfl⟩:=ar3 hl;rfl
 have F_write_place:=zc8 (st:=zk8) lN lO cb
 have b_write_place:=F_write_place.binds (ps:=["place"]) fun _ _ _ _ _ _ us hl=>by obtain ⟨x0,rfl⟩:=ar1 hl;rfl
 have F_read_place:=zc8 (st:=zm7) nX nY cK
 have b_read_place:=F_read_place.binds (ps:=["text"]) fun _ _ _ _ _ _ us hl=>by obtain ⟨x0,rfl⟩:=ar1 hl;rfl
 have F_read_number:=zc8 (st:=zk9) lP lQ cc
 have b_read_number:=F_read_number.binds (ps:=["text"]) fun _ _ _ _ _ _ us hl=>by obtain ⟨x0,rfl⟩:=ar1 hl;rfl
 have F_is_number:=zc8 (st:=zj3) pi pj dn
 have b_is_number:=F_is_number.binds (ps:=["text"]) fun _ _ _ _ _ _ us hl=>by obtain ⟨x0,rfl⟩:=ar1 hl;rfl
 have F_answers:=zc8 (st:=zt3) tG tH fl
 have b_answers:=F_answers.binds (ps:=["text","rows"]) fun _ _ _ _ _ _ us hl=>by obtain ⟨x0,x1,rfl⟩:=ar2 hl;rfl
 have F_answer:=zc8 (st:=zx5) uN uO gR
 have b_answer:=F_answer.binds (ps:=["play","row"]) fun _ _ _ _ _ _ us hl=>by obtain ⟨x0,x1,rfl⟩:=ar2 hl;rfl
 have F_answer_row:=zc8 (st:=zm8) n0 n1 cL
 have b_answer_row:=F_answer_row.binds (ps:=["play","row"]) fun _ _ _ _ _ _ us hl=>by obtain ⟨x0,x1,rfl⟩:=ar2 hl;rfl
 have F_answer_words:=zc8 (st:=zi8) jL jM bG
 have b_answer_words:=F_answer_words.binds (ps:=["play","word","rest"]) fun _ _ _ _ _ _ us hl=>by obtain ⟨x0,x1,x2,rfl⟩:=ar3 hl;rfl
 have F_tell_tilt:=zc8 (st:=zo9) pk pl dp
 have b_tell_tilt:=F_tell_tilt.binds (ps:=["play"]) fun _ _ _ _ _ _ us hl=>by obtain ⟨x0,rfl⟩:=ar1 hl;rfl
 have F_tell_moves:=zc8 (st:=zi0) n2 n3 cM
 have b_tell_moves:=F_tell_moves.binds (ps:=["row"]) fun _ _ _ _ _ _ us hl=>by obtain ⟨x0,rfl⟩:=ar1 hl;rfl
 have F_w_at:=zc8 (st:=zL5) wO wP n4
 have b_w_at:=F_w_at.binds (ps:=["_law_script","_law_k"]) fun _ _ _ _ _ _ us hl=>by obtain ⟨x0,x1,rfl⟩:=ar2 hl;rfl
 have F_w_figs:=zc8 (st:=zx6) uP uQ gS
 have b_w_figs:=F_w_figs.binds (ps:=["_law_cell","_law_count","_law_base","_law_mix"]) fun _ _ _ _ _ _ us hl=>by obtain ⟨x0,x1,x2,x3,rfl⟩:=ar4 hl;rfl
 have F_w_shape:=zc8 (st:=zp0) tJ tK fo
 have b_w_shape:=F_w_shape.binds (ps:=["_law_script"]) fun _ _ _ _ _ _ us hl=>by obtain ⟨x0,rfl⟩:=ar1 hl;rfl
 have F_w_put:=zc8 (st:=zD9) wg wh jN
 have b_w_put:=F_w_put.binds (ps:=["_law_script","_law_k","_law_more","_law_shape_here"]) fun _ _ _ _ _ _ us hl=>by obtain ⟨x0,x1,x2,x3,rfl⟩:=ar4 hl;rfl
 have F_w_tilt:=zc8 (st:=zx7) uR uS gT
 have b_w_tilt:=F_w_tilt.binds (ps:=["_law_hefts","_law_spots"]) fun _ _ _ _ _ _ us hl=>by obtain ⟨x0,x1,rfl⟩:=ar2 hl;rfl
 have F_w_limit:=zc8 (st:=zt4) tL tM fp
 have b_w_limit:=F_w_limit.binds (ps:=["_law_script","_law_low"]) fun _ _ _ _ _ _ us hl=>by obtain ⟨x0,x1,rfl⟩:=ar2 hl;rfl
 have F_w_hard:=zc8 (st:=zx8) uT uU gU
 have b_w_hard:=F_w_hard.binds (ps:=["_law_cell"]) fun _ _ _ _ _ _ us hl=>by obtain ⟨x0,rfl⟩:=ar1 hl;rfl
 have F_w_case:=zc8 (st:=zx9) uV uW gV
 have b_w_case:=F_w_case.binds (ps:=["_law_script"]) fun _ _ _ _ _ _ us hl=>by obtain ⟨x0,rfl⟩:=ar1 hl;rfl
 have F_w_word:=zc8 (st:=zy0) uX uY gW
 have b_w_word:=F_w_word.binds (ps:=["_law_scale","_law_spots","_law_move"]) fun _ _ _ _ _ _ us hl=>by obtain ⟨x0,x1,x2,rfl⟩:=ar3 hl;rfl
 have F_w_near:=zc8 (st:=zr9) uZ u0 gX
 have b_w_near:=F_w_near.binds (ps:=["_law_scale","_law_spots"]) fun _ _ _ _ _ _ us hl=>by obtain ⟨x0,x1,rfl⟩:=ar2 hl;rfl
 have F_w_say:=zc8 (st:=zE0) wi wj jO
 have b_w_say:=F_w_say.binds (ps:=["_law_place"]) fun _ _ _ _ _ _ us hl=>by obtain ⟨x0,rfl⟩:=ar1 hl;rfl
 have F_w_text:=zc8 (st:=zy1) u1 u2 gY
 have b_w_text:=F_w_text.binds (ps:=["_law_scale","_law_spots"]) fun _ _ _ _ _ _ us hl=>by obtain ⟨x0,x1,rfl⟩:=ar2 hl;rfl
 have F_w_goal:=zc8 (st:=zs0) u3 u4 gZ
 have b_w_goal:=F_w_goal.binds (ps:=["_law_spots"]) fun _ _ _ _ _ _ us hl=>by obtain ⟨x0,rfl⟩:=ar1 hl;rfl
 have F_w_move_text:=zc8 (st:=zl0) lR lS cd
 have b_w_move_text:=F_w_move_text.binds (ps:=["_law_move"]) fun _ _ _ _ _ _ us hl=>by obtain ⟨x0,rfl⟩:=ar1 hl;rfl
 have F_w_lean:=zc8 (st:=zy2) u5 u6 g0
 have b_w_lean:=F_w_lean.binds (ps:=["_law_hefts","_law_spots"]) fun _ _ _ _ _ _ us hl=>by obtain ⟨x0,x1,rfl⟩:=ar2 hl;rfl
 have F_w_pick:=zc8 (st:=zs1) u7 u8 g1
 have b_w_pick:=F_w_pick.binds (ps:=["_law_scale","_law_spots","_law_cell"]) fun _ _ _ _ _ _ us hl=>by obtain ⟨x0,x1,x2,rfl⟩:=ar3 hl;rfl
 have F_w_any_move:=zc8 (st:=zm9) og oh cN
 have b_w_any_move:=F_w_any_move.binds (ps:=["_law_scale","_law_now","_law_cell"]) fun _ _ _ _ _ _ us hl=>by obtain ⟨x0,x1,x2,rfl⟩:=ar3 hl;rfl
 have F_w_moved:=zc8 (st:=zt5) tN tO fr
 have b_w_moved:=F_w_moved.binds (ps:=["_law_scale","_law_now","_law_made","_law_move"]) fun _ _ _ _ _ _ us hl=>by obtain ⟨x0,x1,x2,x3,rfl⟩:=ar4 hl;rfl
 have F_w_back:=zc8 (st:=zy3) u9 va g2
 have b_w_back:=F_w_back.binds (ps:=["_law_now","_law_made"]) fun _ _ _ _ _ _ us hl=>by obtain ⟨x0,x1,rfl⟩:=ar2 hl;rfl
 have F_w_moves_text:=zc8 (st:=zi9) jP jQ bH
 have b_w_moves_text:=F_w_moves_text.binds (ps:=["_law_scale","_law_now"]) fun _ _ _ _ _ _ us hl=>by obtain ⟨x0,x1,rfl⟩:=ar2 hl;rfl
 have F_w_look:=zc8 (st:=zy4) vb vc g3
 have b_w_look:=F_w_look.binds (ps:=["_law_scale","_law_now","_law_cell"]) fun _ _ _ _ _ _ us hl=>by obtain ⟨x0,x1,x2,rfl⟩:=ar3 hl;rfl
 have F_w_deed:=zc8 (st:=zy5) vd ve g4
 have b_w_deed:=F_w_deed.binds (ps:=["_law_scale","_law_now","_law_made","_law_cell"]) fun _ _ _ _ _ _ us hl=>by obtain ⟨x0,x1,x2,x3,rfl⟩:=ar4 hl;rfl
 have F_law:=zc8 (st:=zS5) wQ wR q1
 have b_law:=F_law.binds (ps:=["_law_script"]) fun _ _ _ _ _ _ us hl=>by obtain ⟨x0,rfl⟩:=ar1 hl;rfl
 have T:Txt K mg { aa:=aj,ab:=_,ax:=au,a2:=_,aB:=ax,ba:=_,ar:=aq,aZ:=_,aF:=aB,br:=_,ao:=ao,aQ:=_,ap:=ap,aR:=_,ay:=av,a3:=_,al:=ak,aI:=_,bg:=aT,bM:=_,az:=c1,aD:=_,aL:=aH,bb:=_,aV:=aX,bs:=_,aA:=aw,aS:=_,ag:=aY,aj:=_,bw:=hn,bU:=_,cx:=ho,cE:=_,bV:=hp,cc:=_,ci:=fy,cA:=_,bp:=c3,bH:=_,cj:=fz,cB:=_,ck:=fA,cC:=_,bX:=dQ,cm:=_,bx:=dR,bY:=_,cd:=hr,cy:=_,a4:=bf,bz:=_,aM:=aI,bc:=_,bh:=bI,bN:=_,aW:=aZ,bt:=_,cz:=hA,cF:=_,bi:=aU,bO:=_,bj:=aV,bP:=_,bk:=aW,bQ:=_,aE:=az,a0:=_,aJ:=bg,a5:=_,bl:=bJ,bR:=_,bm:=bK,bS:=_,aX:=a0,bu:=_,aC:=aJ,aN:=_,aG:=a1,aY:=_,aK:=bh,a6:=_,an:=a2,av:=_,bn:=bL,bT:=_,bI:=c6,ce:=_,bZ:=dS,cn:=_,a7:=bi,bA:=_,aO:=aK,bd:=_,aT:=bM,bo:=_,a8:=bj,bB:=_,bq:=hS,bC:=_,bD:=dT,b0:=_,bJ:=c8,cf:=_,cl:=fB,cD:=_,a1:=dU,be:=_,bK:=c9,cg:=_,b1:=dV,co:=_,b2:=dW,cp:=_,bE:=dX,b3:=_,b4:=dY,cq:=_,bv:=fC,bW:=_,b5:=dZ,cr:=_,b6:=d0,cs:=_,aw:=a3,aH:=_,bF:=d1,b7:=_,b8:=d2,ct:=_,a9:=bk,bG:=_,bL:=da,ch:=_,b9:=d3,cu:=_,aP:=aL,bf:=_,ca:=d4,cv:=_,cb:=d5,cw:=_,cG:=fa,cI:=_,aU:=ay,ac:=ar,ak:=af,am:=ah,ah:=ae,au:=ai,ae:=ab,af:=ac,aq:=ag,ad:=aa,ai:=ad,cJ:=bz,cO:=dg,cM:=cE,cK:=bA,cP:=dh,cH:=a8,cN:=cF,cL:=bB,cQ:=e8 }:={ bY:=F_BeamError_init,af:=b_BeamError_init,f3:=aA,cl:=F_NoWeight_init,aZ:=b_NoWeight_init,f4:=bl,cp:=F_NoPlace_init,cq:=b_NoPlace_init,f5:=bC,bZ:=F_SamePlace_init,b0:=b_SamePlace_init,f6:=a9,cQ:=F_NoRoom_init,cR:=b_NoRoom_init,f7:=b6,bP:=F_TipsInHand_init,bQ:=b_TipsInHand_init,f8:=aQ,bR:=F_TipsBehind_init,bS:=b_TipsBehind_init,f9:=aR,cm:=F_PlayFull_init,cn:=b_PlayFull_init,ga:=bm,bD:=F_NothingBack_init,bE:=b_NothingBack_init,gb:=aG,dL:=F_Beam_init,dM:=b_Beam_init,gc:=di,em:=F_outside,aq:=b_outside,ar:=W.mg_of X G ki,au:=fg,cr:=F_check_bounds,cs:=b_check_bounds,ct:=W.mg_of X G dF,cu:=bD,cS:=F_check_hefts,cT:=b_check_hefts,cU:=W.mg_of X G eg,cV:=b7,bT:=F_check_standings,bU:=b_check_standings,bV:=W.mg_of X G cr,bW:=aS,cW:=F_as_standing,aj:=b_as_standing,ak:=W.mg_of X G eh,al:=b8,fL:=F_tilt,ba:=b_tilt,bb:=W.mg_of X G tz,bc:=nM,fM:=F_side,fN:=b_side,fO:=W.mg_of X G tA,fP:=nN,fQ:=F_past,a0:=b_past,a1:=W.mg_of X G tB,a2:=nO,fv:=F_keeps,fw:=b_keeps,fx:=W.mg_of X G pN,fy:=jE,en:=F_in_hand,bF:=b_in_hand,bG:=W.mg_of X G kj,bH:=fh,fz:=F_moved,fA:=b_moved,fB:=W.mg_of X G pO,fC:=jF,fD:=F_moves,fE:=b_moves,fF:=W.mg_of X G pP,fG:=jG,eG:=F_turned,eH:=b_turned,eI:=W.mg_of X G nP,eJ:=gN,eK:=F_behind,b1:=b_behind,b2:=W.mg_of X G nQ,b3:=gO,fR:=F_full,df:=b_full,dg:=W.mg_of X G tE,dh:=nR,di:=F_check_move,dj:=b_check_move,dk:=W.mg_of X G fi,dl:=cH,cv:=F_check_weight,cw:=b_check_weight,cx:=W.mg_of X G dG,cy:=bE,dN:=F_check_put,dO:=b_check_put,dP:=W.mg_of X G gf,dQ:=dj,cX:=F_check_tilts,cY:=b_check_tilts,cZ:=W.mg_of X G ei,c0:=b9,fS:=F_puts,fT:=b_puts,fU:=W.mg_of X G tF,fV:=nU,dR:=F_Play_init,dS:=b_Play_init,gd:=dk,dT:=F_Play_move,dU:=b_Play_move,ge:=bN,dV:=F_Play_back,dW:=b_Play_back,gf:=bO,b4:=F_write_standing,b5:=b_write_standing,b6:=W.mg_of X G cI,b7:=ba,dm:=F_write_move,bd:=b_write_move,be:=W.mg_of X G fj,bf:=cJ,dX:=F_read_move,dY:=b_read_move,dZ:=W.mg_of X G gj,d0:=dl,d1:=F_read_beam,d2:=b_read_beam,d3:=W.mg_of X G gk,d4:=dm,c1:=F_read_weight,c2:=b_read_weight,c3:=W.mg_of X G ej,c4:=ca,cz:=F_words_behind,ay:=b_words_behind,az:=W.mg_of X G dH,aA:=bF,c5:=F_write_place,aL:=b_write_place,aM:=W.mg_of X G ek,aN:=cb,dn:=F_read_place,aQ:=b_read_place,aR:=W.mg_of X G fk,aS:=cK,c6:=F_read_number,an:=b_read_number,ao:=W.mg_of X G el,ap:=cc,d5:=F_is_number,d6:=b_is_number,d7:=W.mg_of X G gl,d8:=dn,eo:=F_answers,ep:=b_answers,eq:=W.mg_of X G kk,er:=fl,eL:=F_answer,eM:=b_answer,eN:=W.mg_of X G nZ,eO:=gR,dp:=F_answer_row,dq:=b_answer_row,dr:=W.mg_of X G fm,ds:=cL,cA:=F_answer_words,cB:=b_answer_words,cC:=W.mg_of X G dI,cD:=bG,d9:=F_tell_tilt,bm:=b_tell_tilt,bn:=W.mg_of X G gm,bo:=dp,dt:=F_tell_moves,du:=b_tell_moves,dv:=W.mg_of X G fn,dw:=cM,fW:=F_w_at,aB:=b_w_at,aC:=W.mg_of X G tI,aD:=n4,eP:=F_w_figs,b8:=b_w_figs,b9:=W.mg_of X G n5,ca:=gS,es:=F_w_shape,et:=b_w_shape,eu:=W.mg_of X G kl,ev:=fo,fH:=F_w_put,cE:=b_w_put,cF:=W.mg_of X G pQ,cG:=jN,eQ:=F_w_tilt,aI:=b_w_tilt,aJ:=W.mg_of X G n6,aK:=gT,ew:=F_w_limit,ex:=b_w_limit,ey:=W.mg_of X G km,ez:=fp,eR:=F_w_hard,eS:=b_w_hard,eT:=W.mg_of X G n7,eU:=gU,eV:=F_w_case,eW:=b_w_case,eX:=W.mg_of X G n8,eY:=gV,eZ:=F_w_word,cb:=b_w_word,cc:=W.mg_of X G n9,cd:=gW,e0:=F_w_near,e1:=b_w_near,e2:=W.mg_of X G oa,e3:=gX,fI:=F_w_say,a5:=b_w_say,a6:=W.mg_of X G pR,a7:=jO,e4:=F_w_text,e5:=b_w_text,e6:=W.mg_of X G ob,e7:=gY,e8:=F_w_goal,e9:=b_w_goal,fa:=W.mg_of X G oc,fb:=gZ,c7:=F_w_move_text,aE:=b_w_move_text,aF:=W.mg_of X G em,aG:=cd,fc:=F_w_lean,ce:=b_w_lean,cf:=W.mg_of X G od,cg:=g0,fd:=F_w_pick,fe:=b_w_pick,ff:=W.mg_of X G oe,fg:=g1,dx:=F_w_any_move,dy:=b_w_any_move,dz:=W.mg_of X G fq,dA:=cN,eA:=F_w_moved,bI:=b_w_moved,bJ:=W.mg_of X G kn,bK:=fr,fh:=F_w_back,fi:=b_w_back,fj:=W.mg_of X G oi,fk:=g2,cH:=F_w_moves_text,cI:=b_w_moves_text,cJ:=W.mg_of X G dJ,cK:=bH,fl:=F_w_look,fm:=b_w_look,fn:=W.mg_of X G oj,fo:=g3,fp:=F_w_deed,fq:=b_w_deed,fr:=W.mg_of X G ok,fs:=g4,fZ:=F_law,gg:=b_law,gh:=W.mg_of X G q0,gi:=q1,ab:=⟨wk,wl,wm,wn⟩,fX:=W.mg_of X G wC,fJ:=⟨pS,ge,o0,wo⟩,ae:=de,aH:=fs,ag:=en,aO:=eo,ac:=⟨wp,wq,wr,ws⟩,fY:=W.mg_of X G wD,fK:=⟨pT,gg,o5,wt⟩,av:=ft,c8:=ep,ad:=cO,ax:=fu,dB:=⟨gh,o8,bN⟩,dC:=⟨gi,pb,bO⟩,bu:=W.mg_of X G qY,eB:=W.mg_of X G tw,ea:=W.mg_of X G oY,ft:=W.mg_of X G uH,dD:=W.mg_of X G nK,dE:=W.mg_of X G nL,eg:=W.mg_of X G qZ,c9:=W.mg_of X G lB,ah:=W.mg_of X G oZ,a3:=⟨⟨_,_,_,_,_,_,_,_,_,_,_,_,_,_,_,pm,pn⟩,po,pp⟩,bL:=⟨⟨_,_,_,_,_,_,_,_,_,_,_,_,_,_,_,q2,q3⟩,q4,q5⟩,bp:=⟨⟨_,_,_,_,_,_,_,_,_,_,_,_,_,_,_,ol,om⟩,on,oo⟩,ch:=⟨⟨_,_,_,_,_,_,_,_,_,_,_,_,_,_,_,tP,tQ⟩,tR,tS⟩,bg:=⟨⟨_,_,_,_,_,_,_,_,_,_,_,_,_,_,_,lT,lU⟩,lV,lW⟩,bh:=⟨⟨_,_,_,_,_,_,_,_,_,_,_,_,_,_,_,lX,lY⟩,lZ,l0⟩,bv:=⟨⟨_,_,_,_,_,_,_,_,_,_,_,_,_,_,_,pq,pr⟩,pt,pu⟩,a9:=⟨⟨_,_,_,_,_,_,_,_,_,_,_,_,_,_,_,jR,jS⟩,jT,jU⟩,bw:=dc,bq:=h7,bM:=b1,aY:=cP,eC:=dE,eh:=jy,bX:=cs,a4:=df,eb:=cG,dF:=gJ,bB:=bu,aX:=ct,fu:=ef,eD:=lC,ci:=cQ,a8:=dK,dG:=cp,da:=f4,bx:=bn,aT:=b2,dH:=cq,db:=f7,bz:=bo,aU:=b3,ei:=dd,ec:=ib,bN:=b4,cj:=cR,dc:=b0,cL:=fc,bs:=bb,aP:=bv,gj:=⟨xw1,xw2⟩,ed:=⟨pv,pw,px,py,pz,pA⟩,bt:=zB5 an (by rw[al];rfl) am dL,ej:=⟨q6,q7,q8,q9,ra,rb⟩,bA:=zB5 an (by rw[al];rfl) am d6,dI:=⟨op,oq,os,ot,ou,ov⟩,br:=zB5 an (by rw[al];rfl) am dq,eE:=⟨tT,tU,tV,tW,tX,tY⟩,bC:=zB5 an (by rw[al];rfl) am ez,dd:=⟨l1,l2,l3,l4,l5,l6⟩,bk:=zB5 an (by rw[al];rfl) am cU,de:=⟨l7,l8,l9,ma,mb,mc⟩,bl:=zB5 an (by rw[al];rfl) am cV,gk:=⟨pB,pC,pD,pE,pF,pG⟩,gl:=zB5 an (by rw[al];rfl) am dM,cM:=⟨jV,jW,jX,jY,jZ,j0⟩,bi:=zB5 an (by rw[al];rfl) am cS,ai:=⟨ow,ox,oy,aA⟩,aV:=W.mg_none_of X G pU,aa:=W.mg_none_of X G vf,am:=W.mg_none_of X G pV,f0:=W.mg_none_of X G vg,f1:=W.mg_none_of X G vh,aW:=W.mg_none_of X G vi,aw:=W.mg_none_of X G vj,ek:=W.mg_none_of X G vk,f2:=W.mg_none_of X G vl,co:=W.mg_none_of X G vm,el:=W.mg_none_of X G vn,bO:=W.mg_none_of X G tZ,bj:=W.mg_none_of X G fv,cN:=W.mg_of X G dN,ee:=W.mg_of X G gn,dJ:=W.mg_of X G fw,cO:=W.mg_of X G dO,ef:=W.mg_of X G go,ck:=W.mg_of X G cT,dK:=W.mg_of X G fx,cP:=W.mg_of X G dP,eF:=W.mg_of X G ko }
 exact⟨_,fun s v=>.of_eq rfl,fun base _ _=>ok_law T⟩
theorem walk {l:W.OpenLaw} {q:Program} {loose:List Str} {XP:(Str->Option Value)->Heap->Prop} {YP:World->Heap->Prop} {d:DefRec} {K:Params->W.Frag} (hn:l.most=some 63) (hdf:d.params.defaults=[])
   (hY:∀ (w:World) (h:Heap),YP w h->(K w.params).In h)
   (F:∀ (w:World) (mg:Str->Option Value) (fa:Addr) (h:Heap),(K w.params).In h->h.Ns mainGlobals mg->mg d.name=some (.ref fa) →
     ∃ fd:FuncData,(∀ (s:Shared) (u:Value),BindsTo s fd ⟨[u],[]⟩ [("_law_script",u)])/\∀ base:Heap,(K w.params).In base->base.Ns mainGlobals mg->FnOk l.prog w (K w.params) mg base CX0 12 fa fd ["_law_script"] (zY8 (K w.params))) :
   W.WalkO q loose XP YP l.row.toRowW d [] (fun f vs=>PySem.call f vs) :=
 L2.walk_of (n:=63) (k:=12) (x:="_law_script") (CX:=fun _=>CX0) (sp:=fun w=>zY8 (K w.params)) hn (by decide) hdf ⟨rfl,by decide,by decide⟩ hY F (fun _ _ a ns hl _ hS=>⟨a,ns,rfl,hS,hl,fun _=>rfl⟩) fun _ _ _ _ _ z=>z
theorem walkZ {l:W.OpenLaw} {q:Program} {loose:List Str} {XP:(Str->Option Value)->Heap->Prop} {d:DefRec} {K:Params->W.Frag} (hn:l.most=some 63) (hdf:d.params.defaults=[])
 (F:∀ (w:World) (mg:Str->Option Value) (fa:Addr) (h:Heap),(K w.params).In h->h.Ns mainGlobals mg->mg d.name=some (.ref fa) →
   ∃ fd:FuncData,(∀ (s:Shared) (u:Value),BindsTo s fd ⟨[u],[]⟩ [("_law_script",u)])/\∀ base:Heap,(K w.params).In base->base.Ns mainGlobals mg->FnOk l.prog w (K w.params) mg base CX0 12 fa fd ["_law_script"] (zY8 (K w.params))) :
 W.WalkO q loose XP (fun w h=>(K w.params).In h) l.row.toRowW d [] (fun f vs=>PySem.call f vs):=walk hn hdf (fun _ _ Y=>Y) F
end Bt
open PySem PySem.W PyProof.Rows
set_option maxRecDepth 100000 in
set_option maxHeartbeats 0 in
theorem PySem.Challenge.cw_beamtender_k29_desk_deeds_holds : PySem.Challenge.rw_beamtender_k29_desk_deeds.Holds := by
  w_on; o_law; k_head; (case hw => w_witness2)
  k_fill
  refine Bt.walk (l := PySem.Challenge.rw_beamtender_k29_desk_deeds) rfl rfl (fun w h Y => PySem.W.kIn_of Y) ?F
  case F =>
    intro w mg fa h KX G hmg
    refine' Bt.all_mk KX G hmg ?xaa ?xab ?xac ?xad ?xae ?xaf ?xag ?xah ?xai ?xaj ?xak ?xal ?xam ?xan ?xao ?xap ?xaq ?xar ?xau ?xav ?xaw ?xax ?xay ?xaz ?xaA ?xaB ?xaC ?xaD ?xaE ?xaF ?xaG ?xaH ?xaI ?xaJ ?xaK ?xaL ?xaM ?xaN ?xaO ?xaP ?xaQ ?xaR ?xaS ?xaT ?xaU ?xaV ?xaW ?xaX ?xaY ?xaZ ?xa0 ?xa1 ?xa2 ?xa3 ?xa4 ?xa5 ?xa6 ?xa7 ?xa8 ?xa9 ?xba ?xbb ?xbc ?xbd ?xbe ?xbf ?xbg ?xbh ?xbi ?xbj ?xbk ?xbl ?xbm ?xbn ?xbo ?xbp ?xbq ?xbr ?xbs ?xbt ?xbu ?xbv ?xbw ?xbx ?xbz ?xbA ?xbB ?xbC ?xbD ?xbE ?xbF ?xbG ?xbH ?xbI ?xbJ ?xbK ?xbL ?xbM ?xbN ?xbO ?xbP ?xbQ ?xbR ?xbS ?xbT ?xbU ?xbV ?xbW ?xbX ?xbY ?xbZ ?xb0 ?xb1 ?xb2 ?xb3 ?xb4 ?xb5 ?xb6 ?xb7 ?xb8 ?xb9 ?xca ?xcb ?xcc ?xcd ?xce ?xcf ?xcg ?xch ?xci ?xcj ?xck ?xcl ?xcm ?xcn ?xco ?xcp ?xcq ?xcr ?xcs ?xct ?xcu ?xcv ?xcw ?xcx ?xcy ?xcz ?xcA ?xcB ?xcC ?xcD ?xcE ?xcF ?xcG ?xcH ?xcI ?xcJ ?xcK ?xcL ?xcM ?xcN ?xcO ?xcP ?xcQ ?xcR ?xcS ?xcT ?xcU ?xcV ?xcW ?xcX ?xcY ?xcZ ?xc0 ?xc1 ?xc2 ?xc3 ?xc4 ?xc5 ?xc6 ?xc7 ?xc8 ?xc9 ?xda ?xdb ?xdc ?xdd ?xde ?xdf ?xdg ?xdh ?xdi ?xdj ?xdk ?xdl ?xdm ?xdn ?xdp ?xdq ?xdr ?xds ?xdt ?xdu ?xdv ?xdw ?xdx ?xdy ?xdz ?xdA ?xdB ?xdC ?xdD ?xdE ?xdF ?xdG ?xdH ?xdI ?xdJ ?xdK ?xdL ?xdM ?xdN ?xdO ?xdP ?xdQ ?xdR ?xdS ?xdT ?xdU ?xdV ?xdW ?xdX ?xdY ?xdZ ?xd0 ?xd1 ?xd2 ?xd3 ?xd4 ?xd5 ?xd6 ?xd7 ?xd8 ?xd9 ?xea ?xeb ?xec ?xed ?xee ?xef ?xeg ?xeh ?xei ?xej ?xek ?xel ?xem ?xen ?xeo ?xep ?xeq ?xer ?xes ?xet ?xeu ?xev ?xew ?xex ?xey ?xez ?xeA ?xeB ?xeC ?xeD ?xeE ?xeF ?xeG ?xeH ?xeI ?xeJ ?xeK ?xeL ?xeM ?xeN ?xeO ?xeP ?xeQ ?xeR ?xeS ?xeT ?xeU ?xeV ?xeW ?xeX ?xeY ?xeZ ?xe0 ?xe1 ?xe2 ?xe3 ?xe4 ?xe5 ?xe6 ?xe7 ?xe8 ?xe9 ?xfa ?xfb ?xfc ?xfd ?xfe ?xff ?xfg ?xfh ?xfi ?xfj ?xfk ?xfl ?xfm ?xfn ?xfo ?xfp ?xfq ?xfr ?xfs ?xft ?xfu ?xfv ?xfw ?xfx ?xfy ?xfz ?xfA ?xfB ?xfC ?xfD ?xfE ?xfF ?xfG ?xfH ?xfI ?xfJ ?xfK ?xfL ?xfM ?xfN ?xfO ?xfP ?xfQ ?xfR ?xfS ?xfT ?xfU ?xfV ?xfW ?xfX ?xfY ?xfZ ?xf0 ?xf1 ?xf2 ?xf3 ?xf4 ?xf5 ?xf6 ?xf7 ?xf8 ?xf9 ?xga ?xgb ?xgc ?xgd ?xge ?xgf ?xgg ?xgh ?xgi ?xgj ?xgk ?xgl ?xgm ?xgn ?xgo ?xgp ?xgq ?xgr ?xgs ?xgt ?xgu ?xgv ?xgw ?xgx ?xgy ?xgz ?xgA ?xgB ?xgC ?xgD ?xgE ?xgF ?xgG ?xgH ?xgI ?xgJ ?xgK ?xgL ?xgM ?xgN ?xgO ?xgP ?xgQ ?xgR ?xgS ?xgT ?xgU ?xgV ?xgW ?xgX ?xgY ?xgZ ?xg0 ?xg1 ?xg2 ?xg3 ?xg4 ?xg5 ?xg6 ?xg7 ?xg8 ?xg9 ?xha ?xhb ?xhc ?xhd ?xhe ?xhf ?xhg ?xhh ?xhi ?xhj ?xhk ?xhl ?xhm ?xhn ?xho ?xhp ?xhq ?xhr ?xhs ?xht ?xhu ?xhv ?xhw ?xhx ?xhy ?xhz ?xhA ?xhB ?xhC ?xhD ?xhE ?xhF ?xhG ?xhH ?xhI ?xhJ ?xhK ?xhL ?xhM ?xhN ?xhO ?xhP ?xhQ ?xhR ?xhS
    (case xaa=>k_is)
    (case xab=>k_is)
    (case xac=>k_is)
    (case xad=>k_is)
    (case xae=>k_is)
    (case xaf=>k_is)
    (case xag=>k_is)
    (case xah=>k_is)
    (case xai=>k_is)
    (case xaj=>k_is)
    (case xak=>k_is)
    (case xal=>k_is)
    (case xam=>k_is)
    (case xan=>k_is)
    (case xao=>k_is)
    (case xap=>k_is)
    (case xaq=>k_is)
    (case xar=>k_is)
    (case xau=>k_is)
    (case xav=>k_is)
    (case xaw=>k_is)
    (case xax=>k_is)
    (case xay=>k_is)
    (case xaz=>k_is)
    (case xaA=>k_is)
    (case xaB=>k_is)
    (case xaC=>k_is)
    (case xaD=>k_is)
    (case xaE=>k_is)
    (case xaF=>k_is)
    (case xaG=>k_is)
    (case xaH=>k_is)
    (case xaI=>k_is)
    (case xaJ=>k_is)
    (case xaK=>k_is)
    (case xaL=>k_is)
    (case xaM=>k_is)
    (case xaN=>k_is)
    (case xaO=>k_is)
    (case xaP=>k_is)
    (case xaQ=>k_is)
    (case xaR=>k_is)
    (case xaS=>k_is)
    (case xaT=>k_is)
    (case xaU=>k_is)
    (case xaV=>k_is)
    (case xaW=>k_is)
    (case xaX=>k_is)
    (case xaY=>k_is)
    (case xaZ=>k_is)
    (case xa0=>k_is)
    (case xa1=>k_is)
    (case xa2=>k_is)
    (case xa3=>k_is)
    (case xa4=>k_is)
    (case xa5=>k_is)
    (case xa6=>k_is)
    (case xa7=>k_is)
    (case xa8=>k_is)
    (case xa9=>k_is)
    (case xba=>k_is)
    (case xbb=>k_is)
    (case xbc=>k_is)
    (case xbd=>k_is)
    (case xbe=>k_is)
    (case xbf=>k_is)
    (case xbg=>k_is)
    (case xbh=>k_is)
    (case xbi=>k_is)
    (case xbj=>k_is)
    (case xbk=>k_is)
    (case xbl=>k_is)
    (case xbm=>k_is)
    (case xbn=>k_is)
    (case xbo=>k_is)
    (case xbp=>k_is)
    (case xbq=>k_is)
    (case xbr=>k_is)
    (case xbs=>k_is)
    (case xbt=>k_is)
    (case xbu=>k_is)
    (case xbv=>k_is)
    (case xbw=>k_is)
    (case xbx=>k_is)
    (case xbz=>k_is)
    (case xbA=>k_is)
    (case xbB=>k_is)
    (case xbC=>k_is)
    (case xbD=>k_is)
    (case xbE=>k_is)
    (case xbF=>k_is)
    (case xbG=>k_is)
    (case xbH=>k_is)
    (case xbI=>k_is)
    (case xbJ=>k_is)
    (case xbK=>k_is)
    (case xbL=>k_is)
    (case xbM=>k_is)
    (case xbN=>k_is)
    (case xbO=>k_is)
    (case xbP=>k_is)
    (case xbQ=>k_is)
    (case xbR=>k_is)
    (case xbS=>k_is)
    (case xbT=>k_is)
    (case xbU=>k_is)
    (case xbV=>k_is)
    (case xbW=>k_is)
    (case xbX=>k_is)
    (case xbY=>k_is)
    (case xbZ=>k_is)
    (case xb0=>k_is)
    (case xb1=>k_is)
    (case xb2=>k_is)
    (case xb3=>k_is)
    (case xb4=>k_is)
    (case xb5=>k_is)
    (case xb6=>k_is)
    (case xb7=>k_is)
    (case xb8=>k_is)
    (case xb9=>k_is)
    (case xca=>k_is)
    (case xcb=>k_is)
    (case xcc=>k_is)
    (case xcd=>k_is)
    (case xce=>k_is)
    (case xcf=>k_is)
    (case xcg=>k_is)
    (case xch=>k_is)
    (case xci=>k_is)
    (case xcj=>k_is)
    (case xck=>k_is)
    (case xcl=>k_is)
    (case xcm=>k_is)
    (case xcn=>k_is)
    (case xco=>k_is)
    (case xcp=>k_is)
    (case xcq=>k_is)
    (case xcr=>k_is)
    (case xcs=>k_is)
    (case xct=>k_is)
    (case xcu=>k_is)
    (case xcv=>k_is)
    (case xcw=>k_is)
    (case xcx=>k_is)
    (case xcy=>k_is)
    (case xcz=>k_is)
    (case xcA=>k_is)
    (case xcB=>k_is)
    (case xcC=>k_is)
    (case xcD=>k_is)
    (case xcE=>k_is)
    (case xcF=>k_is)
    (case xcG=>k_is)
    (case xcH=>k_is)
    (case xcI=>k_is)
    (case xcJ=>k_is)
    (case xcK=>k_is)
    (case xcL=>k_is)
    (case xcM=>k_is)
    (case xcN=>k_is)
    (case xcO=>k_is)
    (case xcP=>k_is)
    (case xcQ=>k_is)
    (case xcR=>k_is)
    (case xcS=>k_is)
    (case xcT=>k_is)
    (case xcU=>k_is)
    (case xcV=>k_is)
    (case xcW=>k_is)
    (case xcX=>k_is)
    (case xcY=>k_is)
    (case xcZ=>k_is)
    (case xc0=>k_is)
    (case xc1=>k_is)
    (case xc2=>k_is)
    (case xc3=>k_is)
    (case xc4=>k_is)
    (case xc5=>k_is)
    (case xc6=>k_is)
    (case xc7=>k_is)
    (case xc8=>k_is)
    (case xc9=>k_is)
    (case xda=>k_is)
    (case xdb=>k_is)
    (case xdc=>k_is)
    (case xdd=>k_is)
    (case xde=>k_is)
    (case xdf=>k_is)
    (case xdg=>k_is)
    (case xdh=>k_is)
    (case xdi=>k_is)
    (case xdj=>k_is)
    (case xdk=>k_is)
    (case xdl=>k_is)
    (case xdm=>k_is)
    (case xdn=>k_is)
    (case xdp=>k_is)
    (case xdq=>k_is)
    (case xdr=>k_is)
    (case xds=>k_is)
    (case xdt=>k_is)
    (case xdu=>k_is)
    (case xdv=>k_is)
    (case xdw=>k_is)
    (case xdx=>k_is)
    (case xdy=>k_is)
    (case xdz=>k_is)
    (case xdA=>k_is)
    (case xdB=>k_is)
    (case xdC=>k_is)
    (case xdD=>k_is)
    (case xdE=>k_is)
    (case xdF=>k_is)
    (case xdG=>k_is)
    (case xdH=>k_is)
    (case xdI=>k_is)
    (case xdJ=>k_is)
    (case xdK=>k_is)
    (case xdL=>k_is)
    (case xdM=>k_is)
    (case xdN=>k_is)
    (case xdO=>k_is)
    (case xdP=>k_is)
    (case xdQ=>k_is)
    (case xdR=>k_is)
    (case xdS=>k_is)
    (case xdT=>k_is)
    (case xdU=>k_is)
    (case xdV=>k_is)
    (case xdW=>k_is)
    (case xdX=>k_is)
    (case xdY=>k_is)
    (case xdZ=>k_is)
    (case xd0=>k_is)
    (case xd1=>k_is)
    (case xd2=>k_is)
    (case xd3=>k_is)
    (case xd4=>k_is)
    (case xd5=>k_is)
    (case xd6=>k_is)
    (case xd7=>k_is)
    (case xd8=>k_is)
    (case xd9=>k_is)
    (case xea=>k_is)
    (case xeb=>k_is)
    (case xec=>k_is)
    (case xed=>k_is)
    (case xee=>k_is)
    (case xef=>k_is)
    (case xeg=>k_is)
    (case xeh=>k_is)
    (case xei=>k_is)
    (case xej=>k_is)
    (case xek=>k_is)
    (case xel=>k_is)
    (case xem=>k_is)
    (case xen=>k_is)
    (case xeo=>k_is)
    (case xep=>k_is)
    (case xeq=>k_is)
    (case xer=>k_is)
    (case xes=>k_is)
    (case xet=>k_is)
    (case xeu=>k_is)
    (case xev=>k_is)
    (case xew=>k_is)
    (case xex=>k_is)
    (case xey=>k_is)
    (case xez=>k_is)
    (case xeA=>k_is)
    (case xeB=>k_is)
    (case xeC=>k_is)
    (case xeD=>k_is)
    (case xeE=>k_is)
    (case xeF=>k_is)
    (case xeG=>k_is)
    (case xeH=>k_is)
    (case xeI=>k_is)
    (case xeJ=>k_is)
    (case xeK=>k_is)
    (case xeL=>k_is)
    (case xeM=>k_is)
    (case xeN=>k_is)
    (case xeO=>k_is)
    (case xeP=>k_is)
    (case xeQ=>k_is)
    (case xeR=>k_is)
    (case xeS=>k_is)
    (case xeT=>k_is)
    (case xeU=>k_is)
    (case xeV=>k_is)
    (case xeW=>k_is)
    (case xeX=>k_is)
    (case xeY=>k_is)
    (case xeZ=>k_is)
    (case xe0=>k_is)
    (case xe1=>k_is)
    (case xe2=>k_is)
    (case xe3=>k_is)
    (case xe4=>k_is)
    (case xe5=>k_is)
    (case xe6=>k_is)
    (case xe7=>k_is)
    (case xe8=>k_is)
    (case xe9=>k_is)
    (case xfa=>k_is)
    (case xfb=>k_is)
    (case xfc=>k_is)
    (case xfd=>k_is)
    (case xfe=>k_is)
    (case xff=>k_is)
    (case xfg=>k_is)
    (case xfh=>k_is)
    (case xfi=>k_is)
    (case xfj=>k_is)
    (case xfk=>k_is)
    (case xfl=>k_is)
    (case xfm=>k_is)
    (case xfn=>k_is)
    (case xfo=>k_is)
    (case xfp=>k_is)
    (case xfq=>k_is)
    (case xfr=>k_is)
    (case xfs=>k_is)
    (case xft=>k_is)
    (case xfu=>k_is)
    (case xfv=>k_is)
    (case xfw=>k_is)
    (case xfx=>k_is)
    (case xfy=>k_is)
    (case xfz=>k_is)
    (case xfA=>k_is)
    (case xfB=>k_is)
    (case xfC=>k_is)
    (case xfD=>k_is)
    (case xfE=>k_is)
    (case xfF=>k_is)
    (case xfG=>k_is)
    (case xfH=>k_is)
    (case xfI=>k_is)
    (case xfJ=>k_is)
    (case xfK=>first | exact Or.inl rfl | exact Or.inr ⟨_, rfl⟩)
    (case xfL=>k_is)
    (case xfM=>k_is)
    (case xfN=>k_is)
    (case xfO=>first | exact Or.inl rfl | exact Or.inr ⟨_, rfl⟩)
    (case xfP=>k_is)
    (case xfQ=>k_is)
    (case xfR=>k_is)
    (case xfS=>first | exact Or.inl rfl | exact Or.inr ⟨_, rfl⟩)
    (case xfT=>k_is)
    (case xfU=>k_is)
    (case xfV=>k_is)
    (case xfW=>first | exact Or.inl rfl | exact Or.inr ⟨_, rfl⟩)
    (case xfX=>k_is)
    (case xfY=>k_is)
    (case xfZ=>k_is)
    (case xf0=>first | exact Or.inl rfl | exact Or.inr ⟨_, rfl⟩)
    (case xf1=>k_is)
    (case xf2=>k_is)
    (case xf3=>k_is)
    (case xf4=>first | exact Or.inl rfl | exact Or.inr ⟨_, rfl⟩)
    (case xf5=>k_is)
    (case xf6=>k_is)
    (case xf7=>k_is)
    (case xf8=>first | exact Or.inl rfl | exact Or.inr ⟨_, rfl⟩)
    (case xf9=>k_is)
    (case xga=>k_is)
    (case xgb=>k_is)
    (case xgc=>first | exact Or.inl rfl | exact Or.inr ⟨_, rfl⟩)
    (case xgd=>k_is)
    (case xge=>k_is)
    (case xgf=>k_is)
    (case xgg=>k_is)
    (case xgh=>k_is)
    (case xgi=>k_is)
    (case xgj=>k_is)
    (case xgk=>k_is)
    (case xgl=>k_is)
    (case xgm=>k_is)
    (case xgn=>k_is)
    (case xgo=>k_is)
    (case xgp=>k_is)
    (case xgq=>k_is)
    (case xgr=>k_is)
    (case xgs=>k_is)
    (case xgt=>k_is)
    (case xgu=>k_is)
    (case xgv=>k_is)
    (case xgw=>k_is)
    (case xgx=>k_is)
    (case xgy=>k_is)
    (case xgz=>k_is)
    (case xgA=>k_is)
    (case xgB=>k_is)
    (case xgC=>k_is)
    (case xgD=>k_is)
    (case xgE=>k_is)
    (case xgF=>k_is)
    (case xgG=>k_is)
    (case xgH=>k_is)
    (case xgI=>k_is)
    (case xgJ=>k_is)
    (case xgK=>k_is)
    (case xgL=>k_is)
    (case xgM=>k_is)
    (case xgN=>k_is)
    (case xgO=>k_is)
    (case xgP=>k_is)
    (case xgQ=>k_is)
    (case xgR=>k_is)
    (case xgS=>k_is)
    (case xgT=>k_is)
    (case xgU=>k_is)
    (case xgV=>k_is)
    (case xgW=>k_is)
    (case xgX=>k_is)
    (case xgY=>k_is)
    (case xgZ=>k_is)
    (case xg0=>k_is)
    (case xg1=>k_is)
    (case xg2=>k_is)
    (case xg3=>k_is)
    (case xg4=>k_is)
    (case xg5=>k_is)
    (case xg6=>k_is)
    (case xg7=>k_is)
    (case xg8=>k_is)
    (case xg9=>k_is)
    (case xha=>k_is)
    (case xhb=>k_is)
    (case xhc=>k_is)
    (case xhd=>k_is)
    (case xhe=>k_is)
    (case xhf=>k_is)
    (case xhg=>k_is)
    (case xhh=>k_is)
    (case xhi=>k_is)
    (case xhj=>k_is)
    (case xhk=>k_is)
    (case xhl=>k_is)
    (case xhm=>k_is)
    (case xhn=>k_is)
    (case xho=>k_is)
    (case xhp=>k_is)
    (case xhq=>k_is)
    (case xhr=>k_is)
    (case xhs=>k_is)
    (case xht=>k_is)
    (case xhu=>k_is)
    (case xhv=>k_is)
    (case xhw=>k_is)
    (case xhx=>k_is)
    (case xhy=>k_is)
    (case xhz=>k_is)
    (case xhA=>k_is)
    (case xhB=>k_is)
    (case xhC=>k_is)
    (case xhD=>k_is)
    (case xhE=>k_is)
    (case xhF=>k_is)
    (case xhG=>k_is)
    (case xhH=>k_is)
    (case xhI=>k_is)
    (case xhJ=>k_is)
    (case xhK=>k_is)
    (case xhL=>k_is)
    (case xhM=>k_is)
    (case xhN=>k_is)
    (case xhO=>k_is)
    (case xhP=>k_is)
    (case xhQ=>k_is)
    (case xhR=>k_is)
    (case xhS=>k_is)
