import PyProof.Rows.All
import Wide.All
import OpenK.AllK
import Wide.FinOn
import Open.Tops
import Lean
import PyProof.EqAt
import PyProof.EqKinds
import PyProof.TupleCall
import PyProof.ExcInit
import PyProof.ExcClass3
import PyProof.ExcBaseAll.ValueError
import PyProof.InstStoreFacts
import KE.KTryMore
import PyProof.RulesAs
import PyProof.NsDelKeeps
import PyProof.Rows.SortRuns
import KE.KDictSum
import KE.KSortTup
import PyProof.Rows.SetFrom
import PyProof.Rows.MinMaxN
import KE.KDictOf
import KE.KDictList
import PySem.Challenge.RW_beamtender_k32_whole_ends
set_option genSizeOf false
set_option bootstrap.genMatcherCode false
set_option Elab.async false
set_option linter.all false
set_option maxRecDepth 100000
set_option maxHeartbeats 4000000
namespace PySem.W.Fast
def tw11084103506685473408:=()
def tw15536343108287694871:=()
def tw11857704561511936598:=()
def tw15752777336655377611:=()
def tw17477964225710263558:=()
def tw14909222468634073597:=()
def tw5571662194880046221:=()
def tw1294872539189351102:=()
def tw7237534449651285625:=()
def tw14848026642332231369:=()
def tw10443972115167685737:=()
def tw9454596663663417057:=()
def tw16124907296705905126:=()
def tw17984828250133696484:=()
def tw9067880156794877461:=()
def tw3053039681705907590:=()
def tw10671703017435314962:=()
def tw5984143708942506367:=()
def tw7856366617642422951:=()
def tw18405930110733475709:=()
def tw12956959381625706810:=()
def tw1152981414993886155:=()
def tw18272578698108203428:=()
def tw10907921588547254137:=()
def tw10663524056049230594:=()
def tw2467528430711677637:=()
def tw6287023359698139569:=()
def tw13918070900721017462:=()
def tw18412536637008336101:=()
def tw17976260235993306699:=()
def tw18008403900301762646:=()
def tw9411876675700126472:=()
def tw14678072303138634297:=()
def tw5821911006821443499:=()
def tw7202855037154246143:=()
def tw13938373448573225456:=()
def tw10633027821192320760:=()
def tw8964479381270053676:=()
def tw9599814098166041113:=()
def tw14622875301053106882:=()
def tw16628238818213800457:=()
def tw18122505570158028760:=()
def tw5268945621321606819:=()
def tw8683761304018220842:=()
def tw15925265949448558729:=()
def tw12801123224838943016:=()
def tw8154386272651081202:=()
def tw9817034422625372291:=()
def tw3890045312479836345:=()
def tw7702557359998385182:=()
def tw8289201723033672784:=()
def tw17272878522769818577:=()
def tw6823255452266843197:=()
def tw2911320888559986973:=()
def tw2344292890008453064:=()
def tw14905249040276316220:=()
def tw3512349219367216684:=()
def tw4599408916308314879:=()
def tw9437125512719922277:=()
def tw8653984309956016162:=()
def tw3013017930218729373:=()
def tw2490022422658820593:=()
def tw1845818362578280308:=()
def tw15484327021457262774:=()
def tw13484413069630305440:=()
def tw16601209679299077434:=()
def tw14259238945965199361:=()
def tw18289631012114666751:=()
def tw3065183089253288475:=()
def tw16265753608964126237:=()
def tw6534638269923451698:=()
def tw18267388806484754249:=()
def tw8620533275595119947:=()
def tw13937447743923076125:=()
def tw4304239475801117149:=()
def tw12646201633312866470:=()
def tw13289688069668668681:=()
def tw12910276793347104840:=()
def tw103882420914111513:=()
def tw2820001725760277863:=()
def tw1028674323301138617:=()
def tw15078077610679079894:=()
def tw6152071860249167435:=()
def tw10717283139417537689:=()
def tw12307263872765737386:=()
def tw16016550133085892538:=()
def tw17052796983068791434:=()
def tw13330442626456223456:=()
def tw7046939658872891319:=()
def tw5064875532240029374:=()
def tw8388551247895793903:=()
def tw8890067713494089578:=()
def tw7714284404807913830:=()
def tw12502990643044651330:=()
def tw11370362293830285689:=()
def tw2997100427077911204:=()
def tw6583059497908401695:=()
def tw15635021653711906561:=()
def tw13980391716373973125:=()
def tw4517699912411949365:=()
def tw9408222747589952149:=()
def tw1000842258696149368:=()
def tw15549063411931563809:=()
def tw3178918529748216085:=()
def tw3315807339538290543:=()
def tw1445692441522581213:=()
def tw12544126094507759576:=()
def tw510508489687345004:=()
def tw94312369156794807:=()
def tw3104085137606496750:=()
def tw13940807443798281087:=()
def tw18058020925672519607:=()
def tw15865710152223597601:=()
def tw15631277070633500900:=()
def tw11152937896425033067:=()
def tw16919948864608603538:=()
def tw7081219217070067141:=()
def tw7167577888936402910:=()
def tw9197304658949117301:=()
def tw15960876296514698637:=()
def tw5435949670003172306:=()
def tw16496239058014000790:=()
def tw1275438384871646307:=()
def tw12738888062330648496:=()
def tw10820806771485820009:=()
def tw4062561085211183239:=()
def tw10973713330888040641:=()
def tw11314678246958923041:=()
def tw9280559720540160438:=()
def tw7993358469165024741:=()
def tw9507497468520644574:=()
def tw13092458314787671302:=()
def tw3450276488458835093:=()
def tw11299500888830994319:=()
def tw15946059240643880343:=()
def tw2504313450237132770:=()
def tw5618704081367992974:=()
def tw7602320758946591936:=()
def tw16293240915958999274:=()
def tw16738802809170340383:=()
def tw7250266115057885554:=()
def tw16077915678027328600:=()
def tw12124372697101007219:=()
def tw5822687539928157022:=()
def tw9617132747901357244:=()
def tw6906358602825296887:=()
def tw10295489694689422546:=()
def tw11364337024742858680:=()
def tw16491373875333170620:=()
def tw345614751814102749:=()
def tw8199544070925167628:=()
def tw4011314796010634301:=()
def tw13715859635340528996:=()
def tw6292772210794946620:=()
def tw12703518704471188779:=()
def tw2376146251339899467:=()
def tw15089149639592806085:=()
def tw8863032751403379839:=()
def tw12762170892830866863:=()
def tw2100303338328872314:=()
def tw16300821235226906413:=()
def tw14352405326576224817:=()
def tw12620750862402277421:=()
def tw6055733791399981480:=()
def tw15040187060045286449:=()
def tw745352489645978357:=()
def tw16274425047615367574:=()
def tw5393993317531125005:=()
def tw13284986261401224365:=()
def tw14149134608102500887:=()
def tw14168097292776707022:=()
def tw5099782730629757621:=()
def tw9716621485308279651:=()
def tw9513884694578321976:=()
def tw964025291714068046:=()
def tw3882083040895872235:=()
def tw4698872473200378980:=()
def tw10636932806721120778:=()
def tw8462681007095224893:=()
def tw4181922629742367180:=()
def tw9551405537285381099:=()
def tw12781270545668495627:=()
def tw5417864108911599316:=()
def tw2955376334476329085:=()
def tw12401827627117488271:=()
def tw1583082192504555227:=()
def tw7627212981247519944:=()
def tw3950208620310107622:=()
def tw1703398147701914194:=()
def tw5899196017250092262:=()
def tw13395928122616157352:=()
def tw18395447249889284424:=()
def tw7991381263852058442:=()
def tw8206308077353077152:=()
def tw13886701811110005027:=()
def tw4607666237618533621:=()
def tw15699863016569598264:=()
def tw5814548082606291424:=()
def tw6832014229881987696:=()
def tw10405599694063812739:=()
def tw6384380429368410037:=()
def tw3682201383558988232:=()
def tw1887009147814325085:=()
def tw234708281142473747:=()
def tw11070642299167359730:=()
def tw6881704362152558297:=()
def tw2611873140177220868:=()
def tw3019469949455086360:=()
def tw2815197545554746675:=()
def tw11684820928529727840:=()
def tw12272734062397362457:=()
def tw13729778500139187802:=()
def tw17485055340540243352:=()
def tw4957002753913949090:=()
def tw15989004983770298846:=()
def tw6219350956196092624:=()
def tw4967620232448868771:=()
def tw4258499475166030357:=()
def tw9218870538010551065:=()
def tw4174351403395228357:=()
def tw10682301958158965649:=()
def tw11908060083009463949:=()
def tw2873906900865933853:=()
def tw320137766859689576:=()
def tw4740779726407543000:=()
def tw106625873526075968:=()
def tw16328061554116807395:=()
def tw12267645336050823156:=()
def tw17688860007147443142:=()
def tw16177564472515902282:=()
def tw12854131776258026056:=()
def tw16712202820130727285:=()
def tw16621055288179733572:=()
def tw15603082487305424121:=()
def tw9774171697980739067:=()
def tw13042987009090369755:=()
def tw18127286466306570104:=()
def tw2791225963907702458:=()
def tw3723177373317537601:=()
def tw7691898122354419227:=()
def tw7394711482365575798:=()
def tw9254505162750572084:=()
def tw17290972964042678537:=()
def tw10683490133551891102:=()
def tw6003258108348354880:=()
def tw12585168246023265348:=()
def tw10903336093356984243:=()
def tw11594446826732008288:=()
def tw7235606131348083305:=()
def tw6495966422785669206:=()
def tw6372348885402806909:=()
def tw4741379270892838527:=()
def tw6327129590609866705:=()
def tw11164126175202148545:=()
def tw17287578785476044135:=()
def tw17730509932181441153:=()
def tw15822585218116058443:=()
def tw4660974710332887931:=()
def tw12651480319358766588:=()
def tw15200283316858162990:=()
def tw11078359832463643296:=()
def tw7827199926834777277:=()
def tw10267624684649909220:=()
def tw12107526965478557161:=()
def tw8310924538936311254:=()
def tw1468086669501970598:=()
def tw15408855724385353760:=()
def tw7060202860672180828:=()
def tw6400503971435075644:=()
def tw2121349194463633830:=()
def tw17258161852213530925:=()
def tw7471782390009903681:=()
def tw13913515062690201963:=()
def tw4965868089462060063:=()
def tw4098889890243815929:=()
def tw1932415249604858339:=()
def tw17053860226579071322:=()
def tw12698112638984492008:=()
def tw15027230264651535303:=()
def tw17257756357986011854:=()
def tw6215533152039126534:=()
def tw4811901259312654301:=()
def tw8066867726715957376:=()
def tw3687594823114701914:=()
def tw14370623580232250223:=()
def tw5957374806781909904:=()
def tw6934088958044369265:=()
def tw7153372282856021588:=()
def tw3830430188680812704:=()
def tw657412986481394591:=()
def tw6413828415916323946:=()
def tw10891832162847521679:=()
def tw11408032075819563114:=()
def tw3950468068174259121:=()
def tw4550551621403207681:=()
def tw3933184146734922484:=()
def tw13401354008174147642:=()
def tw18429356701781453102:=()
def tw16122719051663199940:=()
def tw12210542442915399151:=()
def tw8339506708182586647:=()
def tw10996526213340549019:=()
def tw1435658892294650183:=()
def tw17319465659006786200:=()
def tw10444024752661012937:=()
def tw5307621015708992375:=()
def tw15328714800068425390:=()
def tw1492534315095241964:=()
def tw9975440970417669999:=()
def tw8251602390916239078:=()
def tw7436801061771752070:=()
def tw12752150830553017451:=()
def tw5355366707231505081:=()
def tw12949322264152296818:=()
def tw7763899285281672527:=()
def tw15184719589391248835:=()
def tw1011886094808034365:=()
def tw946860814155284815:=()
def tw10115618877673005015:=()
def tw9010099809741596245:=()
def tw8440458137534088382:=()
def tw8179984010025559478:=()
def tw1916129475366820216:=()
def tw16357710459693451616:=()
def tw16693665330406178084:=()
def tw7913487494982484974:=()
def tw8799843197480935225:=()
def tw11920347305827331542:=()
def tw1541844247297520286:=()
def tw9577353047086436272:=()
def tw6221288335226394357:=()
def tw8358301076202330920:=()
def tw9825204371644591898:=()
def tw14319998673970433405:=()
def tw17843169904580934029:=()
def tw11035741090231338881:=()
def tw411974920610325560:=()
def tw16571092839454270792:=()
def tw3959295344381382892:=()
def tw9955913986758740559:=()
def tw6456229382141864479:=()
def tw14677674703312933230:=()
def tw1020594836707305216:=()
def tw9016096609202252766:=()
def tw11536218870955491037:=()
def tw14901276094066464836:=()
def tw690076699259883706:=()
def tw3310003191857137361:=()
def tw7501313016683694444:=()
def tw529854329468910250:=()
def tw665817556643461201:=()
def tw10884504835522081619:=()
def tw12884345898040493565:=()
def tw13727869218938716840:=()
def tw243014645851030326:=()
def tw3761220389164215930:=()
def tw2660240500735174058:=()
def tw14511448695305008439:=()
def tw8231027407842749250:=()
def tw12568553590447402063:=()
def tw7665099563914829251:=()
def tw12273328002279823398:=()
def tw2211392441463003465:=()
def tw12473246741174196860:=()
def tw9178179058778410696:=()
def tw10959502279142616385:=()
def tw11230721723131433943:=()
def tw502495836982246989:=()
def tw2664406493659040729:=()
def tw8527514369018007257:=()
def tw12671018709270084346:=()
def tw15097151832389050100:=()
def tw11099970509632848620:=()
def tw7583253911553056191:=()
def tw10502333760148425580:=()
def tw5245458672508240684:=()
def tw10323030359388251718:=()
def tw6634899264410076467:=()
def tw6138748847494444489:=()
def tw1514344064824093552:=()
def tw11081201899694047314:=()
def tw6562163041563323974:=()
def tw7585699332345302173:=()
def tw13537983921936202266:=()
def tw1080543337418065352:=()
def tw13839079010758941282:=()
def tw13280436945506912963:=()
def tw3569682346032787453:=()
def tw10926737936791278328:=()
def tw47161570704036718:=()
def tw9487836372720062715:=()
def tw7439883640280057394:=()
def tw8831107261841256154:=()
def tw5861541601230951947:=()
def tw14156178658299049237:=()
def tw4500830113821270154:=()
def tw10447469443959813410:=()
def tw14793528613841356241:=()
def tw3230255935634896069:=()
def tw5898995299599593840:=()
def tw309385545636862894:=()
def tw13943940324916339923:=()
def tw7665518572684538450:=()
def tw12277332928456287399:=()
def tw10265172942697640106:=()
def tw251300949455718942:=()
def tw9979345423554215016:=()
def tw5311949027486367893:=()
def tw10215046895910327015:=()
def tw11435391619590941314:=()
def tw7007480984082095211:=()
def tw15690082421701309362:=()
def tw11584437843894268061:=()
def tw11867774271635991182:=()
def tw2488668148265196763:=()
def tw13342077861458292948:=()
def tw15583261048998747082:=()
def tw4029000634431701355:=()
def tw11070629219782796279:=()
def tw12021309773596684918:=()
def tw18440469551446415907:=()
def tw8133356010422923449:=()
def tw17932610595878791321:=()
def tw6004625546920555698:=()
def tw6075535063484946855:=()
def tw16960749861441929826:=()
def tw15621976337650108401:=()
def tw4090890459014202459:=()
def tw15904199594167711245:=()
def tw7265332195313137301:=()
def tw4631560925069724547:=()
def tw11403076821752195099:=()
def tw5720408105953493389:=()
def tw7171795642936334445:=()
def tw16117101471947578159:=()
def tw550970613757312479:=()
def tw10404248668069894984:=()
def tw17539524990856458832:=()
def tw6021518616687916795:=()
def tw9640275783446171127:=()
def tw8205921478930665647:=()
def tw17833299349283812095:=()
def tw13861638413835968133:=()
def tw12185636834206920843:=()
def tw9157589350751304737:=()
def tw967181451958306903:=()
def tw7194236489510154445:=()
def tw13112545718370287331:=()
def tw524048258799688333:=()
def tw5398983549539484722:=()
def tw8954937720878738642:=()
def tw3928190779004742125:=()
def tw8759779739261265001:=()
def tw16303290952775889906:=()
def tw12763405279172489904:=()
def tw14195979810670126923:=()
def tw12253003181905998971:=()
def tw2154145614821177048:=()
def tw6773530256975149701:=()
def tw10674909896736814064:=()
def tw3973855673088287084:=()
def tw14698416519950074807:=()
def tw16836811406650566717:=()
def tw13354989398945762970:=()
def tw7176615548978978305:=()
def tw7164401465345759305:=()
def tw2982073985316677885:=()
def tw14404858087532498792:=()
def tw12434623591825852099:=()
def tw1706671325077604251:=()
def tw16650694349510481960:=()
def tw7784344898248670515:=()
def tw2555765356103515764:=()
def tw7919678704030120392:=()
def tw9660912392891133213:=()
def tw13702891178513515200:=()
def tw10344600693680649153:=()
def tw917337710372036723:=()
def tw11371428006593430020:=()
def tw15920540932329065186:=()
def tw7968951724926223929:=()
def tw17486924553695584823:=()
def tw11446110343686128798:=()
def tw3310474441111162943:=()
def tw14153967976283286783:=()
def tw4432696882315497185:=()
def tw13549170709803225205:=()
def tw5472503011569244256:=()
def tw2524090735876988561:=()
def tw7969766742950106731:=()
def tw14870904656566379462:=()
def tw4478221943781944084:=()
def tw16569931499038282646:=()
def tw13426165663420723542:=()
def tw13202563430854603687:=()
def tw14820718122027986871:=()
def tw15829146534619486502:=()
def tw7206778218585899309:=()
def tw12792605756621036232:=()
def tw17651009731352378086:=()
def tw12139359464509512641:=()
def tw16762623236577580084:=()
def tw17944799468427730365:=()
def tw7024217113650771631:=()
def tw7926501758438157998:=()
def tw14373597996661344341:=()
def tw15093368838134435:=()
def tw14792473070074900555:=()
def tw10536315786308224165:=()
def tw1773169158880882427:=()
def tw6225532646710409926:=()
def tw16881123178058997748:=()
def tw5286631185430878847:=()
def tw12995501554110903693:=()
def tw11314527338411894176:=()
def tw10768007242653255701:=()
def tw4944619957281068203:=()
def tw11690546079099957906:=()
def tw333248365107832312:=()
def tw7307169189179478989:=()
def tw11281166094575822959:=()
def tw11135430593145654385:=()
def tw4603454429747954337:=()
def tw16107666608751028353:=()
def tw12967348301036314611:=()
def tw3344264856214762453:=()
def tw8995606092004679833:=()
def tw1809605570951312235:=()
def tw18023315080647246177:=()
def tw18208548051911198538:=()
def tw5187851378665936109:=()
def tw13656641336819677139:=()
def tw17785670394790641944:=()
def tw4147172054237745600:=()
def tw9143438935812720737:=()
def tw16863946444375655495:=()
def tw14236634364658081537:=()
def tw17732300699792209884:=()
def tw17095139741727789705:=()
def tw6591068968677951190:=()
def tw5201439970778346952:=()
def tw17871783018722114982:=()
def tw5421079637615113093:=()
def tw15672374552946108175:=()
def tw4713069534419796162:=()
def tw8229999116681756232:=()
def tw7010526503082130429:=()
def tw364469574641551040:=()
def tw9490309155736654723:=()
def tw17868243287415312093:=()
def tw15382510762436192212:=()
def tw13152590778591533176:=()
def tw12772585543002508241:=()
def tw14843347528962581828:=()
def tw10797328515250830899:=()
def tw14733206643531474862:=()
def tw2363476461658947551:=()
def tw11433929975891882672:=()
def tw17199159853307523207:=()
def tw8881223281460589460:=()
def tw6725825616237840880:=()
def tw17644102203623948242:=()
def tw14835577465991547960:=()
def tw997224137280953189:=()
def tw16052925329391691182:=()
def tw6990771862922980847:=()
def tw992578291410507126:=()
def tw13361512355217181844:=()
def tw4643641504793591570:=()
def tw1495706088296548418:=()
def tw9497405924168858852:=()
def tw4877520079002938526:=()
def tw6031122854090520158:=()
def tw9140988504525319348:=()
def tw10608706364209625476:=()
def tw13614203293442473197:=()
def tw3664616630974729063:=()
def tw13320229121842498971:=()
def tw3813410779409231638:=()
def tw13462262104740601851:=()
def tw3861606038893987337:=()
def tw18093989898940529549:=()
def tw2891220202907601008:=()
def tw3906453053357832964:=()
def tw13946348057117374256:=()
def tw9261912173675001780:=()
def tw15671616451417279977:=()
def tw7397810502203696631:=()
def tw5553697080074124688:=()
def tw5274323582478993231:=()
def tw10729357167079503072:=()
def tw702434908443484134:=()
def tw3907586277253645097:=()
def tw11264357567346939185:=()
def tw4351698689999212943:=()
def tw4390279131836267088:=()
def tw10519803351992640348:=()
def tw12764176105014554140:=()
def tw2016363088339311255:=()
def tw10773560197866110006:=()
def tw2011555492112828246:=()
def tw7623038827320487181:=()
def tw4474616014057159464:=()
def tw8935234141450513339:=()
def tw16675341003553534651:=()
def tw5135736572065235579:=()
def tw749535203436275088:=()
def tw12679218988453564108:=()
def tw15031085994726362031:=()
def tw15415948172349124125:=()
def tw10862353974257034026:=()
def tw10521605093150453236:=()
def tw14822072415593032243:=()
def tw10153264971361005719:=()
def tw18003484884323950979:=()
def tw10307510235796948846:=()
def tw1826034180805701160:=()
def tw12595339182406400180:=()
def tw7388061330271899207:=()
def tw9131911781133994231:=()
def tw16715120484740339119:=()
def tw4312035750842674103:=()
def tw15778727839052030204:=()
end PySem.W.Fast
open_shared Tp for PySem.Challenge.pw_beamtender_k32_whole_ends leaving 1
section
local macro_rules|`(tactic|omega)=>`(tactic|first|lia|omega (config:={}))
set_option hygiene false
set_option compiler.extract_closed false
local macro_rules
|`('!')=>`(by omega)
|`('#')=>`(List Int)
|`('$')=>`(Or.inl rfl)
|`('&')=>`(by decide)
|`(')')=>`(List Value)
|`('%')=>`(Inv X pins σ H s)
|`('*')=>`(model prog w)
|`('(')=>`(by decide +kernel)
namespace L2
open PySem PySem.Spec PyProof.Rows
abbrev _root_.VP:=Value->Shared->Prop
abbrev _root_.PL:=List (Addr×Obj)
abbrev _root_.Qa:=@wpAny_bind
abbrev _root_.Qb:=@List.length_map
abbrev _root_.Qc:=@Heap.get?_push_of_some
abbrev _root_.Qd:=@wpAny_pure
abbrev _root_.Qe:=@decide_eq_false
abbrev _root_.Qf:=@List.getElem?_eq_getElem
abbrev _root_.Qg:=@if_neg
abbrev _root_.Qh:=@decide_eq_true
abbrev _root_.Qi:=@Nat.le_refl
abbrev _root_.Qj:=@Heap.get?_push_size
abbrev _root_.Qk:=@List.size_toArray
abbrev _root_.Ql:=@if_pos
abbrev _root_.Qm:=@wpS_bind
abbrev _root_.Qn:=@List.mem_cons
abbrev _root_.Qo:=@Heap.lt_size
abbrev _root_.Qp:=@Bool.false_ne_true
abbrev _root_.Qq:=@List.map_append
abbrev _root_.Qr:=@List.length_append
abbrev _root_.Qs:=@List.mem_append
abbrev _root_.Qt:=@wpS_pure
abbrev _root_.Qu:=@Array.length_toList
abbrev _root_.Qv:=@List.mem_cons_of_mem
abbrev _root_.Qw:=@List.getD_eq_getElem?_getD
abbrev _root_.Qx:=@Option.some.inj
abbrev _root_.Qy:=@List.mem_of_getElem?
abbrev _root_.Qz:=@Nat.ne_of_lt
abbrev _root_.QA:=@List.eq_nil_of_length_eq_zero
abbrev _root_.QB:=@List.map_cons
abbrev _root_.QC:=@List.mem_cons_self
abbrev _root_.QD:=@Nat.le_trans
abbrev _root_.QE:=@List.length_cons
abbrev _root_.QF:=@PySem.boot_len
abbrev _root_.QG:=@List.mem_singleton
abbrev _root_.QH:=@Nat.zero_le
abbrev _root_.QI:=@List.pairwise_append
abbrev _root_.QJ:=@Nat.lt_of_lt_of_le
abbrev _root_.QK:=@List.getElem?_map
abbrev _root_.QL:=@PyProof.Rows.boot_isinstance
abbrev _root_.QM:=@List.not_mem_nil
abbrev _root_.QN:=@List.getElem?_eq_some_iff
abbrev _root_.QO:=@List.take_length
abbrev _root_.QP:=@Nat.lt_or_ge
abbrev _root_.QQ:=@List.mem_map
abbrev _root_.QR:=@List.append_assoc
abbrev _root_.QS:=@List.mem_append_right
abbrev _root_.QT:=@List.getElem?_eq_none
abbrev _root_.QU:=@Array.getElem?_toList
abbrev _root_.QV:=@List.take_of_length_le
abbrev _root_.QW:=@List.length_take
abbrev _root_.QX:=@PySem.F.plainAttrs_list
abbrev _root_.QY:=@List.take_succ
abbrev _root_.QZ:=@PyProof.Rows.boot_abs
abbrev _root_.Za:=@List.take_append_drop
abbrev _root_.Zb:=@Array.toList_append
abbrev _root_.Zc:=@PyProof.Rows.boot_list
abbrev _root_.Zd:=@List.getElem?_append_right
abbrev _root_.Ze:=@PySem.F.plainAttrs_str
abbrev _root_.Zf:=@Bool.false_eq_true
abbrev _root_.Zg:=@PyProof.Rows.boot_str
abbrev _root_.Zh:=@getElem?_pos
abbrev _root_.Zi:=@List.append_nil
abbrev _root_.Zj:=@wpAny_mono
abbrev _root_.Zk:=@List.lookup_cons
abbrev _root_.Zl:=@List.mem_append_left
abbrev _root_.Zm:=@List.pairwise_iff_getElem
abbrev _root_.Zn:=@List.getElem?_append_left
abbrev _root_.Zo:=@PySem.F.type_list_append
abbrev _root_.Zp:=@PySem.F.slot_list_append
abbrev _root_.Zq:=@Heap.get?_update_self
abbrev _root_.Zr:=@Array.getElem?_eq_some_iff
abbrev _root_.Zs:=@Nat.le_of_lt
abbrev _root_.Zt:=@List.map_map
abbrev _root_.Zu:=@List.getElem_mem
abbrev _root_.Zv:=@of_decide_eq_true
abbrev _root_.Zw:=@Heap.size_push
abbrev _root_.Zx:=@List.pairwise_cons
abbrev _root_.Zy:=@Int.emod_lt_of_pos
abbrev _root_.Zz:=@Nat.add_sub_cancel_left
abbrev _root_.ZA:=@Heap.get?_update_other
abbrev _root_.ZB:=@List.pairwise_reverse
abbrev _root_.ZC:=@List.mem_of_mem_take
abbrev _root_.ZD:=@List.take_append_of_le_length
abbrev _root_.ZE:=@Int.toNat_natCast
abbrev _root_.ZF:=@Nat.min_eq_left
abbrev _root_.ZG:=@List.length_set
abbrev _root_.ZH:=@Int.emod_nonneg
abbrev _root_.ZI:=@List.length_zipWith
abbrev _root_.ZJ:=@List.mem_range
abbrev _root_.ZK:=@List.drop_eq_getElem_cons
abbrev _root_.ZL:=@wpS_mono
noncomputable abbrev Key:=Sum Int Str
noncomputable def zS5:Key->Value->Bool
 | .inl k,v=>Value.isInt k v
 | .inr x,v=>Value.isStrOf x v
noncomputable def keyH (w:World):Key->Int
 | .inl k=>hashInt k
 | .inr x=>hashStr w x
theorem zg5:∀ {k:Key} {v:Value},zS5 k v=true->(∃i t,k=Sum.inl i/\v=Value.int i t)\/(∃x t,k=Sum.inr x/\v=Value.str x t)
 | .inl i,v,h=>by
   obtain⟨t,e⟩:=Value.isInt_shape (k:=i) (v:=v) h;exact .inl ⟨i,t,rfl,e⟩
 | .inr x,v,h=>by
   obtain⟨t,e⟩:=Value.isStrOf_shape (x:=x) (v:=v) h;exact .inr ⟨x,t,rfl,e⟩
theorem keyIs_int (i:Int)(t:Tok):zS5 (.inl i) (.int i t)=true:=by simp[zS5,Value.isInt]
theorem keyIs_str (x:Str)(t:Tok):zS5 (.inr x) (.str x t)=true:=by simp[zS5,Value.isStrOf]
theorem key_ll (a b:Int):decide ((Sum.inl a:Key)=Sum.inl b)=(a == b):=by
 by_cases e:a=b
 . subst e;simp
 . have h:¬ (Sum.inl a:Key)=Sum.inl b:=λq=>e (Sum.inl.inj q)
   rw[Qe h];exact(beq_eq_false_iff_ne.mpr e).symm
theorem key_rr (a b:Str):decide ((Sum.inr a:Key)=Sum.inr b)=decide (a=b):=by
 by_cases e:a=b
 . subst e;simp
 . have h:¬ (Sum.inr a:Key)=Sum.inr b:=λq=>e (Sum.inr.inj q)
   rw[Qe h,Qe e]
theorem key_lr (a:Int)(b:Str):decide ((Sum.inl a:Key)=Sum.inr b)=false:=Qe (λq=>nomatch q)
theorem key_rl (a:Str)(b:Int):decide ((Sum.inr a:Key)=Sum.inl b)=false:=Qe (λq=>nomatch q)
noncomputable def zf3 (prog:Program)(w:World):PySem.KeyKind prog w Key where
 is:=zS5
 hash:=keyH w
 inj:=λv a b ha hb=>by
   rcases zg5 ha with⟨i,t,rfl,rfl⟩ | ⟨x,t,rfl,rfl⟩
   . rcases zg5 hb with⟨j,u,rfl,e⟩ | ⟨y,u,rfl,e⟩
     . injection e with e1 _;rw[e1]
     . exact nomatch e
   . rcases zg5 hb with⟨j,u,rfl,e⟩ | ⟨y,u,rfl,e⟩
     . exact nomatch e
     . injection e with e1 _;rw[e1]
 byValue:=λk v h=>by
   rcases zg5 h with⟨i,t,rfl,rfl⟩ | ⟨x,t,rfl,rfl⟩<;>rfl
 pyHash:=λhv h=>by
   rcases zg5 hv with⟨i,t,rfl,rfl⟩ | ⟨x,t,rfl,rfl⟩
   . exact wpAny_pyHash_int h
   . exact wpAny_pyHash_str h
 eqBool:=λhu hv h=>by
   rcases zg5 hu with⟨i,t,rfl,rfl⟩ | ⟨x,t,rfl,rfl⟩
   . rcases zg5 hv with⟨j,u,rfl,rfl⟩ | ⟨y,u,rfl,rfl⟩
     . rw[key_ll] at h;exact wpAny_eqBool_int h
     . rw[key_lr] at h;exact SeqAt.EqAt.int_str i t y u _ _ _ _ h
   . rcases zg5 hv with⟨j,u,rfl,rfl⟩ | ⟨y,u,rfl,rfl⟩
     . rw[key_rl] at h;exact SeqAt.EqAt.str_int x t j u _ _ _ _ h
     . rw[key_rr] at h;exact wpAny_eqBool_str h
 «strs»:=λk x t v h=>by
   rcases zg5 h with⟨i,u,rfl,e⟩ | ⟨y,u,rfl,e⟩
   . exact nomatch e
   . injection e with e1 _
     subst e1
     cases v<;>rfl
theorem mixKind_int (prog:Program)(w:World)(i:Int)(t:Tok):(zf3 prog w).is (.inl i) (.int i t)=true:=keyIs_int i t
theorem mixKind_str (prog:Program)(w:World)(x:Str)(t:Tok):(zf3 prog w).is (.inr x) (.str x t)=true:=keyIs_str x t
inductive V where
 | non | bl (b:Bool) | int (i:Int) | str (x:Str) | byt (b:Array UInt8) | flt (b:UInt64) | ref (a:Addr) | ty (n:String)
 deriving DecidableEq
noncomputable def RelV:V->Value->Prop
 | .non,u=>u=Value.none
 | .bl b,u=>u=Value.bool b
 | .int i,u=>∃t,u=Value.int i t
 | .str x,u=>∃t,u=Value.str x t
 | .byt b,u=>∃t,u=Value.bytes b t
 | .flt b,u=>∃t,u=Value.float b t
 | .ref a,u=>u=Value.ref a
 | .ty n,u=>u=Value.type n
abbrev Vals:List V->')'->Prop:=Paired RelV
theorem Vals.length {xs:List V}{us:')'}(r:Vals xs us):xs.length=us.length:=Paired.length r
theorem Vals.get:∀ {a:List V} {b:')'} {i:Nat} {x:V},Vals a b->a[i]?=some x->∃u,b[i]?=some u/\RelV x u
 | _,_,_,_,.nil,e=>by simp at e
 | _,_,0,_,.cons r _,e=>by simp at e;subst e;exact⟨_,rfl,r⟩
 | _,_,i+1,x,.cons _ t,e=>by
   obtain⟨u,c,d⟩:=Vals.get (i:=i) (x:=x) t (by simpa using e);exact⟨u,by simpa using c,d⟩
theorem Vals.append:∀ {a b:List V} {c d:')'},Vals a c->Vals b d->Vals (a++b) (c++d)
 | _,_,_,_,.nil,s=>s
 | _,_,_,_,.cons r t,s=>.cons r (Vals.append t s)
theorem Vals.take:∀ {a:List V} {b:')'} (n:Nat),Vals a b->Vals (a.take n) (b.take n)
 | _,_,0,_=>.nil
 | _,_,_+1,.nil=>.nil
 | _,_,n+1,.cons r t=>.cons r (Vals.take n t)
theorem Vals.drop:∀ {a:List V} {b:')'} (n:Nat),Vals a b->Vals (a.drop n) (b.drop n)
 | _,_,0,r=>r
 | _,_,_+1,.nil=>.nil
 | _,_,n+1,.cons _ t=>Vals.drop n t
noncomputable def RelO:Option V->Option Value->Prop
 | some v,some u=>RelV v u
 | none,none=>True
 | _,_=>False
def KV {κ:Type}:List (κ×V)->List (κ×Value)->Prop:=Paired λ(p:κ×V) (q:κ×Value)=>p.1=q.1/\RelV p.2 q.2
noncomputable def kV:Key->V
 | .inl i=>.int i
 | .inr x=>.str x
inductive HO where
 | lst (xs:List V)
 | tup (xs:List V)
 | dK (kvs:List (Key×V)) | dT (kvs:List (List Key×V))
 | set (S:Int->Bool) (n:Nat)
 | ins (C dx:Addr) (fs:List (Str×V))
 | own (x:Addr)
 | xd (fs:List (Str×V))
 | met (f x:Addr)
 | rng (lo hi:Int)
 | frz (o:Obj) (u:HO)
 | tbl (ps:Array Value)
 | ext (φ:Heap->Prop)
noncomputable abbrev Hp:=Addr->Option HO
noncomputable def upd (H:Hp)(a:Addr)(o:HO):Hp:=λb=>if b=a then some o else H b
theorem za3 {H:Hp}{a:Addr}{o:HO}:upd H a o a=some o:=by unfold upd;rw[Ql rfl]
theorem za8 {H:Hp}{a b:Addr}{o:HO}(h:b≠a):upd H a o b=H b:=by unfold upd;rw[Qg h]
theorem zh5 {H:Hp}{a:Addr}{o u:HO}:upd (upd H a o) a u=upd H a u:=by
 funext b;unfold upd;split<;>rfl
theorem zD0 {H:Hp}{a b:Addr}{o u:HO}(h:H a=some o)(h':H b=some u)(d:o≠u):a≠b:=by
 intro e;subst e;rw[h] at h';exact d (Qx h')
theorem zb5 {H:Hp}{a b:Addr}{o:HO}(h:H a=some o)(h':H b=none):a≠b:=by
 intro e;subst e;rw[h] at h';cases h'
def TupD (h:Heap) (a:Addr) (items:Array Value):Prop:=∃o,h.get? a=some o/\o.cls = .type "tuple"/\o.dict=none/\∃n,o.data = .seq items n
theorem TupD.isTup {h:Heap}{a:Addr}{b:Array Value}(x:TupD h a b):IsTup h a b:=let⟨o,e,c,_,n,d⟩:=x;⟨o,e,c,n,d⟩
theorem TupD.new (h:Heap) (a:Array Value):TupD (h.push { cls:=.type "tuple",data:=.seq a }) h.objs.size a:=⟨_,Qj _ rfl,rfl,rfl,_,rfl⟩
section
variable (P:Program) (w:World)
noncomputable def ze6 (H:Hp)(h:Heap)(a:Addr):HO->Prop
 | .lst xs=>xs.length<=sizeLine/\∃(its:')') (n:Nat),Vals xs its/\h.get? a=some { cls:=.type "list",data:=.seq its.toArray n }
 | .tup xs=>xs.length<=sizeLine/\∃its:')',Vals xs its/\TupD h a its.toArray
 | .dK kvs=>kvs.length<=sizeLine/\(a == sysModules)=false/\∃vs,KV kvs vs/\h.DictOf (zf3 P w) a vs
 | .dT kvs=>kvs.length<=sizeLine/\(a == sysModules)=false/\∃xs:List (List Key×Addr×Value),
     Paired (λ(p:List Key×V) (q:List Key×Addr×Value)=>p.1=q.1/\H q.2.1=some (.tup (p.1.map kV))/\RelV p.2 q.2.2) kvs xs ∧
     ∃o es ep,h.get? a=some o/\o.ExactDict/\o.data = .dict es ep/\es.toList=xs.map (entryOfKey (tupleKind (zf3 P w)))/\(xs.map (·.1)).Nodup
 | .set S n=>h.SetOf (intKind P w) a S n
 | .ins C dx fs=>H dx=some (.own a)/\fs.length<=1000/\dx≠a/\h.get? a=some (W.instObj C dx) ∧
     ∃mA,h.Ns1 dx mA/\(∀f,RelO (fs.lookup f) (mA f))/\PySem.Within mA (fs.map (·.1))
 | .own _=>∃o,h.get? a=some o
 | .xd fs=>fs.length<=1000/\∃mA,h.Ns1 a mA/\(∀f,RelO (fs.lookup f) (mA f))/\PySem.Within mA (fs.map (·.1))
 | .rng lo hi=>∃t u v,h.get? a=some { cls:=.type "range",data:=.fields #[.int lo t,.int hi u,.int 1 v] }
 | .frz o u=>h.get? a=some o/\ze6 H h a u
 | .tbl ps=>h.get? a=some { cls:=.none,data:=.fields ps }
 | .met f x=>h.get? a=some (W.methodObj (.ref f) (.ref x))
 | .ext φ=>φ h/\(∃o,h.get? a=some o)/\∀h1 h2:Heap,φ h1->(∀o,h1.get? a=some o->h2.get? a=some o)->φ h2
def HOk (H:Hp)(h:Heap):Prop:=∀a o,H a=some o->ze6 P w H h a o
end
section
variable {P:Program} {w:World} {H H':Hp} {h h':Heap} {a:Addr} {o:HO}
theorem ze6.lt (x:ze6 P w H h a o):a<h.objs.size:=by
 cases o with
 | lst c=>obtain⟨_,_,_,_,e⟩:=x;exact Qo e
 | tup c=>obtain⟨_,_,_,_,e,_⟩:=x;exact Qo e
 | dK b=>obtain⟨_,_,_,_,o,_,_,e,_⟩:=x;exact Qo e
 | dT b=>obtain⟨_,_,_,_,o,_,_,e,_⟩:=x;exact Qo e
 | set S n=>obtain⟨o,_,_,_,e,_⟩:=x;exact Qo e
 | ins C d fs=>obtain⟨_,_,_,e,_⟩:=x;exact Qo e
 | own y=>obtain⟨_,e⟩:=x;exact Qo e
 | xd fs=>obtain⟨_,_,⟨_,_,_,e,_⟩,_⟩:=x;exact Qo e
 | rng g i=>obtain⟨_,_,_,e⟩:=x;exact Qo e
 | frz j u=>obtain⟨e,_⟩:=x;exact Qo e
 | tbl k=>exact Qo (show h.get? a=some _ from x)
 | met f y=>exact Qo (show h.get? a=some _ from x)
 | ext l=>obtain⟨_,⟨_,e⟩,_⟩:=x;exact Qo e
theorem Paired.mapP {e g:Type}{F G:e->g->Prop}:∀ {c:List e} {d:List g},Paired F c d->(∀a b,F a b->G a b)->Paired G c d
 | _,_,.nil,_=>.nil
 | _,_,.cons r t,f=>.cons (f _ _ r) (Paired.mapP t f)
theorem ze6.stay (x:ze6 P w H h a o)(k:∀b u,(b=a\/H b=some (.own a))->h.get? b=some u->h'.get? b=some u)
   (F:∀b,H b=some (.own a)->H' b=some (.own a)) (G:∀b l,H b=some (.tup l)->H' b=some (.tup l)):ze6 P w H' h' a o:=by
 induction o with
 | lst l=>obtain⟨z,m,n,r,e⟩:=x;exact⟨z,m,n,r,k _ _ (.inl rfl) e⟩
 | tup l=>obtain⟨z,m,r,g,e,c⟩:=x;exact⟨z,m,r,g,k _ _ (.inl rfl) e,c⟩
 | dK E=>obtain⟨z,y,I,r,g,i,j,e,c⟩:=x;exact⟨z,y,I,r,g,i,j,k _ _ (.inl rfl) e,c⟩
 | dT E =>
   obtain⟨z,y,l,r,g,i,j,e,c⟩:=x;exact⟨z,y,l,Paired.mapP r λp q z=>⟨z.1,G _ _ z.2.1,z.2.2⟩,g,i,j,k _ _ (.inl rfl) e,c⟩
 | set S n=>obtain⟨g,i,j,t,e,c⟩:=x;exact⟨g,i,j,t,k _ _ (.inl rfl) e,c⟩
 | ins C M fs =>
   obtain⟨d,z,J,e,s,⟨A,i,j,K,c⟩,r⟩:=x;exact⟨F _ d,z,J,k _ _ (.inl rfl) e,s,⟨A,i,j,k _ _ (.inr d) K,c⟩,r⟩
 | own y=>obtain⟨g,e⟩:=x;exact⟨g,k _ _ (.inl rfl) e⟩
 | xd fs=>obtain⟨z,s,⟨A,i,j,e,c⟩,r⟩:=x;exact⟨z,s,⟨A,i,j,k _ _ (.inl rfl) e,c⟩,r⟩
 | rng N O=>obtain⟨t,u,v,e⟩:=x;exact⟨t,u,v,k _ _ (.inl rfl) e⟩
 | frz g u L=>obtain⟨e,q⟩:=x;exact⟨k _ _ (.inl rfl) e,L q⟩
 | tbl B =>
   have e:h.get? a=some { cls:=.none,data:=.fields B }:=x;show h'.get? a=some { cls:=.none,data:=.fields B };exact k a _ (.inl rfl) e
 | met f y =>
   have e:h.get? a=some (W.methodObj (.ref f) (.ref y)):=x;show h'.get? a=some (W.methodObj (.ref f) (.ref y));exact k a _ (.inl rfl) e
 | ext Q=>obtain⟨p,⟨o,e⟩,D⟩:=x;exact⟨D _ _ p λo q=>k _ _ (.inl rfl) q,⟨o,k _ _ (.inl rfl) e⟩,D⟩
theorem HOk.lt (x:HOk P w H h)(e:H a=some o):a<h.objs.size:=(x a o e).lt
theorem HOk.fresh (x:HOk P w H h)(e:h.objs.size<=a):H a=none:=by
 cases q:H a with
 | none=>rfl
 | some u=>exact absurd (QJ (x.lt q) e) (Nat.lt_irrefl _)
theorem HOk.kept (x:HOk P w H h)(k:∀b u,h.get? b=some u->h'.get? b=some u):HOk P w H h':=λa o e =>
 (x a o e).stay (λb u _ q=>k b u q) (λ_ q=>q) λ_ _ q=>q
theorem HOk.laid (x:HOk P w H h)(k:∀b u,h.get? b=some u->h'.get? b=some u)(g:h.objs.size<=a)(new:ze6 P w (upd H a o) h' a o):HOk P w (upd H a o) h':=λb u e=>by
 have d:=x.fresh g;by_cases f:b=a
 . subst f;rw[za3] at e;cases e;exact new
 . rw[za8 f] at e
   exact(x b u e).stay (λc v _ q=>k c v q) (λc q=>by rw[za8 (zb5 q d)];exact q) λc i q=>by rw[za8 (zb5 q d)];exact q
end
def Rd (H:Hp)(a:Addr)(u:HO):Prop:=H a=some u\/∃o,H a=some (.frz o u)
theorem Rd.ok {P:Program}{w:World}{H:Hp}{h:Heap}{a:Addr}{u:HO}(r:Rd H a u)(x:HOk P w H h):ze6 P w H h a u:=by
 rcases r with r | ⟨o,r⟩
 . exact x a u r
 . obtain⟨_,q⟩:=x a _ r
   exact q
noncomputable def Mut:Option HO->Prop
 | some (.lst _)=>True
 | some (.dK _)=>True
 | some (.dT _)=>True
 | some (.set _ _)=>True
 | some (.ins _ _ _)=>True
 | some (.ext _)=>True
 | some (.xd _)=>True
 | _=>False
section
variable {P:Program} {w:World} {H:Hp} {h h':Heap} {x e:Addr} {o':HO}
theorem HOk.write (ok:HOk P w H h)(d:Mut (H x))(l:e=x\/H e=some (.own x))(k:∀b u,b≠e->h.get? b=some u->h'.get? b=some u)(o:∃u,h'.get? e=some u)
   (new:ze6 P w (upd H x o') h' x o'):HOk P w (upd H x o') h':=λb u q=>by
 have j:∀c y,H c=some (.own y)->c≠x:=λc y r z=>by subst z;rw[r] at d;exact d
 have n:∀c f,H c=some (.tup f)->c≠x:=λc f r z=>by subst z;rw[r] at d;exact d
 by_cases g:b=x
 . subst g;rw[za3] at q;cases q;exact new
 . rw[za8 g] at q
   by_cases a:b=e
   . have m:H b=some (.own x):=by
       rcases l with z | z
       . exact absurd (a.trans z) g
       . rw[a];exact z
     rw[q] at m;cases m;obtain⟨v,p⟩:=o;exact⟨v,by rw[a];exact p⟩
   . refine(ok b u q).stay (λc v i r=>k c v ?_ r) (λc r=>by rw[za8 (j c b r)];exact r) λc f r=>by rw[za8 (n c f r)];exact r
     rcases i with rfl | i
     . exact a
     . rintro rfl
       rcases l with z | z
       . exact j c b i z
       . rw[i] at z;cases z;exact g rfl
end
structure Un (fs ex:List Addr)(H H':Hp)(h h':Heap):Prop where
 keep:∀b o,h.get? b=some o->H b=none->b∉fs->b∉ex->h'.get? b=some o
 slot:∀b o,h.get? b=some o->H b=none->b∈fs->b∉ex->∃sl,h'.get? b=some { o with slots:=sl }
 free:∀b o,h.get? b=some o->H b=none->b∉ex->H' b=none
 there:∀b o,h.get? b=some o->b∉ex->∃o',h'.get? b=some o'
 tups:∀b xs,H b=some (.tup xs)->H' b=some (.tup xs)
 frzs:∀b o u,H b=some (.frz o u)->H' b=some (.frz o u)
 tbls:∀b ps,H b=some (.tbl ps)->∃more,H' b=some (.tbl (ps++more))
section
variable {fs fs' ex ex':List Addr} {H H1 H2:Hp} {h h1 h2 h':Heap} {a x e:Addr} {o:HO}
theorem Un.any (u:Un fs ex H H1 h h1){b:Addr}{a:Obj}(q:h.get? b=some a)(n:H b=none)(c:b∉ex):∃sl,h1.get? b=some { a with slots:=sl }:=by
 by_cases d:b∈fs
 . exact u.slot b a q n d c
 . exact⟨a.slots,u.keep b a q n d c⟩
theorem Un.kept (k:∀b u,h.get? b=some u->h'.get? b=some u):Un fs ex H H h h' :=
 ⟨λb a q _ _ _=>k b a q,λb a q _ _ _=>⟨a.slots,k b a q⟩,λ_ _ _ n _=>n,λb a q _=>⟨a,k b a q⟩,λ_ _ q=>q,λ_ _ _ q=>q,λ_ c q=>⟨#[],by rw[q];simp⟩⟩
theorem Un.refl:Un fs ex H H h h:=Un.kept λ_ _ q=>q
theorem Un.laid (k:∀b u,h.get? b=some u->h'.get? b=some u)(d:h.objs.size<=a)(c:H a=none):Un fs ex H (upd H a o) h h' where
 keep:=λb u q _ _ _=>k b u q
 slot:=λb u q _ _ _=>⟨u.slots,k b u q⟩
 free:=λb u q n _=>by rw[za8 (Qz (QJ (Qo q) d))];exact n
 there:=λb u q _=>⟨u,k b u q⟩
 tups:=λb e q=>by rw[za8 (zb5 q c)];exact q
 frzs:=λb u e q=>by rw[za8 (zb5 q c)];exact q
 tbls:=λb f q=>⟨#[],by rw[za8 (zb5 q c),q];simp⟩
theorem Un.write (a:Mut (H x))(j:e=x\/H e=some (.own x))(k:∀b u,b≠e->h.get? b=some u->h'.get? b=some u)(i:∃u,h'.get? e=some u):Un fs ex H (upd H x o) h h':=by
 have f:∀b,H b=none->b≠x:=λb n z=>by subst z;rw[n] at a;exact a
 have g:∀b,H b=none->b≠e:=λb n z=>by
   subst z;rcases j with r | r
   . exact f b n r
   . rw[n] at r;cases r
 have c:∀b u,H b=some u->¬ Mut (some u)->b≠x:=λb u q l z=>by subst z;rw[q] at a;exact l a
 refine⟨λb u q n _ _=>k b u (g b n) q,λb u q n _ _=>⟨u.slots,k b u (g b n) q⟩,λb u q n _=>by rw[za8 (f b n)];exact n,λb u q _=>?_,
   λb m q=>by rw[za8 (c b _ q λz=>z)];exact q,λb u m q=>by rw[za8 (c b _ q λz=>z)];exact q,λb p q=>⟨#[],by rw[za8 (c b _ q λz=>z),q];simp⟩⟩
 by_cases d:b=e
 . subst d;exact i
 . exact⟨u,k b u d q⟩
end
noncomputable def trk (h:Heap)(H:Hp):List Addr:=(List.range h.objs.size).filter λa=>(H a).isSome
noncomputable def hidT (h:Heap)(H:Hp):Heap:=W.hideAll h (trk h H)
theorem hidT_size (h:Heap)(H:Hp):(hidT h H).objs.size=h.objs.size:=W.hideAll_size _ _
theorem hidT_get {h:Heap}{H:Hp}{b:Addr}{o:Obj}(e:h.get? b=some o)(n:H b=none):(hidT h H).get? b=some o :=
 W.hideAll_get _ e λa=>by
   have q:(H b).isSome=true:=(List.mem_filter.mp a).2;rw[n] at q;simp at q
theorem of_hidT {h:Heap}{H:Hp}{b:Addr}{o:Obj}(e:(hidT h H).get? b=some o):h.get? b=some o/\H b=none:=by
 have a:h.get? b=some o:=W.of_hideAll (trk h H) e;refine⟨a,?_⟩;cases q:H b with
 | none=>rfl
 | some x =>
   have c:b∈trk h H:=List.mem_filter.mpr ⟨ZJ.mpr (Qo a),by simp[q]⟩;have z:(hidT h H).get? b=none:=W.hideAll_none (trk h H) c;rw[z] at e;cases e
structure Mod (K:W.Frag)(mg:Str->Option Value)(base:Heap):Prop where
 kin:K.In base
 glob:base.Ns mainGlobals mg
 blt:∃mb,base.Ns builtinsNs mb/\∀x:Str,x≠"__name__"->mb x=bootBuiltins x
 nolimit:base.NoLimit
structure Cx where
 prog:Program
 w:World
 K:W.Frag
 mg:Str->Option Value
 base:Heap
 A:Around
 N:List Str
 s₀:Shared
 H₀:Hp
 env:Env
 outer:List Env
 stack:List Env
 ex:List Addr
 fn:Str->Bool
 calm:Bool
 pn:List (Addr×Obj)
 xe:Value->Shared->Prop
noncomputable def frs (l:List Env):List Addr:=l.filterMap (·.frame)
noncomputable abbrev Cx.fs (X:Cx):List Addr:=frs X.outer
def Vis (sc:Scope)(x:Str):Prop:=sc.names.lookup x=some .local\/sc.names.lookup x=some .cell\/sc.names.lookup x=some .free
def Loc (sc:Scope)(x:Str):Prop:=sc.names.lookup x=some .local\/sc.names.lookup x=some .cell
def Look (env:Env)(h:Heap)(m:Str->Option Value)(x:Str)(u:Value):Prop :=
 (env.kindOf x=some .local/\m x=some u)\/((env.kindOf x=some .cell\/env.kindOf x=some .free)/\∃c,env.cells.lookup x=some c/\h.IsCell c (some u))
structure Cx.Ok (X:Cx):Prop where
 mod:Mod X.K X.mg X.base
 kind:X.env.scope.kind = .function
 glob:X.env.globals=mainGlobals
 blt:X.env.builtins=builtinsNs
 above:X.s₀.heap.objs.size<=X.env.locals
 inj:∀x y c,X.env.cells.lookup x=some c->X.env.cells.lookup y=some c->x=y
 has:∀x,(X.env.kindOf x=some .cell\/X.env.kindOf x=some .free)->∃c,X.env.cells.lookup x=some c
 cab:∀x c,X.fn x=true->X.env.cells.lookup x=some c->X.s₀.heap.objs.size<=c
 hd:X.calm=true->X.A.handled=none
 frames:X.A.frames=some X.stack
 stk:X.stack=X.outer\/(X.stack=X.env::X.outer/\X.env.frame=some X.env.locals)
 exf:∀b∈X.ex,b≠X.env.locals/\∀x c,X.env.cells.lookup x=some c->c≠b
 bs:∀b o,X.base.get? b=some o->X.s₀.heap.get? b=some o/\X.H₀ b=none
 bsz:X.base.objs.size<=X.s₀.heap.objs.size
 noex:∀b o,X.base.get? b=some o->b∉X.ex
 exfs:∀b∈X.ex,b∉X.fs
 funs:X.s₀.heap.FunFrames X.base X.outer
 frf:∀b∈X.fs,X.H₀ b=none
structure Inv (X:Cx)(pins:PL)(σ:List (Option V))(H:Hp)(s:Shared):Prop where
 ok:X.Ok
 os:s.os=X.s₀.os
 bare:AllBare s.gens
 base:Un X.fs X.ex X.H₀ H X.s₀.heap s.heap
 loc:∃m,s.heap.Ns X.env.locals m/\∀(i:Nat) (x:Str) (v:V),X.N[i]?=some x->σ[i]?=some (some v)->Vis X.env.scope x->∃u,RelV v u/\Look X.env s.heap m x u
 cell:∀x c,X.env.cells.lookup x=some c->∃v,s.heap.IsCell c v
 free:H X.env.locals=none
 freeC:∀x c,X.env.cells.lookup x=some c->H c=none
 pin:∀p∈X.pn++pins,s.heap.get? p.1=some p.2/\H p.1=none/\p.1≠X.env.locals/\p.1∉X.fs/\∀v,p.2.data≠.cell v
 hok:HOk X.prog X.w H s.heap
 len:σ.length=X.N.length
section
variable {X:Cx} {pins:PL} {σ:List (Option V)} {H H':Hp} {s:Shared} {h':Heap}
theorem Cx.Ok.nofr (ok:X.Ok){b:Addr}{o:Obj}(e:X.base.get? b=some o):b∉X.fs:=λa=>by
 have:=(ok.funs.mem a).1;rw[e] at this;cases this
theorem Inv.bs (I:'%'):∀b o,X.base.get? b=some o->s.heap.get? b=some o/\H b=none:=λb o e =>
 ⟨I.base.keep b o (I.ok.bs b o e).1 (I.ok.bs b o e).2 (I.ok.nofr e) (I.ok.noex b o e),I.base.free b o (I.ok.bs b o e).1 (I.ok.bs b o e).2 (I.ok.noex b o e)⟩
theorem Inv.bk (I:'%'):∀b o,X.base.get? b=some o->s.heap.get? b=some o:=λb o e=>(I.bs b o e).1
theorem Inv.mod (I:'%'):Mod X.K X.mg X.base:=I.ok.mod
theorem Inv.kIn (I:'%'):X.K.In s.heap:=I.ok.mod.kin.keeps I.bk
theorem Inv.lt (I:'%'):X.env.locals<s.heap.objs.size:=let⟨_,a,_⟩:=I.loc;a.lt
theorem Inv.sz (I:'%'):X.s₀.heap.objs.size<=s.heap.objs.size:=QD I.ok.above (Zs I.lt)
theorem Inv.nofs (I:'%'){a:Addr}(h:s.heap.objs.size<=a):a∉X.fs:=λb=>by
 obtain⟨_,o,c,_⟩:=I.ok.funs.mem b;exact absurd (QJ (Qo c) (QD I.sz h)) (Nat.lt_irrefl _)
theorem Inv.cne (I:'%'):∀x c,X.env.cells.lookup x=some c->c≠X.env.locals:=λx c e z=>by
 obtain⟨v,o,a,b⟩:=I.cell x c e;obtain⟨m,⟨g,h,i,d,f,_⟩,_⟩:=I.loc;rw[z,d] at a;cases a;rw[f] at b;cases b
theorem Inv.funs (I:'%'):s.heap.FunFrames X.base X.outer:=by
 have all:∀(l:List Env),(∀b∈frs l,b∈X.fs)->X.s₀.heap.FunFrames X.base l->s.heap.FunFrames X.base l:=by
   intro l
   induction l with
   | nil=>intro _ _;trivial
   | cons p r g =>
     intro f h;obtain⟨i,⟨L,o,a,j,k,m⟩,n⟩:=h;have c:L∈X.fs:=f L (by unfold frs;rw[List.filterMap_cons,a];exact QC);obtain⟨sl,e⟩:=I.base.slot L o k (I.ok.frf L c) c λz=>I.ok.exfs L z c
     exact⟨i,⟨L,_,a,j,e,m⟩,g (λb d=>f b (by unfold frs;rw[List.filterMap_cons,a];exact Qv _ d)) n⟩
 exact all X.outer (λ_ d=>d) I.ok.funs
theorem Inv.stack (I:'%'):s.heap.FunFrames X.base X.stack:=by
 rcases I.ok.stk with e | ⟨e,a⟩
 . rw[e];exact I.funs
 . rw[e]
   obtain⟨m,b,_⟩:=I.loc;refine .cons (by rw[I.ok.kind];decide) a b ?_ I.funs;exact Heap.get?_none_of_le (QD I.ok.bsz I.ok.above)
theorem Inv.stkSub (I:'%'):∀b∈frs X.stack,b∈X.env.locals::X.fs:=λb a=>by
 rcases I.ok.stk with e | ⟨e,c⟩
 . rw[e] at a;exact Qv _ a
 . rw[e] at a
   unfold frs at a;rw[List.filterMap_cons,c] at a;exact a
theorem Inv.stkFree (I:'%'):∀b∈frs X.stack,H b=none:=λb a=>by
 rcases Qn.mp (I.stkSub b a) with e | a
 . rw[e];exact I.free
 . obtain⟨_,o,c,_⟩:=I.ok.funs.mem a
   exact I.base.free b o c (I.ok.frf b a) λz=>I.ok.exfs b z a
theorem Inv.step {g':Array GenState}{t':Nat}{d':Drawn}{ch:List Addr}(I:'%')
   (t:∀b∈ch,(b∈X.ex\/X.s₀.heap.objs.size<=b)/\b≠X.env.locals/\(∀x c,X.env.cells.lookup x=some c->c≠b)/\∀p∈X.pn++pins,p.1≠b)
   (keep:∀b o,b≠X.env.locals->b∉X.fs->b∉ch->s.heap.get? b=some o->H b=none->h'.get? b=some o)
   (F:∀b o,b≠X.env.locals->b∈X.fs->b∉ch->s.heap.get? b=some o->H b=none->∃sl,h'.get? b=some { o with slots:=sl }) (free:∀b o,b∉ch->s.heap.get? b=some o->H b=none->H' b=none)
   (there:∀b o,b∉ch->s.heap.get? b=some o->∃y,h'.get? b=some y)
   (tups:∀b g,H b=some (.tup g)->H' b=some (.tup g)) (N:∀b o u,H b=some (.frz o u)->H' b=some (.frz o u)) (O:∀b C,H b=some (.tbl C)->∃P,H' b=some (.tbl (C++P)))
   (ns:∀m,s.heap.Ns X.env.locals m->h'.Ns X.env.locals m) (Q:HOk X.prog X.w H' h') (S:AllBare g') :
   Inv X pins σ H' { s with heap:=h',gens:=g',drawn:=d',toks:=t' }:=by
 have G:∀b o,X.s₀.heap.get? b=some o->b≠X.env.locals:=λb o e=>Qz (QJ (Qo e) I.ok.above)
 have B:∀b o,X.s₀.heap.get? b=some o->b∉X.ex->b∉ch:=λb o e a h=>by
   rcases(t b h).1 with z | z
   . exact a z
   . exact absurd (QJ (Qo e) z) (Nat.lt_irrefl _)
 have E:∀x c,X.env.cells.lookup x=some c->∀v,s.heap.IsCell c v->h'.IsCell c v:=λx c e v ⟨o,j,D⟩=>by
   have w:c∉ch:=λz=>(t c z).2.2.1 x c e rfl
   by_cases J:c∈X.fs
   . obtain⟨sl,q⟩:=F c o (I.cne x c e) J w j (I.freeC x c e)
     exact⟨_,q,D⟩
   . exact⟨o,keep c o (I.cne x c e) J w j (I.freeC x c e),D⟩
 refine⟨I.ok,I.os,S,⟨λb o e n h a=>?_,λb o e n h a=>?_,λb o e n a=>?_,λb o e a=>?_,λb g e=>tups b g (I.base.tups b g e),λb o g e=>N b o g (I.base.frzs b o g e),λb C e=>?_⟩,?_,λx c e=>?_,?_,λx c e=>?_,λp K=>?_,Q,I.len⟩
 . exact keep b o (G b o e) h (B b o e a) (I.base.keep b o e n h a) (I.base.free b o e n a)
 . obtain⟨sl,f⟩:=I.base.slot b o e n h a
   obtain⟨R,A⟩:=F b _ (G b o e) h (B b o e a) f (I.base.free b o e n a);exact⟨R,A⟩
 . obtain⟨y,f⟩:=I.base.there b o e a
   exact free b y (B b o e a) f (I.base.free b o e n a)
 . obtain⟨y,f⟩:=I.base.there b o e a
   exact there b y (B b o e a) f
 . obtain⟨T,f⟩:=I.base.tbls b C e
   obtain⟨U,A⟩:=O b _ f;exact⟨T++U,by rw[A,Array.append_assoc]⟩
 . obtain⟨m,V,W⟩:=I.loc
   refine⟨m,ns m V,λi x v f A Y=>?_⟩;obtain⟨u,r,l⟩:=W i x v f A Y;refine⟨u,r,?_⟩;rcases l with l | ⟨k,c,e,z⟩
   . exact .inl l
   . exact .inr ⟨k,c,e,E x c e _ z⟩
 . obtain⟨v,z⟩:=I.cell x c e
   exact⟨v,E x c e v z⟩
 . obtain⟨m,⟨o,_,_,j,_⟩,_⟩:=I.loc
   exact free _ o (λz=>(t _ z).2.1 rfl) j I.free
 . obtain⟨v,o,j,D⟩:=I.cell x c e
   exact free c o (λz=>(t c z).2.2.1 x c e rfl) j (I.freeC x c e)
 . obtain⟨e,n,L,M,d⟩:=I.pin p K
   have w:p.1∉ch:=λz=>(t p.1 z).2.2.2 p K rfl
   exact⟨keep p.1 p.2 L M w e n,free p.1 p.2 w e n,L,M,d⟩
theorem Inv.un {t':Nat}(I:'%')(u:Un X.fs [] H H' s.heap h')(f:HOk X.prog X.w H' h'):Inv X pins σ H' { s with heap:=h',toks:=t' }:=by
 obtain⟨m,⟨o,l,p,d,r⟩,_⟩:=id I.loc;obtain⟨sl,i⟩:=u.any d I.free (by simp);exact I.step (g':=s.gens) (d':=s.drawn) (ch:=[]) (λ_ z=>nomatch z) (λb o _ a _ e n=>u.keep b o e n a (by simp)) (λb o _ a _ e n=>u.slot b o e n a (by simp)) (λb o _ e n=>u.free b o e n (by simp)) (λb o _ e=>u.there b o e (by simp)) u.tups u.frzs u.tbls (λq j=>by
   obtain⟨t,g,h,c,k⟩:=j;rw[d] at c;cases c;exact⟨_,g,h,i,k⟩) f I.bare
theorem Inv.call {g':Array GenState}{t':Nat}{d':Drawn}{ch:List Addr}(I:'%')(u:Un (frs X.stack) ch H H' s.heap h')(i:HOk X.prog X.w H' h')(l:AllBare g')
   (f:∀b∈ch,(b∈X.ex\/X.s₀.heap.objs.size<=b)/\b≠X.env.locals/\(∀x c,X.env.cells.lookup x=some c->c≠b)/\∀p∈X.pn++pins,p.1≠b) :
   Inv X pins σ H' { s with heap:=h',gens:=g',drawn:=d',toks:=t' }:=by
 obtain⟨m,⟨o,w,y,h,r⟩,_⟩:=id I.loc;obtain⟨sl,d⟩:=u.any h I.free λz=>(f _ z).2.1 rfl
 exact I.step (ch:=ch) f (λb o d q a e n=>u.keep b o e n (λz=>(Qn.mp (I.stkSub b z)).elim d q) a) (λb o _ _ a e n=>u.any e n a) (λb o a e n=>u.free b o e n a) (λb o a e=>u.there b o e a) u.tups u.frzs u.tbls (λA t=>by
   obtain⟨B,j,k,g,v⟩:=t;rw[h] at g;cases g;exact⟨_,j,k,d,v⟩) i l
theorem Inv.turned {t':Nat}{a:Addr}(I:'%')(k:∀b o,b≠a->s.heap.get? b=some o->h'.get? b=some o)(h:H a=none)(g:a≠X.env.locals)
   (i:a∈X.ex\/X.s₀.heap.objs.size<=a) (j:∀x c,X.env.cells.lookup x=some c->c≠a) (l:∀p∈X.pn++pins,p.1≠a):Inv X pins σ H { s with heap:=h',toks:=t' }:=by
 have f:∀b u,H b=some u->b≠a:=λb u e z=>by rw[z,h] at e;cases e
 refine I.step (g':=s.gens) (d':=s.drawn) (ch:=[a]) (λb t=>?_) (λb o _ _ d e _=>k b o (λz=>d (by simp[z])) e) (λb o _ _ d e _=>⟨o.slots,k b o (λz=>d (by simp[z])) e⟩) (λ_ _ _ _ n=>n)
   (λb o d e=>⟨o,k b o (λz=>d (by simp[z])) e⟩) (λ_ _ e=>e) (λ_ _ _ e=>e) (λb C e=>⟨#[],by rw[e];simp⟩) (λm w=>?_) (λb u e=>?_) I.bare
 . have e:b=a:=by simpa using t
   subst e;exact⟨i,g,j,l⟩
 . obtain⟨o,y,A,B,r⟩:=w
   exact⟨o,y,A,k _ o (Ne.symm g) B,r⟩
 . refine(I.hok b u e).stay (λc v d q=>k c v ?_ q) (λ_ q=>q) λ_ _ q=>q
   rcases d with z | z
   . rw[z];exact f b u e
   . exact f c _ z
theorem Inv.tok (I:'%')(t:Nat):Inv X pins σ H { s with toks:=t }:=I.un (h':=s.heap) (t':=t) Un.refl I.hok
theorem Inv.kept {t':Nat}(I:'%')(k:∀b u,s.heap.get? b=some u->h'.get? b=some u):Inv X pins σ H { s with heap:=h',toks:=t' }:=I.un (Un.kept k) (I.hok.kept k)
theorem Inv.laid {a:Addr}{o:HO}{t':Nat}(I:'%')(k:∀b u,s.heap.get? b=some u->h'.get? b=some u)(c:s.heap.objs.size<=a)(new:ze6 X.prog X.w (upd H a o) h' a o) :
 Inv X pins σ (upd H a o) { s with heap:=h',toks:=t' }:=I.un (Un.laid k c (I.hok.fresh c)) (I.hok.laid k c new)
theorem Inv.write {x e:Addr}{o:HO}{t':Nat}(I:'%')(c:Mut (H x))(d:e=x\/H e=some (.own x))(k:∀b u,b≠e->s.heap.get? b=some u->h'.get? b=some u)(a:∃u,h'.get? e=some u)
 (new:ze6 X.prog X.w (upd H x o) h' x o):Inv X pins σ (upd H x o) { s with heap:=h',toks:=t' }:=I.un (Un.write c d k a) (I.hok.write c d k a new)
theorem Inv.pins_of {a:PL}(I:'%')(h:∀p∈a,s.heap.get? p.1=some p.2/\H p.1=none/\p.1≠X.env.locals/\p.1∉X.fs/\∀v,p.2.data≠.cell v):Inv X a σ H s :=
 ⟨I.ok,I.os,I.bare,I.base,I.loc,I.cell,I.free,I.freeC,λp b=>(Qs.mp b).elim (λz=>I.pin p (Zl _ z)) (h p),I.hok,I.len⟩
theorem zM5 {N:List Str}(c:N.Nodup){i j:Nat}{x:Str}(a:N[i]?=some x)(b:N[j]?=some x):i=j:=by
 obtain⟨f,d⟩:=QN.mp a;obtain⟨g,e⟩:=QN.mp b;exact(List.getElem_inj c).mp (d.trans e.symm)
theorem zS6 {M:Model}{A:Around}{E:VP}{i:Nat}{x:Str}{v:V}{u:Value}{Q:Unit->Shared->Prop}(I:'%')(hN:X.N.Nodup)(G:X.N[i]?=some x)(t:Loc X.env.scope x)(r:RelV v u)
   (h:∀O,Inv X pins (σ.set i (some v)) H O->(∃a,Heap.SameBut a s.heap O.heap/\(a=X.env.locals\/X.env.cells.lookup x=some a))->Q () O) (hf:X.fn x=true\/X.env.scope.names.lookup x=some .local:=by first | exact .inl rfl | exact .inr rfl | assumption):wpAny M A (storeName X.env x u) Q E s:=by
 obtain⟨m,P,hl⟩:=id I.loc;have a6:(X.env.scope.kind == .class || (X.env.scope.kind == .module && X.env.locals != X.env.globals))=false:=by rw[I.ok.kind];rfl
 have a2:i<σ.length:=by rw[I.len];exact(QN.mp G).1
 have cne:=I.cne;have a0:∀ {a:Addr} {F:Heap},(∃o,s.heap.get? a=some o/\H a=none)->Heap.SameBut a s.heap F->HOk X.prog X.w H F:=λ{a F} ha f b ob e=>by
   obtain⟨_,_,a1⟩:=ha;refine(I.hok b ob e).stay (λc J l q=>(f.2 c ?_).trans q) (λ_ q=>q) λ_ _ q=>q
   rintro rfl;rcases l with rfl | l
   . rw[a1] at e;cases e
   . rw[a1] at l;cases l
 rcases t with B | B
 . refine wpAny_storeName_local B P (λF a8 f=>?_) a6
   obtain⟨oL,_,_,a9,_⟩:=id P;refine h _ ⟨I.ok,I.os,I.bare,⟨λb o e n C t=>?_,λb o e n C t=>?_,I.base.free,λb o e t=>?_,I.base.tups,I.base.frzs,I.base.tbls⟩,⟨_,a8,λj y R g w S=>?_⟩,λy c e=>?_,I.free,I.freeC,λp T=>?_,a0 ⟨oL,a9,I.free⟩ f,by simpa using I.len⟩ ⟨_,f,.inl rfl⟩
   . exact(f.2 b (Qz (QJ (Qo e) I.ok.above))).trans (I.base.keep b o e n C t)
   . obtain⟨sl,g⟩:=I.base.slot b o e n C t
     exact⟨sl,(f.2 b (Qz (QJ (Qo e) I.ok.above))).trans g⟩
   . obtain⟨U,g⟩:=I.base.there b o e t
     exact⟨U,(f.2 b (Qz (QJ (Qo e) I.ok.above))).trans g⟩
   . by_cases D:j=i
     . subst D
       rw[G] at g;cases g;rw[List.getElem?_set_self a2] at w;cases w;exact⟨u,r,.inl ⟨B,by simp⟩⟩
     . rw[List.getElem?_set_ne (Ne.symm D)] at w
       obtain⟨W,Y,q⟩:=hl j y R g w S;refine⟨W,Y,?_⟩;rcases q with⟨k,e⟩ | ⟨k,c,e,z⟩
       . refine .inl ⟨k,?_⟩
         have:y≠x:=λe=>D (zM5 hN g (e▸G))
         simp[this,e]
       . exact .inr ⟨k,c,e,z.sameBut f (cne y c e)⟩
   . obtain⟨J,z⟩:=I.cell y c e
     exact⟨J,z.sameBut f (cne y c e)⟩
   . obtain⟨e,n,K,Z,d⟩:=I.pin p T
     exact⟨(f.2 p.1 K).trans e,n,K,Z,d⟩
 . have N:X.fn x=true:=by
     rcases hf with z | z
     . exact z
     . rw[z] at B;cases B
   obtain⟨c,l⟩:=I.ok.has x (.inl B);obtain⟨J,z⟩:=I.cell x c l;refine wpAny_storeName_cell I.ok.kind B l z (λF a3 f=>?_);obtain⟨oc,a4,a7⟩:=id z;refine h { s with heap:=F } ⟨I.ok,I.os,I.bare,⟨λb o e n C t=>?_,λb o e n C t=>?_,I.base.free,λb o e t=>?_,I.base.tups,I.base.frzs,I.base.tbls⟩,⟨m,P.sameBut f (Ne.symm (cne x c l)),λj y R g w S=>?_⟩,λy L e=>?_,I.free,I.freeC,λp T=>?_,a0 ⟨oc,a4,I.freeC x c l⟩ f,by simpa using I.len⟩ ⟨c,f,.inr l⟩
   . exact(f.2 b (Qz (QJ (Qo e) (I.ok.cab x c N l)))).trans (I.base.keep b o e n C t)
   . obtain⟨sl,g⟩:=I.base.slot b o e n C t
     exact⟨sl,(f.2 b (Qz (QJ (Qo e) (I.ok.cab x c N l)))).trans g⟩
   . obtain⟨U,g⟩:=I.base.there b o e t
     exact⟨U,(f.2 b (Qz (QJ (Qo e) (I.ok.cab x c N l)))).trans g⟩
   . by_cases D:j=i
     . subst D
       rw[G] at g;cases g;rw[List.getElem?_set_self a2] at w;cases w;exact⟨u,r,.inr ⟨.inl B,c,l,a3⟩⟩
     . rw[List.getElem?_set_ne (Ne.symm D)] at w
       obtain⟨W,Y,q⟩:=hl j y R g w S;refine⟨W,Y,?_⟩;rcases q with q | ⟨k,L,e,z'⟩
       . exact .inl q
       . refine .inr ⟨k,L,e,z'.sameBut f ?_⟩
         rintro rfl;exact D (zM5 hN g (I.ok.inj _ _ _ e l▸G))
   . by_cases a5:L=c
     . subst a5;exact⟨_,a3⟩
     . obtain⟨w2,z2⟩:=I.cell y L e
       exact⟨w2,z2.sameBut f a5⟩
   . obtain⟨e,n,K,Z,d⟩:=I.pin p T
     refine⟨(f.2 p.1 ?_).trans e,n,K,Z,d⟩;intro q;rw[q,a4] at e;have q':oc=p.2:=Qx e;exact d J (by rw[<-q'];exact a7)
theorem zM6 {M:Model}{A:Around}{E:VP}{i:Nat}{x:Str}{v:V}{u:Value}{Q:Unit->Shared->Prop}(I:'%')(b:X.N.Nodup)(c:X.N[i]?=some x)(d:Loc X.env.scope x)(r:RelV v u)
   (h:∀a,Inv X pins (σ.set i (some v)) H a->Q () a) (e:X.fn x=true\/X.env.scope.names.lookup x=some .local:=by first | exact .inl rfl | exact .inr rfl | assumption):wpAny M A (storeName X.env x u) Q E s :=
 zS6 I b c d r (λa f _=>h a f) e
theorem Inv.call' {s':Shared}{ch:List Addr}(I:'%')(f:s'.os=s.os)(u:Un (frs X.stack) ch H H' s.heap s'.heap)(a:HOk X.prog X.w H' s'.heap)(g:AllBare s'.gens)
   (d:∀b∈ch,(b∈X.ex\/X.s₀.heap.objs.size<=b)/\b≠X.env.locals/\(∀x c,X.env.cells.lookup x=some c->c≠b)/\∀p∈X.pn++pins,p.1≠b):Inv X pins σ H' s':=by
 obtain⟨i,g',d',t',h⟩:=s';have e:h=s.os:=f;subst e;exact I.call (g':=g') (t':=t') (d':=d') u a g d
end
noncomputable abbrev XK:=Value->Option Addr->Hp->Prop
noncomputable abbrev St:=List (Option V)
noncomputable abbrev VK:=V->Hp->Prop
noncomputable abbrev TE:=St->Hp->VK->Prop
noncomputable abbrev TT:=St->Hp->(Bool->Hp->Prop)->Prop
noncomputable abbrev TA:=St->Hp->(List V->Hp->Prop)->Prop
structure Ends where
 nx:St->Hp->Prop
 rt:VK
 bk:St->Hp->Prop:=λ_ _=>False
 ct:St->Hp->Prop:=λ_ _=>False
noncomputable abbrev TS:=Ends->St->Hp->Prop
def EP (X:Cx)(pins:PL)(σ:St)(Q:VK)(u:Value)(s':Shared):Prop:=∃v H',Inv X pins σ H' s'/\RelV v u/\Q v H'
def TP (X:Cx)(pins:PL)(σ:St)(Q:Bool->Hp->Prop)(b:Bool)(s':Shared):Prop:=∃H',Inv X pins σ H' s'/\Q b H'
def AP (X:Cx)(pins:PL)(σ:St)(Q:List V->Hp->Prop)(us:')')(s':Shared):Prop:=∃vs H',Inv X pins σ H' s'/\Vals vs us/\Q vs H'
def SP (X:Cx)(pins:PL)(D:Ends)(f:Flow)(s':Shared):Prop :=
 match f with
 | .next=>∃σ' H',Inv X pins σ' H' s'/\D.nx σ' H'
 | .brk=>∃σ' H',Inv X pins σ' H' s'/\D.bk σ' H'
 | .cont=>∃σ' H',Inv X pins σ' H' s'/\D.ct σ' H'
 | .ret u=>∃v σ' H',Inv X pins σ' H' s'/\RelV v u/\D.rt v H'
def PE (X:Cx)(e:Expr)(t:TE):Prop :=
 ∀(pins:PL) (s:Shared) (σ:St) (H:Hp) (Q:VK),'%'->t σ H Q->wpAny (model X.prog X.w) X.A (eval e X.env) (EP X pins σ Q) X.xe s
def PT (X:Cx)(e:Expr)(t:TT):Prop :=
 ∀(pins:PL) (s:Shared) (σ:St) (H:Hp) (Q:Bool->Hp->Prop),'%'->t σ H Q->wpAny (model X.prog X.w) X.A (isTrue e X.env (eval e X.env)) (TP X pins σ Q) X.xe s
def PW (X:Cx)(e:Expr)(t:TT):Prop :=
 ∀(whole:Sem Value) (pins:PL) (s:Shared) (σ:St) (H:Hp) (Q:Bool->Hp->Prop),'%'->t σ H Q->wpAny (model X.prog X.w) X.A (isTrue e X.env whole) (TP X pins σ Q) X.xe s
theorem PW.pt {X:Cx}{e:Expr}{t:TT}(h:PW X e t):PT X e t:=h _
def PA (X:Cx)(es:List Expr)(t:TA):Prop :=
 ∀(pos:Pos) (pins:PL) (s:Shared) (σ:St) (H:Hp) (Q:List V->Hp->Prop),'%'->t σ H Q->wpAny (model X.prog X.w) X.A (spliced (backTo pos (starEach es X.env))) (AP X pins σ Q) X.xe s
def PS (X:Cx)(st:Stmt)(t:TS):Prop :=
 ∀(pins:PL) (s:Shared) (σ:St) (H:Hp) (D:Ends),'%'->t D σ H->wpAny (model X.prog X.w) X.A (exec st X.env) (SP X pins D) X.xe s
def PSs (X:Cx)(st:List Stmt)(t:TS):Prop :=
 ∀(pins:PL) (s:Shared) (σ:St) (H:Hp) (D:Ends),'%'->t D σ H->wpAny (model X.prog X.w) X.A (execs st X.env) (SP X pins D) X.xe s
theorem thn {c:Type}{t:Sem c}{Q b:c->Shared->Prop}{M:Model}{A:Around}{E:VP}{s:Shared}(h:wpAny M A t Q E s)(d:∀a s,Q a s->b a s):wpAny M A t b E s:=Zj h d λ_ _ x=>x
section
variable {X:Cx}
inductive yl8 (i:Nat)(σ:St)(H:Hp)(Q:VK):Prop
 | mk (v:_)(h0:σ[i]?=some (some v))(h1:Q v H):yl8 i σ H Q
def tVar (i:Nat):TE:=λσ H Q=>yl8 i σ H Q
def tC (v:V):TE:=λ_ H Q=>Q v H
theorem pe_var {i:Nat} {x:Str} {k:Pos} (o:X.N[i]?=some x) (p:Vis X.env.scope x) (d:(x == ("__debug__" : Str))=false:=by decide) (n:(x == ("__classdict__" : Str))=false:=by decide):PE X (.Name x k) (tVar i):=by
 intro j s y H Q I h;obtain⟨v,e,h⟩:=h;obtain⟨m,q,t⟩:=I.loc;obtain⟨u,r,l⟩:=t i x v o e p;have b:EP X j y Q u s:=⟨v,H,I,r,h⟩;rcases l with⟨a,w⟩ | ⟨a,c,g,f⟩
 . exact wpAny_Name (wpAny_loadName_local I.ok.kind a q w b) d
 . rcases a with a | a
   . exact wpAny_Name (wpAny_loadName_cell I.ok.kind a g f b) d
   . exact wpAny_Name (wpAny_loadName_free I.ok.kind a g f b n) d
theorem za6 {i j pos}:PE X (.Constant (.int i) j pos) (tC (.int i)):=λ_ _ _ H _ I h=>wpAny_Constant_int ⟨.int i,H,I.tok _,⟨_,rfl⟩,h⟩
theorem zg0 {b j pos}:PE X (.Constant (.bool b) j pos) (tC (.bl b)):=λ_ _ _ H _ I h=>Constant_bool ⟨.bl b,H,I,rfl,h⟩
theorem zr4 {j pos}:PE X (.Constant .none j pos) (tC .non):=λ_ _ _ H _ I h=>Constant_none ⟨.non,H,I,rfl,h⟩
theorem zc4 {x j pos}:PE X (.Constant (.str x) j pos) (tC (.str x)):=λ_ _ _ H _ I h=>Calls.Constant_str ⟨.str x,H,I.tok _,⟨_,rfl⟩,h⟩
def Gl (X:Cx)(x:Str):Prop:=X.env.kindOf x=some .globalImplicit
theorem zs5 {E:VP}{a:PL}{s:Shared}{f:St}{H:Hp}{x:Str}{u:Value}{b:Pos}{Q:VP}(I:Inv X a f H s)(c:Gl X x)(d:X.mg x=some u)(h:Q u s)
   (e:(x == ("__debug__" : Str))=false:=by decide):wpAny (model X.prog X.w) X.A (eval (.Name x b) X.env) Q E s :=
 Calls.Name_function_global I.ok.kind c (Calls.loadGlobal_global (by rw[I.ok.glob];exact I.mod.glob.keeps I.bk) d h) e
theorem zI1 {E:VP}{a:PL}{s:Shared}{k:St}{H:Hp}{x:Str}{u:Value}{b:Pos}{Q:VP}(I:Inv X a k H s)(c:Gl X x)(d:X.mg x=none)(e:bootBuiltins x=some u)(h:Q u s)
   (f:x≠"__name__":=by decide) (g:(x == ("__debug__" : Str))=false:=by decide):wpAny (model X.prog X.w) X.A (eval (.Name x b) X.env) Q E s:=by
 obtain⟨mb,i,j⟩:=I.mod.blt;exact Calls.Name_function_global I.ok.kind c (Calls.loadGlobal_builtin (by rw[I.ok.glob];exact I.mod.glob.keeps I.bk) d (by rw[I.ok.blt];exact i.keeps I.bk) ((j x f).trans e) h) g
theorem zj1 {x:Str} {v:V} {u:Value} {a:Pos} (b:Gl X x) (c:X.mg x=some u) (r:RelV v u) (d:(x == ("__debug__" : Str))=false:=by decide):PE X (.Name x a) (tC v) :=
 λ_ _ _ H _ I h=>zs5 I b c ⟨v,H,I,r,h⟩ d
theorem zw3 {x:Str} {v:V} {u:Value} {a:Pos} (b:Gl X x) (c:X.mg x=none) (d:bootBuiltins x=some u) (r:RelV v u) (e:x≠"__name__":=by decide) (f:(x == ("__debug__" : Str))=false:=by decide):PE X (.Name x a) (tC v) :=
 λ_ _ _ H _ I h=>zI1 I b c d ⟨v,H,I,r,h⟩ e f
variable {a b:Expr} {ta tb:TE} {pos:Pos}
def PC (X:Cx)(op:CmpOp)(a b:Expr)(t:TE):Prop :=
 ∀(pins:PL) (s:Shared) (σ:St) (H:Hp) (Q:VK),'%'->t σ H Q →
   wpAny (model X.prog X.w) X.A (eval a X.env) (λv s₁=>wpAny (model X.prog X.w) X.A (eval b X.env) (λu s₂=>wpAny (model X.prog X.w) X.A (compareOp op v u) (EP X pins σ Q) X.xe s₂) X.xe s₁) X.xe s
inductive I_tB  (x:V)(H1:Hp)(Q:Bool->Hp->Prop):Prop
 | mk (c:_)(h0:x = .bl c)(h1:Q c H1):I_tB  x H1 Q
def tB (t:TE):TT:=λσ H Q=>t σ H λx H1=>I_tB  x H1 Q
theorem yf2 {e:CmpOp}{t:TE}(h:PC X e a b t)(f:behindInMarks e b=false:=by first | exact nobehind _ '&' '&' | rfl):PT X (.Compare a [e] [b] pos) (tB t):=by
 intro g s o H Q I i;refine wpAny_isTrue_Compare1 (thn (h g s o H _ I i) λv p f=>thn f λu r j=>thn j λc w ⟨x,k,l,m,n⟩=>?_) f;obtain⟨d,rfl,q⟩:=n;cases m;exact wpAny_truthy_bool ⟨k,l,q⟩
theorem zd3 {e:Expr}{t:TE}(h:PE X e t)(c:∀a,isTrue e X.env a=(do let v <-a;standAt e.pos;holding [v] (truthy v)):=by intro _;rfl):PT X e (tB t):=by
 intro b s l H Q I f;refine isTrue_plain (thn (h b s l H _ I f) λv m ⟨x,g,i,j,k⟩=>?_) (c _);obtain⟨d,rfl,q⟩:=k;cases j;exact wpAny_truthy_bool ⟨g,i,q⟩
variable {tA tB':TT} {rest:List Expr}
def tAnd (t u:TT):TT:=λσ H Q=>t σ H λc H1=>if c=true then u σ H1 Q else Q false H1
def tOr (t u:TT):TT:=λσ H Q=>t σ H λc H1=>if c=true then Q true H1 else u σ H1 Q
def tNot (t:TT):TT:=λσ H Q=>t σ H λc H1=>Q (!c) H1
theorem zF0 (d:PT X a tA):PW X (.BoolOp .And [a] pos) tA:=by
 intro g b s f H Q I h;refine isTrue_and (thn (d b s f H Q I h) λc i e=>?_);cases c with
 | true=>exact isTrue_and_nil e
 | false=>exact e
theorem zj3 (d:PT X a tA):PW X (.BoolOp .Or [a] pos) tA:=by
 intro g b s f H Q I h;refine isTrue_or (thn (d b s f H Q I h) λc i e=>?_);cases c with
 | false=>exact isTrue_or_nil e
 | true=>exact e
theorem zI2 (j:PT X a tA)(k:PW X (.BoolOp .And (b::rest) pos) tB'):PW X (.BoolOp .And (a::b::rest) pos) (tAnd tA tB'):=by
 intro l d s i H Q I h;refine isTrue_and (thn (j d s i H _ I h) λc m ⟨e,f,g⟩=>?_);cases c with
 | true=>exact k l d m i e Q f g
 | false=>exact⟨e,f,g⟩
theorem zk4 (j:PT X a tA)(k:PW X (.BoolOp .Or (b::rest) pos) tB'):PW X (.BoolOp .Or (a::b::rest) pos) (tOr tA tB'):=by
 intro l d s i H Q I h;refine isTrue_or (thn (j d s i H _ I h) λc m ⟨e,f,g⟩=>?_);cases c with
 | true=>exact⟨e,f,g⟩
 | false=>exact k l d m i e Q f g
theorem ze8 (d:PT X a tA):PT X (.UnaryOp .Not a pos) (tNot tA):=by
 intro b s f H Q I h;exact isTrue_not (d b s f H (λc e=>Q (!c) e) I h)
def tAndV (ta tb:TE):TE:=λσ H Q=>ta σ H λx H1=>∃c,x = .bl c/\if c=true then tb σ H1 Q else Q (.bl false) H1
def tOrV (ta tb:TE):TE:=λσ H Q=>ta σ H λx H1=>∃c,x = .bl c/\if c=true then Q (.bl true) H1 else tb σ H1 Q
def tNotV (ta:TE):TE:=λσ H Q=>ta σ H λx H1=>∃c,x = .bl c/\Q (.bl (!c)) H1
theorem zy7 {op}{t:TE}(h:PE X a t):PE X (.BoolOp op [a] pos) t:=λb s d H Q I c=>BoolOp_one (h b s d H Q I c)
theorem zE3 (j:PE X a ta)(k:PE X (.BoolOp .And (b::rest) pos) tb):PE X (.BoolOp .And (a::b::rest) pos) (tAndV ta tb):=by
 intro e s i H Q I h;refine BoolOp_and (thn (j e s i H _ I h) λv l ⟨x,f,g,m,d⟩=>?_);obtain⟨c,rfl,d⟩:=d;cases m;refine wpAny_truthy_bool ?_;cases c with
 | true=>exact k e l i f Q g d
 | false=>exact⟨.bl false,f,g,rfl,d⟩
theorem yq9 (j:PE X a ta)(k:PE X (.BoolOp .Or (b::rest) pos) tb):PE X (.BoolOp .Or (a::b::rest) pos) (tOrV ta tb):=by
 intro e s i H Q I h;refine BoolOp_or (thn (j e s i H _ I h) λv l ⟨x,f,g,m,d⟩=>?_);obtain⟨c,rfl,d⟩:=d;cases m;refine wpAny_truthy_bool ?_;cases c with
 | false=>exact k e l i f Q g d
 | true=>exact⟨.bl true,f,g,rfl,d⟩
theorem yf3 (e:PE X a ta):PE X (.UnaryOp .Not a pos) (tNotV ta):=by
 intro d s j H Q I h;refine UnaryOp_ (thn (e d s j H _ I h) λv k ⟨x,f,g,i,b⟩=>?_);obtain⟨c,rfl,b⟩:=b;cases i;exact not_of (wpAny_truthy_bool ⟨.bl (!c),f,g,rfl,b⟩)
def tIf (t:TT)(ta tb:TE):TE:=λσ H Q=>t σ H λc H1=>if c=true then ta σ H1 Q else tb σ H1 Q
theorem ya9 {c:Expr}(l:PT X c tA)(m:PE X a ta)(n:PE X b tb):PE X (.IfExp c a b pos) (tIf tA ta tb):=by
 intro e s f H Q I h;refine wpAny_IfExp (thn (l e s f H _ I h) λd g ⟨i,j,k⟩=>?_);cases d with
 | true=>exact m e g f i Q j k
 | false=>exact n e g f i Q j k
end
def SqL (K:W.Frag)(H:Hp)(a:Addr)(xs:List V):Prop :=
 Rd H a (.lst xs) ∨
   ∃(o:Obj) (its:Array Value) (n:Nat),K.lookup a=some o/\o.cls = .type "list"/\o.dict=none/\o.data = .seq its n/\its.size<=sizeLine/\Vals xs its.toList
def SqT (K:W.Frag)(H:Hp)(a:Addr)(xs:List V):Prop :=
 Rd H a (.tup xs) ∨
   ∃(o:Obj) (its:Array Value) (n:Nat),K.lookup a=some o/\o.cls = .type "tuple"/\o.data = .seq its n/\its.size<=sizeLine/\Vals xs its.toList
noncomputable def absV:Value->Option V
 | .none=>some .non
 | .bool b=>some (.bl b)
 | .int i _=>some (.int i)
 | .str x _=>some (.str x)
 | .bytes b _=>some (.byt b)
 | .float b _=>some (.flt b)
 | .ref a=>some (.ref a)
 | .type n=>some (.ty n)
 | _=>none
theorem RelV.abs {x:V}{u:Value}(r:RelV x u):absV u=some x:=by
 cases x with
 | non=>cases r;rfl
 | bl _=>cases r;rfl
 | int _=>obtain⟨t,rfl⟩:=r;rfl
 | str _=>obtain⟨t,rfl⟩:=r;rfl
 | byt _=>obtain⟨t,rfl⟩:=r;rfl
 | flt _=>obtain⟨t,rfl⟩:=r;rfl
 | ref _=>cases r;rfl
 | ty _=>cases r;rfl
theorem RelV.inj {x y:V}{u:Value}(r:RelV x u)(q:RelV y u):x=y:=Qx (r.abs.symm.trans q.abs)
theorem Vals.inj:∀ {a b:List V} {c:')'},Vals a c->Vals b c->a=b
 | _,_,_,.nil,.nil=>rfl
 | _,_,_,.cons r t,.cons d e=>by rw[r.inj d,Vals.inj t e]
section
variable {X:Cx} {pins:PL} {σ:St} {H:Hp} {s:Shared} {a:Addr} {xs ys:List V}
theorem SqL.of {K:W.Frag}(h:H a=some (.lst xs)):SqL K H a xs:=.inl (.inl h)
theorem SqT.of {K:W.Frag}(h:H a=some (.tup xs)):SqT K H a xs:=.inl (.inl h)
theorem Inv.list (I:'%')(h:SqL X.K H a xs):∃b:')',Vals xs b/\PlainL s.heap a b.toArray/\xs.length<=sizeLine:=by
 rcases h with h | ⟨o,b,n,c,d,f,g,i,r⟩
 . obtain⟨z,b,n,r,e⟩:=h.ok I.hok
   exact⟨b,r,⟨_,n,e,rfl,rfl,rfl⟩,z⟩
 . refine⟨b.toList,r,⟨o,n,I.kIn a o c,d,f,by simpa using g⟩,?_⟩
   have e:=r.length;simp only[Qu] at e;omega
theorem Inv.tuple (I:'%')(h:SqT X.K H a xs):∃b:')',Vals xs b/\IsTup s.heap a b.toArray/\xs.length<=sizeLine:=by
 rcases h with h | ⟨o,b,n,c,d,f,g,r⟩
 . obtain⟨z,b,r,p⟩:=h.ok I.hok
   exact⟨b,r,p.isTup,z⟩
 . refine⟨b.toList,r,⟨o,I.kIn a o c,d,n,by simpa using f⟩,?_⟩
   have e:=r.length;simp only[Qu] at e;omega
theorem Inv.list_inj (I:'%')(h:SqL X.K H a xs)(h':SqL X.K H a ys):xs=ys:=by
 obtain⟨g,r,⟨o,n,e,_,_,d⟩,_⟩:=I.list h;obtain⟨f,i,⟨k,l,b,_,_,c⟩,_⟩:=I.list h';rw[e] at b;cases b;rw[d] at c;injection c with j _
 have:g=f:=by simpa using congrArg Array.toList j
 subst this;exact r.inj i
theorem Inv.tuple_inj (I:'%')(h:SqT X.K H a xs)(h':SqT X.K H a ys):xs=ys:=by
 obtain⟨g,r,⟨o,e,_,n,d⟩,_⟩:=I.tuple h;obtain⟨f,i,⟨k,b,_,l,c⟩,_⟩:=I.tuple h';rw[e] at b;cases b;rw[d] at c;injection c with j _
 have:g=f:=by simpa using congrArg Array.toList j
 subst this;exact r.inj i
end
noncomputable abbrev Cx.wish (X:Cx)(E:VP):Cx:={ X with xe:=E }
noncomputable abbrev Cx.nox (X:Cx):Cx:=X.wish λ_ _=>False
theorem Cx.Ok.wish {X:Cx}(ok:X.Ok)(E:VP):(X.wish E).Ok :=
 ⟨ok.mod,ok.kind,ok.glob,ok.blt,ok.above,ok.inj,ok.has,ok.cab,ok.hd,ok.frames,ok.stk,ok.exf,ok.bs,ok.bsz,ok.noex,ok.exfs,ok.funs,ok.frf⟩
theorem Cx.Ok.unwish {X:Cx}{E:VP}(ok:(X.wish E).Ok):X.Ok :=
 ⟨ok.mod,ok.kind,ok.glob,ok.blt,ok.above,ok.inj,ok.has,ok.cab,ok.hd,ok.frames,ok.stk,ok.exf,ok.bs,ok.bsz,ok.noex,ok.exfs,ok.funs,ok.frf⟩
section
variable {X:Cx} {pins:PL} {σ:St} {H:Hp} {s:Shared} {E:VP}
theorem Inv.wish (I:'%')(E:VP):Inv (X.wish E) pins σ H s:=⟨I.ok.wish E,I.os,I.bare,I.base,I.loc,I.cell,I.free,I.freeC,I.pin,I.hok,I.len⟩
theorem Inv.unwish (I:Inv (X.wish E) pins σ H s):Inv X pins σ H s:=⟨I.ok.unwish,I.os,I.bare,I.base,I.loc,I.cell,I.free,I.freeC,I.pin,I.hok,I.len⟩
theorem SP.unwish {D:Ends}{f:Flow}{s':Shared}(h:SP (X.wish E) pins D f s'):SP X pins D f s':=by
 cases f with
 | next=>obtain⟨a,b,I,q⟩:=h;exact⟨a,b,I.unwish,q⟩
 | brk=>obtain⟨a,b,I,q⟩:=h;exact⟨a,b,I.unwish,q⟩
 | cont=>obtain⟨a,b,I,q⟩:=h;exact⟨a,b,I.unwish,q⟩
 | ret u=>obtain⟨v,a,b,I,r,q⟩:=h;exact⟨v,a,b,I.unwish,r,q⟩
theorem PSs.nox {st:List Stmt}{t:TS}(h:PSs X.nox st t):PSs X st t:=λa s c H D I b =>
 Zj (h a s c H D (I.wish _) b) (λ_ _ q=>q.unwish) λ_ _ z=>False.elim z
end
section
variable {X:Cx} {st:Stmt} {rest:List Stmt} {t u:TS} {e:Expr} {te:TE} {pos:Pos}
def tNext:TS:=λD σ H=>D.nx σ H
def tSeq (t u:TS):TS:=λD σ H=>t { D with nx:=u D } σ H
theorem zb3:PSs X [] tNext:=λ_ _ a H _ I h=>wpAny_execs_nil ⟨a,H,I,h⟩
theorem za2 (b:PS X st t)(c:PSs X rest u):PSs X (st::rest) (tSeq t u):=by
 intro a s j H D I h;refine wpAny_execs_cons (thn (b a s j H { D with nx:=u D } I h) λf d q=>?_);cases f with
 | next =>
   obtain⟨e,g,i,q⟩:=q;exact c a d e g D i q
 | ret v=>exact q
 | brk=>exact q
 | cont=>exact q
theorem za4 (b:PS X st t):PSs X [st] t:=by
 intro a s c H D I h;refine wpAny_execs_cons (thn (b a s c H D I h) λf d q=>?_);cases f with
 | next=>exact wpAny_execs_nil q
 | ret v=>exact q
 | brk=>exact q
 | cont=>exact q
theorem Inv.quiet {a:PL}{b:St}{H:Hp}{s:Shared}(I:Inv X a b H s):interactive X.env=false:=by simp[interactive,I.ok.kind]
def tDrop (te:TE):TS:=λD σ H=>te σ H λ_ H1=>D.nx σ H1
theorem zg6 (c:PE X e te)(d:swapsWith e none pos.line X.env=pure false:=by rfl):PS X (.Expr e pos) (tDrop te):=by
 intro b s a H D I h;exact wpAny_Expr_any (thn (c b s a H _ I h) λv j ⟨x,f,g,k,i⟩=>⟨a,f,g,i⟩) I.quiet d
def tRet (te:TE):TS:=λD σ H=>te σ H D.rt
theorem za9 (c:PE X e te):PS X (.Return (some e) pos) (tRet te):=by
 intro b s a H D I h;exact wpAny_Return_some (thn (c b s a H _ I h) λv j ⟨x,d,f,g,i⟩=>⟨x,a,d,f,g,i⟩)
def tIfS (c:TT)(t u:TS):TS:=λD σ H=>c σ H λb H1=>if b=true then t D σ H1 else u D σ H1
theorem zc2 {c:Expr}{a b:List Stmt}{g:TT}(m:PT X c g)(n:PSs X a t)(o:PSs X b u):PS X (.If c a b pos) (tIfS g t u):=by
 intro e s f H D I h;refine wpAny_If (thn (m e s f H _ I h) λd i ⟨j,k,l⟩=>?_);cases d with
 | true=>exact n e i f j D k l
 | false=>exact o e i f j D k l
def yl9:TS:=λ_ _ _=>False
theorem zg7:PS X st yl9:=λ_ _ _ _ _ _ h=>h.elim
theorem zu6 {a:List Stmt}:PSs X a yl9:=λ_ _ _ _ _ _ h=>h.elim
end
noncomputable abbrev TG:=V->St->Hp->(St->Hp->Prop)->Prop
noncomputable abbrev TGs:=List V->St->Hp->(St->Hp->Prop)->Prop
def PG (X:Cx)(target:Expr)(t:TG):Prop :=
 ∀(pins:PL) (s:Shared) (σ:St) (H:Hp) (v:V) (u:Value) (Q:St->Hp->Prop),'%'->RelV v u->t v σ H Q →
   wpAny (model X.prog X.w) X.A (assign target X.env u) (λ_ s'=>∃σ' H',Inv X pins σ' H' s'/\Q σ' H') X.xe s
def PGs (X:Cx)(ts:List Expr)(t:TGs):Prop :=
 ∀(pins:PL) (s:Shared) (σ:St) (H:Hp) (vs:List V) (us:')') (Q:St->Hp->Prop),'%'->Vals vs us->t vs σ H Q →
   wpAny (model X.prog X.w) X.A (assignInOrder ((assignEach ts X.env).map (·.2)) us) (λ_ s'=>∃σ' H',Inv X pins σ' H' s'/\Q σ' H') X.xe s
section
variable {X:Cx} {pos:Pos}
def zp7 (i:Nat):TG:=λv σ H Q=>Q (σ.set i (some v)) H
theorem zc3 {i:Nat}{x:Str}(a:X.N.Nodup)(b:X.N[i]?=some x)(c:Loc X.env.scope x)(d:X.fn x=true\/X.env.scope.names.lookup x=some .local:=by first | exact .inl rfl | exact .inr rfl | assumption):PG X (.Name x pos) (zp7 i):=by
 intro f s j H v u Q I r h;exact wpAny_assign_Name (zM6 I a b c r (λg e=>⟨_,H,e,h⟩) d)
def gNil:TGs:=λvs σ H Q=>vs=[]/\Q σ H
def ym0 (t:TG)(u:TGs):TGs:=λvs σ H Q=>∃v r,vs=v::r/\t v σ H λσ' H'=>u r σ' H' Q
theorem zF1:PGs X [] gNil:=by
 intro b s a H c d Q I r h;obtain⟨e,h⟩:=h;subst e;cases r;exact assignInOrder_nil ⟨a,H,I,h⟩
theorem zg2 {e:Expr}{es:List Expr}{t:TG}{u:TGs}(b:PG X e t)(c:PGs X es u)
   (d:(assignEach (e::es) X.env).map (·.2)=assign e X.env::(assignEach es X.env).map (·.2):=by rfl):PGs X (e::es) (ym0 t u):=by
 intro a s n H o p Q I r h;obtain⟨v,q,f,h⟩:=h;subst f;cases r with
 | cons r g =>
   rw[d];refine assignInOrder_cons (thn (b a s n H _ _ _ I r h) λ_ i ⟨j,k,l,m⟩=>?_);exact c a i j k _ _ Q l g m
inductive ym1 (K:W.Frag)(n:Nat)(t:TGs)(v:V)(σ:St)(H:Hp)(Q:St->Hp->Prop):Prop
 | mk (a xs:_)(h0:v = .ref a)(h1:SqT K H a xs)(h2:xs.length=n)(h3:t xs σ H Q):ym1 K n t v σ H Q
def gTup (K:W.Frag)(n:Nat)(t:TGs):TG:=λv σ H Q=>ym1 K n t v σ H Q
theorem ym2 {es:List Expr}{k:Nat}{t:TGs}{n:Nat}(j:X.calm=true)(h:PGs X es t)
   (l:(assignEach es X.env).length=n:=by rfl) (i:(assignEach es X.env).findIdx? (·.1)=none:=by rfl):PG X (.Tuple es k pos) (gTup X.K n t):=by
 intro d s g H v u Q I r c;obtain⟨a,m,p,q,w,c⟩:=c;subst p;cases r;obtain⟨B,f,x,C⟩:=I.tuple q;refine assign_Tuple_tuple (I.ok.hd j) x (by simp[l,<-w,f.length]) i λy z=>?_
 have A:Inv X d g H { s with heap:=y }:=I.kept (t':=s.toks) λb o e=>z b o (Qz (Qo e)) e
 exact h d _ g H m _ Q A (by simpa using f) c
def tAsg (te:TE)(g:TG):TS:=λD σ H=>te σ H λx H1=>g x σ H1 D.nx
theorem zX5 {a e:Expr}{c:TE}{g:TG}(f:PE X e c)(i:PG X a g)(j:swapsWithSole [a] e pos.line X.env=pure false:=by rfl)(k:swappedStores [a] e X.env=pure none:=by rfl)
   (l:(assignEach [a] X.env).map (·.2)=[assign a X.env]:=by rfl):PS X (.Assign [a] e pos) (tAsg c g):=by
 intro b s d H D I h;refine wpAny_Assign_stores (thn (f b s d H _ I h) λv m ⟨x,n,o,p,r⟩=>?_) j k;rw[l];exact thn (i b m d n x v _ o p r) λ_ t q=>q
theorem zb7 {i:Nat}{x:Str}{e:Expr}{b:TE}{a:Pos}(d:X.N.Nodup)(f:X.N[i]?=some x)(g:Loc X.env.scope x)(j:PE X e b)(k:swapsWith e (some (.Name x a)) pos.line X.env=pure false:=by rfl)(l:X.fn x=true\/X.env.scope.names.lookup x=some .local:=by first | exact .inl rfl | exact .inr rfl | assumption) :
   PS X (.Assign [.Name x a] e pos) (tAsg b (zp7 i)):=by
 intro c s r H D I h;refine wpAny_Assign_Name (thn (j c s r H _ I h) λv t ⟨y,m,n,o,p⟩=>?_) k;exact zM6 n d f g o (λu q=>⟨_,m,q,p⟩) l
end
section
variable {X:Cx} {pos:Pos}
def ym3 (c:TT)(tb:TS):TS:=λD σ H=>∃W:Nat->St->Hp->Prop,(∃m,W m σ H)/\∀m σ H,W m σ H →
 c σ H λb H1=>if b=true then ∃N:St->Hp->Prop,(∀σ' H',N σ' H'->∃m',m'<m/\W m' σ' H')/\tb { D with nx:=N,ct:=N,bk:=D.nx } σ H1 else D.nx σ H1
theorem zM7 {c:Expr}{q:List Stmt}{r:TT}{t:TS}(u:PassesOwn (model X.prog X.w) X.A X.env X.xe)(E:PT X c r)(F:PSs X q t):PS X (.While c q [] pos) (ym3 r t):=by
 intro j s Q H D I h;obtain⟨W,⟨G,J⟩,C⟩:=h;refine wpAny_While (codeAny_whileLoop (λn K=>∃w x,Inv X j w x K/\W n w x) ?_ G ⟨Q,H,I,J⟩);rintro n L ⟨e,y,M,O⟩;refine wpAny_passesOwn u (thn (E j L e y _ M (C n e y O)) λb P ⟨z,A,g⟩=>?_);cases b with
 | true =>
   obtain⟨N,B,g⟩:=g;rw[Ql rfl];refine wpAny_passesOwn u (thn (F j P e z _ A g) λf R i=>?_);cases f with
   | next =>
     obtain⟨a,d,k,l⟩:=i;obtain⟨m,o,p⟩:=B a d l;exact⟨m,o,a,d,k,p⟩
   | cont =>
     obtain⟨a,d,k,l⟩:=i;obtain⟨m,o,p⟩:=B a d l;exact⟨m,o,a,d,k,p⟩
   | brk=>exact i
   | ret v=>exact i
 | false =>
   rw[Qg Qp];exact wpAny_execs_nil ⟨e,z,A,g⟩
end
structure It where
 go:Nat->Hp->Prop
 yld:Nat->Hp->V->Hp->Prop
 stop:Nat->Hp->Prop
def FpOk (X:Cx)(pins:PL)(H:Hp)(b:Addr):Prop :=
 H b=none/\b≠X.env.locals/\b∉X.fs/\(b∈X.ex\/X.s₀.heap.objs.size<=b)/\(∀x c,X.env.cells.lookup x=some c->c≠b)/\∀p∈X.pn++pins,p.1≠b
theorem Inv.fpOk {X:Cx}{d:PL}{h:St}{H H':Hp}{s:Shared}{b:Addr}(I:Inv X d h H s)(a:s.heap.objs.size<=b)(f:H' b=none):FpOk X d H' b:=by
 refine⟨f,Nat.ne_of_gt (QJ I.lt a),I.nofs a,.inr (QD I.sz a),λx c e z=>?_,λp g z=>?_⟩
 . obtain⟨v,q⟩:=I.cell x c e
   exact absurd (QJ q.lt (by rw[z];exact a)) (Nat.lt_irrefl _)
 . exact absurd (QJ (Qo (I.pin p g).1) (by rw[z];exact a)) (Nat.lt_irrefl _)
structure Turn (P:Program)(w:World)(K:W.Frag)(tg:Expr)(J:It)(fp:List Addr)(it:Addr)(tn:Nat->Heap->Prop):Prop where
 mem:it∈fp
 obj:∀i h,tn i h->∀b∈fp,∃o,h.get? b=some o/\∀v,o.data≠.cell v
 keep:∀i h h',tn i h->(∀b∈fp,∀o,h.get? b=some o->h'.get? b=some o)->tn i h'
 item:∀(X:Cx),X.prog=P->X.w=w->X.K=K->X.calm=true->∀(i:Nat) (pins:PL) (s:Shared) (σ:St) (H:Hp) (E:VP),'%'->(∀b∈fp,FpOk X pins H b)->tn i s.heap->J.go i H →
   wpAny (model P w) X.A (pyNext (.ref it)) (λr s1=>∃u,r=some u ∧
     wpAny (model P w) X.A (letOwnedTupleGo tg (.ref it) u) (λ_ s2=>∃x H',Inv X pins σ H' s2/\RelV x u/\J.yld i H x H'/\tn (i+1) s2.heap/\∀b∈fp,H' b=none) E s1) E s
 done:∀(X:Cx),X.prog=P->X.w=w->X.K=K->X.calm=true->∀(i:Nat) (pins:PL) (s:Shared) (σ:St) (H:Hp) (E:VP),'%'->(∀b∈fp,FpOk X pins H b)->tn i s.heap->J.stop i H →
   wpAny (model P w) X.A (pyNext (.ref it)) (λr s1=>r=none/\Inv X pins σ H s1) E s
 self:∀(A:Around) (i:Nat) (s:Shared) (Q:VP) (E:VP),tn i s.heap->Q (.ref it) s->wpAny (model P w) A (pyIter (.ref it)) Q E s
noncomputable abbrev TI:=St->Hp->(It->Hp->Prop)->Prop
def PIE (X:Cx)(pins:PL)(σ:St)(tg:Expr)(R:It->Hp->Prop)(itv:Value)(s2:Shared):Prop :=
 ∃(it:Addr) (fp:List Addr) (tn:Nat->Heap->Prop) (J:It) (H':Hp),itv = .ref it/\Inv X pins σ H' s2/\Turn X.prog X.w X.K tg J fp it tn/\tn 0 s2.heap/\(∀b∈fp,FpOk X pins H' b)/\R J H'
def PI (X:Cx)(tg iter:Expr)(wi:TI):Prop :=
 ∀(pins:PL) (s:Shared) (σ:St) (H:Hp) (R:It->Hp->Prop),'%'->wi σ H R →
   wpAny (model X.prog X.w) X.A (eval iter X.env) (λv s1=>wpAny (model X.prog X.w) X.A (pyIter v) (PIE X pins σ tg R) X.xe s1) X.xe s
theorem yg6 {M:Model}{A:Around}{E:VP}{s:Shared}{b:Expr}{c:Addr}{u:Value}{o:Obj}{n:String}{vs:Array Value}{Q:Unit->Shared->Prop}(d:s.heap.get? c=some o)(e:o.cls = .type n)(f:o.data = .fields vs)
   (g:["enumerate","zip","dict_itemiterator","dict_reverseitemiterator","odict_iterator","itertools.zip_longest","itertools.pairwise"].contains n=false) (a:Q () s):wpAny M A (letOwnedTupleGo b (.ref c) u) Q E s:=by
 unfold letOwnedTupleGo
 cases b<;>first
   | exact Qd a
   | (cases u<;>first
       | exact Qd a
       | (refine Qa (wpAny_load d ?_)
          rw[e,f];show wpAny M A (if (["enumerate","zip","dict_itemiterator","dict_reverseitemiterator","odict_iterator","itertools.zip_longest","itertools.pairwise"].contains n && vs[0]? == some (rawInt _))=true then _ else _) Q E s;rw[Qg (by intro h;rw[g,Bool.false_and] at h;cases h)];exact Qd a))
noncomputable def Itl (K:W.Frag)(a:Addr):It :=
 ⟨λi H=>∃xs x,SqL K H a xs/\xs[i]?=some x,λi H x H'=>H'=H/\∀xs,SqL K H a xs->xs[i]?=some x,λi H=>∃xs,SqL K H a xs/\xs.length<=i⟩
noncomputable def Itt (K:W.Frag)(a:Addr):It :=
 ⟨λi H=>∃xs x,SqT K H a xs/\xs[i]?=some x,λi H x H'=>H'=H/\∀xs,SqT K H a xs->xs[i]?=some x,λi H=>∃xs,SqT K H a xs/\xs.length<=i⟩
noncomputable def Itr (lo:Int)(n:Nat):It:=⟨λi _=>i<n,λi H x H'=>H'=H/\x = .int (lo+i),λi _=>n<=i⟩
theorem zS7 {P:Program}{w:World}{K:W.Frag}{O:Expr}(a g:Addr):Turn P w K O (Itl K a) [g] g (λi h=>h.IsListIter g a i) where
 mem:=by simp
 obj:=λi h f b j=>by
   have e:b=g:=by simpa using j
   subst e;obtain⟨o,e,c,d⟩:=f;exact⟨o,e,λa1 z=>by rw[d] at z;cases z⟩
 keep:=λi h l f k=>f.at λo e=>k g (by simp) o e
 item:=by
   intro X q r t L i G s M H a0 I m f v;subst q r t;obtain⟨Q,x,n,y⟩:=v;obtain⟨N,A,p,R⟩:=I.list n;obtain⟨u,S,T⟩:=A.get y;obtain⟨B,C,U,D,E,F⟩:=m g (by simp);refine wpAny_pyNext_list_item f p.isList (x:=u) (by simpa using S) λl J sb=>?_
   have V:Inv X G M H { s with heap:=l }:=I.turned (t':=s.toks) (λb o j e=>(sb.2 b j).trans e) B C D E F;obtain⟨o,e,c,d⟩:=id J;exact⟨u,rfl,yg6 (s:={ s with heap:=l }) e c d '&' ⟨x,H,V,T,⟨rfl,λys Y=>by rw[I.list_inj Y n];exact y⟩,J,λb j=>(m b j).1⟩⟩
 done:=by
   intro X q r t L i G s M H a0 I m f v;subst q r t;obtain⟨Q,n,y⟩:=v;obtain⟨N,A,p,R⟩:=I.list n;obtain⟨B,C,U,D,E,F⟩:=m g (by simp);have hl:=A.length;exact wpAny_pyNext_list_end (I.ok.hd L) f p.isList (by simp;omega) λl Z=>⟨rfl,I.turned (t':=s.toks) (λb o j e=>Z b o j e) B C D E F⟩
 self:=λ_ _ _ _ _ f h=>wpAny_pyIter_listiter f h
theorem zM8 {P:Program}{w:World}{K:W.Frag}{O:Expr}(a g:Addr):Turn P w K O (Itt K a) [g] g (λi h=>h.IsTupleIter g a i) where
 mem:=by simp
 obj:=λi h f b j=>by
   have e:b=g:=by simpa using j
   subst e;obtain⟨o,e,c,d⟩:=f;exact⟨o,e,λa1 z=>by rw[d] at z;cases z⟩
 keep:=λi h l f k=>f.at λo e=>k g (by simp) o e
 item:=by
   intro X r t v M i J s N H a0 I m f y;subst r t v;obtain⟨Q,x,n,A⟩:=y;obtain⟨q,B,p,R⟩:=I.tuple n;obtain⟨u,S,T⟩:=B.get A;obtain⟨C,D,U,E,F,G⟩:=m g (by simp);refine wpAny_pyNext_tuple_item f (show s.heap.IsTuple a q.toArray from p) (x:=u) (by simpa using S) λl L sb=>?_
   have V:Inv X J N H { s with heap:=l }:=I.turned (t':=s.toks) (λb o j e=>(sb.2 b j).trans e) C D E F G;obtain⟨o,e,c,d⟩:=id L;exact⟨u,rfl,yg6 (s:={ s with heap:=l }) e c d '&' ⟨x,H,V,T,⟨rfl,λys Y=>by rw[I.tuple_inj Y n];exact A⟩,L,λb j=>(m b j).1⟩⟩
 done:=by
   intro X r t v M i J s N H a0 I m f y;subst r t v;obtain⟨Q,n,A⟩:=y;obtain⟨q,B,p,R⟩:=I.tuple n;obtain⟨C,D,U,E,F,G⟩:=m g (by simp);have hl:=B.length;exact wpAny_pyNext_tuple_end (I.ok.hd M) f (show s.heap.IsTuple a q.toArray from p) (by simp;omega) λl Z=>⟨rfl,I.turned (t':=s.toks) (λb o j e=>Z b o j e) C D E F G⟩
 self:=λ_ _ _ _ _ f h=>wpAny_pyIter_tupleiter f h
theorem turn_range {P:Program}{w:World}{K:W.Frag}{G:Expr}(c:Addr)(lo:Int)(n:Nat):Turn P w K G (Itr lo n) [c] c (λi h=>IsRangeIter h c (lo+(i:Nat)*1) ((n:Int)-(i:Nat)) 1) where
 mem:=by simp
 obj:=λi h a b d=>by
   have e:b=c:=by simpa using d
   subst e;exact⟨_,a,λv z=>by
     have J:Data.fields _=Data.cell v:=z;cases J⟩
 keep:=λi h f a k=>k c (by simp) _ a
 item:=by
   intro X j l m p i B s F H E I g a q;subst j l m;obtain⟨r,u,L,x,y,A⟩:=g c (by simp);have W:=Walks.range (prog:=X.prog) (w:=X.w) (I.ok.hd p) c lo 1 n;refine W.item i s _ _ q a λv f D M C N=>?_
   obtain⟨t,rfl⟩:=M;have O:Inv X B F H { s with heap:=f,toks:=D }:=I.turned (λb o d e=>N b o (by simpa using d) e) r u x y A;refine⟨_,rfl,yg6 (s:={ s with heap:=f,toks:=D }) (n:="range_iterator") C rfl rfl '&' ⟨.int (lo+i),H,O,⟨t,?_⟩,⟨rfl,rfl⟩,C,λb d=>(g b d).1⟩⟩;rw[Int.mul_one]
 done:=by
   intro X j l m p i B s F H E I g a q;subst j l m;obtain⟨r,u,L,x,y,A⟩:=g c (by simp);exact wpAny_pyNext_range_end (I.ok.hd p) a (by have:n<=i:=q;omega) λf Q=>⟨rfl,I.turned (t':=s.toks) (λb o d e=>Q b o d e) r u x y A⟩
 self:=λ_ _ _ _ _ a h=>wpAny_pyIter_rangeiter a h
section
variable {X:Cx} {tg:Expr}
inductive yg7 (K:W.Frag)(x:V)(H1:Hp)(R:It->Hp->Prop):Prop
 | mk (a:_)(h0:x = .ref a)(h1:(∃xs,SqL K H1 a xs))(h2:R (Itl K a) H1):yg7 K x H1 R
def iList (K:W.Frag)(tl:TE):TI:=λσ H R=>tl σ H λx H1=>yg7 K x H1 R
inductive ym4 (K:W.Frag)(x:V)(H1:Hp)(R:It->Hp->Prop):Prop
 | mk (a:_)(h0:x = .ref a)(h1:(∃xs,SqT K H1 a xs))(h2:R (Itt K a) H1):ym4 K x H1 R
def iTup (K:W.Frag)(tl:TE):TI:=λσ H R=>tl σ H λx H1=>ym4 K x H1 R
theorem zg3 {l:Expr}{f:TE}(i:PE X l f):PI X tg l (iList X.K f):=by
 intro g s t H R I h;refine thn (i g s t H _ I h) λv c ⟨x,j,d,k,m⟩=>?_
 obtain⟨a,e,⟨w,n⟩,q⟩:=m;subst e;cases k;obtain⟨u,y,p,z⟩:=d.list n;refine wpAny_pyIter_list p.isList ?_;refine⟨c.heap.objs.size,[c.heap.objs.size],_,_,j,rfl,d.kept (t':=c.toks) λb o e=>Qc _ e,zS7 a _,⟨_,Qj _ rfl,rfl,rfl⟩,λb r=>?_,q⟩;have e:b=c.heap.objs.size:=by simpa using r
 subst e;exact d.fpOk (Qi _) (d.hok.fresh (Qi _))
theorem zX6 {l:Expr}{f:TE}(j:PE X l f):PI X tg l (iTup X.K f):=by
 intro g s u H R I h;refine thn (j g s u H _ I h) λv c ⟨x,k,d,m,n⟩=>?_
 obtain⟨a,e,⟨w,r⟩,q⟩:=n;subst e;cases m;obtain⟨i,y,p,z⟩:=d.tuple r;refine wpAny_pyIter_tuple (show c.heap.IsTuple a i.toArray from p) ?_;refine⟨c.heap.objs.size,[c.heap.objs.size],_,_,k,rfl,d.kept (t':=c.toks) λb o e=>Qc _ e,zM8 a _,⟨_,Qj _ rfl,rfl,rfl⟩,λb t=>?_,q⟩;have e:b=c.heap.objs.size:=by simpa using t
 subst e;exact d.fpOk (Qi _) (d.hok.fresh (Qi _))
theorem yb0 {c:PL}{g:St}{H:Hp}{s:Shared}{R:It->Hp->Prop}{E:VP}{lo a:Int}{t u v:Tok}{d:Nat}(I:Inv X c g H s)(h:-(2 ^ 62)<=lo)(i:lo<2 ^ 62)(j:-(2 ^ 62)<=a)(k:a<2 ^ 62)
   (q:R (Itr lo (a-lo).toNat) H):wpAny (model X.prog X.w) X.A (pyIter (.ref s.heap.objs.size)) (PIE X c g tg R) E { s with heap:=s.heap.push { cls:=.type "range",data:=.fields #[.int lo t,.int a u,.int 1 v] },toks:=d }:=by
 refine wpAny_pyIter_range (IsRange.new ..) (small_one h i j k) ?_;have f:Inv X c g H { s with heap:=s.heap.push { cls:=.type "range",data:=.fields #[.int lo t,.int a u,.int 1 v] },toks:=d }:=I.kept λb o e=>Qc _ e
 refine⟨(s.heap.push { cls:=.type "range",data:=.fields #[.int lo t,.int a u,.int 1 v] }).objs.size,[(s.heap.push { cls:=.type "range",data:=.fields #[.int lo t,.int a u,.int 1 v] }).objs.size],_,_,H,rfl,
   f.kept (t':=d) λb o e=>Qc _ e,turn_range _ lo (a-lo).toNat,?_,λb l=>?_,q⟩
 . have m:lo+((0:Nat):Int)*1=lo:=by simp
   have n:(((a-lo).toNat:Nat):Int)-((0:Nat):Int)=Builtin.Range.rangeSize lo a 1:=by rw[rangeSize_one];split<;>omega
   show IsRangeIter _ _ (lo+((0:Nat):Int)*1) ((((a-lo).toNat:Nat):Int)-((0:Nat):Int)) 1;rw[m,n];exact Qj _ rfl
 . have e:b=(s.heap.push { cls:=.type "range",data:=.fields #[.int lo t,.int a u,.int 1 v] }).objs.size:=by simpa using l
   subst e;exact f.fpOk (Qi _) (f.hok.fresh (Qi _))
inductive yg8  (vs:List V)(H1:Hp)(R:It->Hp->Prop):Prop
 | mk (j:Int)(h0:vs=[.int j])(h1:-(2 ^ 62)<=j)(h2:j<2 ^ 62)(h3:R (Itr 0 j.toNat) H1):yg8  vs H1 R
def iRng1 (ta:TA):TI:=λσ H R=>ta σ H λvs H1=>yg8  vs H1 R
inductive yg9  (vs:List V)(H1:Hp)(R:It->Hp->Prop):Prop
 | mk (i j:Int)(h0:vs=[.int i,.int j])(h1:(-(2 ^ 62)<=i/\i<2 ^ 62/\-(2 ^ 62)<=j/\j<2 ^ 62))(h2:R (Itr i (j-i).toNat) H1):yg9  vs H1 R
def iRng2 (ta:TA):TI:=λσ H R=>ta σ H λvs H1=>yg9  vs H1 R
theorem zq9 {a:Expr} {d:TA} {p c:Pos} (g:Gl X "range") (i:X.mg "range" = none) (k:PA X [a] d) (l:starEach [a] X.env=[(false,eval a X.env)]:=by rfl):PI X tg (.Call (.Name "range" p) [a] [] c) (iRng1 d):=by
 intro f s v H R I h;refine Call_ (zI1 I g i boot_range (PyProof.Rows.callWith_type1 (thn (k c f s v H _ I h) λw x ⟨y,z,m,n,b⟩=>?_) l rfl));obtain⟨j,e,b,o,q⟩:=b;subst e;cases n with
 | cons r u =>
   cases u;obtain⟨t,rfl⟩:=r;exact call_range_1 (yb0 m '!' '!' b o (by simpa using q))
theorem zS8 {a b:Expr} {k:TA} {p f:Pos} (m:Gl X "range") (n:X.mg "range" = none) (o:PA X [a,b] k) (u:starEach [a,b] X.env=[(false,eval a X.env),(false,eval b X.env)]:=by rfl) (g:starEach [b] X.env=[(false,eval b X.env)]:=by rfl) :
   PI X tg (.Call (.Name "range" p) [a,b] [] f) (iRng2 k):=by
 intro l s B H R I h;refine Call_ (zI1 I m n boot_range (PyProof.Rows.callWith_type1 (thn (o f l s B H _ I h) λC D ⟨E,F,v,w,c⟩=>?_) (by rw[u,g]) (by rw[g];rfl)));obtain⟨i,j,e,⟨c,x,y,z⟩,q⟩:=c;subst e;cases w with
 | cons r d =>
   cases d with
   | cons A d =>
     cases d;obtain⟨t,rfl⟩:=r;obtain⟨G,rfl⟩:=A;exact call_range_2 (yb0 v c x y z q)
def tFor (wi:TI)(g:TG)(tb:TS):TS:=λD σ H=>wi σ H λJ H1=>∃W:Nat->Nat->St->Hp->Prop,(∃m,W 0 m σ H1)/\∀i m σ H,W i m σ H →
 (J.stop i H/\D.nx σ H)\/(J.go i H/\∃N:St->Hp->Prop,(∀σ' H',N σ' H'->∃m',m'<m/\W (i+1) m' σ' H')/\∀x H',J.yld i H x H'->g x σ H' λσ2 H2=>tb { D with nx:=N,ct:=N,bk:=D.nx } σ2 H2)
noncomputable def zI3 (fp:List Addr)(h:Heap):List (Addr×Obj):=fp.filterMap λb=>(h.get? b).map λo=>(b,o)
theorem zw4 {a:List Addr}{h:Heap}{b:Addr}{o:Obj}(c:b∈a)(e:h.get? b=some o):(b,o)∈zI3 a h:=List.mem_filterMap.mpr ⟨b,c,by rw[e];rfl⟩
theorem of_pinsAt {a:List Addr}{h:Heap}{p:Addr×Obj}(c:p∈zI3 a h):p.1∈a/\h.get? p.1=some p.2:=by
 obtain⟨b,d,e⟩:=List.mem_filterMap.mp c;cases q:h.get? b with
 | none=>rw[q] at e;cases e
 | some o =>
   rw[q] at e;have f:(b,o)=p:=Qx e;subst f;exact⟨d,q⟩
theorem Inv.pinned {a:PL}{h:St}{H:Hp}{s:Shared}{c:List Addr}(I:Inv X a h H s)(i:∀b∈c,FpOk X a H b)(j:∀b∈c,∃o,s.heap.get? b=some o/\∀v,o.data≠.cell v):Inv X (a++zI3 c s.heap) h H s :=
 I.pins_of λp k=>(Qs.mp k).elim (λz=>I.pin p (QS _ z)) λz=>by
   obtain⟨f,e⟩:=of_pinsAt z;obtain⟨l,m,n,_⟩:=i p.1 f;obtain⟨o,g,d⟩:=j p.1 f;rw[e] at g;cases g;exact⟨e,l,m,n,d⟩
theorem Inv.unpinned {a pl:PL}{b:St}{H:Hp}{s:Shared}(I:Inv X (a++pl) b H s):Inv X a b H s:=I.pins_of λp c=>I.pin p (QS _ (Zl _ c))
theorem zj4 {v:Expr}{C:List Stmt}{F:TI}{g:TG}{G:TS}{S:Pos}(p:PassesOwn (model X.prog X.w) X.A X.env X.xe)(H:X.calm=true)(Z:PI X tg v F)(hg:PG X tg g)(a:PSs X C G)
   (hs:∀x,foldedSetIterable v X.env x=pure x:=by intro _;rfl):PS X (.For tg v C [] S) (tFor F g G):=by
 intro l a0 P a1 aa a2 a3;refine wpAny_For (thn (Z l a0 P a1 _ a2 a3) λa4 s1 h1=>thn h1 λa9 s2 h2=>?_) hs;obtain⟨it,q,I,ab,H2,e,I2,T,U,J,W,⟨m0,w0⟩,Q⟩:=h2;subst e;have w:∀ {j:Hp},(∀b∈q,j b=none)->∀b∈q,FpOk X l j b:=λhn b a=>⟨hn b a,(J b a).2⟩
 refine codeAny_forLoop_any (λn K=>∃i r j,Inv X l r j K/\I i K.heap/\(∀b∈q,j b=none)/\W i n r j) ?_ m0 ⟨0,P,H2,I2,U,λb a=>(J b a).1,w0⟩;rintro n L ⟨i,s,u,M,D,E,w3⟩;rcases Q i n s u w3 with⟨R,qn⟩ | ⟨go,a5,hN,step⟩
 . refine wpAny_passesOwn p (thn (T.done X rfl rfl rfl H i l L s u X.xe M (w E) D R) λa6 s4 ⟨z,I4⟩=>?_)
   subst z;exact wpAny_execs_nil ⟨s,u,I4,qn⟩
 . refine wpAny_passesOwn p (thn (T.item X rfl rfl rfl H i l L s u X.xe M (w E) D go) λa6 s4 ⟨a7,z,h4⟩=>?_)
   subst z;refine wpAny_passesOwn p (thn h4 λ_ N ⟨x,O,I5,r5,y5,y,V⟩=>?_);have Y:=I5.pinned (w V) (T.obj _ _ y);refine wpAny_passesOwn p (thn (hg _ N s O x a7 _ Y r5 (step x O y5)) λ_ s6 ⟨σ6,H6,I6,q6⟩=>?_);refine wpAny_passesOwn p (thn (a _ s6 σ6 H6 _ I6 q6) λa8 A k=>?_);have B:∀ {c:St} {f:Hp},Inv X (l++zI3 q N.heap) c f A->a5 c f->∃m,m<n/\∃i r j,Inv X l r j A/\I i A.heap/\(∀b∈q,j b=none)/\W i m r j:=λ{c f} h t=>by
     obtain⟨m',hm,w7⟩:=hN c f t;refine⟨m',hm,i+1,c,f,h.unpinned,T.keep _ _ _ y λb a o e=>(h.pin (b,o) (QS _ (QS _ (zw4 a e)))).1,λb a=>?_,w7⟩;obtain⟨o,e,d⟩:=T.obj _ _ y b a;exact(h.pin (b,o) (QS _ (QS _ (zw4 a e)))).2.1
   cases a8 with
   | next=>obtain⟨c,f,h,t⟩:=k;exact B h t
   | cont=>obtain⟨c,f,h,t⟩:=k;exact B h t
   | brk=>obtain⟨c,f,h,k⟩:=k;exact⟨c,f,h.unpinned,k⟩
   | ret a4=>obtain⟨x7,c,f,h,r7,k⟩:=k;exact⟨x7,c,f,h.unpinned,r7,k⟩
end
theorem zn9 {K:W.Frag}{a:Addr}{xs:List V}{g:TG}{l:TS}{D:Ends}{b:St}{H:Hp}(c:Nat->St->Hp->Prop)(h0:c 0 b H)(o:∀i b H,i<=xs.length->c i b H->SqL K H a xs)
   (r:∀i x b H,xs[i]?=some x->c i b H->g x b H λf h=>l { D with nx:=c (i+1),ct:=c (i+1),bk:=D.nx } f h) (s:∀b H,c xs.length b H->D.nx b H) :
   ∃W:Nat->Nat->St->Hp->Prop,(∃m,W 0 m b H)/\∀i m b H,W i m b H →
     ((Itl K a).stop i H/\D.nx b H)\/((Itl K a).go i H/\∃N:St->Hp->Prop,(∀j d,N j d->∃n,n<m/\W (i+1) n j d)/\∀x d,(Itl K a).yld i H x d->g x b d λf h=>l { D with nx:=N,ct:=N,bk:=D.nx } f h):=by
 refine⟨λi m b H=>m=xs.length-i/\i<=xs.length/\c i b H,⟨xs.length,by simp,QH _,h0⟩,?_⟩;rintro i m b H ⟨rfl,t,p⟩;have q:=o i b H t p;by_cases k:i<xs.length
 . refine .inr ⟨⟨xs,xs[i],q,by simp[k]⟩,c (i+1),λj d u=>⟨xs.length-(i+1),by omega,rfl,k,u⟩,λx d y=>?_⟩
   obtain⟨e,y⟩:=y;subst e;exact r i x b _ (y xs q) p
 . have e:i=xs.length:=by omega
   subst e;exact .inl ⟨⟨xs,q,Qi _⟩,s b H p⟩
theorem zL0 {K:W.Frag}{a:Addr}{xs:List V}{g:TG}{l:TS}{D:Ends}{b:St}{H:Hp}(c:Nat->St->Hp->Prop)(h0:c 0 b H)(o:∀i b H,i<=xs.length->c i b H->SqT K H a xs)
   (r:∀i x b H,xs[i]?=some x->c i b H->g x b H λf h=>l { D with nx:=c (i+1),ct:=c (i+1),bk:=D.nx } f h) (s:∀b H,c xs.length b H->D.nx b H) :
   ∃W:Nat->Nat->St->Hp->Prop,(∃m,W 0 m b H)/\∀i m b H,W i m b H →
     ((Itt K a).stop i H/\D.nx b H)\/((Itt K a).go i H/\∃N:St->Hp->Prop,(∀j d,N j d->∃n,n<m/\W (i+1) n j d)/\∀x d,(Itt K a).yld i H x d->g x b d λf h=>l { D with nx:=N,ct:=N,bk:=D.nx } f h):=by
 refine⟨λi m b H=>m=xs.length-i/\i<=xs.length/\c i b H,⟨xs.length,by simp,QH _,h0⟩,?_⟩;rintro i m b H ⟨rfl,t,p⟩;have q:=o i b H t p;by_cases k:i<xs.length
 . refine .inr ⟨⟨xs,xs[i],q,by simp[k]⟩,c (i+1),λj d u=>⟨xs.length-(i+1),by omega,rfl,k,u⟩,λx d y=>?_⟩
   obtain⟨e,y⟩:=y;subst e;exact r i x b _ (y xs q) p
 . have e:i=xs.length:=by omega
   subst e;exact .inl ⟨⟨xs,q,Qi _⟩,s b H p⟩
theorem zl5 {lo:Int}{n:Nat}{g:TG}{k:TS}{D:Ends}{a:St}{H:Hp}(b:Nat->St->Hp->Prop)(h0:b 0 a H)
   (o:∀i a H,i<n->b i a H->g (.int (lo+i)) a H λf h=>k { D with nx:=b (i+1),ct:=b (i+1),bk:=D.nx } f h) (q:∀a H,b n a H->D.nx a H) :
   ∃W:Nat->Nat->St->Hp->Prop,(∃m,W 0 m a H)/\∀i m a H,W i m a H →
     ((Itr lo n).stop i H/\D.nx a H)\/((Itr lo n).go i H/\∃N:St->Hp->Prop,(∀j c,N j c->∃l,l<m/\W (i+1) l j c)/\∀x c,(Itr lo n).yld i H x c->g x a c λf h=>k { D with nx:=N,ct:=N,bk:=D.nx } f h):=by
 refine⟨λi m a H=>m=n-i/\i<=n/\b i a H,⟨n,by simp,QH _,h0⟩,?_⟩;rintro i m a H ⟨rfl,s,p⟩;by_cases d:i<n
 . refine .inr ⟨d,b (i+1),λj c r=>⟨n-(i+1),by omega,rfl,d,r⟩,λx c y=>?_⟩
   obtain⟨e,y⟩:=y;subst e y;exact o i a _ d p
 . have e:i=n:=by omega
   subst e;exact .inl ⟨Qi _,q a H p⟩
theorem zM9 {c:TT}{i:TS}{D:Ends}{a:St}{H:Hp}(g:St->Hp->Prop)(h:St->Hp->Nat)(h0:g a H)
   (k:∀a H,g a H->c a H λb d=>if b=true then i { D with nx:=λe f=>g e f/\h e f<h a H,ct:=λe f=>g e f/\h e f<h a H,bk:=D.nx } a d else D.nx a d)
   (mono:∀a H Q j,(∀b d,Q b d->j b d)->c a H Q->c a H j):ym3 c i D a H:=by
 refine⟨λm a H=>m=h a H/\g a H,⟨_,rfl,h0⟩,?_⟩;rintro m a H ⟨rfl,p⟩;refine mono a H _ _ (λb d q=>?_) (k a H p);cases b with
 | true=>exact⟨_,λe f ⟨n,l⟩=>⟨_,l,rfl,n⟩,q⟩
 | false=>exact q
noncomputable abbrev R2:=V->V->Hp->VK->Prop
def OpR (X:Cx)(f:Value->Value->Sem Value)(r:R2):Prop :=
 ∀(pins:PL) (s:Shared) (σ:St) (H:Hp) (x y:V) (v u:Value) (Q:VK),'%'->RelV x v->RelV y u->r x y H Q →
   wpAny (model X.prog X.w) X.A (f v u) (EP X pins σ Q) X.xe s
def UnR (X:Cx)(f:Value->Sem Value)(r:V->Hp->VK->Prop):Prop :=
 ∀(pins:PL) (s:Shared) (σ:St) (H:Hp) (x:V) (v:Value) (Q:VK),'%'->RelV x v->r x H Q →
   wpAny (model X.prog X.w) X.A (f v) (EP X pins σ Q) X.xe s
def zi1 (X:Cx)(f:Value)(r:List V->Hp->VK->Prop):Prop :=
 ∀(pins:PL) (s:Shared) (σ:St) (H:Hp) (xs:List V) (us:')') (Q:VK),'%'->Vals xs us->r xs H Q →
   wpAny (model X.prog X.w) X.A (call f us) (EP X pins σ Q) X.xe s
def tOp (r:R2)(ta tb:TE):TE:=λσ H Q=>ta σ H λx H1=>tb σ H1 λy H2=>r x y H2 Q
def tUn (r:V->Hp->VK->Prop)(ta:TE):TE:=λσ H Q=>ta σ H λx H1=>r x H1 Q
inductive I_rI (C:Int->Int->Prop)(g:Int->Int->V)(x:V)(y:V)(H:Hp)(Q:VK):Prop
 | mk (i j:_)(h0:x = .int i)(h1:y = .int j)(h2:C i j)(h3:Q (g i j) H):I_rI C g x y H Q
def rI (C:Int->Int->Prop)(g:Int->Int->V):R2:=λx y H Q=>I_rI C g x y H Q
inductive yr0 (g:Int->Int->V)(x:V)(y:V)(H:Hp)(Q:VK):Prop
 | mk (i j:_)(h0:x = .int i)(h1:y = .int j)(h2:Q (g i j) H):yr0 g x y H Q
def rI0 (g:Int->Int->V):R2:=λx y H Q=>yr0 g x y H Q
inductive I_rU (g:Int->V)(x:V)(H:Hp)(Q:VK):Prop
 | mk (i:_)(h0:x = .int i)(h1:Q (g i) H):I_rU g x H Q
def rU (g:Int->V):V->Hp->VK->Prop:=λx H Q=>I_rU g x H Q
section
variable {X:Cx} {a b c:Expr} {ta tb tc:TE} {pos:Pos}
theorem binT (j:PE X a ta)(k:PE X b tb){e:PL}{s:Shared}{d:St}{H:Hp}{R:V->V->Hp->Prop}(I:Inv X e d H s)
   (h:ta d H λx i=>tb d i λy c=>R x y c) {Q:VP} {f:Value->Value->Sem Value}
   (l:∀v u g x y c,Inv X e d c g->RelV x v->RelV y u->R x y c->wpAny (model X.prog X.w) X.A (f v u) Q X.xe g) :
   wpAny (model X.prog X.w) X.A (eval a X.env) (λv m=>wpAny (model X.prog X.w) X.A (eval b X.env) (λu n=>wpAny (model X.prog X.w) X.A (f v u) Q X.xe n) X.xe m) X.xe s:=by
 refine thn (j e s d H _ I h) λv o ⟨x,i,p,q,r⟩=>?_
 refine thn (k e o d i _ p r) λu g ⟨y,c,t,w,z⟩=>?_
 exact l v u g x y c t q w z
theorem zc0 {c:Operator}{r:R2}(e:OpR X (binaryOp c) r)(f:PE X a ta)(g:PE X b tb):PE X (.BinOp a c b pos) (tOp r ta tb):=by
 intro d s n H Q I h;exact wpAny_BinOp (binT f g I h λv u i x y j k l m q=>e d i n j x y v u Q k l m q)
theorem yh0 {c:UnaryOp}{r:V->Hp->VK->Prop}(e:UnR X (unaryOp c) r)(f:PE X a ta):PE X (.UnaryOp c a pos) (tUn r ta):=by
 intro b s d H Q I h;exact UnaryOp_ (thn (f b s d H _ I h) λv g ⟨x,i,j,k,l⟩=>e b g d i x v Q j k l)
theorem opI {f:Value->Value->Sem Value}{C:Int->Int->Prop}{g:Int->Int->Int}
   (a:∀(i j:Int) (t u:Tok) (s:Shared) (Q:VP) (E:VP),C i j->Q (.int (g i j) s.toks) { s with toks:=s.toks+1 }->wpAny (model X.prog X.w) X.A (f (.int i t) (.int j u)) Q E s) :
   OpR X f (rI C λi j=>.int (g i j)):=by
 intro k s l H x y v u Q I b c h;obtain⟨i,j,rfl,rfl,d,q⟩:=h;obtain⟨t,rfl⟩:=b;obtain⟨e,rfl⟩:=c;exact a i j t e s _ _ d ⟨.int (g i j),H,I.tok _,⟨_,rfl⟩,q⟩
theorem opI0 {f:Value->Value->Sem Value}{g:Int->Int->Int}
   (a:∀(i j:Int) (t u:Tok) (s:Shared) (Q:VP) (E:VP),Q (.int (g i j) s.toks) { s with toks:=s.toks+1 }->wpAny (model X.prog X.w) X.A (f (.int i t) (.int j u)) Q E s) :
   OpR X f (rI0 λi j=>.int (g i j)):=by
 intro e s k H x y v u Q I b c h;obtain⟨i,j,rfl,rfl,q⟩:=h;obtain⟨t,rfl⟩:=b;obtain⟨d,rfl⟩:=c;exact a i j t d s _ _ ⟨.int (g i j),H,I.tok _,⟨_,rfl⟩,q⟩
theorem opB0 {f:Value->Value->Sem Value}{g:Int->Int->Bool}
   (a:∀(i j:Int) (t u:Tok) (s:Shared) (Q:VP) (E:VP),Q (.bool (g i j)) s->wpAny (model X.prog X.w) X.A (f (.int i t) (.int j u)) Q E s) :
   OpR X f (rI0 λi j=>.bl (g i j)):=by
 intro e s k H x y v u Q I b c h;obtain⟨i,j,rfl,rfl,q⟩:=h;obtain⟨t,rfl⟩:=b;obtain⟨d,rfl⟩:=c;exact a i j t d s _ _ ⟨.bl (g i j),H,I,rfl,q⟩
def CDiv (i j:Int):Prop:=0<j/\j<1073741824
def CMul (i j:Int):Prop:=(-(2 ^ 64)<i/\i<2 ^ 64)\/(-(2 ^ 64)<j/\j<2 ^ 64)
theorem CMul.ok {i j:Int}(h:CMul i j):IntMulOk i j:=by
 rcases h with⟨a,b⟩ | ⟨a,b⟩
 . exact .of_left (intBits_le_64 a b)
 . exact .of_right (intBits_le_64 a b)
theorem zl8:OpR X (binaryOp .Add) (rI0 λi j=>.int (i+j)):=opI0 λ_ _ _ _ _ _ _ q=>add_int q
theorem zk3:OpR X (binaryOp .Sub) (rI0 λi j=>.int (i-j)):=opI0 λ_ _ _ _ _ _ _ q=>sub_int q
theorem zr5:OpR X (binaryOp .Mult) (rI CMul λi j=>.int (i*j)):=opI λ_ _ _ _ _ _ _ a q=>mul_int q a.ok
theorem zs6:OpR X (binaryOp .FloorDiv) (rI CDiv λi j=>.int (i / j)):=opI λi j _ _ _ _ _ a q=>by
 have b:(0:Int)<j:=a.1;have c:j<1073741824:=a.2;exact floordiv_int '!' (by rw[Int.fdiv_eq_ediv_of_nonneg i '!'];exact q) (.inl (PyProof.noPylong_small '!'))
theorem zj5:OpR X (binaryOp .Mod) (rI (λ_ j=>0<j) λi j=>.int (i % j)):=opI λi j _ _ _ _ _ a q=>by
 have b:(0:Int)<j:=a;exact mod_int' '!' (by rw[Int.fmod_eq_emod_of_nonneg i '!'];exact q)
theorem unI {f:Value->Sem Value}{g:Int->Int}
   (a:∀(i:Int) (t:Tok) (s:Shared) (Q:VP) (E:VP),Q (.int (g i) s.toks) { s with toks:=s.toks+1 }->wpAny (model X.prog X.w) X.A (f (.int i t)) Q E s) :
   UnR X f (rU λi=>.int (g i)):=by
 intro c s d H x v Q I b h;obtain⟨i,rfl,q⟩:=h;obtain⟨t,rfl⟩:=b;exact a i t s _ _ ⟨.int (g i),H,I.tok _,⟨_,rfl⟩,q⟩
theorem zX7:UnR X (unaryOp .USub) (rU λi=>.int (-i)):=unI λ_ _ _ _ _ q=>neg_int q
end
noncomputable def scal:V->V->Bool
 | .non,.non=>true | .non,.int _=>true | .int _,.non=>true | .non,.bl _=>true | .bl _,.non=>true | .non,.str _=>true | .str _,.non=>true
 | .int _,.int _=>true | .bl _,.bl _=>true | .str _,.str _=>true | .byt _,.byt _=>true
 | .int _,.str _=>true | .str _,.int _=>true | .bl _,.str _=>true | .str _,.bl _=>true
 | _,_=>false
inductive yr1 (x y:V)(H:Hp)(Q:VK):Prop
 | mk (h0:scal x y=true)(h1:Q (.bl (decide (x=y))) H):yr1 x y H Q
def rEq:R2:=λx y H Q=>yr1 x y H Q
inductive yr2 (x y:V)(H:Hp)(Q:VK):Prop
 | mk (h0:scal x y=true)(h1:Q (.bl (!decide (x=y))) H):yr2 x y H Q
def rNe:R2:=λx y H Q=>yr2 x y H Q
theorem zX8 {i j:Int}:decide (V.int i=V.int j)=(i == j):=by
 rw[Bool.eq_iff_iff];simp
theorem yf4 {i j:Bool}:decide (V.bl i=V.bl j)=(i == j):=by
 rw[Bool.eq_iff_iff];simp
theorem zX9 {i j:Str}:decide (V.str i=V.str j)=(i == j):=by
 rw[Bool.eq_iff_iff];simp
theorem yh1 {i j:Array UInt8}:decide (V.byt i=V.byt j)=(i.toList == j.toList):=by
 rw[Bool.eq_iff_iff];cases i;cases j;simp
section
variable {X:Cx} {a b c:Expr} {ta tb tc:TE} {pos:Pos}
theorem zd8 {a:PL}{c:St}{H:Hp}{s:Shared}{Q:VK}{k b:Bool}(I:Inv X a c H s)(q:Q (.bl k) H)(e:k=b):EP X a c Q (.bool b) s:=by
 subst e;exact⟨.bl k,H,I,rfl,q⟩
theorem zg1:OpR X (compareOp .Eq) rEq:=by
 intro e s f H x y v u Q I d a h;obtain⟨c,q⟩:=h;cases x with
 | non =>
   cases d;cases y with
   | non=>cases a;exact PySem.EqNone.eq_none_none (zd8 I q (by simp))
   | bl j=>cases a;exact PySem.EqNone.eq_none_bool (zd8 I q (by simp))
   | int j=>obtain⟨b,rfl⟩:=a;exact PySem.EqNone.eq_none_int (zd8 I q (by simp))
   | str j=>obtain⟨b,rfl⟩:=a;exact PySem.EqNone.eq_none_str (zd8 I q (by simp))
   | _=>exact absurd (show false=true from c) Qp
 | bl i =>
   cases d;cases y with
   | non=>cases a;exact PySem.EqNone.eq_bool_none (zd8 I q (by simp))
   | bl j=>cases a;exact eq_bool (zd8 I q yf4)
   | str j=>obtain⟨b,rfl⟩:=a;exact PySem.EqMixed.eq_bool_str (zd8 I q (by simp))
   | _=>exact absurd (show false=true from c) Qp
 | int i =>
   obtain⟨t,rfl⟩:=d;cases y with
   | non=>cases a;exact PySem.EqNone.eq_int_none (zd8 I q (by simp))
   | int j=>obtain⟨b,rfl⟩:=a;exact eq_int (zd8 I q zX8)
   | str j=>obtain⟨b,rfl⟩:=a;exact PySem.EqMixed.eq_int_str (zd8 I q (by simp))
   | _=>exact absurd (show false=true from c) Qp
 | str i =>
   obtain⟨t,rfl⟩:=d;cases y with
   | non=>cases a;exact PySem.EqNone.eq_str_none (zd8 I q (by simp))
   | bl j=>cases a;exact PySem.EqMixed.eq_str_bool (zd8 I q (by simp))
   | int j=>obtain⟨b,rfl⟩:=a;exact PySem.EqMixed.eq_str_int (zd8 I q (by simp))
   | str j=>obtain⟨b,rfl⟩:=a;exact eq_str (zd8 I q zX9)
   | _=>exact absurd (show false=true from c) Qp
 | byt i =>
   obtain⟨t,rfl⟩:=d;cases y with
   | byt j=>obtain⟨b,rfl⟩:=a;exact W.eq_bytes (zd8 I q yh1)
   | _=>exact absurd (show false=true from c) Qp
 | _=>cases y<;>exact absurd (show false=true from c) Qp
theorem zl9:OpR X (compareOp .NotEq) rNe:=by
 intro e s f H x y v u Q I d a h;obtain⟨c,q⟩:=h;cases x with
 | non =>
   cases d;cases y with
   | non=>cases a;exact PySem.EqNone.ne_none_none (zd8 I q (by simp))
   | bl j=>cases a;exact PySem.EqNone.ne_none_bool (zd8 I q (by simp))
   | int j=>obtain⟨b,rfl⟩:=a;exact PySem.EqNone.ne_none_int (zd8 I q (by simp))
   | str j=>obtain⟨b,rfl⟩:=a;exact PySem.EqNone.ne_none_str (zd8 I q (by simp))
   | _=>exact absurd (show false=true from c) Qp
 | bl i =>
   cases d;cases y with
   | non=>cases a;exact PySem.EqNone.ne_bool_none (zd8 I q (by simp))
   | bl j=>cases a;exact ne_bool (zd8 I q (congrArg not yf4))
   | str j=>obtain⟨b,rfl⟩:=a;exact PySem.EqMixed.ne_bool_str (zd8 I q (by simp))
   | _=>exact absurd (show false=true from c) Qp
 | int i =>
   obtain⟨t,rfl⟩:=d;cases y with
   | non=>cases a;exact PySem.EqNone.ne_int_none (zd8 I q (by simp))
   | int j=>obtain⟨b,rfl⟩:=a;exact ne_int (zd8 I q (congrArg not zX8))
   | str j=>obtain⟨b,rfl⟩:=a;exact PySem.EqMixed.ne_int_str (zd8 I q (by simp))
   | _=>exact absurd (show false=true from c) Qp
 | str i =>
   obtain⟨t,rfl⟩:=d;cases y with
   | non=>cases a;exact PySem.EqNone.ne_str_none (zd8 I q (by simp))
   | bl j=>cases a;exact PySem.EqMixed.ne_str_bool (zd8 I q (by simp))
   | int j=>obtain⟨b,rfl⟩:=a;exact PySem.EqMixed.ne_str_int (zd8 I q (by simp))
   | str j=>obtain⟨b,rfl⟩:=a;exact ne_str (zd8 I q (congrArg not zX9))
   | _=>exact absurd (show false=true from c) Qp
 | byt i =>
   obtain⟨t,rfl⟩:=d;cases y with
   | byt j=>obtain⟨b,rfl⟩:=a;exact W.ne_bytes (zd8 I q (congrArg not yh1))
   | _=>exact absurd (show false=true from c) Qp
 | _=>cases y<;>exact absurd (show false=true from c) Qp
theorem zN0:OpR X (compareOp .Lt) (rI0 λi j=>.bl (decide (i<j))):=opB0 λ_ _ _ _ _ _ _ q=>lt_int q
theorem yr3:OpR X (compareOp .LtE) (rI0 λi j=>.bl (decide (i<=j))):=opB0 λ_ _ _ _ _ _ _ q=>le_int q
theorem zu7:OpR X (compareOp .Gt) (rI0 λi j=>.bl (decide (j<i))):=opB0 λ_ _ _ _ _ _ _ q=>gt_int q
theorem ym5:OpR X (compareOp .GtE) (rI0 λi j=>.bl (decide (j<=i))):=opB0 λ_ _ _ _ _ _ _ q=>ge_int q
theorem op_in_str:OpR X (compareOp .In) (λx y H Q=>∃i j,x = .str i/\y = .str j/\Q (.bl (!(Builtin.Str.occurrences j i 0 j.length 1).isEmpty)) H):=by
 intro c s e H x y v u Q I a b h;obtain⟨i,j,rfl,rfl,q⟩:=h;obtain⟨t,rfl⟩:=a;obtain⟨d,rfl⟩:=b;exact in_str (zd8 I q rfl)
theorem yf5:OpR X (compareOp .Is) (λx y H Q=>y = .non/\Q (.bl (decide (x = .non))) H):=by
 intro c s d H x y v u Q I a b h;obtain⟨rfl,q⟩:=h;cases b;refine is_none_gen (zd8 I q ?_)
 cases x<;>first
   | (cases a;rfl)
   | (obtain⟨t,rfl⟩:=a;rfl)
theorem yh2:OpR X (compareOp .IsNot) (λx y H Q=>y = .non/\Q (.bl (!decide (x = .non))) H):=by
 intro c s d H x y v u Q I a b h;obtain⟨rfl,q⟩:=h;cases b;refine isnot_none_gen (zd8 I q ?_)
 cases x<;>first
   | (cases a;rfl)
   | (obtain⟨t,rfl⟩:=a;rfl)
theorem zb8 (b:Expr){a:CmpOp}(h:a≠.In:=by decide)(c:a≠.NotIn:=by decide):behindInMarks a b=false:=by
 have d:(a == CmpOp.In)=false:=by cases a<;>first | rfl | exact absurd rfl h
 have e:(a == CmpOp.NotIn)=false:=by cases a<;>first | rfl | exact absurd rfl c
 cases b<;>simp[behindInMarks,d,e]
theorem zf0 {c:CmpOp}{r:R2}(e:OpR X (compareOp c) r)(f:PE X a ta)(g:PE X b tb)(i:behindInMarks c b=false):PE X (.Compare a [c] [b] pos) (tOp r ta tb):=by
 intro d s o H Q I h;exact wpAny_Compare1 (binT f g I h λv u j x y k l m n q=>e d j o k x y v u Q l m n q) i
inductive yh3  (x:V)(H':Hp)(Q:Bool->Hp->Prop):Prop
 | mk (k:_)(h0:x = .bl k)(h1:Q k H'):yh3  x H' Q
def tTest (t:TE):TT:=λσ H Q=>t σ H λx H'=>yh3  x H' Q
theorem zb9 {f:CmpOp}{r:R2}(i:OpR X (compareOp f) r)(j:PE X a ta)(l:PE X b tb)(m:behindInMarks f b=false):PT X (.Compare a [f] [b] pos) (tTest (tOp r ta tb)):=by
 intro d s g H Q I h;refine wpAny_isTrue_Compare1 (thn (j d s g H _ I h) λv n ⟨x,o,p,q,t⟩=>thn (l d n g o _ p t) λu w ⟨y,A,B,C,D⟩ =>
   thn (i d w g A x y v u _ B q C D) λc K ⟨z,E,F,G,k,e,J⟩=>?_) m
 subst e;cases G;exact wpAny_truthy_bool ⟨E,F,J⟩
theorem zN1:(sizeLine:Nat)<2 ^ 63:=by rw[sizeLine_eq];decide
theorem zd4:OpR X (binaryOp .Add) (λx y H Q=>∃i j,x = .str i/\y = .str j/\i.length+j.length<=sizeLine/\Q (.str (i++j)) H):=by
 intro e s g H x y v u Q I a b h;obtain⟨i,j,rfl,rfl,c,q⟩:=h;obtain⟨t,rfl⟩:=a;obtain⟨d,rfl⟩:=b;exact add_str (λd f=>⟨.str (i++j),H,I.tok _,⟨_,rfl⟩,q⟩) c
theorem zp8 {x:V}{us:')'}(r:Vals [x] us):∃u,us=[u]/\RelV x u:=by
 cases r with
 | cons a b=>cases b;exact⟨_,rfl,a⟩
theorem zS9 {x y:V}{us:')'}(r:Vals [x,y] us):∃u a,us=[u,a]/\RelV x u/\RelV y a:=by
 cases r with
 | cons b c =>
   cases c with
   | cons d e=>cases e;exact⟨_,_,rfl,b,d⟩
theorem zi8:zi1 X (.builtin "abs") (λa H Q=>∃i,a=[.int i]/\Q (.int (if i<0 then -i else i)) H):=by
 intro b s e H a c Q I r h;obtain⟨i,rfl,q⟩:=h;obtain⟨u,rfl,t,rfl⟩:=zp8 r;exact call_abs_int λu d=>⟨.int (if i<0 then -i else i),H,I.tok _,⟨_,rfl⟩,q⟩
theorem zI4 (c:X.calm=true):zi1 X (.builtin "max") (λb H Q=>∃i j,b=[.int i,.int j]/\Q (.int (if j>i then j else i)) H):=by
 intro d s n H b e Q I r h;obtain⟨i,j,rfl,q⟩:=h;obtain⟨u,f,rfl,⟨t,rfl⟩,⟨g,rfl⟩⟩:=zS9 r;refine max_two_ints (I.ok.hd c) λl m k=>⟨_,H,I.kept k,?_,q⟩
 by_cases a:j>i
 . rw[Ql a,Ql a];exact⟨_,rfl⟩
 . rw[Qg a,Qg a];exact⟨_,rfl⟩
theorem call_min2 (c:X.calm=true):zi1 X (.builtin "min") (λb H Q=>∃i j,b=[.int i,.int j]/\Q (.int (if j<i then j else i)) H):=by
 intro d s n H b e Q I r h;obtain⟨i,j,rfl,q⟩:=h;obtain⟨u,f,rfl,⟨t,rfl⟩,⟨g,rfl⟩⟩:=zS9 r;refine min_two_ints (I.ok.hd c) λl m k=>⟨_,H,I.kept k,?_,q⟩
 by_cases a:j<i
 . rw[Ql a,Ql a];exact⟨_,rfl⟩
 . rw[Qg a,Qg a];exact⟨_,rfl⟩
theorem zf1:zi1 X (.type "str") (λa H Q=>∃i,a=[.int i]/\i.natAbs.log2<1920/\Q (.str (toString i)) H):=by
 intro c s e H a d Q I r h;obtain⟨i,rfl,b,q⟩:=h;obtain⟨u,rfl,t,rfl⟩:=zp8 r;exact PySem.P.str_of_int b ⟨.str _,H,I.tok _,⟨_,rfl⟩,q⟩
end
structure ObjM (h:Heap)(x dx C:Addr)(mA:Str->Option Value):Prop where
 obj:h.get? x=some (W.instObj C dx)
 ns:h.Ns1 dx mA
 ne:dx≠x
theorem zT0 {h:Heap}{c:Addr}{mA:Str->Option Value}(n:h.Ns1 c mA):∃d,h.get? c=some d/\∀b,W.lookIn b d=some (mA b):=by
 obtain⟨o,f,r,i,j,k,_,l⟩:=n;refine⟨o,i,λb=>?_⟩;have e:=l b;unfold nsFind findBy at e;rw[<-Array.find?_toList] at e;unfold W.lookIn;rw[j];dsimp only
 split
 . rename_i y q
   rw[q] at e;exact congrArg some e
 . rename_i q
   rw[q] at e;have a:f.toList.any (·.refKey)=false:=by
     rw[List.any_eq_false];intro y m;obtain⟨z,t,g⟩:=k y (Array.mem_toList_iff.mp m);simp[DictEntry.refKey,g]
   have p:¬ f.toList.any (·.refKey)=true:=by rw[a];exact Qp
   rw[Qg p];exact congrArg some e
theorem ObjM.look {h:Heap}{x c C:Addr}{mA:Str->Option Value}(I:ObjM h x c C mA):∃a,W.InstAt h x (W.instObj C c) C (some a)/\∀b,W.lookIn b a=some (mA b) :=
 let⟨a,d,e⟩:=zT0 I.ns
 ⟨a,⟨I.obj,rfl,rfl,d⟩,e⟩
section
variable {prog:Program} {w:World} {A:Around} {E:VP} {s:Shared} {K:W.Frag} {x dx C f:Addr} {mA:Str->Option Value} {name:Str} {v:Value}
theorem get_map {a:Bool}{Q:VP}(X:K.In s.heap)(I:ObjM s.heap x dx C mA)(c:W.plainGet K C name=true)(d:W.hasDictIn K C=true)
   (e:W.findIn K (.ref C) name=some none) (f:mA name=some v) (b:W.handedIn v=true) (h:Q v { s with toks:=s.toks+1 }) :
   wpAny '*' A (getAttr (.ref x) name a) Q E s:=by
 obtain⟨i,J,g⟩:=I.look;exact W.get_value X J (W.plainGet_of c).1 (W.findObj_own d e rfl (by rw[g,f])) b h
theorem get_meth {pl:Sem Bool}{Q:Value×List Value->Shared->Prop}(X:K.In s.heap)(I:ObjM s.heap x dx C mA)(a:W.plainGet K C name=true)
   (b:W.findIn K (.ref C) name=some (some (.ref f))) (c:W.isFn K (.ref f)=true) (d:mA name=none) (h:Q (.ref f,[.ref x]) s) :
   wpAny '*' A (getMethod (.ref x) name pl) Q E s:=by
 obtain⟨e,J,g⟩:=I.look;exact W.method_fn X J (W.plainGet_of a).1 (W.plainGet_of a).2 b (beq_iff_eq.mp c) (by show(W.lookIn name e).map (·.isSome)=some false;rw[g,d];rfl) h
theorem set_map {ns:List Str}{Q:Unit->Shared->Prop}(X:K.In s.heap)(I:ObjM s.heap x dx C mA)
   (k:W.findIn K (.ref C) "__setattr__" = some (some (.builtin "object.__setattr__"))) (l:W.plainOver K C=true) (m:W.takerIn K C name=some none) (n:W.hasDictIn K C=true)
   (o:PySem.Within mA ns) (hsz:ns.length<=sizeLine)
   (h:∀c,ObjM c x dx C (λy=>if y=name then some v else mA y)->Heap.SameBut dx s.heap c->Q () { s with heap:=c,toks:=s.toks+2 }) :
   wpAny '*' A (setAttr (.ref x) name v) Q E s:=by
 obtain⟨z,J,B⟩:=I.look;refine W.set_plain X J k (W.osa_open (s:={ s with toks:=s.toks+1 }) (r:=none) X J l m λb=>?_);obtain⟨D,p,f⟩:=W.any_some n;have q:s.heap.get? x=some ⟨.ref C,some dx,.plain,#[]⟩:=I.obj;refine Qa (Qd (Qa (Qa (wpAny_loadPart q (Qa (W.Looks.here (s:={ s with toks:=s.toks+1 }) (W.looks_clsIn X p) ?_))))));rw[f];refine Qd (a:=some dx) (Qa (Qd (Qa ?_)));refine wpAny_nsSet1 (s:={ s with toks:=s.toks+1 }) I.ns λc d e=>?_
 obtain⟨F,t,u,g,i,j⟩:=d.count (PySem.Within.cons name v o);refine Qa (wpAny_lookBehind g (by rw[i];exact pastItsLine_dict (QD j (by rw[QE];omega))) ?_);exact Qd (h _ ⟨(e.2 _ (Ne.symm I.ne)).trans I.obj,d,I.ne⟩ e)
theorem make_map {R:Result->Shared->Prop}{vs:')'}{a:List (Str×Value)}(X:K.In s.heap)(b:W.makesIn K C=true)
   (c:W.findIn K (.ref C) "__init__" = some (some (.ref f))) (e:W.typeIn K (.ref f)=some (.type "function"))
   (h:codeAny '*' (A.under (.builtin "type.__call__" ⟨.ref C::vs,a⟩)) (.call (.ref f) ⟨.ref (s.heap.objs.size+1)::vs,a⟩) (W.InitBack (s.heap.objs.size+1) R)
     { s with heap:=(s.heap.push W.emptyDict).push (W.instObj C s.heap.objs.size) }) :
   codeAny '*' A (.call (.ref C) ⟨vs,a⟩) R s:=by
 obtain⟨i,g,d,t,j⟩:=s;exact W.make_core (W.makes_of X b) (W.looks_findIn X c) (λself=>W.bind_fn X self e) (.inl rfl) h
end
noncomputable def putF (f:Str)(v:V):List (Str×V)->List (Str×V)
 | []=>[(f,v)]
 | (g,x)::r=>if g=f then(g,v)::r else(g,x)::putF f v r
theorem zb0 (f g:Str)(v:V):∀fs:List (Str×V),(putF f v fs).lookup g=if g=f then some v else fs.lookup g
 | []=>by
   show List.lookup g [(f,v)]=_;by_cases h:g=f
   . have a:(g == f)=true:=beq_iff_eq.mpr h
     simp only[List.lookup,a,Ql h]
   . have a:(g == f)=false:=beq_eq_false_iff_ne.mpr h
     simp only[List.lookup,a,Qg h]
 | (k,x)::r=>by
   have c:=zb0 f g v r;rw[show putF f v ((k,x)::r)=(if k=f then(k,v)::r else(k,x)::putF f v r) from rfl];by_cases b:k=f
   . rw[Ql b]
     by_cases h:g=k
     . have a:(g == k)=true:=beq_iff_eq.mpr h
       simp only[List.lookup,a,Ql (h.trans b)]
     . have a:(g == k)=false:=beq_eq_false_iff_ne.mpr h
       simp only[List.lookup,a,Qg (λe:g=f=>h (e.trans b.symm))]
   . rw[Qg b]
     by_cases h:g=k
     . have a:(g == k)=true:=beq_iff_eq.mpr h
       simp only[List.lookup,a,Qg (λe:g=f=>b (h.symm.trans e))]
     . have a:(g == k)=false:=beq_eq_false_iff_ne.mpr h
       simp only[List.lookup,a];exact c
theorem zu8 (f:Str)(v:V):∀fs:List (Str×V),f∈(putF f v fs).map (·.1)/\∀g,g∈fs.map (·.1)->g∈(putF f v fs).map (·.1)
 | []=>⟨by simp[putF],λg h=>by simp at h⟩
 | (k,x)::r=>by
   obtain⟨b,c⟩:=zu8 f v r;rw[show putF f v ((k,x)::r)=(if k=f then(k,v)::r else(k,x)::putF f v r) from rfl];by_cases a:k=f
   . rw[Ql a]
     subst a;exact⟨by simp,λg h=>by simpa using h⟩
   . rw[Qg a]
     refine⟨?_,λg h=>?_⟩
     . rw[QB]
       exact Qv _ b
     . rw[QB] at h ⊢
       rcases Qn.mp h with e | e
       . exact Qn.mpr (.inl e)
       . exact Qv _ (c g e)
theorem zo0 (f:Str)(v:V):∀fs:List (Str×V),(putF f v fs).length<=fs.length+1
 | []=>by simp[putF]
 | (k,x)::r=>by
   have b:=zo0 f v r;rw[show putF f v ((k,x)::r)=(if k=f then(k,v)::r else(k,x)::putF f v r) from rfl];by_cases a:k=f
   . rw[Ql a,QE,QE];omega
   . rw[Qg a,QE,QE];omega
theorem RelO.some_of {v:V}{o:Option Value}(r:RelO (some v) o):∃u,o=some u/\RelV v u:=by
 cases o with
 | none=>exact(show False from r).elim
 | some u=>exact⟨u,rfl,r⟩
theorem RelO.none_of {o:Option Value}(r:RelO none o):o=none:=by
 cases o with
 | none=>rfl
 | some u=>exact(show False from r).elim
theorem zT1 {v:V}{u:Value}(r:RelV v u):W.handedIn u=true:=by
 cases v with
 | non=>cases (show u=Value.none from r);rfl
 | bl b=>cases (show u=Value.bool b from r);rfl
 | int i=>obtain⟨t,e⟩:=(show ∃t,u=Value.int i t from r);cases e;rfl
 | str x=>obtain⟨t,e⟩:=(show ∃t,u=Value.str x t from r);cases e;rfl
 | byt b=>obtain⟨t,e⟩:=(show ∃t,u=Value.bytes b t from r);cases e;rfl
 | flt b=>obtain⟨t,e⟩:=(show ∃t,u=Value.float b t from r);cases e;rfl
 | ref a=>cases (show u=Value.ref a from r);rfl
 | ty n=>cases (show u=Value.type n from r);rfl
section
variable {P:Program} {w:World} {H H':Hp} {h h':Heap} {a C dx:Addr} {fs fs':List (Str×V)}
theorem zL1 (c:HOk P w H h)(e:H a=some (.ins C dx fs)):∃b,ObjM h a dx C b/\(∀f,RelO (fs.lookup f) (b f))/\PySem.Within b (fs.map (·.1))/\fs.length<=1000/\H dx=some (.own a):=by
 obtain⟨d,z,g,i,b,n,r,q⟩:=(show ze6 P w H h a (.ins C dx fs) from c a _ e);exact⟨b,⟨i,n,g⟩,r,q,z,d⟩
end
structure Cls (K:W.Frag)(C:Addr):Prop where
 pg:W.plainGet K C Str.empty=true
 hd:W.hasDictIn K C=true
 po:W.plainOver K C=true
 sa:W.findIn K (.ref C) "__setattr__" = some (some (.builtin "object.__setattr__"))
theorem Cls.get {K:W.Frag}{C:Addr}(c:Cls K C)(f:Str):W.plainGet K C f=true:=c.pg
def ze0 (K:W.Frag)(C:Addr)(f:Str):Prop:=W.findIn K (.ref C) f=some none
theorem ze0.taker {K:W.Frag}{C:Addr}{f:Str}(n:ze0 K C f):W.takerIn K C f=some none:=by
 unfold W.takerIn;rw[show W.findIn K (.ref C) f=some none from n];rfl
structure Meth (K:W.Frag)(C:Addr)(m:Str)(f:Addr):Prop where
 at_:W.findIn K (.ref C) m=some (some (.ref f))
 fn:W.isFn K (.ref f)=true
 kp:W.keepIn K (.ref f)=true
section
variable {X:Cx} {pins:PL} {σ:St} {H:Hp} {s:Shared} {a C dx:Addr} {fs:List (Str×V)} {f:Str} {v:V} {A:Around} {E:VP}
theorem getattr_ok {b:Bool}{Q:VP}(I:'%')(e:H a=some (.ins C dx fs))(c:Cls X.K C)(n:ze0 X.K C f)(l:fs.lookup f=some v)
   (h:∀u d,Inv X pins σ H d->RelV v u->Q u d):wpAny (model X.prog X.w) A (getAttr (.ref a) f b) Q E s:=by
 obtain⟨i,O,r,_,_,_⟩:=zL1 I.hok e;obtain⟨u,j,g⟩:=RelO.some_of (v:=v) (o:=i f) (by rw[<-l];exact r f);exact get_map I.kIn O (c.get f) c.hd n j (zT1 g) (h u _ (I.tok _) g)
theorem zN2 {m:Str}{g:Addr}{pl:Sem Bool}{Q:Value×List Value->Shared->Prop}(I:'%')(e:H a=some (.ins C dx fs))(c:Cls X.K C)(k:Meth X.K C m g)(l:fs.lookup m=none)
   (h:Q (.ref g,[.ref a]) s):wpAny (model X.prog X.w) A (getMethod (.ref a) m pl) Q E s:=by
 obtain⟨b,O,r,_,_,_⟩:=zL1 I.hok e;have d:b m=none:=RelO.none_of (by rw[<-l];exact r m);exact get_meth I.kIn O (c.get m) k.at_ k.fn d h
theorem setattr_ok {y:V}{u:Value}{Q:Unit->Shared->Prop}(I:'%')(e:H a=some (.ins C dx fs))(c:Cls X.K C)(n:ze0 X.K C f)(F:fs.length<1000)(m:RelV y u)
   (h:∀i,Inv X pins σ (upd H a (.ins C dx (putF f y fs))) i->Q () i):wpAny (model X.prog X.w) A (setAttr (.ref a) f u) Q E s:=by
 obtain⟨j,O,r,k,_,l⟩:=zL1 I.hok e;have p:(fs.map (·.1)).length<=sizeLine:=by rw[Qb,sizeLine_eq];omega
 refine set_map I.kIn O c.sa c.po n.taker c.hd k p λt d sb=>h _ ?_
 have v:∃o,t.get? dx=some o:=let⟨o,_,_,w,_⟩:=d.ns;⟨o,w⟩;refine I.write (x:=a) (e:=dx) (by rw[e];exact True.intro) (.inr l) (λb q B z=>(sb.2 b B).trans z) v ?_;refine⟨by rw[za8 O.ne];exact l,?_,O.ne,d.obj,_,d.ns,λg=>?_,λg D=>?_⟩
 . have:=zo0 f y fs;omega
 . show RelO ((putF f y fs).lookup g) (if g=f then some u else j g)
   rw[zb0];by_cases q:g=f
   . rw[Ql q,Ql q];exact m
   . rw[Qg q,Qg q];exact r g
 . by_cases q:g=f
   . rw[q];exact(zu8 f y fs).1
   . refine(zu8 f y fs).2 g (k g λz=>D ?_)
     show(if g=f then some u else j g)=none;rw[Qg q];exact z
theorem Inv.made (I:'%'):Inv X pins σ (upd (upd H s.heap.objs.size (.own (s.heap.objs.size+1))) (s.heap.objs.size+1) (.ins C s.heap.objs.size []))
   { s with heap:=(s.heap.push W.emptyDict).push (W.instObj C s.heap.objs.size) }:=by
 have c:(s.heap.push W.emptyDict).get? s.heap.objs.size=some W.emptyDict:=Qj s.heap rfl;have f:((s.heap.push W.emptyDict).push (W.instObj C s.heap.objs.size)).get? (s.heap.objs.size+1)=some (W.instObj C s.heap.objs.size):=by
   have:=Qj (s.heap.push W.emptyDict) (o:=W.instObj C s.heap.objs.size) rfl
   rwa [Zw] at this
 have g:(s.heap.push W.emptyDict).Ns s.heap.objs.size (λ_=>none):=⟨W.emptyDict,#[],_,c,rfl,(λe h=>absurd h (by simp)),λ_=>rfl⟩;have i:=I.laid (a:=s.heap.objs.size) (o:=.own (s.heap.objs.size+1)) (h':=s.heap.push W.emptyDict) (t':=s.toks) (λb u q=>Qc _ q) (Qi _) ⟨_,c⟩;refine i.laid (a:=s.heap.objs.size+1) (o:=.ins C s.heap.objs.size []) (t':=s.toks) (λb u q=>Qc _ q) (Nat.le_of_eq (Zw _ _)) ?_;have d:s.heap.objs.size≠s.heap.objs.size+1:=Qz (Nat.lt_succ_self _);refine⟨by rw[za8 d,za3],QH _,d,f,λ_=>none,(Heap.Ns1.of_empty g).at λo q=>Qc _ q,λ_=>True.intro,λy j=>absurd rfl j⟩
theorem yh4 {prog:Program}{w:World}{env:Env}{e:Expr}{f:Str}{a:Pos}{s:Shared}{Q:VP}(b:attributeBase e f env (eval e env)=eval e env)
   (h:wpAny '*' A (eval e env) (λo c=>wpAny '*' A (getAttr o f true) Q E c) E s):wpAny '*' A (eval (.Attribute e f a) env) Q E s :=
 Attribute_any_ h (by rw[arm_eval_Attribute,b])
end
inductive ym6 (K:W.Frag)(f:Str)(x:V)(H1:Hp)(Q:VK):Prop
 | mk (a C dx fs v:_)(h0:x = .ref a)(h1:H1 a=some (.ins C dx fs))(h2:Cls K C)(h3:ze0 K C f)(h4:fs.lookup f=some v)(h5:Q v H1):ym6 K f x H1 Q
def tFld (K:W.Frag)(ta:TE)(f:Str):TE:=λσ H Q=>ta σ H λx H1=>ym6 K f x H1 Q
inductive ym7 (K:W.Frag)(f:Str)(y:V)(D:Ends)(σ:St)(x:V)(H2:Hp):Prop
 | mk (a C dx fs:_)(h0:x = .ref a)(h1:H2 a=some (.ins C dx fs))(h2:Cls K C)(h3:ze0 K C f)(h4:fs.length<1000)(h5:D.nx σ (upd H2 a (.ins C dx (putF f y fs)))):ym7 K f y D σ x H2
def sFld (K:W.Frag)(ta tv:TE)(f:Str):TS:=λD σ H=>tv σ H λy H1=>ta σ H1 λx H2=>ym7 K f y D σ x H2
section
variable {X:Cx} {o e value:Expr} {f:Str} {pos pos' tpos:Pos} {ta tv:TE}
theorem zc8 (d:PE X e ta)(g:attributeBase e f X.env (eval e X.env)=eval e X.env):PE X (.Attribute e f pos) (tFld X.K ta f):=by
 intro b s t H Q I h;refine yh4 g (thn (d b s t H _ I h) λu w ⟨x,i,j,k,a,C,y,fs,v,m,o,c,n,l,q⟩=>?_);subst m;obtain rfl:u=Value.ref a:=k;exact getattr_ok j o c n l λz A p r=>⟨v,i,p,r,q⟩
theorem zj6 (e:PE X o ta)(g:PE X value tv)(i:swapsWith value (some (.Attribute o f pos')) pos.line X.env=pure false):PS X (.Assign [.Attribute o f pos'] value pos) (sFld X.K ta tv f):=by
 intro d s b H D I h;refine plainObj_wpAny_Assign_Attribute (thn (g d s b H _ I h) λu j ⟨y,k,m,p,q⟩=>thn (e d j b k _ m q) λr E ⟨x,F,t,v,a,C,G,fs,w,z,c,n,l,A⟩=>?_) i;subst w;obtain rfl:r=Value.ref a:=v;exact setattr_ok t z c n l p λJ B=>⟨b,_,B,A⟩
end
section
variable {X:Cx} {pins:PL} {σ:St} {H:Hp} {s:Shared} {A:Around} {E:VP} {Q:VP} {c:Value} {b:Bool}
inductive TyOf (K:W.Frag)(H:Hp):V->Value->Prop where
 | non:TyOf K H .non (.type "NoneType")
 | bl (x:Bool):TyOf K H (.bl x) (.type "bool")
 | int (i:Int):TyOf K H (.int i) (.type "int")
 | str (x:Str):TyOf K H (.str x) (.type "str")
 | flt (x:UInt64):TyOf K H (.flt x) (.type "float")
 | lst {a:Addr} {xs:List V} (e:H a=some (.lst xs)):TyOf K H (.ref a) (.type "list")
 | frz {a:Addr} {o:Obj} {xs:List V} (e:H a=some (.frz o (.lst xs))):TyOf K H (.ref a) (.type "list")
 | tup {a:Addr} {xs:List V} (e:H a=some (.tup xs)):TyOf K H (.ref a) (.type "tuple")
 | dK {a:Addr} {kvs:List (Key×V)} (e:H a=some (.dK kvs)):TyOf K H (.ref a) (.type "dict")
 | dT {a:Addr} {kvs:List (List Key×V)} (e:H a=some (.dT kvs)):TyOf K H (.ref a) (.type "dict")
 | ins {a C dx:Addr} {fs:List (Str×V)} (e:H a=some (.ins C dx fs)) (cl:Cls K C) (ha:W.findIn K (.ref C) "__class__" = some (some (.builtin "object.__class__")))
     (hn:W.specialIn K (.builtin "object.__class__") "__get__" = some (some (.builtin "getset_descriptor.__get__"))) (htk:W.takesIn K (.builtin "object.__class__")=some true)
     (hm:W.mroIn K C (.type "object")=some true):TyOf K H (.ref a) (.ref C)
theorem isinst_ok {x:V}{u t:Value}(I:'%')(d:RelV x u)(ty:TyOf X.K H x t)(e:W.kitOne X.K t c=some b)(h:∀v,Q (.bool b) { s with toks:=v }) :
   wpAny (model X.prog X.w) A (call (.builtin "isinstance") [u,c]) Q E s:=by
 cases ty with
 | non=>cases (show u=Value.none from d);exact W.kia_one W.kitx_none I.kIn True.intro e (λz=>nomatch z) h
 | bl y=>cases (show u=Value.bool y from d);exact W.kia_one W.kitx_bool I.kIn True.intro e (λz=>nomatch z) h
 | int i=>obtain⟨t,q⟩:=(show ∃t,u=Value.int i t from d);cases q;exact W.kia_one W.kitx_int I.kIn True.intro e (λz=>nomatch z) h
 | str y=>obtain⟨t,q⟩:=(show ∃t,u=Value.str y t from d);cases q;exact W.kia_one W.kitx_str I.kIn True.intro e (λz=>nomatch z) h
 | flt y=>obtain⟨t,q⟩:=(show ∃t,u=Value.float y t from d);cases q;exact W.kia_one W.kitx_float I.kIn True.intro e (λz=>nomatch z) h
 | @lst a j f =>
   cases (show u=Value.ref a from d);obtain⟨_,_,n,_,g⟩:=(show ze6 X.prog X.w H s.heap a (.lst j) from I.hok a _ f);exact W.kia_one W.kitx_list I.kIn ⟨_,g,rfl⟩ e (λz=>nomatch z) h
 | @frz a w j f =>
   cases (show u=Value.ref a from d);obtain⟨_,_,_,n,_,g⟩:=(show ze6 X.prog X.w H s.heap a (.frz w (.lst j)) from I.hok a _ f);exact W.kia_one W.kitx_list I.kIn ⟨_,g,rfl⟩ e (λz=>nomatch z) h
 | @tup a j f =>
   cases (show u=Value.ref a from d);obtain⟨_,_,_,p⟩:=(show ze6 X.prog X.w H s.heap a (.tup j) from I.hok a _ f);obtain⟨o,g,k,_⟩:=p;exact W.kia_one W.kitx_tuple I.kIn ⟨o,g,k⟩ e (λz=>nomatch z) h
 | @dK a l f =>
   cases (show u=Value.ref a from d);obtain⟨_,_,L,_,p⟩:=(show ze6 X.prog X.w H s.heap a (.dK l) from I.hok a _ f);obtain⟨o,B,D,g,k,_⟩:=p;exact W.kia_one W.kitx_dict I.kIn ⟨o,g,k.1⟩ e (λz=>nomatch z) h
 | @dT a l f =>
   cases (show u=Value.ref a from d);obtain⟨_,_,j,_,o,B,D,g,k,_⟩:=(show ze6 X.prog X.w H s.heap a (.dT l) from I.hok a _ f);exact W.kia_one W.kitx_dict I.kIn ⟨o,g,k.1⟩ e (λz=>nomatch z) h
 | @ins a C M fs f m F G r K =>
   cases (show u=Value.ref a from d);obtain⟨N,O,_⟩:=zL1 I.hok f;obtain⟨P,J,_⟩:=O.look;exact W.kia_one (W.kitx_own (m.get _) m.hd F G r K) I.kIn J e (λz=>nomatch z) h
end
structure Room (k:Nat)(A:Around):Prop where
 hd:A.handled=none
 dp:A.depth+3*k+5<recursionLimit
 un:A.units+16*k+200<cLine
theorem Room.mono {j k:Nat}{A:Around}(r:Room k A)(h:j<=k):Room j A:=⟨r.hd,by have:=r.dp;omega,by have:=r.un;omega⟩
theorem Room.deeper {k:Nat}{A:Around}(r:Room (k+1) A)(env:Env):Room k (A.deeper env) :=
 ⟨r.hd,by have:=r.dp;show A.depth+1+3*k+5<_;omega,by have:=r.un;show A.units+3+16*k+200<_;omega⟩
theorem make_depth {A:Around} {C:Addr} {us:')'} {a:List (Str×Value)}:(A.under (.builtin "type.__call__" ⟨.ref C::us,a⟩)).depth=A.depth+1:=by
 first | rfl | simp[Around.under,Code.weight,Code.isCreation,Code.isGuard,Code.isCaller,Code.frames,Code.isFrame,guardIds]
theorem make_units {A:Around} {C:Addr} {us:')'} {a:List (Str×Value)}:(A.under (.builtin "type.__call__" ⟨.ref C::us,a⟩)).units=A.units+1:=by
 first | rfl | simp[Around.under,Code.cUnits,Code.frames,Code.isFrame]
theorem Room.make {k:Nat} {A:Around} (r:Room (k+1) A) (C:Addr) (us:')') (a:List (Str×Value)):Room k (A.under (.builtin "type.__call__" ⟨.ref C::us,a⟩)) :=
 ⟨r.hd,by have:=r.dp;rw[make_depth];omega,by have:=r.un;rw[make_units];omega⟩
theorem Room.depth {k:Nat}{A:Around}(r:Room k A):A.depth<recursionLimit:=by have:=r.dp;omega
theorem Room.units {k:Nat}{A:Around}(r:Room k A):A.units+64<cLine:=by have:=r.un;omega
def tNil:TA:=λ_ H Q=>Q [] H
def tCons (ta:TE)(tr:TA):TA:=λσ H Q=>ta σ H λx H1=>tr σ H1 λxs H2=>Q (x::xs) H2
section
variable {X:Cx} {e:Expr} {es:List Expr} {te:TE} {t:TA} {pos:Pos}
theorem za1:PA X [] tNil:=λ_ _ _ _ H Q I h=>Calls.spliced_nil ⟨[],H,I,.nil,h⟩
theorem za0 (d:PE X e te)(f:PA X es t)(g:starEach (e::es) X.env=(false,eval e X.env)::starEach es X.env:=by rfl):PA X (e::es) (tCons te t):=by
 intro b a s c H Q I h;rw[g];show wpAny _ _ (spliced ((false,eval e X.env)::backTo b (starEach es X.env))) _ _ s;refine Calls.spliced_cons (thn (d a s c H _ I h) λu i ⟨x,j,k,l,m⟩=>?_);exact thn (f b a i c j _ k m) λv w ⟨n,o,p,q,r⟩=>⟨x::n,o,p,.cons l q,r⟩
def tTup (t:TA):TE:=λσ H Q=>t σ H λxs H1=>xs.length<=sizeLine/\∀p,H1 p=none->Q (.ref p) (upd H1 p (.tup xs))
def tLst (t:TA):TE:=λσ H Q=>t σ H λxs H1=>xs.length<=sizeLine/\∀p,H1 p=none->Q (.ref p) (upd H1 p (.lst xs))
theorem zE4 {x1}(h:PA X es t):PE X (.Tuple es x1 pos) (tTup t):=by
 intro f s l H Q I g;refine wpAny_Tuple_spliced (thn (h pos f s l H _ I g) λi a ⟨j,c,d,r,z,q⟩=>⟨by rw[<-r.length];exact z,?_⟩);have k:c a.heap.objs.size=none:=d.hok.fresh (Qi _);refine⟨.ref a.heap.objs.size,upd c a.heap.objs.size (.tup j),d.laid (t':=a.toks) (λb u e=>Qc _ e) (Qi _) ?_,rfl,q _ k⟩;exact⟨z,i,r,⟨_,Qj _ rfl,rfl,rfl,_,rfl⟩⟩
theorem zf8 (h:PA X es t):PE X (.List es pos) (tLst t):=by
 intro f s l H Q I g;refine wpAny_List_spliced (thn (h pos f s l H _ I g) λi a ⟨j,c,d,r,z,q⟩=>⟨by rw[<-r.length];exact z,?_⟩);have k:c a.heap.objs.size=none:=d.hok.fresh (Qi _);refine⟨.ref a.heap.objs.size,upd c a.heap.objs.size (.lst j),d.laid (t':=a.toks) (λb u e=>Qc _ e) (Qi _) ?_,rfl,q _ k⟩;exact⟨z,i,0,r,Qj _ rfl⟩
end
noncomputable abbrev Sp:=List V->Hp->VK->XK->Prop
noncomputable abbrev CXT:=List Env->Hp->Shared->XK->Value->Shared->Prop
structure Env0 (P:Program)(w:World)(K:W.Frag)(mg:Str->Option Value)(base:Heap)(A:Around)(outer:List Env)(s:Shared)(H:Hp):Prop where
 frames:A.frames=some outer
 mod:Mod K mg base
 bs:∀b o,base.get? b=some o->s.heap.get? b=some o/\H b=none
 bsz:base.objs.size<=s.heap.objs.size
 funs:s.heap.FunFrames base outer
 frf:∀b∈frs outer,H b=none
 hok:HOk P w H s.heap
 bare:AllBare s.gens
def CE (outer:List Env)(P:Program)(w:World)(H:Hp)(s:Shared)(Q:VK)(u:Value)(s':Shared):Prop :=
 ∃v H',s'.os=s.os/\AllBare s'.gens/\Un (frs outer) [] H H' s.heap s'.heap/\HOk P w H' s'.heap/\RelV v u/\Q v H'
def CR (CX:CXT)(outer:List Env)(P:Program)(w:World)(H:Hp)(s:Shared)(Q:VK)(E:XK)(r:Result)(s':Shared):Prop :=
 match r with
 | .ok (.ret u)=>CE outer P w H s Q u s'
 | .ok _=>False
 | .error e=>CX outer H s E e s'
structure FnOk (P:Program)(w:World)(K:W.Frag)(mg:Str->Option Value)(base:Heap)(CX:CXT)(k:Nat)(f:Addr)(fd:FuncData)(ps:List Str)(sp:Sp):Prop where
 len:∀vs H Q E,sp vs H Q E->vs.length=ps.length
 run:∀(A:Around) (outer:List Env) (s:Shared) (H:Hp) (args:Args) (us:')') (vs:List V) (Q:VK) (E:XK),Room k A->Env0 P w K mg base A outer s H->BindsTo s fd args (ps.zip us)->Vals vs us->sp vs H Q E →
   codeAny (model P w) A (.call (.ref f) args) (CR CX outer P w H s Q E) s
theorem Env0.make {P:Program}{w:World}{K:W.Frag}{a:Str->Option Value}{base:Heap}{A:Around}{outer:List Env}{s:Shared}{H:Hp}(e:Env0 P w K a base A outer s H)(C:Addr)(us:')')(b:List (Str×Value)) :
 Env0 P w K a base (A.under (.builtin "type.__call__" ⟨.ref C::us,b⟩)) outer s H:=⟨by first | exact e.frames | (simpa [Around.under,Code.envs,Code.isFrame,pushEnvs] using e.frames),e.mod,e.bs,e.bsz,e.funs,e.frf,e.hok,e.bare⟩
section
variable {X:Cx} {pins:PL} {σ:St} {H:Hp} {s s':Shared}
theorem Inv.env0 (I:'%'):Env0 X.prog X.w X.K X.mg X.base X.A X.stack s H :=
 ⟨I.ok.frames,I.ok.mod,I.bs,QD I.ok.bsz I.sz,I.stack,I.stkFree,I.hok,I.bare⟩
theorem Inv.after {Q:VK}{u:Value}(I:'%')(h:CE X.stack X.prog X.w H s Q u s'):EP X pins σ Q u s':=by
 obtain⟨v,f,i,a,un,c,r,q⟩:=h;obtain⟨j,g,d,t,e⟩:=s';obtain rfl:e=s.os:=i;exact⟨v,f,I.call (h':=j) (g':=g) (d':=d) (t':=t) (ch:=[]) un c a (λb z=>absurd z (by simp)),r,q⟩
end
def ym8 (sp:Sp)(dvs:List V)(E:XK)(t:TA):TE:=λσ H Q=>t σ H λvs H1=>sp (vs++dvs) H1 Q E
inductive yh5 (C:Addr)(m:Str)(sp:Sp)(dvs:List V)(E:XK)(t:TA)(x:V)(σ:St)(H1:Hp)(Q:VK):Prop
 | mk (a dx fs:_)(h0:x = .ref a)(h1:H1 a=some (.ins C dx fs))(h2:fs.lookup m=none)(h3:t σ H1 λvs H2=>sp (x::(vs++dvs)) H2 Q E):yh5 C m sp dvs E t x σ H1 Q
def yr4 (C:Addr)(m:Str)(sp:Sp)(dvs:List V)(E:XK)(ta:TE)(t:TA):TE:=λσ H Q=>ta σ H λx H1=>yh5 C m sp dvs E t x σ H1 Q
def tMake (C:Addr)(sp:Sp)(dvs:List V)(E:XK)(t:TA):TE:=λσ H Q=>t σ H λvs H1=>∀x dx,H1 x=none->H1 dx=none->dx≠x →
 sp (.ref x::(vs++dvs)) (upd (upd H1 dx (.own x)) x (.ins C dx [])) (λv H2=>v = .non/\Q (.ref x) H2) E
def zj2 (K:W.Frag)(fd:FuncData)(ps:List Str)(ds:')'):Prop :=
 ∀(s:Shared) (us:')'),K.In s.heap->(us++ds).length=ps.length->BindsTo s fd ⟨us,[]⟩ (ps.zip (us++ds))
theorem zj2.all {K:W.Frag}{fd:FuncData}{ps:List Str}(h:∀a:')',a.length=ps.length->bindArgs fd ⟨a,[]⟩=pure (ps.zip a)):zj2 K fd ps []:=λs a _ b=>by
 rw[Zi] at b ⊢;exact .of_eq (h a b)
def zn0 (CX:CXT)(X:Cx)(E:XK):Prop:=∀(pins:PL) (σ:St) (H:Hp) (s:Shared) (e:Value) (s':Shared),'%'->CX X.stack H s E e s'->X.xe e s'
section
variable {X:Cx} {CX:CXT} {k:Nat} {f C:Addr} {fd:FuncData} {ps:List Str} {sp:Sp} {dvs:List V} {ds:')'} {E:XK} {x m:Str} {p pos apos:Pos} {e o:Expr} {es:List Expr} {ta:TE} {t:TA}
theorem zY0 {b:PL}{c:St}{H:Hp}{s:Shared}{Q:VK}{us:')'}{vs:List V}(F:FnOk X.prog X.w X.K X.mg X.base CX k f fd ps sp)(g:Room k X.A)(i:zj2 X.K fd ps ds)(j:Vals dvs ds)(l:zn0 CX X E)
   (I:Inv X b c H s) (r:Vals vs us) (h:sp (vs++dvs) H Q E):wpAny (model X.prog X.w) X.A (call (.ref f) us) (EP X b c Q) X.xe s:=by
 have d:Vals (vs++dvs) (us++ds):=r.append j;have m:(us++ds).length=ps.length:=by rw[<-d.length];exact F.len _ _ _ _ h
 refine wpAny_call (codeAny_mono (F.run X.A X.stack s H ⟨us,[]⟩ (us++ds) (vs++dvs) Q E g I.env0 (i s us I.kIn m) d h) λr n a=>?_);cases r with
 | error e=>exact l b c H s e n I a
 | ok o =>
   cases o with
   | ret u=>exact I.after a
   | next=>exact False.elim a
   | brk=>exact False.elim a
   | cont=>exact False.elim a
theorem zm0 (F:FnOk X.prog X.w X.K X.mg X.base CX k f fd ps sp)(g:Room k X.A)(i:Gl X x)(j:X.mg x=some (.ref f))(l:W.keepIn X.K (.ref f)=true)(m:zj2 X.K fd ps ds)(n:Vals dvs ds)(o:zn0 CX X E)
   (u:PA X (e::es) t) (c:(x == ("__debug__" : Str))=false:=by decide) (v:starEach (e::es) X.env=(false,eval e X.env)::starEach es X.env:=by rfl) (d:(backTo pos (starEach es X.env)).any (·.1)=false:=by rfl) :
   PE X (.Call (.Name x p) (e::es) [] pos) (ym8 sp dvs E t):=by
 intro b s w H Q I h;refine wpAny_Call_Name_kw (zs5 I i j ?_ c);refine W.callWith_K (h₀:=X.base) I.ok.mod.kin l (thn (u pos b s w H _ I h) λy z ⟨A,B,a,r,q⟩=>⟨a.kIn,?_⟩) v d;exact zY0 F g m n o a r q
theorem zB4 {pl:Sem Bool}(w:PE X o ta)(c:Cls X.K C)(d:Meth X.K C m f)(F:FnOk X.prog X.w X.K X.mg X.base CX k f fd ps sp)(y:Room k X.A)(z:zj2 X.K fd ps ds)(A:Vals dvs ds)(B:zn0 CX X E)(D:PA X (e::es) t)
   (p:starEach (e::es) X.env=(false,eval e X.env)::starEach es X.env:=by rfl) (v:(backTo pos (starEach es X.env)).any (·.1)=false:=by rfl)
   (G:eval (.Call (.Attribute o m apos) (e::es) [] pos) X.env=(do
     let g <-eval o X.env
     standAt apos.atName
     let(f,first) <-holding [g] (getMethod g m pl)
     callWith pos f first (backTo pos (starEach (e::es) X.env)) (backToKw pos (keywordEach [] X.env))):=by rfl) :
   PE X (.Call (.Attribute o m apos) (e::es) [] pos) (yr4 C m sp dvs E ta t):=by
 intro b s n H Q I h;refine W.methodCall_KW (pl:=pl) (thn (w b s n H _ I h) λu J ⟨x,K,i,L,a,P,fs,M,N,l,q⟩=>?_) G;subst M;obtain rfl:u=Value.ref a:=L;refine zN2 i N c d l ?_;refine W.callWith_K (first:=[.ref a]) (h₀:=X.base) I.ok.mod.kin d.kp (thn (D pos b J n K _ i q) λus R ⟨vs,S,j,r,O⟩=>⟨j.kIn,?_⟩) p v;exact zY0 (us:=.ref a::us) (vs:=.ref a::vs) F y z A B j (.cons rfl r) O
theorem pe_meth0 {pl:Sem Bool}(i:PE X o ta)(c:Cls X.K C)(d:Meth X.K C m f)(F:FnOk X.prog X.w X.K X.mg X.base CX k f fd ps sp)(j:Room k X.A)(n:zj2 X.K fd ps ds)(p:Vals dvs ds)(r:zn0 CX X E)
   (t:eval (.Call (.Attribute o m apos) [] [] pos) X.env=(do
     let e <-eval o X.env
     standAt apos.atName
     let(f,first) <-holding [e] (getMethod e m pl)
     callWith pos f first (backTo pos (starEach [] X.env)) (backToKw pos (keywordEach [] X.env))):=by rfl) :
   PE X (.Call (.Attribute o m apos) [] [] pos) (yr4 C m sp dvs E ta tNil):=by
 intro g s z H Q I h;refine W.methodCall_KW (pl:=pl) (thn (i g s z H _ I h) λu A ⟨x,B,b,v,a,D,fs,w,y,l,q⟩=>?_) t;subst w;obtain rfl:u=Value.ref a:=v;refine zN2 b y c d l ?_;exact W.callWith_K0 (first:=[.ref a]) b.kIn d.kp (zY0 (us:=[.ref a]) (vs:=[.ref a]) F j n p r b (.cons rfl .nil) q)
structure Mk (K:W.Frag)(C f:Addr):Prop where
 makes:W.makesIn K C=true
 init:W.findIn K (.ref C) "__init__" = some (some (.ref f))
 fn:W.isFn K (.ref f)=true
 kp:W.keepIn K (.ref C)=true
theorem run_make {d:PL}{g:St}{H:Hp}{s:Shared}{Q:VK}{us:')'}{vs:List V}(M:Mk X.K C f)(F:FnOk X.prog X.w X.K X.mg X.base CX k f fd ps sp)(l:Room (k+1) X.A)(m:zj2 X.K fd ps ds)(n:Vals dvs ds)
   (o:zn0 CX X E) (I:Inv X d g H s) (r:Vals vs us)
   (h:∀x b,H x=none->H b=none->b≠x->sp (.ref x::(vs++dvs)) (upd (upd H b (.own x)) x (.ins C b [])) (λv p=>v = .non/\Q (.ref x) p) E) :
   wpAny (model X.prog X.w) X.A (call (.ref C) us) (EP X d g Q) X.xe s:=by
 have i:=h (s.heap.objs.size+1) s.heap.objs.size (I.hok.fresh (Nat.le_succ _)) (I.hok.fresh (Qi _)) (Qz (Nat.lt_succ_self _));have c:=Inv.made (C:=C) I;have j:Vals (V.ref (s.heap.objs.size+1)::(vs++dvs)) (Value.ref (s.heap.objs.size+1)::(us++ds)):=.cons rfl (r.append n);have q:(Value.ref (s.heap.objs.size+1)::us++ds).length=ps.length:=by
   have e:=j.length;rw[F.len _ _ _ _ i] at e;exact e.symm
 refine wpAny_call (make_map (f:=f) I.kIn M.makes M.init (beq_iff_eq.mp M.fn) (codeAny_mono (F.run _ X.stack _ _ ⟨Value.ref (s.heap.objs.size+1)::us,[]⟩ (Value.ref (s.heap.objs.size+1)::(us++ds)) _ _ E (l.make C us [])
   (c.env0.make C us []) (m _ (Value.ref (s.heap.objs.size+1)::us) c.kIn q) j i) λr t a=>?_))
 cases r with
 | error e=>exact o d g _ _ e t c a
 | ok w =>
   cases w with
   | ret u =>
     obtain⟨v,y,z,A,B,D⟩:=c.after a;subst B;exact⟨A,⟨V.ref (s.heap.objs.size+1),y,z,rfl,D⟩⟩
   | next=>exact False.elim a
   | brk=>exact False.elim a
   | cont=>exact False.elim a
theorem zq4 (M:Mk X.K C f)(F:FnOk X.prog X.w X.K X.mg X.base CX k f fd ps sp)(g:Room (k+1) X.A)(i:Gl X x)(j:X.mg x=some (.ref C))(l:zj2 X.K fd ps ds)(m:Vals dvs ds)(n:zn0 CX X E)
   (o:PA X (e::es) t) (c:(x == ("__debug__" : Str))=false:=by decide) (u:starEach (e::es) X.env=(false,eval e X.env)::starEach es X.env:=by rfl) (d:(backTo pos (starEach es X.env)).any (·.1)=false:=by rfl) :
   PE X (.Call (.Name x p) (e::es) [] pos) (tMake C sp dvs E t):=by
 intro b s v H Q I h;refine wpAny_Call_Name_kw (zs5 I i j ?_ c);refine W.callWith_K (h₀:=X.base) I.ok.mod.kin M.kp (thn (o pos b s v H _ I h) λw y ⟨z,A,a,r,q⟩=>⟨a.kIn,?_⟩) u d;exact run_make M F g l m n a r q
end
section
variable {X:Cx} {CX:CXT} {k:Nat} {f C:Addr} {fd:FuncData} {ps ks:List Str} {sp:Sp} {E:XK} {x m:Str} {p pos apos kpos:Pos} {e o:Expr} {es:List Expr} {kws:List Keyword} {te ta:TE} {t tk:TA} {nm:Option Str}
variable {g:')'->')'->')'} {gV:List V->List V->List V}
end
structure zb2 (N P:List Str)(sc:Scope):Prop where
 kind:sc.kind = .function:=by rfl
 co:sc.isCoroutine=false:=by rfl
 gen:sc.isGenerator=false:=by rfl
 nd:N.Nodup:=by decide +kernel
 pre:N.take P.length=P:=by rfl
 par:∀x∈P,sc.names.lookup x=some .local\/sc.names.lookup x=some .cell:=by decide +kernel
 nofree:∀y∈sc.names,y.2≠.free:=by decide +kernel
theorem zT2 {a:Str->Option NameKind}{x:Str}:∀ {binds:List (Str×Value)} {m:Str->Option Value},(∀v,(x,v)∉binds)->bindL a binds m x=m x
 | [],_,_=>rfl
 | (n,v)::r,m,h=>by
   unfold bindL;rw[zT2 λw b=>h w (Qv _ b)]
   split
   . have:x≠n:=by rintro rfl;exact h v QC
     simp[this]
   . rfl
theorem zT3 {a:Str->Option NameKind}{x:Str}:∀ {binds:List (Str×Value)} {m:Str->Option Value},(∀v,(x,v)∉binds)->bindC a binds m x=m x
 | [],_,_=>rfl
 | (n,v)::r,m,h=>by
   unfold bindC;rw[zT3 λw b=>h w (Qv _ b)]
   split
   . rfl
   . have:x≠n:=by rintro rfl;exact h v QC
     simp[this]
theorem zT4 {b:Str->Option NameKind}{x:Str}{v:Value}:∀ {P:List Str} {a:')'} {i:Nat} {m:Str->Option Value},P.Nodup->P[i]?=some x->a[i]?=some v->b x=some .local →
   bindL b (P.zip a) m x=some v
 | [],_,_,_,_,h,_,_=>by simp at h
 | _::_,[],_,_,_,_,h,_=>by simp at h
 | p::P,w::a,0,m,nd,h1,h2,hk=>by
   simp at h1 h2;subst h1;subst h2;show bindL b ((p,w)::P.zip a) m p=_;unfold bindL;rw[zT2 λv c=>(List.nodup_cons.mp nd).1 (List.of_mem_zip c).1,Ql hk];simp
 | p::P,w::a,i+1,m,nd,h1,h2,hk=>by
   show bindL b ((p,w)::P.zip a) m x=_;unfold bindL;exact zT4 (i:=i) (List.nodup_cons.mp nd).2 (by simpa using h1) (by simpa using h2) hk
theorem zT5 {b:Str->Option NameKind}{x:Str}{v:Value}:∀ {P:List Str} {a:')'} {i:Nat} {m:Str->Option Value},P.Nodup->P[i]?=some x->a[i]?=some v->b x≠some .local →
   bindC b (P.zip a) m x=some v
 | [],_,_,_,_,h,_,_=>by simp at h
 | _::_,[],_,_,_,_,h,_=>by simp at h
 | p::P,w::a,0,m,nd,h1,h2,hk=>by
   simp at h1 h2;subst h1;subst h2;show bindC b ((p,w)::P.zip a) m p=_;unfold bindC;rw[zT3 λv c=>(List.nodup_cons.mp nd).1 (List.of_mem_zip c).1,Qg hk];simp
 | p::P,w::a,i+1,m,nd,h1,h2,hk=>by
   show bindC b ((p,w)::P.zip a) m x=_;unfold bindC;exact zT5 (i:=i) (List.nodup_cons.mp nd).2 (by simpa using h1) (by simpa using h2) hk
noncomputable def start (N:List Str)(vs:List V):St:=vs.map some++List.replicate (N.length-vs.length) none
noncomputable def cxOf (CX:CXT)(P:Program)(w:World)(K:W.Frag)(mg:Str->Option Value)(base:Heap)(N:List Str)(qual:Str)(scope:Scope)(f:Addr)(cd:Value)(A:Around)(outer:List Env)(s:Shared)(H:Hp)(E:XK):Cx where
 prog:=P
 w:=w
 K:=K
 mg:=mg
 base:=base
 A:=A.deeper (envOfC qual scope s.heap.objs.size f cd)
 N:=N
 s₀:=s
 H₀:=H
 env:=envOfC qual scope s.heap.objs.size f cd
 outer:=outer
 stack:=envOfC qual scope s.heap.objs.size f cd::outer
 ex:=[]
 calm:=true
 fn:=λ_=>true
 pn:=[]
 xe:=λe s'=>wpAny (model P w) (A.deeper (envOfC qual scope s.heap.objs.size f cd)) («leaving» (envOfC qual scope s.heap.objs.size f cd) e) (λ_ s''=>CX outer H s E e s'') (λe' s''=>CX outer H s E e' s'') s'
theorem yb1 {a:Scope}{n:Nat}{x:Str}(h:a.names.lookup x=some .cell):∃c,(cellsFrom n a.names []).lookup x=some c:=by
 have q:=W.cellsFrom_some a.names n [] (.inl h);exact Option.isSome_iff_exists.mp q
theorem inv_start {CX:CXT}{P:Program}{w:World}{K:W.Frag}{D:Str->Option Value}{base:Heap}{N ps:List Str}{m:Str}{scope:Scope}{f:Addr}{o:Value}{A:Around}{outer:List Env}{s G:Shared}{H:Hp}{E:XK}{us:')'}{vs:List V}
   (S:zb2 N ps scope) (L:A.handled=none) (g:Env0 P w K D base A outer s H) (R:vs.length=ps.length) (r:Vals vs us)
   (x:InCallC s s.heap.objs.size (bindL (envOfC m scope s.heap.objs.size f o).kindOf (ps.zip us) λ_=>none) (cellsFrom (s.heap.objs.size+1) scope.names []) (bindC (envOfC m scope s.heap.objs.size f o).kindOf (ps.zip us) λ_=>none) G) :
   Inv (cxOf CX P w K D base N m scope f o A outer s H E) [] (start N vs) H G:=by
 have Q:ps.length<=N.length:=by have:=congrArg List.length S.pre;rw[QW] at this;omega
 obtain⟨t,T,rfl,I⟩:=x.done;have C:∀b:Addr,b∉(cxOf CX P w K D base N m scope f o A outer s H E).ex:=λb z=>absurd (show b∈([]:List Addr) from z) (by simp)
 refine⟨⟨g.mod,S.kind,rfl,rfl,Qi _,λy z c t d=>?_,λy j=>?_,λy c _ h=>?_,λ_=>L,Around.frames_deeper g.frames,.inr ⟨rfl,rfl⟩,λb z=>absurd z (C b),g.bs,g.bsz,λb _ _=>C b,λb z=>absurd z (C b),g.funs,g.frf⟩,
   rfl,g.bare,Un.kept I,⟨_,x.toInCall.ns,λi y v t d U=>?_⟩,λy c h=>⟨_,x.cell y c h⟩,g.hok.fresh (Qi _),λy c h=>?_,λp l=>absurd (show p∈([]:PL) from l) (by simp),g.hok.kept I,?_⟩
 . exact name_of_addr x.apart (PySem.mem_of_lookup t) (PySem.mem_of_lookup d)
 . have j:scope.names.lookup y=some .cell\/scope.names.lookup y=some .free:=j
   rcases j with j | j
   . exact yb1 j
   . exact absurd rfl (S.nofree _ (PySem.mem_of_lookup j))
 . exact Zs (x.above y c (PySem.mem_of_lookup h))
 . have B:i<vs.length:=by
     unfold start at d;by_cases B:i<vs.length
     . exact B
     . rw[Zd (by simpa using B)] at d
       rw[List.getElem?_replicate] at d
       split at d<;>cases d
   have M:vs[i]?=some v:=by
     unfold start at d;rw[Zn (by simpa using B),QK] at d;cases e:vs[i]? with
     | none=>rw[e] at d;cases d
     | some a=>rw[e] at d;cases d;rfl
   obtain⟨u,J,O⟩:=r.get M;have l:ps[i]?=some y:=by
     rw[<-S.pre,List.getElem?_take_of_lt '!'];exact t
   have F:ps.Nodup:=by rw[<-S.pre];exact S.nd.sublist (List.take_sublist _ _)
   refine⟨u,O,?_⟩;rcases S.par y (Qy l) with k | k
   . exact .inl ⟨k,zT4 F l J k⟩
   . obtain⟨c,e⟩:=yb1 (n:=s.heap.objs.size+1) k
     refine .inr ⟨.inl k,c,e,?_⟩;have q:=x.cell y c e;rw[zT5 F l J (by show scope.names.lookup y≠_;rw[k];decide)] at q;exact q
 . exact g.hok.fresh (Zs (x.above y c (PySem.mem_of_lookup h)))
 . unfold start
   show _=N.length;rw[Qr,Qb,List.length_replicate];omega
theorem ym9 {CX:CXT}{P:Program}{w:World}{K:W.Frag}{l:Str->Option Value}{base:Heap}{k:Nat}{f:Addr}{name d:Str}{B:Arguments}{n:List Stmt}{scope:Scope}{G kV C I g L oc:Value}{M od:Option Addr}
   {X:Array (Option Value)} {N ps:List Str} {sp:Sp} (lk:K.lookup f=some ⟨oc,od,.func (W.fnOf name d B n scope G kV C I M g L),X⟩) (Y:W.codeIn K g d=true) (S:zb2 N ps scope)
   (len:∀a H Q E,sp a H Q E->a.length=ps.length)
   (T:∀(A:Around) (h:List Env) (s:Shared) (H:Hp) (a:List V) (Q:VK) (E:XK),Room k (A.deeper (envOfC d scope s.heap.objs.size f g))->sp a H Q E →
     ∃t,PSs (cxOf CX P w K l base N d scope f g A h s H E) n t/\t { nx:=λ_ c=>Q .non c,rt:=Q } (start N a) H) :
   FnOk P w K l base CX (k+1) f (W.fnOf name d B n scope G kV C I M g L) ps sp:=by
 refine⟨len,λA h s H a3 us a Q E p j hb a0 D=>?_⟩;have hl:=len _ _ _ _ D;have O:K.In s.heap:=j.mod.kin.keeps λb o e=>(j.bs b o e).1
 have Z:s.heap.NoLimit:=j.mod.nolimit.keeps λb o e=>(j.bs b o e).1
 have U:∀y∈ps.zip us,scope.names.lookup y.1=some .local\/(scope.names.lookup y.1=some .cell/\((cellsFrom (s.heap.objs.size+1) scope.names []).lookup y.1).isSome=true):=λ⟨a1,v⟩ hy=>by
   rcases S.par a1 (List.of_mem_zip hy).1 with q | q
   . exact .inl q
   . exact .inr ⟨q,W.cellsFrom_some _ _ _ (.inl q)⟩
 refine codeAny_call_function p.depth (O _ _ lk) rfl S.co S.gen rfl (W.codeRec_of O Y) (hb _ _ _ _ ?_);refine wpAny_newFunctionEnv_cells S.kind U λa4 he R x=>?_
 subst he;refine⟨Z.keeps x.toInCall.keep,codeAny_func ?_⟩;obtain⟨t,ht,hq⟩:=T A h s H a Q E (p.deeper _) D;have a2:Inv (cxOf CX P w K l base N d scope f g A h s H E) [] (start N a) H R:=inv_start S p.hd j hl a0 x;refine Zj (ht [] R (start N a) H _ a2 hq) (λfl r i=>?_) λe r i=>i
 have F:∀ {m:St} {c:Hp} {v:V} {u:Value},Inv (cxOf CX P w K l base N d scope f g A h s H E) [] m c r->RelV v u->Q v c->CE h P w H s Q u r :=
   λ{m c v u} J z q=>⟨v,c,J.os,J.bare,J.base,J.hok,z,q⟩
 cases fl with
 | ret u =>
   obtain⟨v,m,c,J,z,q⟩:=i;exact F J z q
 | next =>
   obtain⟨m,c,J,q⟩:=i;exact F (v:=V.non) (u:=Value.none) J rfl q
 | brk =>
   obtain⟨_,_,_,q⟩:=i;exact False.elim q
 | cont =>
   obtain⟨_,_,_,q⟩:=i;exact False.elim q
section
variable {X:Cx} {x:Str} {p pos:Pos} {e:Expr} {es:List Expr} {t:TA} {id T:String} {r:List V->Hp->VK->Prop}
def tCB (r:List V->Hp->VK->Prop)(t:TA):TE:=λσ H Q=>t σ H λvs H1=>r vs H1 Q
theorem zb6 (f:zi1 X (.builtin id) r) (g:Gl X x) (i:X.mg x=none) (j:bootBuiltins x=some (.builtin id)) (k:PA X (e::es) t) (l:x≠"__name__":=by decide) (c:(x == ("__debug__" : Str))=false:=by decide)
   (m:starEach (e::es) X.env=(false,eval e X.env)::starEach es X.env:=by rfl) (d:(backTo pos (starEach es X.env)).any (·.1)=false:=by rfl):PE X (.Call (.Name x p) (e::es) [] pos) (tCB r t):=by
 intro a s b H Q I h;refine wpAny_Call_Name_kw (zI1 I g i j ?_ l c);exact PyProof.Rows.callWith_builtin1 (thn (k pos a s b H _ I h) λn o ⟨q,u,v,w,y⟩=>f a o b u q n Q v w y) m d
theorem zd2 (f:zi1 X (.type T) r) (g:Gl X x) (i:X.mg x=none) (j:bootBuiltins x=some (.type T)) (k:PA X (e::es) t) (l:x≠"__name__":=by decide) (c:(x == ("__debug__" : Str))=false:=by decide)
   (m:starEach (e::es) X.env=(false,eval e X.env)::starEach es X.env:=by rfl) (d:(backTo pos (starEach es X.env)).any (·.1)=false:=by rfl):PE X (.Call (.Name x p) (e::es) [] pos) (tCB r t):=by
 intro a s b H Q I h;refine wpAny_Call_Name_kw (zI1 I g i j ?_ l c);exact PyProof.Rows.callWith_type1 (thn (k pos a s b H _ I h) λn o ⟨q,u,v,w,y⟩=>f a o b u q n Q v w y) m d
end
end L2
namespace HT
open PySem PyProof.Rows
section
open PySem.SeqAt
open PySem.AutoSeq1 (wpAny_loadPart')
open PySem.MeetsSeq PySem.MeetsSeq2 PySem.MeetsSeq3
end
section
variable {prog:Program} {w:World} {A:Around} {E:VP} {s:Shared}
theorem cat_tup {t b:Addr}{vs ws:')'}{Q:VP}(p:IsTup s.heap t vs.toArray)(q:IsTup s.heap b ws.toArray)(j:vs≠[])
   (r:ws=[]->Q (.ref t) s) (u:ws≠[]->Q (.ref s.heap.objs.size) { s with heap:=s.heap.push { cls:=.type "tuple",data:=.seq (vs++ws).toArray } })
   (hsz:vs.length+ws.length<=sizeLine):wpAny '*' A (binaryOp .Add (.ref t) (.ref b)) Q E s:=by
 obtain⟨⟨cls,k,data,sl⟩,c,l,n,m⟩:=id p;obtain⟨⟨x,f,v,g⟩,a,h,o,i⟩:=id q;simp only at l m h i;subst l m h i;have e:vs.toArray++ws.toArray=(vs++ws).toArray:=by simp
 by_cases d:ws=[]
 . exact concat_meets ⟨_,c,rfl⟩ ⟨_,a,rfl⟩ noFill_tuple_add seq_tuple_add PySem.F.slot_tuple_add PySem.F.entry_tuple_add (PySem.F.args_tuple_add_2 _ _)
     (tuple_addW1 t b vs.toArray ws.toArray n o k f sl g (by simpa using j) (by simp[d])) ⟨c,a,r d⟩
 . refine concat_meets ⟨_,c,rfl⟩ ⟨_,a,rfl⟩ noFill_tuple_add seq_tuple_add PySem.F.slot_tuple_add PySem.F.entry_tuple_add (PySem.F.args_tuple_add_2 _ _)
     (tuple_addW2 t b vs.toArray ws.toArray n o k f sl g (by simpa using j) (by simpa using d) (by rw[Qk,Qk];exact hsz)) ⟨c,a,?_⟩
   rw[e];exact u d
noncomputable def sIx (n d:Nat):Option Int->Nat
 | none=>d
 | some v=>if v<0 then(v+(n:Int)).toNat else min v.toNat n
theorem sIx_none (n d:Nat):sIx n d none=d:=rfl
theorem sIx_nat (n d k:Nat):sIx n d (some (k:Int))=min k n:=by
 show(if (k:Int)<0 then((k:Int)+(n:Int)).toNat else min (k:Int).toNat n)=min k n;rw[Qg '!',ZE]
theorem sIx_le (n d:Nat)(b:d<=n)(o:Option Int):sIx n d o<=n:=by
 cases o with
 | none=>exact b
 | some v =>
   show(if v<0 then(v+(n:Int)).toNat else min v.toNat n)<=n;by_cases a:v<0
   . rw[Ql a];omega
   . rw[Qg a];exact Nat.min_le_right _ _
theorem yh6 (v:Int)(n d:Nat):(if v<0 then max (v+(n:Int)) 0 else min v (n:Int))=((sIx n d (some v):Nat):Int):=by
 show(if v<0 then max (v+(n:Int)) 0 else min v (n:Int))=(((if v<0 then(v+(n:Int)).toNat else min v.toNat n):Nat):Int);by_cases a:v<0
 . simp only[Ql a];omega
 . simp only[Qg a];omega
theorem adjust_gen (lo a:Option Int)(n:Nat):Builtin.Slice.sliceAdjust lo a 1 (n:Int)=(((sIx n 0 lo:Nat):Int),((sIx n n a:Nat):Int)):=by
 have b:¬ ((1:Int)<0):=by omega
 unfold Builtin.Slice.sliceAdjust;simp only[b,if_false];refine Prod.ext ?_ ?_
 . cases lo with
   | none=>rfl
   | some v=>exact yh6 v n 0
 . cases a with
   | none=>rfl
   | some v=>exact yh6 v n n
theorem places_gen (i j:Nat):Builtin.Slice.slicePlaces (i:Int) (j:Int) 1=j-i:=by
 unfold Builtin.Slice.slicePlaces;have a:(1:Int)>0:=by omega
 simp only[a,if_true,Int.ediv_one]
 split<;>omega
theorem zN3 {v:Value}{o:Option Int}{Q:Option Int->Shared->Prop}(p:IsPart v o)(h:Q o s):wpAny '*' A (Builtin.Slice.slicePartIndex v) Q E s:=by
 cases p with
 | none=>exact slicePart_none h
 | int i t=>exact slicePart_int h
theorem sliceApplied_gen {sl:Addr}{d e:Value}{lo a:Option Int}{n:Nat}{Q:Int×Int×Nat->Shared->Prop}(f:s.heap.IsSliceOf sl d e .none)(pl:IsPart d lo)(g:IsPart e a)
   (h:Q (((sIx n 0 lo:Nat):Int),1,sIx n n a-sIx n 0 lo) s):wpAny '*' A (Builtin.Slice.sliceApplied (.ref sl) (pure (n:Int))) Q E s:=by
 obtain⟨j,b,i,c⟩:=id f;unfold Builtin.Slice.sliceApplied Builtin.Slice.sliceFields;refine Qa (Qa (wpAny_field b c (x:=d) rfl (Qa (wpAny_field b c (x:=e) rfl (Qa (wpAny_field b c (x:=.none) rfl (Qd ?_)))))));refine Qa (slicePart_none ?_);show wpAny _ _ (if ((1:Int) == 0)=true then _ else _) _ _ s;rw[Qg '&'];refine Qa (zN3 pl (Qa (zN3 g (Qa (Qd ?_)))));show wpAny _ _ (match Builtin.Slice.sliceAdjust lo a 1 (n:Int) with | (lo,a)=>pure (lo,(1:Int),Builtin.Slice.slicePlaces lo a 1)) _ _ s;rw[adjust_gen lo a n];show wpAny _ _ (pure (((sIx n 0 lo:Nat):Int),(1:Int),Builtin.Slice.slicePlaces ((sIx n 0 lo:Nat):Int) ((sIx n n a:Nat):Int) 1)) _ _ s;rw[places_gen];exact Qd h
theorem pick_gen (xs:Array Value)(i k:Nat):((List.range k).filterMap λ(m:Nat)=>xs[((i:Int)+(m:Int)*1).toNat]?).toArray=((xs.toList.drop i).take k).toArray:=by
 have e:(λ(m:Nat)=>xs[((i:Int)+(m:Int)*1).toNat]?)=λm=>xs[i+m]?:=by
   funext m
   have:((i:Int)+(m:Int)*1).toNat=i+m:=by omega
   rw[this]
 rw[e];have:=pick_run xs i k;rw[List.filterMap_map] at this;have a:((λx=>xs[x]?) ∘ λx=>i+x)=λm=>xs[i+m]?:=rfl
 rw[a] at this;rw[this]
theorem getItem_tuple_cut {t sl:Addr}{a:Array Value}{e f:Value}{lo b:Option Int}{Q:VP}(d:IsTup s.heap t a)(g:s.heap.IsSliceOf sl e f .none)(pl:IsPart e lo)(n:IsPart f b)
   (o:¬ (sIx a.size 0 lo=0/\sIx a.size a.size b=a.size))
   (h:Q (.ref s.heap.objs.size) { s with heap:=s.heap.push { cls:=.type "tuple",data:=.seq ((a.toList.drop (sIx a.size 0 lo)).take (sIx a.size a.size b-sIx a.size 0 lo)).toArray } })
   (hsz:a.size<=sizeLine):wpAny '*' A (getItem (.ref t) (.ref sl)) Q E s:=by
 have c:sizeOk (.seq ((a.toList.drop (sIx a.size 0 lo)).take (sIx a.size a.size b-sIx a.size 0 lo)).toArray):=by
   show((a.toList.drop (sIx a.size 0 lo)).take (sIx a.size a.size b-sIx a.size 0 lo)).toArray.size<=sizeLine;rw[Qk,QW,List.length_drop,Qu];omega
 have u:sIx a.size a.size b<=a.size:=sIx_le _ _ (Qi _) b;obtain⟨p,i,j,r⟩:=id g;have k:s.TypeIs (.ref sl) "slice":=⟨p,i,j⟩;unfold getItem
 try with_reducible refine wpAny_holding ?_
 first | refine Qa (Qd ?_) | skip
 refine Qa (wpAny_sequenceKey d.typeIs '&' ?_)
 refine Qa (wpAny_callSpecial?_slot (name:=Str.ofString "__getitem__") d.typeIs PyProof.Rows.slot_tuple_getitem
   (wpAny_call_entry PyProof.Rows.slot_tuple_getitem d.typeIs entry_tuple_getitem ?_ (args_tuple_getitem _ _)))
 show wpAny _ _ (Builtin.Tuple.tupleItemsOf (.ref t) >>= _) _ _ s;refine Qa (tupleItemsOf_ d ?_);refine Qa (wpAny_typeOf k ?_);rw[Ql '&'];refine Qa (sliceApplied_gen g pl n ?_);have l:¬ ((((sIx a.size 0 lo:Nat):Int) == 0 && (1:Int) == 1 && (sIx a.size a.size b-sIx a.size 0 lo) == a.size)=true):=by
   intro q;rw[Bool.and_eq_true,Bool.and_eq_true] at q;have v:((sIx a.size 0 lo:Nat):Int)=0:=eq_of_beq q.1.1;have x:sIx a.size a.size b-sIx a.size 0 lo=a.size:=eq_of_beq q.2;exact o ⟨by omega,by omega⟩
 show wpAny _ _ (if (((sIx a.size 0 lo:Nat):Int) == 0 && (1:Int) == 1 && (sIx a.size a.size b-sIx a.size 0 lo) == a.size)=true then _ else _) _ _ s;rw[Qg l,pick_gen]
 first
   | exact Qa (m:=Builtin.Tuple.tupleExact _) (wpAny_newObj_type (Qd ⟨_,rfl,Qd h⟩) c)
   | exact Qa (m:=Builtin.Tuple.tupleExact _) (wpAny_newObj_type (Qa (Qd (Qd ⟨_,rfl,Qd h⟩))) c)
   | exact Qa (Qa (m:=Builtin.Tuple.tupleExact _) (wpAny_newObj_type (Qd (Qd ⟨_,rfl,Qd h⟩)) c))
   | exact Qa (Qa (m:=Builtin.Tuple.tupleExact _) (wpAny_newObj_type (Qd ⟨_,rfl,Qd h⟩) c))
end
end HT
namespace L2
open PySem PySem.Spec PyProof.Rows
noncomputable abbrev TO:=St->Hp->(Option Int->Hp->Prop)->Prop
def PO (X:Cx)(e:Option Expr)(t:TO):Prop :=
 ∀(pins:PL) (s:Shared) (σ:St) (H:Hp) (Q:Option Int->Hp->Prop),'%'->t σ H Q →
   wpAny (model X.prog X.w) X.A (evalPart e X.env) (λu s'=>∃o H',Inv X pins σ H' s'/\IsPart u o/\Q o H') X.xe s
def tNoPart:TO:=λ_ H Q=>Q none H
def tPart (t:TE):TO:=λσ H Q=>t σ H λx H1=>∃i,x = .int i/\Q (some i) H1
theorem zl3 {ns:'#'}:∀ {a:')'},Vals (ns.map V.int) a->IntsAre a ns:=by
 induction ns with
 | nil=>intro a r;rw[List.map_nil] at r;cases r;exact .nil
 | cons n ns b =>
   intro a r;rw[QB] at r;cases r with
   | cons c d =>
     obtain⟨t,e⟩:=c;subst e;exact .cons n t (b d)
section
variable {X:Cx} {e:Expr} {te:TE} {lo hi:Option Expr} {tl th:TO} {pos p2:Pos}
theorem zs7:PO X none tNoPart:=by
 intro a s b H Q I h;rw[evalPart_none];exact Qd ⟨none,H,I,.none,h⟩
theorem zs8 (h:PE X e te):PO X (some e) (tPart te):=by
 intro a s j H Q I b;rw[evalPart_some];refine thn (h a s j H _ I b) λu k ⟨x,c,d,f,g⟩=>?_
 obtain⟨i,rfl,q⟩:=g;obtain⟨t,rfl⟩:=f;exact⟨some i,c,d,.int i t,q⟩
def SlR (X:Cx)(r:V->Option Int->Option Int->Hp->VK->Prop):Prop :=
 ∀(pins:PL) (s:Shared) (σ:St) (H:Hp) (x:V) (v vl vu:Value) (lo hi:Option Int) (sl:Addr) (Q:VK),'%'->RelV x v->s.heap.IsSliceOf sl vl vu .none->IsPart vl lo->IsPart vu hi->r x lo hi H Q →
   ∃T id,typeLookup (.type T) "__getitem__" = pure (some (.builtin id))/\s.TypeIs v T/\wpAny (model X.prog X.w) X.A (getItem v (.ref sl)) (EP X pins σ Q) X.xe s
def tSl (r:V->Option Int->Option Int->Hp->VK->Prop)(te:TE)(tl th:TO):TE:=λσ H Q=>te σ H λx H1=>tl σ H1 λl H2=>th σ H2 λu H3=>r x l u H3 Q
theorem zo1 {r:V->Option Int->Option Int->Hp->VK->Prop}(j:SlR X r)(k:PE X e te)(m:PO X lo tl)(n:PO X hi th):PE X (.Subscript e (.Slice lo hi none p2) pos) (tSl r te tl th):=by
 intro c s d H Q I h;refine Subscript_ (thn (k c s d H _ I h) λv o ⟨x,p,t,w,y⟩=>?_);refine wpAny_Slice (thn (m c o d p _ t y) λf z ⟨l,A,B,C,D⟩=>thn (n c z d A _ B D) λg a ⟨u,i,E,F,G⟩=>?_);rw[evalPart_none];refine Qd ?_;have J:Inv X c d i { a with heap:=a.heap.push { cls:=.type "slice",data:=.fields #[f,g,.none] } }:=E.kept (t':=a.toks) λb N q=>Qc _ q
 obtain⟨T,O,K,L,M⟩:=j c { a with heap:=a.heap.push { cls:=.type "slice",data:=.fields #[f,g,.none] } } d i x v f g l u a.heap.objs.size Q J w (Heap.IsSliceOf.new ..) C F G;show wpAny (model X.prog X.w) X.A (subscriptTail e (.Slice lo hi none p2) v (.ref a.heap.objs.size)) (EP X c d Q) X.xe { a with heap:=a.heap.push { cls:=.type "slice",data:=.fields #[f,g,.none] } };exact tail_any (ops:=[.ref a.heap.objs.size,v]) L K M (by with_unfolding_all rfl)
noncomputable def cutV (xs:List V)(lo hi:Option Int):List V:=(xs.drop (HT.sIx xs.length 0 lo)).take (HT.sIx xs.length xs.length hi-HT.sIx xs.length 0 lo)
theorem zo2 (xs:List V)(lo a:Option Int):(cutV xs lo a).length<=xs.length:=by
 unfold cutV;rw[QW,List.length_drop];omega
inductive yn0 (K:W.Frag)(x:V)(lo:Option Int)(hi:Option Int)(H:Hp)(Q:VK):Prop
 | mk (a xs:_)(h0:x = .ref a)(h1:SqT K H a xs)(h2:¬ (HT.sIx xs.length 0 lo=0/\HT.sIx xs.length xs.length hi=xs.length))(h3:∀p,H p=none->Q (.ref p) (upd H p (.tup (cutV xs lo hi)))):yn0 K x lo hi H Q
def rSlT (K:W.Frag):V->Option Int->Option Int->Hp->VK->Prop:=λx lo hi H Q=>yn0 K x lo hi H Q
theorem zY1:SlR X (rSlT X.K):=by
 intro u s A H x v w y d f sl Q I k l m n h;obtain⟨a,c,rfl,p,t,q⟩:=h;cases k;obtain⟨j,r,g,i⟩:=I.tuple p;have e:j.toArray.size=c.length:=by rw[Qk];exact r.length.symm
 refine⟨"tuple",_,PyProof.Rows.slot_tuple_getitem.lookup,g.typeIs,?_⟩;refine HT.getItem_tuple_cut g l m n (by rw[e];exact t) ?_ (by rw[e];exact i);rw[e];refine⟨.ref s.heap.objs.size,_,I.laid (t':=s.toks) (o:=.tup (cutV c d f)) (λb z q=>Qc _ q) (Qi _) ?_,rfl,q _ (I.hok.fresh (Qi _))⟩;exact⟨QD (zo2 c d f) i,_,(r.drop (HT.sIx c.length 0 d)).take (HT.sIx c.length c.length f-HT.sIx c.length 0 d),TupD.new _ _⟩
inductive yh7 (K:W.Frag)(x:V)(y:V)(H:Hp)(Q:VK):Prop
 | mk (a b xs ys:_)(h0:x = .ref a)(h1:y = .ref b)(h2:SqT K H a xs)(h3:SqT K H b ys)(h4:xs≠[])(h5:xs.length+ys.length<=sizeLine)(h6:(ys=[]->Q (.ref a) H))(h7:(ys≠[]->∀p,H p=none->Q (.ref p) (upd H p (.tup (xs++ys))))):yh7 K x y H Q
def rCatT (K:W.Frag):R2:=λx y H Q=>yh7 K x y H Q
theorem Vals.nil_iff {xs:List V}{us:')'}(r:Vals xs us):us=[]↔xs=[]:=by
 cases r with
 | nil=>simp
 | cons _ _=>simp
theorem op_catT:OpR X (binaryOp .Add) (rCatT X.K):=by
 intro A s E H x y v u Q I f g h;obtain⟨a,b,i,j,rfl,rfl,k,l,m,e,n,p⟩:=h;cases f;cases g;obtain⟨C,d,r,_⟩:=I.tuple k;obtain⟨B,c,t,_⟩:=I.tuple l;refine HT.cat_tup r t (λz=>m (d.nil_iff.mp z)) (λz=>⟨.ref a,H,I,rfl,n (c.nil_iff.mp z)⟩) (λz=>?_) (by rw[<-d.length,<-c.length];exact e);refine⟨.ref s.heap.objs.size,_,I.laid (t':=s.toks) (o:=.tup (i++j)) (λb D q=>Qc _ q) (Qi _) ?_,rfl,p (λw=>z (c.nil_iff.mpr w)) _ (I.hok.fresh (Qi _))⟩;exact⟨by rw[Qr];exact e,_,d.append c,TupD.new _ _⟩
end
noncomputable def ixN (n:Nat)(i:Int):Option Nat:=if 0<=i then(if i<n then some i.toNat else none) else if -(n:Int)<=i then some (i+n).toNat else none
noncomputable def atI {α:Type}(xs:List α)(i:Int):Option α:=(ixN xs.length i).bind λj=>xs[j]?
theorem ixN_seq {n:Nat}{i:Int}{j:Nat}(h:ixN n i=some j):seqIndex? i n=some j/\j<n/\-(n:Int)<=i/\i<n:=by
 unfold ixN at h;by_cases b:0<=i
 . rw[Ql b] at h
   by_cases a:i<n
   . rw[Ql a] at h
     have e:i.toNat=j:=Qx h;exact⟨by rw[seqIndex_of b a,e],by omega,by omega,a⟩
   . rw[Qg a] at h;cases h
 . rw[Qg b] at h
   by_cases a:-(n:Int)<=i
   . rw[Ql a] at h
     have e:(i+n).toNat=j:=Qx h;exact⟨by rw[seqIndex_neg '!' a,e],by omega,a,by omega⟩
   . rw[Qg a] at h;cases h
theorem zY2 {a:Type}{xs:List a}{i:Int}{v:a}(h:atI xs i=some v):∃j,seqIndex? i xs.length=some j/\xs[j]?=some v/\j<xs.length/\-(xs.length:Int)<=i/\i<xs.length:=by
 unfold atI at h;cases e:ixN xs.length i with
 | none=>rw[e] at h;cases h
 | some j =>
   rw[e] at h;obtain⟨b,c,d,f⟩:=ixN_seq e;exact⟨j,b,h,c,d,f⟩
theorem zw5 {a:Type}{xs:List a}{j:Nat}{v:a}(h:xs[j]?=some v):atI xs (j:Int)=some v:=by
 have b:j<xs.length:=(QN.mp h).1;have e:ixN xs.length (j:Int)=some j:=by
   unfold ixN;rw[Ql '!',Ql '!'];simp
 unfold atI;rw[e];exact h
def PlainIx (b:Expr):Prop:=∀o i,subscripted b false o i=operate [o,i] (getItem o i)
def IxR (X:Cx)(r:R2):Prop :=
 ∀(value slice:Expr) (pins:PL) (s:Shared) (σ:St) (H:Hp) (x y:V) (v u:Value) (Q:VK),'%'->RelV x v->RelV y u->r x y H Q →
   subscripted slice false v u=operate [v,u] (getItem v u)->wpAny (model X.prog X.w) X.A (subscriptTail value slice v u) (EP X pins σ Q) X.xe s
def MtR (X:Cx)(id:String)(r:V->List V->Hp->VK->Prop):Prop :=
 ∀(pins:PL) (s:Shared) (σ:St) (H:Hp) (x:V) (xs:List V) (v:Value) (us:')') (Q:VK),'%'->RelV x v->Vals xs us->r x xs H Q →
   wpAny (model X.prog X.w) X.A (call (.builtin id) (v::us)) (EP X pins σ Q) X.xe s
section
variable {X:Cx} {a b:Expr} {ta tb:TE} {pos:Pos}
theorem IxR.or {r d:R2}(h:IxR X r)(h':IxR X d):IxR X (λx y H Q=>r x y H Q\/d x y H Q):=by
 intro a b c s i H x y v u Q I e f q g;rcases q with q | q
 . exact h a b c s i H x y v u Q I e f q g
 . exact h' a b c s i H x y v u Q I e f q g
theorem zc5 {r:R2}(d:IxR X r)(e:PE X a ta)(f:PE X b tb)(g:PlainIx b):PE X (.Subscript a b pos) (tOp r ta tb):=by
 intro c s n H Q I h;exact Subscript_ (binT e f I h λv u i x y j k l m q=>d a b c i n j x y v u Q k l m q (g _ _))
inductive yn1 (K:W.Frag)(x:V)(y:V)(H:Hp)(Q:VK):Prop
 | mk (p xs i v:_)(h0:x = .ref p)(h1:y = .int i)(h2:SqL K H p xs)(h3:atI xs i=some v)(h4:Q v H):yn1 K x y H Q
def rIxL (K:W.Frag):R2:=λx y H Q=>yn1 K x y H Q
inductive yn2 (K:W.Frag)(x:V)(y:V)(H:Hp)(Q:VK):Prop
 | mk (p xs i v:_)(h0:x = .ref p)(h1:y = .int i)(h2:SqT K H p xs)(h3:atI xs i=some v)(h4:Q v H):yn2 K x y H Q
def rIxT (K:W.Frag):R2:=λx y H Q=>yn2 K x y H Q
def rIxS:R2:=λx y H Q=>∃z i c,x = .str z/\y = .int i/\z.length<=sizeLine/\atI z.cps.toList i=some c/\Q (.str ⟨#[c]⟩) H
theorem zc6:IxR X (rIxL X.K):=by
 intro K L d s l H x y v u Q I o A h f;obtain⟨p,M,i,z,rfl,rfl,B,C,q⟩:=h;cases o;obtain⟨t,rfl⟩:=A;obtain⟨m,r,b,N⟩:=I.list B;obtain⟨j,a,D,O,E,F⟩:=zY2 C;obtain⟨w,g,n⟩:=r.get D;have G:=r.length;have P:=zN1;have e:EP X d l Q w s:=⟨z,H,I,n,q⟩;by_cases k:0<=i
 . have c:i.toNat=j:=by
     rw[seqIndex_of k F] at a;exact Qx a
   exact item_listR b.isList k '!' (by rw[c];simpa using g) e f
 . have c:(i+(m.toArray.size:Int)).toNat=j:=by
     rw[seqIndex_neg '!' E] at a;rw[Qk,<-G];exact Qx a
   exact subscriptTail_builtinR (x:=w) b.isList.typeIs slot_list_getitem.lookup
     (wpAny_getItem_list_neg (Q:=λr J=>r=w/\EP X d l Q r J) b.isList '!' (by rw[Qk]<;>omega) '!' (by rw[c];simpa using g) ⟨rfl,e⟩) f
theorem zi2:IxR X (rIxT X.K):=by
 intro D E a s c H x y v u Q I f g h k;obtain⟨p,G,i,z,rfl,rfl,l,m,q⟩:=h;cases f;obtain⟨t,rfl⟩:=g;obtain⟨F,r,b,J⟩:=I.tuple l;obtain⟨j,n,o,K,L,M⟩:=zY2 m;obtain⟨w,A,d⟩:=r.get o;have B:=r.length;have N:=zN1;have e:EP X a c Q w s:=⟨z,H,I,d,q⟩
 exact subscriptTail_builtinR (x:=w) b.typeIs slot_tuple_getitem.lookup
   (getItem_tuple (j:=j) (Q:=λr C=>r=w/\EP X a c Q r C) b '!' '!' (by rw[Qk,<-B];exact n) (by simpa using A) ⟨rfl,e⟩) k
theorem ix_str:IxR X rIxS:=by
 intro p r w s E H x y v u Q I b d h e;obtain⟨z,i,c,rfl,rfl,A,f,q⟩:=h;obtain⟨t,rfl⟩:=b;obtain⟨B,rfl⟩:=d;obtain⟨j,a,g,C,k,l⟩:=zY2 f;have m:z.cps.toList.length=z.length:=by simp[Str.length]
 rw[m] at a k l;have D:=zN1;exact tail_any (typeIs_str s z t) slot_str_getitem.lookup (getItem_str (c:=c) (by
   have n:decide (i < -(2 ^ 63:Int))=false:=Qe '!';have o:decide (i≥2 ^ 63)=false:=Qe '!';rw[n,o,Bool.or_false]) (by rw[a];simpa using g) ⟨.str ⟨#[c]⟩,H,I.tok _,⟨_,rfl⟩,q⟩) e
def rIx (K:W.Frag):R2:=λx y H Q=>rIxL K x y H Q\/rIxT K x y H Q\/rIxS x y H Q
theorem zt5:IxR X (rIx X.K):=zc6.or (zi2.or ix_str)
theorem slice_bounds (lo a:Option Int)(n:Nat):(sliceBounds lo a none n).1=((HT.sIx n 0 lo:Nat):Int)/\(sliceBounds lo a none n).2.1=((HT.sIx n n a:Nat):Int)/\(sliceBounds lo a none n).2.2=1:=by
 refine⟨?_,?_,rfl⟩
 . cases lo with
   | none=>simp[sliceBounds,HT.sIx]
   | some i =>
     simp only[sliceBounds,HT.sIx,Option.getD_none,show(1:Int)>0 by decide,if_true];by_cases h:i<0
     . simp only[h,if_true]<;>omega
     . simp only[h,if_false]<;>omega
 . cases a with
   | none=>simp[sliceBounds,HT.sIx]
   | some i =>
     simp only[sliceBounds,HT.sIx,Option.getD_none,show(1:Int)>0 by decide,if_true];by_cases h:i<0
     . simp only[h,if_true]<;>omega
     . simp only[h,if_false]<;>omega
theorem slicePick_cut (its:')')(lo a:Option Int):slicePick its.toArray lo a none=((its.drop (HT.sIx its.length 0 lo)).take (HT.sIx its.length its.length a-HT.sIx its.length 0 lo)).toArray:=by
 obtain⟨b,c,d⟩:=slice_bounds lo a its.toArray.size;unfold slicePick;rw[b,c,d]
 simp only[sliceRange_one,pick_run,Qk]<;>rfl
inductive yn3 (K:W.Frag)(x:V)(lo:Option Int)(hi:Option Int)(H:Hp)(Q:VK):Prop
 | mk (a xs:_)(h0:x = .ref a)(h1:SqL K H a xs)(h2:∀p,H p=none->Q (.ref p) (upd H p (.lst (cutV xs lo hi)))):yn3 K x lo hi H Q
def rSlL (K:W.Frag):V->Option Int->Option Int->Hp->VK->Prop:=λx lo hi H Q=>yn3 K x lo hi H Q
theorem zY3:SlR X (rSlL X.K):=by
 intro p s z H x v u w d e sl Q I i j k l h;obtain⟨a,c,rfl,m,q⟩:=h;cases i;obtain⟨t,r,f,n⟩:=I.list m;have g:=r.length;refine⟨"list",_,slot_list_getitem.lookup,f.isList.typeIs,?_⟩
 refine wpAny_getItem_list_slice f.isList j k l .none (by simp) ?_ (by rw[Qk]<;>omega);rw[slicePick_cut,<-g];refine⟨.ref s.heap.objs.size,_,I.laid (t':=s.toks) (o:=.lst (cutV c d e)) (λb y q=>Qc _ q) (Qi _) ?_,rfl,q _ (I.hok.fresh (Qi _))⟩;exact⟨QD (zo2 c d e) n,_,0,(r.drop (HT.sIx c.length 0 d)).take (HT.sIx c.length c.length e-HT.sIx c.length 0 d),Qj _ rfl⟩
noncomputable def zK5:V->Bool
 | .non=>true
 | .bl _=>true
 | .int _=>true
 | .str _=>true
 | _=>false
noncomputable def eqV:V->V->Bool
 | .non,.non=>true
 | .bl a,.bl b=>a == b
 | .bl a,.int b=>(if a then 1 else 0) == b
 | .int a,.bl b=>a == (if b then 1 else 0)
 | .int a,.int b=>a == b
 | .str a,.str b=>a == b
 | _,_=>false
theorem eqAt_V {A:Around}{s:Shared}{y x:V}{u v:Value}(e:RelV y u)(c:RelV x v)(g:zK5 y=true)(f:zK5 x=true):SeqAt.EqAt A s u v (eqV y x):=by
 cases y with
 | non =>
   cases e;cases x with
   | non=>cases c;exact SeqAt.EqAt.same _
   | bl b=>cases c;exact SeqAt.EqAt.none_bool b
   | int b=>obtain⟨t,rfl⟩:=c;exact SeqAt.EqAt.none_int b t
   | str b=>obtain⟨t,rfl⟩:=c;exact SeqAt.EqAt.none_str b t
   | _=>exact absurd (show false=true from f) Qp
 | bl a =>
   cases e;cases x with
   | non=>cases c;exact SeqAt.EqAt.bool_none a
   | bl b=>cases c;exact SeqAt.EqAt.bool_bool a b
   | int b=>obtain⟨t,rfl⟩:=c;exact SeqAt.EqAt.bool_int a b t
   | str b=>obtain⟨t,rfl⟩:=c;exact SeqAt.EqAt.bool_str a b t
   | _=>exact absurd (show false=true from f) Qp
 | int a =>
   obtain⟨d,rfl⟩:=e;cases x with
   | non=>cases c;exact SeqAt.EqAt.int_none a d
   | bl b=>cases c;exact SeqAt.EqAt.int_bool a d b
   | int b=>obtain⟨t,rfl⟩:=c;exact SeqAt.EqAt.int_int a d b t
   | str b=>obtain⟨t,rfl⟩:=c;exact SeqAt.EqAt.int_str a d b t
   | _=>exact absurd (show false=true from f) Qp
 | str a =>
   obtain⟨d,rfl⟩:=e;cases x with
   | non=>cases c;exact SeqAt.EqAt.str_none a d
   | bl b=>cases c;exact SeqAt.EqAt.str_bool a d b
   | int b=>obtain⟨t,rfl⟩:=c;exact SeqAt.EqAt.str_int a d b t
   | str b=>obtain⟨t,rfl⟩:=c;exact SeqAt.EqAt.str_str a d b t
   | _=>exact absurd (show false=true from f) Qp
 | _=>exact absurd (show false=true from g) Qp
noncomputable def eqU (x:V)(u:Value):Bool:=match u with
 | .none=>eqV .non x
 | .bool b=>eqV (.bl b) x
 | .int i _=>eqV (.int i) x
 | .str z _=>eqV (.str z) x
 | _=>false
theorem yn4 {x y:V}{u:Value}(r:RelV y u)(f:zK5 y=true):eqU x u=eqV y x:=by
 cases y with
 | non=>cases r;rfl
 | bl b=>cases r;rfl
 | int i=>obtain⟨t,rfl⟩:=r;rfl
 | str z=>obtain⟨t,rfl⟩:=r;rfl
 | _=>exact absurd (show false=true from f) Qp
theorem zY4 {x:V}:∀ {a:List V} {b:')'},Vals a b->a.all zK5=true->b.any (eqU x)=a.any λy=>eqV y x
 | _,_,.nil,_=>rfl
 | y::a,u::b,.cons r t,f=>by
   rw[List.all_cons,Bool.and_eq_true] at f;rw[List.any_cons,List.any_cons,yn4 r f.1,zY4 t f.2]
theorem zN4 {A:Around}{s:Shared}{x:V}{v:Value}(d:RelV x v)(e:zK5 x=true):∀ {b:List V} {c:')'},Vals b c->b.all zK5=true->∀u∈c,SeqAt.EqAt A s u v (eqU x u)
 | _,_,.nil,_=>λu a=>by cases a
 | y::b,u::c,.cons r t,f=>λg a=>by
   rw[List.all_cons,Bool.and_eq_true] at f;rcases Qn.mp a with rfl | a
   . rw[yn4 r f.1];exact eqAt_V r d f.1 e
   . exact zN4 d e t f.2 g a
noncomputable def inV (x:V)(xs:List V):Bool:=xs.any λy=>eqV y x
def rIn (K:W.Frag)(neg:Bool):R2:=λx y H Q=>∃p xs,y = .ref p/\(SqL K H p xs\/SqT K H p xs)/\zK5 x=true/\xs.all zK5=true/\Q (.bl (if neg then !inV x xs else inV x xs)) H
theorem op_in_seq:OpR X (compareOp .In) (rIn X.K false):=by
 intro j s l H x y v u Q I e g h;obtain⟨p,k,rfl,b,f,fs,q⟩:=h;cases g;rcases b with b | b
 . obtain⟨a,r,c,i⟩:=I.list b
   refine SeqAt.in_listAt (eqU x) c.isList (λw d=>zN4 e f r fs w (by simpa using d)) ⟨.bl _,H,I,rfl,?_⟩;rw[show a.toArray.any (eqU x)=a.any (eqU x) by simp,zY4 r fs];exact q
 . obtain⟨a,r,c,i⟩:=I.tuple b
   refine SeqAt.in_tupleAt (eqU x) c (λw d=>zN4 e f r fs w (by simpa using d)) ⟨.bl _,H,I,rfl,?_⟩;rw[show a.toArray.any (eqU x)=a.any (eqU x) by simp,zY4 r fs];exact q
theorem zc1:zi1 X (.builtin "len") (λf H Q=>∃p a,f=[.ref p]/\(SqL X.K H p a\/SqT X.K H p a)/\Q (.int a.length) H):=by
 intro k s n H f l Q I r h;obtain⟨p,a,rfl,b,q⟩:=h;obtain⟨u,rfl,i⟩:=zp8 r;cases i;have m:=zN1;rcases b with b | b
 . obtain⟨g,d,e,j⟩:=I.list b
   have c:=d.length
   exact Calls.call_len_list e.isList (by simp only[Qk]<;>omega) ⟨.int a.length,H,I.tok _,⟨s.toks+1,by rw[Qk,c]⟩,q⟩
 . obtain⟨g,d,e,j⟩:=I.tuple b
   have c:=d.length
   exact len_tuple e (by simp only[Qk]<;>omega) ⟨.int a.length,H,I.tok _,⟨s.toks+1,by rw[Qk,c]⟩,q⟩
theorem zF2:zi1 X (.builtin "len") (λa H Q=>∃z,a=[.str z]/\z.length<=sizeLine/\Q (.int z.length) H):=by
 intro b s f H a c Q I r h;obtain⟨z,rfl,d,q⟩:=h;obtain⟨u,rfl,t,rfl⟩:=zp8 r;have e:=zN1;exact len_str '!' ⟨.int z.length,H,I.tok _,⟨_,rfl⟩,q⟩
theorem zF3:zi1 X (.type "list") (λy H Q=>∃p d,y=[.ref p]/\(SqL X.K H p d\/SqT X.K H p d)/\∀l,H l=none->Q (.ref l) (upd H l (.lst d))):=by
 intro A s D H y E Q I r h;obtain⟨p,d,rfl,i,q⟩:=h;obtain⟨u,rfl,C⟩:=zp8 r;cases C
 have x:∀(c:')'),Vals d c->d.length<=sizeLine->∀(a:Heap) (f:Nat),(∀b z,s.heap.get? b=some z->a.get? b=some z) →
     a.get? s.heap.objs.size=some { cls:=.type "list",dict:=none,data:=.seq c.toArray f,slots:=#[] }->EP X A D Q (.ref s.heap.objs.size) { s with heap:=a }:=λc g j a f k e =>
   ⟨.ref s.heap.objs.size,_,I.laid (t':=s.toks) k (Qi _) (show ze6 X.prog X.w _ a _ (.lst d) from⟨j,c,f,g,e⟩),rfl,q _ (I.hok.fresh (Qi _))⟩
 rcases i with i | i
 . obtain⟨c,g,m,j⟩:=I.list i
   have B:=g.length;obtain⟨o,t,v,n,w⟩:=m.isList
   exact call_list_seq p (.inl rfl) t v w (λa f k e=>x c g j a f k e) (by simp only[Qk]<;>omega)
 . obtain⟨c,g,m,j⟩:=I.tuple i
   have B:=g.length;obtain⟨o,t,v,n,w⟩:=m
   exact call_list_seq p (.inr rfl) t v w (λa f k e=>x c g j a f k e) (by simp only[Qk]<;>omega)
theorem zt6:zi1 X (.type "tuple") (λk H Q=>∃p a,k=[.ref p]/\((SqL X.K H p a/\∀l,H l=none->Q (.ref l) (upd H l (.tup a)))\/(SqT X.K H p a/\Q (.ref p) H))):=by
 intro j s t H k z Q I r h;obtain⟨p,a,rfl,h⟩:=h;obtain⟨u,rfl,v⟩:=zp8 r;cases v;rcases h with⟨f,q⟩ | ⟨f,q⟩
 . obtain⟨d,g,i,m⟩:=I.list f
   have y:=g.length
   refine call_tuple_list i.isList (λc w=>?_) (by simp only[Qk]<;>omega);have n:Inv X j t H { s with heap:=c }:=I.kept (t':=s.toks) w;have x:Inv X j t (upd H c.objs.size (.tup a)) { s with heap:=c.push { cls:=.type "tuple",data:=.seq d.toArray } } :=
     n.laid (t':=s.toks) (λb o e=>Qc _ e) (Qi _) (show ze6 X.prog X.w _ _ _ (.tup a) from⟨m,d,g,TupD.new _ _⟩)
   exact⟨.ref c.objs.size,_,x,rfl,q _ (n.hok.fresh (Qi _))⟩
 . obtain⟨d,g,i,m⟩:=I.tuple f
   exact call_tuple_same i ⟨.ref p,H,I,rfl,q⟩
def tyV (K:W.Frag)(T:String)(x:V)(H:Hp):Prop:=match x with
 | .str _=>T = "str"
 | .int _=>T = "int"
 | .ref p=>(T = "list"/\∃xs,SqL K H p xs)\/(T = "tuple"/\∃o,K.lookup p=some o/\o.cls = .type "tuple"/\o.dict=none) ∨
     (T = "dict"/\((∃kvs,H p=some (.dK kvs))\/∃kvs,H p=some (.dT kvs)))\/(T = "set"/\∃S n,H p=some (.set S n))
 | _=>False
theorem yn5 {k:PL}{u:St}{H:Hp}{s:Shared}{T:String}{x:V}{v:Value}(I:Inv X k u H s)(r:RelV x v)(ty:tyV X.K T x H) :
   s.TypeIs v T/\∀a,v = .ref a->∃h,s.heap.get? a=some h/\h.dict=none:=by
 cases x with
 | str z =>
   obtain⟨t,rfl⟩:=r;cases (show T = "str" from ty);exact⟨typeIs_str s z t,λ_ e=>nomatch e⟩
 | int i =>
   obtain⟨t,rfl⟩:=r;cases (show T = "int" from ty);exact⟨typeIs_int s i t,λ_ e=>nomatch e⟩
 | ref p =>
   cases r;rcases ty with⟨rfl,y,m⟩ | ⟨rfl,o,b,q,f⟩ | ⟨rfl,b⟩ | ⟨rfl,S,n,b⟩
   . obtain⟨w,_,j,_⟩:=I.list m
     refine⟨j.isList.typeIs,λa e=>?_⟩;cases e;obtain⟨o,n,e,c,f,_⟩:=j;exact⟨o,e,f⟩
   . refine⟨⟨o,I.kIn p o b,q⟩,λa e=>?_⟩
     cases e;exact⟨o,I.kIn _ o b,f⟩
   . have z:∃o,s.heap.get? p=some o/\o.ExactDict:=by
       rcases b with⟨l,b⟩ | ⟨l,b⟩
       . obtain⟨_,_,_,_,o,_,_,e,d,_⟩:=I.hok p _ b
         exact⟨o,e,d⟩
       . obtain⟨_,_,_,_,o,_,_,e,d,_⟩:=I.hok p _ b
         exact⟨o,e,d⟩
     obtain⟨o,e,d⟩:=z;refine⟨⟨o,e,d.1⟩,λa g=>?_⟩;cases g;exact⟨o,e,d.2.1⟩
   . obtain⟨o,_,_,_,e,d,_⟩:=I.hok p _ b
     refine⟨⟨o,e,d.1⟩,λa g=>?_⟩;cases g;exact⟨o,e,d.2.1⟩
 | _=>exact False.elim ty
def tBM0 (K:W.Frag)(T:String)(r:V->List V->Hp->VK->Prop)(to:TE):TE:=λσ H Q=>to σ H λx H1=>tyV K T x H1/\r x [] H1 Q
def tBM (K:W.Frag)(T:String)(r:V->List V->Hp->VK->Prop)(to:TE)(t:TA):TE:=λσ H Q=>to σ H λx H1=>tyV K T x H1/\t σ H1 λxs H2=>r x xs H2 Q
variable {o e:Expr} {es:List Expr} {to:TE} {t:TA} {name:Str} {apos cpos:Pos} {T id:String} {r:V->List V->Hp->VK->Prop}
theorem pe_bm0 (j:PlainAttrs T) (g:Slot T name id) (i:typeOf (.builtin id)=pure (.type "method_descriptor")) (k:MtR X id r) (l:PE X o to)
   (e:attributeBase o name X.env (eval o X.env)=eval o X.env:=by rfl) (f:(apos.endLine == cpos.line)=true:=by rfl):PE X (.Call (.Attribute o name apos) [] [] cpos) (tBM0 X.K T r to):=by
 intro a s d H Q I h;refine wpAny_Call_method0_late e f (thn (l a s d H _ I h) λv m ⟨x,n,b,c,p,q⟩=>?_);obtain⟨t,u⟩:=yn5 b c p;exact⟨T,id,j,g,i,t,u,Calls.callWith_builtin rfl (PySem.evalArgs_none (k a m d n x [] v [] Q b c .nil q))⟩
theorem zk5 (n:PlainAttrs T) (k:Slot T name id) (m:typeOf (.builtin id)=pure (.type "method_descriptor")) (p:MtR X id r) (q:PE X o to) (u:PA X (e::es) t)
   (i:attributeBase o name X.env (eval o X.env)=eval o X.env:=by rfl)
   (l:((backTo cpos (starEach (e::es) X.env)).all (λx=>!x.1) && (backToKw cpos (keywordEach [] X.env)).all (λx=>x.1.isSome)
     && decide ((e::es).length+([]:List Keyword).length+(if ([]:List Keyword).isEmpty then 0 else 1)<30))=true:=by rfl)
   (j:(apos.endLine == cpos.line)=true:=by rfl) (w:starEach (e::es) X.env=(false,eval e X.env)::starEach es X.env:=by rfl) (g:(backTo cpos (starEach es X.env)).any (·.1)=false:=by rfl) :
   PE X (.Call (.Attribute o name apos) (e::es) [] cpos) (tBM X.K T r to t):=by
 intro a s b H Q I h;refine wpAny_Call_method_late i l j rfl (thn (q a s b H _ I h) λv y ⟨x,z,c,d,A,B⟩=>?_);obtain⟨C,D⟩:=yn5 c d A;refine⟨T,id,n,k,m,C,D,?_⟩;have f:=u cpos a y b z _ c B;rw[w] at f ⊢
 refine Calls.callWith_builtin (by show(false || (backTo cpos (starEach es X.env)).any (·.1))=false;rw[g]<;>rfl) (Calls.evalArgs_plain ?_);exact thn f λE F ⟨G,J,K,L,M⟩=>p a F b J x G v E Q K d L M
/- xs.append(e),list.index on a module's tuple .. are MtR facts of 06m -/
end
def MtM (X:Cx)(id:String)(r:V->List V->Hp->VK->Prop):Prop :=
 ∀(pins:PL) (s:Shared) (σ:St) (H:Hp) (x:V) (xs:List V) (v:Value) (us:')') (Q:VK),'%'->RelV x v->Vals xs us->r x xs H Q →
   wpAny (model X.prog X.w) X.A (call (.builtin id) (v::us)) (EP X pins σ Q) X.xe s
theorem Vals.one:∀ {x:V} {a:')'},Vals [x] a->∃u,a=[u]/\RelV x u
 | _,_,.cons r .nil=>⟨_,rfl,r⟩
theorem Vals.zero:∀ {a:')'},Vals [] a->a=[]
 | _,.nil=>rfl
theorem Vals.reverse {xs:List V}{us:')'}(h:Vals xs us):Vals xs.reverse us.reverse:=by
 induction h with
 | nil=>exact .nil
 | cons r t a=>rw[List.reverse_cons,List.reverse_cons];exact Vals.append a (.cons r .nil)
theorem Vals.rep {xs:List V}{us:')'}(h:Vals xs us):∀k:Nat,Vals (List.replicate k xs).flatten (List.replicate k us).flatten
 | 0=>.nil
 | k+1=>by
   rw[List.replicate_succ,List.replicate_succ,List.flatten_cons,List.flatten_cons];exact Vals.append h (Vals.rep h k)
theorem zT6 (its:')'):∀(k:Nat) (a:')'),
   List.foldl (λb c=>b++c) a.toArray (List.replicate k its.toArray)=(a++(List.replicate k its).flatten).toArray
 | 0,a=>by simp
 | k+1,a=>by
   have e:a.toArray++its.toArray=(a++its).toArray:=by simp
   have d:(a++its)++(List.replicate k its).flatten=a++(List.replicate (k+1) its).flatten:=by
     rw[List.replicate_succ,List.flatten_cons,QR]
   rw[<-d,<-zT6 its k (a++its),<-e,List.replicate_succ,List.foldl_cons]
section
variable {X:Cx} {pins:PL} {σ:St} {H:Hp} {s:Shared} {l b:Addr} {xs ys zs:List V}
theorem Inv.lset {its its':')'}{n:Nat}{f:Array Value->Array Value}{t':Nat}(I:'%')(a:H l=some (.lst xs))
   (e:s.heap.get? l=some { cls:=.type "list",data:=.seq its.toArray n }) (b:f its.toArray=its'.toArray) (c:Vals ys its') (d:ys.length<=sizeLine) :
   Inv X pins σ (upd H l (.lst ys)) { s with heap:=s.heap.update l (Obj.mapSeq f),toks:=t' }:=by
 have q:=PySem.IsL.update e f;rw[b] at q;refine I.write (x:=l) (e:=l) (by rw[a];exact trivial) (.inl rfl) (λi u g h=>(ZA s.heap (Obj.mapSeq f) (Ne.symm g)).trans h) ⟨_,q⟩ ?_;exact⟨d,its',_,c,q⟩
theorem Inv.lnew {its:')'}{t':Nat}(I:'%')(a:Vals ys its)(b:ys.length<=sizeLine) :
   Inv X pins σ (upd H s.heap.objs.size (.lst ys)) { s with heap:=s.heap.push { cls:=.type "list",data:=.seq its.toArray },toks:=t' } :=
 I.laid (λ_ _ q=>Qc _ q) (Qi _) ⟨b,its,0,a,Qj _ rfl⟩
theorem Inv.fresh (I:'%'):H s.heap.objs.size=none:=I.hok.fresh (Qi _)
theorem Inv.lstM (I:'%') (b:H l=some (.lst xs)):xs.length<=sizeLine/\∃(a:')') (n:Nat),Vals xs a/\xs.length=a.length/\s.heap.get? l=some { cls:=.type "list",data:=.seq a.toArray n }:=by
 obtain⟨z,a,n,r,e⟩:=I.hok l _ b;exact⟨z,a,n,r,r.length,e⟩
theorem yb2 {n:Nat}(h:n<=sizeLine):Builtin.List.listTooLong n=false:=by
 unfold Builtin.List.listTooLong;exact Qe '!'
end
section
variable {X:Cx}
inductive zT7  (x:V)(vs:List V)(H:Hp)(Q:VK):Prop
 | mk (l xs y:_)(h0:x = .ref l)(h1:vs=[y])(h2:H l=some (.lst xs))(h3:xs.length<sizeLine)(h4:Q .non (upd H l (.lst (xs++[y])))):zT7  x vs H Q
def rAppend:V->List V->Hp->VK->Prop:=λx vs H Q=>zT7  x vs H Q
theorem zl6:MtM X "list.append" rAppend:=by
 intro g s p H x i v j Q I c d h;obtain⟨l,k,y,rfl,rfl,b,m,q⟩:=h;cases c;obtain⟨u,rfl,f⟩:=d.one;obtain⟨z,a,n,r,o,e⟩:=I.lstM b;refine call_meets F.slot_list_append ⟨_,e,rfl⟩ F.entry_list_append (F.args_list_append_2 _ _) (PySem.list_append l a.toArray n u (by rw[Qk];omega)) ⟨e,?_⟩;refine⟨.non,_,I.lset (its':=a++[u]) b e (by simp) (r.append (.cons f .nil)) ?_,rfl,q⟩;rw[Qr,List.length_singleton];omega
def rExtend:V->List V->Hp->VK->Prop:=λx vs H Q=>∃l b xs zs,x = .ref l/\vs=[.ref b]/\H l=some (.lst xs)/\H b=some (.lst zs)/\xs.length+zs.length<=sizeLine/\Q .non (upd H l (.lst (xs++zs)))
theorem mt_extend:MtM X "list.extend" rExtend:=by
 intro w s K H x A v B Q I i j h;obtain⟨l,b,C,D,rfl,rfl,d,k,E,q⟩:=h;cases i;obtain⟨u,rfl,m⟩:=j.one;cases m;obtain⟨z,a,n,r,G,e⟩:=I.lstM d;obtain⟨J,c,o,p,y,t⟩:=I.lstM k;have g:a.toArray.size+c.toArray.size<=sizeLine:=by rw[Qk,Qk];omega
 have f:¬ (!a.toArray.isEmpty && Builtin.List.listTooLong (a.toArray.size+c.toArray.size))=true:=by
   rw[yb2 g,Bool.and_false];exact Qp
 refine call_meets F.slot_list_extend ⟨_,e,rfl⟩ F.entry_list_extend (F.args_list_extend_2 _ _)
   (AutoSeq1.list_extend_list_list_0 l a.toArray n b c.toArray o f (by rw[Qk];omega) '!') ⟨e,t,?_⟩
 refine⟨.non,_,I.lset (its':=a++c) d e (by simp) (r.append p) ?_,rfl,q⟩;rw[Qr];omega
def rReverse:V->List V->Hp->VK->Prop:=λx vs H Q=>∃l xs,x = .ref l/\vs=[]/\H l=some (.lst xs)/\Q .non (upd H l (.lst xs.reverse))
theorem mt_reverse:MtM X "list.reverse" rReverse:=by
 intro g s o H x i v j Q I d f h;obtain⟨l,k,rfl,rfl,b,q⟩:=h;cases d;have c:=f.zero;subst c;obtain⟨z,a,n,r,m,e⟩:=I.lstM b;refine call_meets F.slot_list_reverse ⟨_,e,rfl⟩ F.entry_list_reverse (F.args_list_reverse_1 _) (AutoSeq1.list_reverse_list_0 l a.toArray n (by rw[Qk];omega)) ⟨e,?_⟩;refine⟨.non,_,I.lset (its':=a.reverse) b e (by simp) r.reverse ?_,rfl,q⟩;rw[List.length_reverse];omega
inductive yn6  (x:V)(y:V)(H:Hp)(Q:VK):Prop
 | mk (l b xs zs:_)(h0:x = .ref l)(h1:y = .ref b)(h2:H l=some (.lst xs))(h3:H b=some (.lst zs))(h4:xs.length+zs.length<=sizeLine)(h5:∀p,H p=none->Q (.ref p) (upd H p (.lst (xs++zs)))):yn6  x y H Q
def rCat:R2:=λx y H Q=>yn6  x y H Q
theorem op_cat:OpR X (binaryOp .Add) rCat:=by
 intro o s E H x y v u Q I d f h;obtain⟨l,b,t,w,rfl,rfl,g,i,A,q⟩:=h;cases d;cases f;obtain⟨z,c,n,r,B,e⟩:=I.lstM g;obtain⟨C,a,D,j,p,k⟩:=I.lstM i;refine PySem.P.add_list e k ?_ (by rw[Qk,Qk];omega);have m:c.toArray++a.toArray=(c++a).toArray:=by simp
 rw[m];exact⟨.ref _,_,I.lnew (t':=s.toks) (r.append j) (by rw[Qr];omega),rfl,q _ I.fresh⟩
def rRep:R2:=λx y H Q=>∃l k xs,x = .ref l/\y = .int k/\H l=some (.lst xs)/\-(2 ^ 63)<=k/\k<2 ^ 63/\xs.length*k.toNat<=sizeLine ∧
 ∀p,H p=none->Q (.ref p) (upd H p (.lst (List.replicate k.toNat xs).flatten))
theorem zY5 {b:Type}(xs:List b)(k:Nat):(List.replicate k xs).flatten.length=k*xs.length:=by
 induction k with
 | zero=>simp
 | succ k a=>rw[List.replicate_succ,List.flatten_cons,Qr,a,Nat.succ_mul,Nat.add_comm]
theorem yn7:OpR X (binaryOp .Mult) rRep:=by
 intro K s N H x y v u Q I w A h;obtain⟨l,k,L,rfl,rfl,B,C,D,f,q⟩:=h;cases w;obtain⟨t,rfl⟩:=A;obtain⟨z,b,n,r,E,e⟩:=I.lstM B;have i:b.toArray.size*k.toNat<=sizeLine:=by rw[Qk,<-E];exact f
 have j:¬ b.toArray.size*k.toNat>(2 ^ 63-1) / 8:=by
   have:(sizeLine:Nat)<=(2 ^ 63-1) / 8:=by decide
   omega
 have o:¬ (!Builtin.List.listFitsIndex k)=true:=by
   rw[fitsIndex_both C D];exact Qp
 have g:¬ Builtin.List.listTooLong (b.toArray.size*k.toNat)=true:=by
   rw[yb2 i];exact Qp
 have p:List.foldl (λc d=>c++d) #[] (List.replicate (if b.toArray.isEmpty=true then 0 else k.toNat) b.toArray)=(List.replicate k.toNat b).flatten.toArray:=by
   have G:∀m:Nat,List.foldl (λc d=>c++d) #[] (List.replicate m b.toArray)=(List.replicate m b).flatten.toArray:=λm=>by
     have:=zT6 b m [];rw[List.nil_append] at this;exact this
   rw[G];cases b with
   | nil=>simp
   | cons a M=>rw[Qg (by simp)]
 refine wpAny_binaryOp_repeat_ref (T:="list") (U:="int") '&' ⟨_,e,rfl⟩ (λJ=>typeIs_int J k t) noFill_list_mul F.fills_int_mul F.slot_int_rmul repeat_list F.slot_int_index.lookup
   (call_meets F.slot_int_rmul (typeIs_int s k t) F.entry_int_rmul (F.args_int_rmul_2 _ _) (int___rmul___int_list k t l b.toArray n)
     ⟨e,rfl,⟨_,e,rfl⟩,call_meets F.slot_list_mul ⟨_,e,rfl⟩ F.entry_list_mul (F.args_list_mul_2 _ _) (AutoListH.list___mul___list_int_3 l b.toArray n k t o j g) ⟨e,?_⟩⟩)
 rw[p];exact⟨.ref _,_,I.lnew (t':=s.toks) (r.rep k.toNat) (by rw[zY5,Nat.mul_comm];exact f),rfl,q _ I.fresh⟩
end
section
variable {prog:Program} {w:World} {A:Around} {E:VP} {s:Shared}
end
section
variable {X:Cx}
end
end L2
namespace Att
open PySem PySem.W PySem.Calls PyProof.Rows
theorem ints_of_wellAll {P:Params}{h:Heap}:∀(c:'#') (d:')'),WellAll P h d (c.map WData.int)->IntsAre d c:=by
 intro c
 induction c with
 | nil =>
   intro d w;rw[List.map_nil] at w;cases w;exact .nil
 | cons n c e =>
   intro d w;rw[QB] at w;cases w with
   | cons a b =>
     cases a;exact .cons _ _ (e _ b)
theorem script_of {l:OpenLaw}{n:Nat}(s:l.most=some n){P:Params}{h:Heap}{args:List WData}{f:')'}
   (g:l.row.toRowW.claim.pre args=true) (o:WellAll P h f args) :
   ∃a i b,f=[Value.ref a]/\args=[WData.list (b.map WData.int)]/\h.get? a=some { cls:=.type "list",data:=.seq i.toArray }/\IntsAre i b/\b.length<=n:=by
 have p:WShape.hasAll [] args [.list .int]=true:=(pre_splitW g).1;have j:l.pre.holds [] { args:=args }=true:=(pre_splitW g).2;obtain⟨d,r,rfl,t,u⟩:=hasAllW_cons p;obtain rfl:=hasAllW_nil u;obtain⟨A,rfl,v⟩:=hasW_list t;obtain⟨b,rfl⟩:=items_int v;have k:b.length<=n:=by
   unfold OpenLaw.pre at j;have c:(WTm.not (.lt (.lit (.int (n:Int))) (.len (.arg 0)))).holds [] { args:=[.list (b.map .int)] }=true:=by
     have c:=(holds_andW j).1;rw[s] at c;exact c
   have e:=condW_of c (w_not (w_lt w_lit (w_len_list (w_arg rfl))));rw[Qb] at e;refine Nat.le_of_not_lt λq=>?_
   have w:(n:Int)<((b.length:Nat):Int):=by omega
   first
     | (rw[Qh w] at e;exact absurd e '&')
     | (simp at e;omega)
 cases o with
 | cons x y =>
   cases y;cases x with
   | list z m=>exact⟨_,_,b,rfl,rfl,z,ints_of_wellAll b _ m,k⟩
theorem post_true (l:OpenLaw)(args:List WData):l.row.toRowW.claim.post args (.bool true) args=true :=
 postW_of (r:=l.row.toRowW) (X:=(true == true))
   (show WShape.has [] (.bool true) .bool=true by first | rfl | decide | simp[WShape.has,WShape.arms,WShape.armsAll])
   (show(WTm.eq .res (.lit (.bool true))).value [] { args:=args,res:=some (.bool true),after:=args }=some (.bool (true == true)) from w_eq_bool (w_res rfl) w_lit) rfl
theorem attach_call {l:OpenLaw}{n:Nat}{q:Program}{s:List Str}{t:(Str->Option Value)->Heap->Prop}{u:World->Heap->Prop}{d:DefRec}
   (F:l.most=some n) (B:d.params.defaults=[])
   (call:∀(w:World) (m b:Shared) (g mb:Str->Option Value) (e:Addr) (o:Obj) (p h k:Value) (a:Addr) (c:')') (i:'#'),
     Ground q s [] t w m g mb b.heap->u w b.heap →
     b.heap.get? e=some o->o.data = .func (docDef d.name d.params d.body d.scope p h k)->b.heap.CodeRec h d.name->g d.name=some (.ref e) →
     b.heap.get? a=some { cls:=.type "list",data:=.seq c.toArray }->IntsAre c i->i.length<=n->b.gens = #[] →
     codeAny (model l.prog w) callerA (.call (.ref e) ⟨[.ref a],[]⟩) (λr j=>r = .ok (.ret (.bool true))/\OldK b.heap j.heap/\j.os=b.os/\AllBare j.gens) b) :
   WalkO q s t u l.row.toRowW d [] (λf c=>PySem.call f c):=by
 intro w m b g mb G Y e o p h k H kV I J C v D K Q R V y S T E U;obtain rfl:H = .none:=Dflts.none v B;obtain rfl:kV = .none:=Dflts.noKw v;obtain⟨a,c,i,rfl,rfl,z,x,A⟩:=script_of F y E;refine enter_call (codeAny_mono (call w m b g mb e o p h k a c i G Y I (fd_plain J) C D z x A K) λr j L=>?_);obtain⟨rfl,M,N,O⟩:=L;exact⟨.inl ⟨.bool true,.bool true,[],rfl,λ_=>rfl,.bool true,post_true l _,λ_=>⟨List.Pairwise.nil,λ_ P=>(nomatch P)⟩⟩,M,N,O⟩
section
variable {prog:Program} {w:World} {A:Around} {E:VP} {s:Shared} {K:Frag}
end
end Att
namespace L2
open PySem PySem.Spec PyProof.Rows
theorem zB5:∀ {a:')'} {b:'#'},IntsAre a b->Vals (b.map V.int) a
 | _,_,.nil=>.nil
 | _,_,.cons n t h=>.cons ⟨t,rfl⟩ (zB5 h)
def Only (H:Hp):Prop:=∀b,H b=none\/∃o xs,H b=some (.frz o (.lst xs))
theorem law_call {P:Program}{w:World}{K:W.Frag}{i mb:Str->Option Value}{CX:CXT}{k:Nat}{y a:Addr}{fd:FuncData}{x:Str}{sp:Sp}{c:Shared}{vs:')'}{ns:'#'}
   (I:K.In c.heap) (E:c.heap.Ns mainGlobals i) (f:c.heap.Ns builtinsNs mb) (Y:∀x:Str,x≠"__name__"->mb x=bootBuiltins x) (S:c.heap.NoLimit) (hg:c.gens = #[])
   (s:c.heap.get? a=some { cls:=.type "list",data:=.seq vs.toArray }) (J:IntsAre vs ns) (L:ns.length<=sizeLine) (hr:Room k callerA)
   (a2:∀t:Heap,K.In t->t.Ns mainGlobals i->FnOk P w K i t CX k y fd [x] sp) (R:∀(a3:Shared) (u:Value),BindsTo a3 fd ⟨[u],[]⟩ [(x,u)])
   (Z:∀H:Hp,Only H->SqL K H a (ns.map V.int)->sp [.ref a] H (λv _=>v = .bl true) λ_ _ _=>False)
   (a0:∀H e g,CX [] H c (λ_ _ _=>False) e g->False) :
   codeAny (model P w) callerA (.call (.ref y) ⟨[.ref a],[]⟩) (λr g=>r = .ok (.ret (.bool true))/\OldK c.heap g.heap/\g.os=c.os/\AllBare g.gens) c:=by
 have M:=zB5 J;have T:=J.length
 have D:∀H:Hp,Only H->SqL K H a (ns.map V.int)->HOk P w H c.heap->(∀b,H b≠none->b=a)->(H a≠none->K.lookup a=none) →
     codeAny (model P w) callerA (.call (.ref y) ⟨[.ref a],[]⟩) (λr g=>r = .ok (.ret (.bool true))/\OldK c.heap g.heap/\g.os=c.os/\AllBare g.gens) c:=by
   intro H N hS F O hK;have C:∀ {b:Addr} {o:Obj},c.heap.get? b=some o->H b=none->(hidT c.heap H).get? b=some o:=λe a4=>hidT_get e a4
   have a1:∀ {b:Addr} {o:Obj} {j:Array DictEntry} {l:Nat},c.heap.get? b=some o->o.data = .dict j l->H b=none:=λ{b o j l} e d=>by
     cases q:H b with
     | none=>rfl
     | some u =>
       have A:b=a:=O b (by rw[q];simp);subst A;rw[s] at e;cases e;have d':Data.seq vs.toArray _=Data.dict j l:=d;cases d'
   have p:∀ {b:Addr} {m:Str->Option Value},c.heap.Ns b m->(hidT c.heap H).Ns b m:=λ{b m} ⟨o,j,l,e,d,r⟩=>⟨o,j,l,C e (a1 e d),d,r⟩
   have G:K.In (hidT c.heap H):=λb o e=>C (I b o e) (by
     cases q:H b with
     | none=>rfl
     | some u =>
       have A:b=a:=O b (by rw[q];simp);subst A;rw[hK (by rw[q];simp)] at e;cases e)
   have hM:Mod K i (hidT c.heap H):=⟨G,p E,⟨mb,p f,Y⟩,let⟨mc,h1,h2⟩:=S;⟨mc,p h1,h2⟩⟩;have e0:Env0 P w K i (hidT c.heap H) callerA [] c H:=⟨rfl,hM,λb o e=>of_hidT e,Nat.le_of_eq (hidT_size _ _),trivial,λb f=>absurd (show b∈([]:List Addr) from f) (by simp),F,.of_eq hg⟩;refine codeAny_mono ((a2 _ G (p E)).run callerA [] c H ⟨[.ref a],[]⟩ [.ref a] [.ref a] _ _ hr e0 (R c (.ref a)) (.cons rfl .nil) (Z H N hS)) λr g h=>?_
   cases r with
   | error e=>exact(a0 H e g h).elim
   | ok fl =>
     cases fl with
     | next=>exact False.elim h
     | brk=>exact False.elim h
     | cont=>exact False.elim h
     | ret u =>
       obtain⟨v,H',os,U,un,X,r',q⟩:=h;have q':v = .bl true:=q;subst q';obtain rfl:u=Value.bool true:=r';refine⟨rfl,OldK.of_keep λb o e=>?_,os,U⟩;cases q:H b with
       | none=>exact un.keep b o e q (by intro z;exact absurd (show b∈([]:List Addr) from z) (by simp)) (by simp)
       | some u =>
         rcases N b with z | ⟨ob,xs,z⟩
         . rw[q] at z;cases z
         . have z2:=un.frzs b ob _ z
           obtain⟨Q,_⟩:=F b _ z;obtain⟨e2,_⟩:=X b _ z2;rw[e] at Q;cases Q;exact e2
 cases B:K.lookup a with
 | some o =>
   have e:=I a o B;rw[s] at e;cases e;refine D (λ_=>none) (λ_=>.inl rfl) (.inr ⟨_,vs.toArray,_,B,rfl,rfl,rfl,by rw[Qk,T];exact L,by simpa using M⟩) (λb u z=>by have n:(none:Option HO)=some u:=z;cases n) (λb z=>absurd rfl z) λz=>absurd rfl z
 | none =>
   refine D (λb=>if b=a then some (.frz { cls:=.type "list",data:=.seq vs.toArray } (.lst (ns.map V.int))) else none) (λb=>?_) (.inl (.inr ⟨{ cls:=.type "list",data:=.seq vs.toArray },Ql rfl⟩)) (λb u z=>?_) (λb z=>?_) λ_=>B
   . by_cases f:b=a
     . exact .inr ⟨_,_,Ql f⟩
     . exact .inl (Qg f)
   . by_cases f:b=a
     . have n:=(Ql f).symm.trans z
       cases n;subst f;exact⟨s,by rw[Qb];exact L,vs,_,M,s⟩
     . have n:=(Qg f).symm.trans z
       cases n
   . by_cases f:b=a
     . exact f
     . exact absurd (Qg f) z
theorem walk_of {l:W.OpenLaw}{n k:Nat}{q:Program}{y:List Str}{J:(Str->Option Value)->Heap->Prop}{p:World->Heap->Prop}{d:DefRec}{K:Params->W.Frag}{CX:World->CXT}{sp:World->Sp}{x:Str}
   (L:l.most=some n) (B:n<=sizeLine) (C:d.params.defaults=[]) (M:Room k callerA)
   (N:∀(w:World) (h:Heap),p w h->(K w.params).In h)
   (F:∀(w:World) (b:Str->Option Value) (c:Addr) (h:Heap),(K w.params).In h->h.Ns mainGlobals b->b d.name=some (.ref c) →
     ∃j:FuncData,(∀(s:Shared) (u:Value),BindsTo s j ⟨[u],[]⟩ [(x,u)]) ∧
       ∀i:Heap,(K w.params).In i->i.Ns mainGlobals b->FnOk l.prog w (K w.params) b i (CX w) k c j [x] (sp w))
   (D:∀(w:World) (H:Hp) (a:Addr) (g:'#'),g.length<=n->Only H->SqL (K w.params) H a (g.map V.int)->sp w [.ref a] H (λv _=>v = .bl true) λ_ _ _=>False)
   (E:∀(w:World) (H:Hp) (s:Shared) (e:Value) (m:Shared),CX w [] H s (λ_ _ _=>False) e m->False) :
   W.WalkO q y J p l.row.toRowW d [] (λf r=>PySem.call f r):=by
 refine Att.attach_call L C λw Z O b mb c a0 pm cd U a r g G Y ho hd X I A z o P=>?_
 have t:=N w _ Y;obtain⟨j,Q,R⟩:=F w b c _ t G.T.g I;exact law_call t G.T.g G.T.b G.T.builtins G.T.nolimit P A z (QD o B) M R Q (λH S T=>D w H a g o S T) λH e m=>E w H O e m
noncomputable def zl0 (s:Stmt)(j:Nat):Stmt:=match s with
 | .ClassDef _ _ _ body _ _ _ _ _ _ _=>body.getD j (.Pass ⟨0,0,0,0⟩)
 | _=>.Pass ⟨0,0,0,0⟩
noncomputable def zf4 (s:Stmt):Arguments:=match s with
 | .FunctionDef _ a _ _ _ _ _ _ _ _=>a
 | _=>{ posonlyargs:=[],args:=[],vararg:=none,kwonlyargs:=[],kw_defaults:=[],kwarg:=none,defaults:=[] }
noncomputable def zc9 (s:Stmt):List Stmt:=match s with
 | .FunctionDef _ _ b _ _ _ _ _ _ _=>b
 | _=>[]
noncomputable def za5 (s:Stmt):Scope:=match s with
 | .FunctionDef _ _ _ _ _ _ sc _ _ _=>sc
 | _=>{ kind:=.function,names:=[],isGenerator:=false,isCoroutine:=false }
abbrev CX0:CXT:=λ_ _ _ _ _ _=>False
abbrev E0:XK:=λ_ _ _=>False
theorem zb1 {X:Cx}:zn0 CX0 X E0:=λ_ _ _ _ _ _ _ h=>h.elim
structure Fun (K:W.Frag)(x qual:Str)(st:Stmt)(f:Addr)(fd:FuncData):Prop where
 ex:∃(oc:Value) (od:Option Addr) (kV doc pm:Value) (an:Option Addr) (cdv ct:Value) (osl:Array (Option Value)),
   fd=W.fnOf x qual (zf4 st) (zc9 st) (za5 st) .none kV doc pm an cdv ct/\K.lookup f=some ⟨oc,od,.func fd,osl⟩/\W.codeIn K cdv qual=true
 kp:W.keepIn K (.ref f)=true
section
variable {P:Program} {w:World} {K:W.Frag} {mg:Str->Option Value} {base:Heap}
theorem Fun.ok {x d:Str}{st:Stmt}{f:Addr}{fd:FuncData}{N ps:List Str}{k:Nat}{sp:Sp}(F:Fun K x d st f fd)(S:zb2 N ps (za5 st))(len:∀a H Q E,sp a H Q E->a.length=ps.length)
   (e:∀(b:Value) (A:Around) (c:List Env) (s:Shared) (H:Hp) (a:List V) (Q:VK) (E:XK),Room k (A.deeper (envOfC d (za5 st) s.heap.objs.size f b))->sp a H Q E →
     ∃t,PSs (cxOf CX0 P w K mg base N d (za5 st) f b A c s H E).nox (zc9 st) t/\t { nx:=λ_ j=>Q .non j,rt:=Q } (start N a) H):FnOk P w K mg base CX0 (k+1) f fd ps sp:=by
 obtain⟨p,r,kV,n,u,v,b,y,o,rfl,l,g⟩:=F.ex;refine ym9 l g S len λA c s H a Q E m i=>?_
 obtain⟨t,h,q⟩:=e b A c s H a Q E m i;exact⟨t,h.nox,q⟩
theorem Fun.binds {x i:Str}{st:Stmt}{f:Addr}{fd:FuncData}{ps:List Str}(F:Fun K x i st f fd)
   (h:∀(kV a c:Value) (d:Option Addr) (b e:Value) (g:')'),g.length=ps.length->bindArgs (W.fnOf x i (zf4 st) (zc9 st) (za5 st) .none kV a c d b e) ⟨g,[]⟩=pure (ps.zip g)):zj2 K fd ps []:=by
 obtain⟨l,m,kV,a,c,d,b,e,j,rfl,n,k⟩:=F.ex;exact .all (h kV a c d b e)
theorem zN5 {x a:Str}{st:Stmt}{f:Addr}{j:Value}{m e:Option Addr}{i:Array (Option Value)}{kV d g b h:Value}(l:K.lookup f=some ⟨j,m,.func (W.fnOf x a (zf4 st) (zc9 st) (za5 st) .none kV d g e b h),i⟩)
 (c:W.codeIn K b a=true) (k:W.keepIn K (.ref f)=true):Fun K x a st f (W.fnOf x a (zf4 st) (zc9 st) (za5 st) .none kV d g e b h):=⟨⟨j,m,kV,d,g,e,b,h,i,rfl,l,c⟩,k⟩
end
theorem zu9 {A:Around}{k:Nat}(a:Room k A):A.units+1<cLine:=Nat.lt_of_le_of_lt (Nat.add_le_add_left (by decide:1<=64) _) a.units
theorem zd0 {n:Nat}(h:n<=1000):n<sizeLine:=Nat.lt_of_le_of_lt h '&'
section
variable {X:Cx}
theorem pv (i:Nat) {x:Str} {a:Pos} (c:X.N[i]?=some x:=by rfl) (d:Vis X.env.scope x:=by first | exact Or.inl rfl | exact Or.inr '$' | exact Or.inr (Or.inr rfl)) (e:(x == ("__debug__" : Str))=false:=by decide)
 (b:(x == ("__classdict__" : Str))=false:=by decide):PE X (.Name x a) (tVar i):=pe_var c d e b
end
theorem iteF {A B:Prop}(h:B):if false=true then A else B:=by
 rw[Qg Qp];exact h
theorem iteT {A B:Prop}(h:A):if true=true then A else B:=by
 rw[Ql rfl];exact h
theorem ite2 {c A B:Prop}[Decidable c](a:c->A)(b:¬ c->B):if c then A else B:=by
 by_cases h:c
 . rw[Ql h]
   exact a h
 . rw[Qg h]
   exact b h
def Same (H H':Hp):Prop:=∀b o,H b=some o->H' b=some o
theorem Same.refl (H:Hp):Same H H:=λ_ _ h=>h
theorem Same.trans {H d e:Hp}(a:Same H d)(b:Same d e):Same H e:=λc o h=>b c o (a c o h)
theorem Same.free {H H':Hp}(e:Same H H'){l:Addr}(h:H' l=Option.none):H l=Option.none:=by
 cases q:H l with
 | none=>rfl
 | some o =>
   rw[e l o q] at h;cases h
theorem Same.seq {K:W.Frag}{H H':Hp}{a:Addr}{xs:List V}(e:Same H H')(h:SqL K H a xs):SqL K H' a xs:=by
 rcases h with(h | ⟨o,h⟩) | h
 . exact .inl (.inl (e _ _ h))
 . exact .inl (.inr ⟨o,e _ _ h⟩)
 . exact .inr h
theorem cut3 {a b c:TS}{D:Ends}{d:St}{H:Hp}(h:let e:=c;let f:=tSeq b e;tSeq a f D d H):(tSeq a (tSeq b (c))) D d H:=h
theorem cut4 {a b c d:TS}{D:Ends}{e:St}{H:Hp}(h:let f:=d;let g:=tSeq c f;let i:=tSeq b g;tSeq a i D e H):(tSeq a (tSeq b (tSeq c (d)))) D e H:=h
theorem cut5 {a b c d e:TS}{D:Ends}{f:St}{H:Hp}(h:let g:=e;let i:=tSeq d g;let j:=tSeq c i;let k:=tSeq b j;tSeq a k D f H):(tSeq a (tSeq b (tSeq c (tSeq d (e))))) D f H:=h
theorem cut6 {a b c d e f:TS}{D:Ends}{g:St}{H:Hp}(h:let i:=f;let j:=tSeq e i;let k:=tSeq d j;let l:=tSeq c k;let m:=tSeq b l;tSeq a m D g H):(tSeq a (tSeq b (tSeq c (tSeq d (tSeq e (f)))))) D g H:=h
theorem cut7 {a b c d e f g:TS}{D:Ends}{i:St}{H:Hp}(h:let j:=g;let k:=tSeq f j;let l:=tSeq e k;let m:=tSeq d l;let n:=tSeq c m;let o:=tSeq b n;tSeq a o D i H):(tSeq a (tSeq b (tSeq c (tSeq d (tSeq e (tSeq f (g))))))) D i H:=h
theorem cut8 {a b c d e f g i:TS}{D:Ends}{j:St}{H:Hp}(h:let k:=i;let l:=tSeq g k;let m:=tSeq f l;let n:=tSeq e m;let o:=tSeq d n;let p:=tSeq c o;let q:=tSeq b p;tSeq a q D j H):(tSeq a (tSeq b (tSeq c (tSeq d (tSeq e (tSeq f (tSeq g (i)))))))) D j H:=h
theorem cut9 {a b c d e f g i j:TS}{D:Ends}{k:St}{H:Hp}(h:let l:=j;let m:=tSeq i l;let n:=tSeq g m;let o:=tSeq f n;let p:=tSeq e o;let q:=tSeq d p;let r:=tSeq c q;let s:=tSeq b r;tSeq a s D k H):(tSeq a (tSeq b (tSeq c (tSeq d (tSeq e (tSeq f (tSeq g (tSeq i (j))))))))) D k H:=h
theorem cut20 {m n o p q r s t u a b c d e f g i j k l:TS}{D:Ends}{v:St}{H:Hp}(h:let w:=l;let x:=tSeq k w;let y:=tSeq j x;let z:=tSeq i y;let A:=tSeq g z;let B:=tSeq f A;let C:=tSeq e B;let E:=tSeq d C;let F:=tSeq c E;let G:=tSeq b F;let I:=tSeq a G;let J:=tSeq u I;let K:=tSeq t J;let L:=tSeq s K;let M:=tSeq r L;let N:=tSeq q M;let O:=tSeq p N;let P:=tSeq o O;let Q:=tSeq n P;tSeq m Q D v H):(tSeq m (tSeq n (tSeq o (tSeq p (tSeq q (tSeq r (tSeq s (tSeq t (tSeq u (tSeq a (tSeq b (tSeq c (tSeq d (tSeq e (tSeq f (tSeq g (tSeq i (tSeq j (tSeq k (l)))))))))))))))))))) D v H:=h
end L2
namespace L2
inductive X1 {α:Type}(p:α->Prop):Prop | mk (a:α) (h:p a)
inductive X2 {α β:Type}(p:α->β->Prop):Prop | mk (a:α) (b:β) (h:p a b)
inductive X3 {α β γ:Type}(p:α->β->γ->Prop):Prop | mk (a:α) (b:β) (c:γ) (h:p a b c)
inductive X4 {α β γ δ:Type}(p:α->β->γ->δ->Prop):Prop | mk (a:α) (b:β) (c:γ) (d:δ) (h:p a b c d)
inductive X5 {α β γ δ ε:Type}(p:α->β->γ->δ->ε->Prop):Prop | mk (a:α) (b:β) (c:γ) (d:δ) (e:ε) (h:p a b c d e)
inductive A2 (p q:Prop):Prop | mk (h0:p) (h1:q)
inductive A3 (p q r:Prop):Prop | mk (h0:p) (h1:q) (h2:r)
inductive A4 (p q r s:Prop):Prop | mk (h0:p) (h1:q) (h2:r) (h3:s)
inductive A5 (p q r s t:Prop):Prop | mk (h0:p) (h1:q) (h2:r) (h3:s) (h4:t)
inductive A6 (p q r s t u:Prop):Prop | mk (h0:p) (h1:q) (h2:r) (h3:s) (h4:t) (h5:u)
end L2
namespace L2
open PySem PySem.Spec PyProof.Rows
section
variable {prog:Program} {w:World} {A:Around} {R:Result->Shared->Prop} {s:Shared}
theorem compLoop_go {e b k:Expr}{f:List Expr}{scope:Scope}{l:Pos}{d g:Value}{env:Env}(I:Nat->Shared->Prop)
   (z:∀n s,I n s->wpAny '*' A (pyNext d) (λr i=>match r with
     | none=>R (.ok .next) i
     | some v=>wpAny '*' A (letOwnedTupleGo b d v) (λ_ o=>wpAny '*' A (assign b env v) (λ_ p =>
         wpAny '*' A (forIn f true λc r=>if r=true then do let ok <-isTrue c env (eval c env);pure (ForInStep.yield ok) else pure (ForInStep.yield r)) (λok j =>
           if ok=true then wpAny '*' A (eval e env) (λx q =>
             wpAny '*' A (call (.builtin "list.append") [g,x]) (λ_ t=>∃m,m<n/\I m t) (λ_ _=>False) q) (λ_ _=>False) j
           else ∃m,m<n/\I m j) (λ_ _=>False) p) (λ_ _=>False) o) (λ_ _=>False) i) (λ_ _=>False) s)
   (n:Nat) (h:I n s) :
   codeAny '*' A (.compLoop (.ListComp e [⟨b,k,f,0⟩] scope l) 0 d g env) R s:=by
 refine codeAny_loop rfl I (λn s C=>?_) n h;show wpAny _ A ((compTurn (.ListComp e [⟨b,k,f,0⟩] scope l) 0 d g env).onRaise (λx=>do noteFrame x env;theTreesLotGoes x)) _ _ s;refine wpAny_noted ?_;rw[compTurn_list];refine Qa (wpAny_standAt (Qa (Zj (z n s C) (λr i u=>?_) λ_ _ a=>a.elim)));cases r with
 | none=>exact Qd u
 | some v =>
   refine Qa (Zj u (λ_ o B=>?_) λ_ _ a=>a.elim);refine Qa (Zj B (λ_ p D=>Qa (Zj D (λok j y=>?_) λ_ _ a=>a.elim)) λ_ _ a=>a.elim);cases ok with
   | false=>exact Qd ⟨rfl,y⟩
   | true=>exact Qa (Qa (Zj y (λx q E=>Qa (Zj E (λ_ t F=>Qd (Qd ⟨rfl,F⟩)) λ_ _ a=>a.elim)) λ_ _ a=>a.elim))
end
abbrev P0{X:Cx}:=@pv X 0
abbrev P1{X:Cx}:=@pv X 1
abbrev P2{X:Cx}:=@pv X 2
abbrev P3{X:Cx}:=@pv X 3
abbrev P5{X:Cx}:=@pv X 5
abbrev P6{X:Cx}:=@pv X 6
abbrev P7{X:Cx}:=@pv X 7
abbrev P8{X:Cx}:=@pv X 8
abbrev P9{X:Cx}:=@pv X 9
abbrev P10{X:Cx}:=@pv X 10
abbrev P11{X:Cx}:=@pv X 11
theorem zN6 {scope:Scope}{env:Env}(h:∀y∈scope.names,y.2 = .free->∃c,env.cells.lookup y.1=some c) :
   ∃b,closureFor scope env=pure b/\(∀x c,b.lookup x=some c->env.cells.lookup x=some c)/\∀y∈scope.names,y.2 = .free->∃c,b.lookup y.1=some c:=by
 have all:∀(j:List (Str×NameKind)) (d:List (Str×Addr)) (f:Str×NameKind->List (Str×Addr)->Sem (ForInStep (List (Str×Addr)))),
     (∀n k c,f (n,k) c=if k == .free then(do let a <-cellOf env n;pure (.yield ((n,a)::c))) else pure (.yield c)) →
     (∀y∈j,y.2 = .free->∃c,env.cells.lookup y.1=some c)->(∀x c,d.lookup x=some c->env.cells.lookup x=some c) →
     ∃b,forIn j d f=pure b/\(∀x c,b.lookup x=some c->env.cells.lookup x=some c)/\(∀x c,d.lookup x=some c->∃l,b.lookup x=some l)/\∀y∈j,y.2 = .free->∃c,b.lookup y.1=some c:=by
   intro j
   induction j with
   | nil=>intro d f _ _ v;exact⟨d,by rw[List.forIn_nil],v,λx c e=>⟨c,e⟩,λy m=>nomatch m⟩
   | cons y r A =>
     intro d f o m v;obtain⟨n,k⟩:=y;rw[List.forIn_cons,o];by_cases p:k = .free
     . subst p
       obtain⟨c,C⟩:=m (n,.free) QC rfl;have w:env.cells.lookup n=some c:=C;have D:cellOf env n=pure c:=by unfold cellOf;rw[w]
       rw[Ql '&',D,pure_bind,pure_bind];obtain⟨b,e,q,s,t⟩:=A ((n,c)::d) f o (λy g=>m y (Qv _ g)) (λx l e=>by
         rw[Zk] at e;cases i:x == n with
         | true=>rw[i] at e;cases e;rw[eq_of_beq i];exact w
         | false=>rw[i] at e;exact v x l e)
       refine⟨b,e,q,λx l E=>?_,λy g u=>?_⟩
       . cases i:x == n with
         | true=>exact s x c (by rw[Zk,i])
         | false=>exact s x l (by rw[Zk,i];exact E)
       . rcases Qn.mp g with z | z
         . subst z;exact s n c (by rw[Zk];simp)
         . exact t y z u
     . have F:(k == NameKind.free)=false:=by simpa using p
       rw[F];rw[Qg '&',pure_bind];obtain⟨b,e,q,s,t⟩:=A d f o (λy g=>m y (Qv _ g)) v;refine⟨b,e,q,s,λy g u=>?_⟩;rcases Qn.mp g with z | z
       . subst z;exact absurd u p
       . exact t y z u
 have B:∀f:Str×NameKind->List (Str×Addr)->Sem (ForInStep (List (Str×Addr))),
     (∀n k c,f (n,k) c=if k == .free then(do let a <-cellOf env n;pure (.yield ((n,a)::c))) else pure (.yield c)) →
     ∃b,(forIn scope.names [] f >>= λr=>pure r)=pure b/\(∀x c,b.lookup x=some c->env.cells.lookup x=some c)/\∀y∈scope.names,y.2 = .free->∃c,b.lookup y.1=some c:=λf o=>by
   obtain⟨b,e,q,_,t⟩:=all scope.names [] f o h (λx c e=>by cases e);exact⟨b,by rw[e,pure_bind],q,t⟩
 unfold closureFor
 exact B _ (λn k c=>by cases p:k == NameKind.free<;>simp[p])
noncomputable def Cx.comp (X:Cx)(scope:Scope)(cl:List (Str×Addr))(C:Addr)(N':List Str)(s0:Shared)(H0:Hp)(fp:List Addr):Cx :=
 { X with N:=N',s₀:=s0,H₀:=H0,env:=compEnvC scope cl C X.env,outer:=X.stack,ex:=fp,fn:=λ_=>false,pn:=[],xe:=λ_ _=>False }
noncomputable def selS (ix:List (Option Nat))(σ:St):St:=ix.map λo=>o.bind λj=>(σ[j]?).join
structure zd6 (ON:List Str)(osc scope:Scope)(N':List Str)(ix:List (Option Nat)):Prop where
 kind:scope.kind = .function
 nocell:∀y∈scope.names,y.2≠.cell
 names:∀y∈scope.names,y.2 = .local->scope.names.lookup y.1=some .local
 frees:∀y∈scope.names,y.2 = .free->osc.names.lookup y.1=some .cell
 len:ix.length=N'.length
 nd:N'.Nodup
 chk:((ix.zip N').all λp=>match p.1 with | none=>true | some j=>decide (ON[j]?=some p.2) && decide (scope.names.lookup p.2=some .free))=true
theorem zd6.sel {b:List Str}{c scope:Scope}{a:List Str}{ix:List (Option Nat)}(S:zd6 b c scope a ix)(i j:Nat)(x:Str)(d:ix[i]?=some (some j))(e:a[i]?=some x):b[j]?=some x/\scope.names.lookup x=some .free:=by
 have f:(ix.zip a)[i]?=some (some j,x):=by rw[List.getElem?_zip_eq_some];exact⟨d,e⟩
 have:=List.all_eq_true.mp S.chk _ (Qy f);simp only[Bool.and_eq_true,decide_eq_true_eq] at this;exact this
theorem zF4 {env:Env}:∀ {c:List (Str×NameKind)} {x:Str},c.lookup x=some .free →
   ((c.map λ(n,k)=>if (k == NameKind.free && env.scope.kind == .function && env.kindOf n == some .cell) then(n,NameKind.cell) else(n,k)).lookup x=some .cell ∨
    (c.map λ(n,k)=>if (k == NameKind.free && env.scope.kind == .function && env.kindOf n == some .cell) then(n,NameKind.cell) else(n,k)).lookup x=some .free)
 | [],_,h=>by simp at h
 | (n,k)::r,x,h=>by
   have f:=@zF4 env r x;rw[QB];cases a:x == n with
   | true =>
     rw[Zk,a] at h;cases h;by_cases b:(NameKind.free == NameKind.free && env.scope.kind == .function && env.kindOf n == some .cell)=true
     . left;simp only[b,if_true,Zk,a]
     . right
       have d:(NameKind.free == NameKind.free && env.scope.kind == .function && env.kindOf n == some .cell)=false:=by simpa using b
       simp only[d,Zf,if_false,Zk,a]
   | false =>
     rw[Zk,a] at h;have e:=f h;by_cases b:(k == NameKind.free && env.scope.kind == .function && env.kindOf n == some .cell)=true
     . simp only[b,if_true,Zk,a];exact e
     . have d:(k == NameKind.free && env.scope.kind == .function && env.kindOf n == some .cell)=false:=by simpa using b
       simp only[d,Zf,if_false,Zk,a];exact e
theorem zF5 {env:Env}:∀ {c:List (Str×NameKind)} {x:Str},(∀y∈c,y.2≠.cell) →
   ((c.map λ(n,k)=>if (k == NameKind.free && env.scope.kind == .function && env.kindOf n == some .cell) then(n,NameKind.cell) else(n,k)).lookup x=some .cell ∨
    (c.map λ(n,k)=>if (k == NameKind.free && env.scope.kind == .function && env.kindOf n == some .cell) then(n,NameKind.cell) else(n,k)).lookup x=some .free)->(x,NameKind.free)∈c
 | [],_,_,h=>by simp at h
 | (n,k)::r,x,hn,h=>by
   have g:=@zF5 env r x λy i=>hn y (Qv _ i)
   rw[QB] at h;cases f:x == n with
   | true =>
     have e:=eq_of_beq f;subst e;by_cases a:(k == NameKind.free && env.scope.kind == .function && env.kindOf x == some .cell)=true
     . have b:k = .free:=by
         have:=(Bool.and_eq_true_iff.mp (Bool.and_eq_true_iff.mp a).1).1;exact eq_of_beq this
       subst b;exact QC
     . have d:(k == NameKind.free && env.scope.kind == .function && env.kindOf x == some .cell)=false:=by simpa using a
       simp only[d,Zf,if_false,Zk,beq_self_eq_true] at h;rcases h with h | h
       . have b:k = .cell:=Qx h
         exact absurd b (hn (x,k) QC)
       . have b:k = .free:=Qx h
         subst b;exact QC
   | false =>
     refine Qv _ (g ?_);by_cases a:(k == NameKind.free && env.scope.kind == .function && env.kindOf n == some .cell)=true
     . simp only[a,if_true,Zk,f] at h;exact h
     . have d:(k == NameKind.free && env.scope.kind == .function && env.kindOf n == some .cell)=false:=by simpa using a
       simp only[d,Zf,if_false,Zk,f] at h;exact h
section
variable {X:Cx} {pins:PL} {σ:St} {H:Hp} {s:Shared}
theorem Inv.comp {scope:Scope}{t:List Str}{ix:List (Option Nat)}{h:List (Str×Addr)}{k:List Addr}{h':Heap}{t':Nat}(I:'%')(S:zd6 X.N X.env.scope scope t ix)(g:∀b∈k,FpOk X pins H b)(K:∀b∈k,b<s.heap.objs.size)
   (d:∀x c,h.lookup x=some c->X.env.cells.lookup x=some c) (F:∀y∈scope.names,y.2 = .free->∃c,h.lookup y.1=some c)
   (ns:h'.Ns s.heap.objs.size λ_=>none) (sb:∀b o,s.heap.get? b=some o->h'.get? b=some o) :
   Inv (X.comp scope h s.heap.objs.size t s H k) [] (selS ix σ) H { s with heap:=h',toks:=t' }:=by
 have J:∀b∈k,b≠s.heap.objs.size:=λb a=>Qz (K b a)
 have L:∀x c,h.lookup x=some c->∃v,s.heap.IsCell c v:=λx c e=>I.cell x c (d x c e)
 refine⟨⟨I.ok.mod,S.kind,I.ok.glob,I.ok.blt,Qi _,λx y c w A=>I.ok.inj x y c (d x c w) (d y c A),λx M=>?_,λx c z=>(by cases z),I.ok.hd,I.ok.frames,.inl rfl,λb a=>⟨J b a,λx c e=>?_⟩,I.bs,QD I.ok.bsz I.sz,λb o e a=>?_,λb a N=>?_,I.stack,I.stkFree⟩,
   rfl,I.bare,Un.kept sb,⟨_,ns,λi x v w A Z=>?_⟩,λx c e=>?_,I.hok.fresh (Qi _),λx c e=>I.freeC x c (d x c e),λp O=>(by cases O),I.hok.kept sb,?_⟩
 . obtain⟨c,e⟩:=F (x,.free) (zF5 S.nocell M) rfl
   exact⟨c,e⟩
 . exact(g b a).2.2.2.2.1 x c (d x c e)
 . rcases(g b a).2.2.2.1 with z | z
   . exact I.ok.noex b o e z
   . exact absurd (QJ (Qo (I.ok.bs b o e).1) z) (Nat.lt_irrefl _)
 . rcases Qn.mp (I.stkSub b N) with z | z
   . exact(g b a).2.1 z
   . exact(g b a).2.2.1 z
 . -- what the block sees
   have f:ix[i]?.map (λo=>o.bind λj=>(σ[j]?).join)=some (some v):=by
     have:=A;unfold selS at this
     rwa [QK] at this
   cases B:ix[i]? with
   | none=>rw[B] at f;cases f
   | some o =>
     rw[B] at f;cases o with
     | none=>cases f
     | some j =>
       have l:(σ[j]?).join=some v:=Qx f;have P:σ[j]?=some (some v):=by
         cases q:σ[j]? with
         | none=>rw[q] at l;cases l
         | some z=>rw[q] at l;have:z=some v:=l;rw[this]
       obtain⟨Q,n⟩:=S.sel i j x B w;have G:=S.frees (x,.free) (PySem.mem_of_lookup n) rfl;obtain⟨m,_,R⟩:=I.loc;obtain⟨u,r,T⟩:=R j x v Q P (.inr (.inl G));refine⟨u,r,.inr ?_⟩;rcases T with⟨U,_⟩ | ⟨_,c,V,W⟩
       . exact absurd (U.symm.trans G) '&'
       . obtain⟨Y,E⟩:=F (x,.free) (PySem.mem_of_lookup n) rfl
         have:=d x Y E;rw[V] at this;cases this;refine⟨zF4 n,c,E,?_⟩;obtain⟨o,C,D⟩:=W;exact⟨o,sb c o C,D⟩
 . obtain⟨v,o,C,D⟩:=L x c e
   exact⟨v,o,sb c o C,D⟩
 . show(selS ix σ).length=t.length
   unfold selS;rw[Qb];exact S.len
theorem Inv.uncomp {scope:Scope}{d:List Str}{e:List (Str×Addr)}{a:List Addr}{C:Addr}{f:St}{H':Hp}{s':Shared}(I:'%')(c:∀b∈a,FpOk X pins H b)(l:s.heap.objs.size<=C)
   (J:Inv (X.comp scope e C d s H a) [] f H' s'):Inv X pins σ H' s' :=
 I.call' (ch:=a) J.os J.base J.hok J.bare λb g=>by
   obtain⟨m,h,n,i,j,k⟩:=c b g;exact⟨i,h,j,k⟩
end
def zo3 (D:Addr)(telt:TE)(N:St->Hp->Prop):St->Hp->Prop:=λσ H=>telt σ H λv H1=>∃acc,H1 D=some (.lst acc)/\acc.length<sizeLine/\N σ (upd H1 D (.lst (acc++[v])))
def yr5 (wi:TI)(ix:List (Option Nat))(g:TG)(tif:TT)(telt:TE):TE:=λσ H Q=>wi σ H λJ H1=>∀D,H1 D=none->∃W:Nat->Nat->St->Hp->Prop,(∃m,W 0 m (selS ix σ) (upd H1 D (.lst []))) ∧
 ∀i m σ' H',W i m σ' H'->(J.stop i H'/\Q (.ref D) H')\/(J.go i H'/\∃N:St->Hp->Prop,(∀σ2 H2,N σ2 H2->∃m',m'<m/\W (i+1) m' σ2 H2) ∧
   ∀x H2,J.yld i H' x H2->g x σ' H2 λσ3 H3=>tif σ3 H3 λb H4=>if b=true then zo3 D telt N σ3 H4 else N σ3 H4)
def PIfs (X:Cx)(ifs:List Expr)(t:TT):Prop :=
 ∀(pins:PL) (s:Shared) (σ:St) (H:Hp) (Q:Bool->Hp->Prop),'%'->t σ H Q →
   wpAny (model X.prog X.w) X.A (forIn ifs true λc r=>if r=true then do let ok <-isTrue c X.env (eval c X.env);pure (ForInStep.yield ok) else pure (ForInStep.yield r)) (TP X pins σ Q) X.xe s
def zm9:TT:=λ_ H Q=>Q true H
theorem zg8 {X:Cx}:PIfs X [] zm9:=λ_ _ _ H _ I h=>wpAny_tests_nil ⟨H,I,h⟩
theorem yb3 {X:Cx}{c:Expr}{t:TT}(b:PT X c t):PIfs X [c] t:=λa s d H Q I h=>wpAny_tests_one (b a s d H Q I h)
section
variable {X:Cx} {scope:Scope} {N':List Str} {ix:List (Option Nat)} {tg iter elt:Expr} {ifs:List Expr} {pos:Pos} {wi:TI} {g:TG} {tif:TT} {telt:TE}
theorem zN7 {RR:Value->Addr->Result->Shared->Prop}{t:PL}{F:St}{a:Shared}{p:Hp}{it:Addr}{j:List Addr}{G:Nat->Heap->Prop}{J:It}{q:List (Str×Addr)}{Q:VK}{E:VP}
   (hc:X.calm=true) (S:zd6 X.N X.env.scope scope N' ix)
   (c1:∀x c,q.lookup x=some c->X.env.cells.lookup x=some c) (c2:∀y∈scope.names,y.2 = .free->∃c,q.lookup y.1=some c)
   (hg:∀q C H I j,PG (X.comp scope q C N' H I j) tg g) (aq:∀q C H I j,PIfs (X.comp scope q C N' H I j) ifs tif) (he:∀q C H I j,PE (X.comp scope q C N' H I j) elt telt)
   (I2:Inv X t F p a) (T:Turn X.prog X.w X.K tg J j it G) (aa:G 0 a.heap) (f2:∀b∈j,FpOk X t p b)
   (ai:∀D,p D=none->∃W:Nat->Nat->St->Hp->Prop,(∃m,W 0 m (selS ix F) (upd p D (.lst []))) ∧
     ∀i m s H',W i m s H'->(J.stop i H'/\Q (.ref D) H')\/(J.go i H'/\∃N:St->Hp->Prop,(∀σ2 p,N σ2 p->∃O,O<m/\W (i+1) O σ2 p) ∧
       ∀x p,J.yld i H' x p->g x s p λσ3 H3=>tif σ3 H3 λb H4=>if b=true then zo3 D telt N σ3 H4 else N σ3 H4))
   (ar:∀D C k u H' m,Inv X t F H' u->a.heap.objs.size<=k->k<=C->u.heap.Ns C m->FpOk X t H' C->HOk X.prog X.w H' u.heap->Q (.ref D) H'->RR (.ref D) C (.ok .next) u) :
   wpAny (model X.prog X.w) X.A (newList []) (λM k=>wpAny (model X.prog X.w) X.A (newFunctionEnv scope X.env.globals q [] X.env.qual none .none (some X.env)) (λa7 s4 =>
     codeAny (model X.prog X.w) X.A (.compStart (.ListComp elt [⟨tg,iter,ifs,0⟩] scope pos) 0 (.ref it) M { a7 with scope:=relabel scope X.env }) (RR M a7.locals) s4) E k) E a:=by
 have a8:∀b∈j,b<a.heap.objs.size:=λb f=>by
   obtain⟨o,e,_⟩:=T.obj _ _ aa b f;exact Qo e
 obtain⟨W,⟨m0,w0⟩,aj⟩:=ai a.heap.objs.size I2.fresh;refine wpAny_newObj_type (wpAny_newFunctionEnv S.nocell (by intro y hy;simp at hy) (λw V Y=>?_) S.kind);dsimp only at V Y ⊢;have P:Inv X t F (upd p a.heap.objs.size (.lst [])) { a with heap:=a.heap.push { cls:=.type "list",dict:=none,data:=.seq ([]:')').toArray } } :=
   Inv.lnew (its:=[]) (t':=a.toks) I2 .nil (QH _)
 generalize ab:({ a with heap:=a.heap.push { cls:=.type "list",dict:=none,data:=.seq ([]:')').toArray } }:Shared)=k at P;have a0:k.heap=a.heap.push { cls:=.type "list",dict:=none,data:=.seq ([]:')').toArray }:=by rw[<-ab]
 have ak:k.heap.objs.size=a.heap.objs.size+1:=by rw[a0,Zw]
 have au:({ a with heap:=w,toks:=a.toks+([]:List (Str×Value)).length }:Shared) = { k with heap:=w,toks:=a.toks+([]:List (Str×Value)).length }:=by rw[<-ab]
 rw[<-a0] at V Y ⊢;have av:∀b∈j,b≠a.heap.objs.size:=λb f=>Qz (a8 b f)
 have f3:∀b∈j,FpOk X t (upd p a.heap.objs.size (.lst [])) b:=λb f=>⟨by rw[za8 (av b f)];exact(f2 b f).1,(f2 b f).2⟩
 have ac:∀b o,k.heap.get? b=some o->w.get? b=some o:=λb o e=>Y.extBut b o (Qz (Qo e)) (Qc _ e)
 have K:Inv (X.comp scope q k.heap.objs.size N' k (upd p a.heap.objs.size (.lst [])) j) [] (selS ix F) (upd p a.heap.objs.size (.lst [])) { k with heap:=w,toks:=a.toks+([]:List (Str×Value)).length } :=
   P.comp S f3 (λb f=>QJ (a8 b f) (by rw[ak];exact Nat.le_succ _)) c1 c2 V ac
 have ad:G 0 w:=T.keep _ _ _ aa λb f o e=>ac b o (by rw[a0];exact Qc _ e)
 generalize aw:k.heap.objs.size=C at *;generalize h:X.comp scope q C N' k (upd p a.heap.objs.size (.lst [])) j=l at K;have Z:∀ {H':Hp},(∀b∈j,H' b=none)->∀b∈j,FpOk l [] H' b:=λ{H'} hn b f=>by
   subst h;refine⟨hn b f,(K.ok.exf b f).1,K.ok.exfs b f,.inl f,(K.ok.exf b f).2,λbe hp=>(by cases hp)⟩
 rw[au];have a9:codeAny (model X.prog X.w) X.A (.compLoop (.ListComp elt [⟨tg,iter,ifs,0⟩] scope pos) 0 (.ref it) (.ref a.heap.objs.size) (compEnvC scope q C X.env)) (RR (.ref a.heap.objs.size) C) { k with heap:=w,toks:=a.toks+([]:List (Str×Value)).length }:=by
   refine compLoop_go (λn u=>∃i s H',Inv l [] s H' u/\G i u.heap/\(∀b∈j,H' b=none)/\W i n s H') ?_ m0 ⟨0,_,_,K,ad,λb f=>(f3 b f).1,w0⟩;rintro n s5 ⟨i,R,z,I5,ae,af,w5⟩;rcases aj i n R z w5 with⟨al,qn⟩ | ⟨go,N,hN,step⟩
   . have td:=T.done l (by subst h;rfl) (by subst h;rfl) (by subst h;rfl) (by subst h;exact hc) i [] s5 R z (λ_ _=>False) I5 (Z af) ae al
     have A:l.A=X.A:=by subst h;rfl
     rw[A] at td;refine thn td λb9 s6 ⟨hr,U⟩=>?_
     subst hr;subst h;obtain⟨m,ax,_⟩:=U.loc;have I7:Inv X t F z s6:=P.uncomp f3 (Nat.le_of_eq aw) U;refine ar a.heap.objs.size C k.heap.objs.size s6 z m I7 '!' '!' ax ?_ U.hok qn;have ba:=P.fpOk (H':=z) (b:=C) '!' U.free;exact ba
   . have ti:=T.item l (by subst h;rfl) (by subst h;rfl) (by subst h;rfl) (by subst h;exact hc) i [] s5 R z (λ_ _=>False) I5 (Z af) ae go
     have A:l.A=X.A:=by subst h;rfl
     rw[A] at ti;refine thn ti λb9 s6 ⟨bb,hr,h6⟩=>?_
     subst hr;refine thn h6 λ_ s7 ⟨x,H7,I7,r7,y7,a4,ay⟩=>?_
     have az:=I7.pinned (Z ay) (T.obj _ _ a4);have a6:∀ {pl:PL} {r:St} {v:Hp} {B:Shared},Inv l ([]++zI3 j s7.heap) r v B->N r v->∃m,m<n/\∃i s H',Inv l [] s H' B/\G i B.heap/\(∀b∈j,H' b=none)/\W i m s H':=λ{pl r v B} L n8=>by
       obtain⟨O,hm,w8⟩:=hN r v n8;refine⟨O,hm,i+1,r,v,L.unpinned,T.keep _ _ _ a4 λb f o e=>(L.pin (b,o) (QS _ (QS _ (zw4 f e)))).1,λb f=>?_,w8⟩;obtain⟨o,e,d⟩:=T.obj _ _ a4 b f;exact(L.pin (b,o) (QS _ (QS _ (zw4 f e)))).2.1
     have eE:l.env=compEnvC scope q C X.env:=by subst h;rfl
     have eP:l.prog=X.prog:=by subst h;rfl
     have eW:l.w=X.w:=by subst h;rfl
     have eX:l.xe=λ_ _=>False:=by subst h;rfl
     have b0:PG l tg g:=by subst h;exact hg _ _ _ _ _
     have am:PIfs l ifs tif:=by subst h;exact aq _ _ _ _ _
     have b1:PE l elt telt:=by subst h;exact he _ _ _ _ _
     have a1:=b0 _ s7 R H7 x bb _ az r7 (step x H7 y7);rw[eE,eP,eW,A,eX] at a1;refine thn a1 λ_ B ⟨r,v,L,q8⟩=>?_
     have a2:=am _ B r v _ L q8;rw[eE,eP,eW,A,eX] at a2;refine thn a2 λok s9 ⟨H9,I9,q9⟩=>?_
     cases ok with
     | false=>exact a6 (pl:=[]) I9 q9
     | true =>
       have b2:zo3 a.heap.objs.size telt N r H9:=q9;have a3:=b1 _ s9 r H9 _ I9 b2;rw[eE,eP,eW,A,eX] at a3;show wpAny _ _ _ _ _ _;refine thn a3 λy ag ⟨bc,b3,ah,b4,M,hD,hl,b5⟩=>?_
       obtain⟨hz,its,bd,rv,b6⟩:=ah.hok a.heap.objs.size _ hD;have an:=rv.length;refine wpAny_list_append_plain (hsz:=by rw[Qk,<-an];exact Zs hl) ⟨bd,b6⟩ λb7 ao ap=>?_
       obtain⟨k',a5⟩:=ao;have ep:(its.toArray.push y)=(its++[y]).toArray:=by simp
       rw[ep] at a5;have b8:Inv l ([]++zI3 j s7.heap) r (upd b3 a.heap.objs.size (.lst (M++[bc]))) { ag with heap:=b7 } :=
         ah.write (x:=a.heap.objs.size) (e:=a.heap.objs.size) (t':=ag.toks) (by rw[hD];exact trivial) (.inl rfl) (λb o f e=>ap.extBut b o f e) ⟨_,a5⟩ ⟨by rw[Qr];exact hl,its++[y],k',rv.append (.cons b4 .nil),a5⟩
       exact a6 (pl:=[]) b8 b5
 exact codeAny_compStart_list a9 (T.self _ 0 _ _ _ ad a9)
theorem zk0 (u:X.calm=true)(S:zd6 X.N X.env.scope scope N' ix)(v:PI X tg iter wi)
   (w:∀a C d f c,PG (X.comp scope a C N' d f c) tg g) (o:∀a C d f c,PIfs (X.comp scope a C N' d f c) ifs tif) (z:∀a C d f c,PE (X.comp scope a C N' d f c) elt telt)
   (A:∀x,foldedSetIterable iter X.env x=pure x:=by intro _;rfl):PE X (.ListComp elt [⟨tg,iter,ifs,0⟩] scope pos) (yr5 wi ix g tif telt):=by
 intro i s l H Q I h;obtain⟨a,p,B,E⟩:=zN6 (scope:=scope) (env:=X.env) λy F G=>I.ok.has y.1 (.inl (S.frees y F G))
 rw[eval_ListComp];refine wpAny_comprehension_free (use:=none) rfl A p S.kind S.names (thn (v i s l H _ I h) λxv s1 j=>thn j λa1 s2 k=>?_);obtain⟨it,c,tn,a4,H2,e,J,T,r,K,n⟩:=k;subst e;refine zN7 (RR:=λt C=>compPost (model X.prog X.w) X.A X.xe none (EP X i l Q) t C) (Q:=Q) u S B E w o z J T r K n ?_;intro D C s3 L M m N j k O P a2 q;obtain⟨R,U,a3,V,W,Y⟩:=P;refine⟨m,O,λh' sb=>⟨.ref D,M,?_,rfl,q⟩⟩;exact N.turned (t':=L.toks) (λb a0 Z e=>sb.extBut b a0 Z e) R U V W Y
theorem zY6 {i:Nat}{y:Str}{b o:Pos}(L:X.calm=true)(S:zd6 X.N X.env.scope scope N' ix)(M:PI X tg iter wi)
   (N:∀c C f h d,PG (X.comp scope c C N' f h d) tg g) (B:∀c C f h d,PIfs (X.comp scope c C N' f h d) ifs tif) (O:∀c C f h d,PE (X.comp scope c C N' f h d) elt telt)
   (P:X.N.Nodup) (l:X.N[i]?=some y) (p:X.env.scope.names.lookup y=some .local)
   (E:swapsWith (.ListComp elt [⟨tg,iter,ifs,0⟩] scope pos) (some (.Name y b)) o.line X.env=pure true:=by rfl)
   (R:∀x,foldedSetIterable iter X.env x=pure x:=by intro _;rfl):PS X (.Assign [.Name y b] (.ListComp elt [⟨tg,iter,ifs,0⟩] scope pos) o) (tAsg (yr5 wi ix g tif telt) (zp7 i)):=by
 intro k s w a0 n I a1;obtain⟨c,F,T,U⟩:=zN6 (scope:=scope) (env:=X.env) λy l V=>I.ok.has y.1 (.inl (S.frees y l V))
 rw[exec_Assign_Name_used _ _ _ _ E];refine Qa (wpAny_standAt (Qa ?_));show wpAny _ _ (do let _ <-comprehension (.ListComp elt [⟨tg,iter,ifs,0⟩] scope pos) scope X.env _ (newList []) false (eval iter X.env) (some (assign (.Name y b) X.env))) _ _ s
 refine Qa (Zj (wpAny_comprehension_free (use:=some (assign (.Name y b) X.env)) (Q:=λ_ j=>SP X k n .next j) rfl R F S.kind S.names
   (thn (M k s w a0 _ I a1) λxv s1 q=>thn q λa6 s2 r=>?_)) (λ_ j W=>Qd (Qd W)) λ_ _ e=>e)
 obtain⟨it,d,tn,a9,H2,e,Y,a2,G,Z,A⟩:=r;subst e;refine zN7 (RR:=λH C=>compPost (model X.prog X.w) X.A X.xe (some (assign (.Name y b) X.env)) (λ_ j=>SP X k n .next j) H C) (Q:=λv H1=>zp7 i v w H1 n.nx) L S T U N B O Y a2 G Z A ?_;intro D C s3 j H' m I' q r hm hf a7 a3;obtain⟨f0,t,a8,f3,u,f5⟩:=hf;show wpAny _ _ (assign (.Name y b) X.env (.ref D)) _ _ _;refine wpAny_assign_Name (zS6 I' P l (.inl p) (v:=.ref D) rfl (λs4 I4 ⟨a,sb,ha⟩=>?_) (.inr p));have J:C≠a:=by
   rcases ha with z | z
   . rw[z];exact t
   . exact Ne.symm (u y a z)
 refine⟨m,hm.sameBut sb J,λh' K=>⟨_,H',?_,a3⟩⟩;exact I4.turned (t':=s4.toks) (λa4 a5 hb e=>K.extBut a4 a5 hb e) f0 t f3 u f5
end
section
variable {X:Cx}
inductive zT8 (K:W.Frag)(x:V)(vs:List V)(H:Hp)(Q:VK):Prop
 | mk (l:Addr)(ns:'#')(k:Int)(h0:x = .ref l)(h1:vs=[.int k])(h2:SqL K H l (ns.map V.int))(h3:Q (.int (ns.count k:Nat)) H):zT8 K x vs H Q
def yh8 (K:W.Frag):V->List V->Hp->VK->Prop:=λx vs H Q=>zT8 K x vs H Q
theorem zT9:MtR X "list.count" (yh8 X.K):=by
 intro e s m H x g v i Q I a b h;obtain⟨l,c,k,rfl,rfl,d,q⟩:=h;cases a;obtain⟨u,rfl,t,rfl⟩:=b.one;obtain⟨f,r,p,j⟩:=I.list d;exact count_list_ints p.isList (zl3 r) ⟨.int (c.count k:Nat),H,I.tok _,⟨_,rfl⟩,q⟩
inductive zU0 (K:W.Frag)(x:V)(vs:List V)(H:Hp)(Q:VK):Prop
 | mk (l:Addr)(ns:'#')(k:Int)(h0:x = .ref l)(h1:vs=[.int k])(h2:SqT K H l (ns.map V.int))(h3:Q (.int (ns.count k:Nat)) H):zU0 K x vs H Q
def rCountT (K:W.Frag):V->List V->Hp->VK->Prop:=λx vs H Q=>zU0 K x vs H Q
theorem zI5:MtR X "tuple.count" (rCountT X.K):=by
 intro p s D H x A v B Q I f g h;obtain⟨l,i,k,rfl,rfl,j,q⟩:=h;cases f;obtain⟨u,rfl,t,rfl⟩:=g.one;obtain⟨a,r,⟨⟨z,m,w,sl⟩,b,c,n,d⟩,C⟩:=I.tuple j;simp only at c d;subst c d;have e:=zl3 r;refine call_meets PySem.F.slot_tuple_count ⟨_,b,rfl⟩ PySem.F.entry_tuple_count (PySem.F.args_tuple_count_2 _ _) (SeqAt.tuple_countAt l a.toArray n m sl (.int k t) (isInt k)) ⟨b,λy o=>(eq_isInt k t e y (by simpa using o)).at _ _,?_⟩;rw[show a.toArray.toList=a from rfl,countP_isInt k e];exact⟨.int (i.count k:Nat),H,I.tok _,⟨_,rfl⟩,q⟩
def tTM (r:V->List V->Hp->VK->Prop)(to:TE)(t:TA):TE:=λσ H Q=>to σ H λx H1=>(∃p ys,x = .ref p/\H1 p=some (.tup ys))/\t σ H1 λxs H2=>r x xs H2 Q
variable {o e:Expr} {es:List Expr} {to:TE} {t:TA} {name:Str} {apos cpos:Pos} {id:String} {r:V->List V->Hp->VK->Prop}
theorem yn8 (m:Slot "tuple" name id) (q:typeOf (.builtin id)=pure (.type "method_descriptor")) (u:MtR X id r) (w:PE X o to) (y:PA X (e::es) t)
   (k:attributeBase o name X.env (eval o X.env)=eval o X.env:=by rfl)
   (n:((backTo cpos (starEach (e::es) X.env)).all (λx=>!x.1) && (backToKw cpos (keywordEach [] X.env)).all (λx=>x.1.isSome)
     && decide ((e::es).length+([]:List Keyword).length+(if ([]:List Keyword).isEmpty then 0 else 1)<30))=true:=by rfl)
   (l:(apos.endLine == cpos.line)=true:=by rfl) (z:starEach (e::es) X.env=(false,eval e X.env)::starEach es X.env:=by rfl) (j:(backTo cpos (starEach es X.env)).any (·.1)=false:=by rfl) :
   PE X (.Call (.Attribute o name apos) (e::es) [] cpos) (tTM r to t):=by
 intro b s c H Q I h;refine wpAny_Call_method_late k n l rfl (thn (w b s c H _ I h) λv A ⟨x,B,d,C,⟨p,U,D,E⟩,F⟩=>?_);subst D;cases C;obtain⟨_,T,_,f,g,G,J,_⟩:=d.hok p _ E;refine⟨"tuple",id,PySem.F.plainAttrs_tuple,m,q,⟨f,g,G⟩,λa K=>by cases K;exact⟨f,g,J⟩,?_⟩;have i:=y cpos b A c B _ d F;rw[z] at i ⊢
 refine Calls.callWith_builtin (by show(false || (backTo cpos (starEach es X.env)).any (·.1))=false;rw[j]<;>rfl) (Calls.evalArgs_plain ?_);exact thn i λL M ⟨N,O,P,R,S⟩=>u b M c O (.ref p) N _ L Q P rfl R S
inductive ClsV:V->Value->Prop where
 | ty (n:String):ClsV (.ty n) (.type n)
 | own (C:Addr):ClsV (.ref C) (.ref C)
inductive yn9 (K:W.Frag)(xs:List V)(H:Hp)(Q:VK):Prop
 | mk (x cv t c b:_)(h0:xs=[x,cv])(h1:ClsV cv c)(h2:TyOf K H x t)(h3:W.kitOne K t c=some b)(h4:Q (.bl b) H):yn9 K xs H Q
def rIsi (K:W.Frag):List V->Hp->VK->Prop:=λxs H Q=>yn9 K xs H Q
theorem zm1:zi1 X (.builtin "isinstance") (rIsi X.K):=by
 intro k s p H l m Q I r h;obtain⟨x,o,t,c,b,rfl,d,ty,e,q⟩:=h;obtain⟨u,f,rfl,g,a⟩:=zS9 r;have i:f=c:=by
   cases d with
   | ty n=>exact a
   | own C=>exact a
 subst i;exact isinst_ok I g ty e λj=>⟨.bl b,H,I.tok j,rfl,q⟩
theorem zU1 {prog:Program}{w:World}{A:Around}{E:VP}{b t:Addr}{a:Array Value}(f:t≠b):∀(n i:Nat) (s:Shared) (Q:')'->Shared->Prop),s.heap.IsListIter b t i->s.heap.IsList t a->i+n<=a.size →
   (∀d,d.IsListIter b t (i+n)->Heap.SameBut b s.heap d->Q ((a.toList.drop i).take n) { s with heap:=d })->wpAny '*' A (draw (.ref b) n) Q E s
 | 0,i,s,Q,c,_,_,e=>by
   show wpAny _ _ (pure []) Q E s;exact Qd (by simpa using e s.heap c (Heap.SameBut.refl ..))
 | n+1,i,s,Q,c,j,q,e=>by
   have g:i<a.size:=by omega
   show wpAny _ _ (pyNext (.ref b) >>= _) Q E s;refine Qa (wpAny_pyNext_list_item c j (x:=a[i]) (by simp[g]) λr k h=>?_);refine Qa (wpAny_holding (zU1 f n (i+1) _ _ k (j.extBut h.extBut f) '!' λo l m=>Qd ?_));have p:a.toList.drop i=a[i]::a.toList.drop (i+1):=by simp[ZK,g]
   have:=e o (by rw[show i+(n+1)=i+1+n by omega];exact l) (h.trans m);rw[p,List.take_succ_cons] at this;exact this
theorem unpackItems_list {prog:Program}{w:World}{A:Around}{E:VP}{s:Shared}{t:Addr}{a:Array Value}{Q:')'->Shared->Prop}(m:A.handled=none)(c:s.heap.IsList t a)
   (n:∀g,Heap.ExtBut s.heap.objs.size s.heap g->Q a.toList { s with heap:=g }):wpAny '*' A (unpackItems (.ref t) a.size none) Q E s:=by
 have d:t≠s.heap.objs.size:=by obtain⟨o,p,_⟩:=c;exact Qz (Qo p)
 unfold unpackItems;refine Qa ?_
 . unfold notIterableAtAll
   refine Qa (wpAny_specialOf c.typeIs slot_list_iter.lookup ?_);refine Qd ?_;simp only[Zf,if_false];refine Qa (wpAny_holding (wpAny_pyIter_list c ?_));refine Qa (wpAny_holding (zU1 d a.size 0 _ _ ⟨_,Qj _ rfl,rfl,rfl⟩ (c.push _) '!' λq i f=>?_));have j:List.take a.size (List.drop 0 a.toList)=a.toList:=by
     rw[List.drop_zero];exact QV (by simp)
   rw[j];rw[Qg (by simp)];have k:q.IsList t a:=(c.push _).extBut f.extBut d;refine Qa (wpAny_holding (wpAny_pyNext_list_end m i k (by simp) λr l=>?_));simp only[Option.isSome_none,Zf,if_false];refine Qd (n r λb o h e=>l b o h (f.extBut b o h (Qc _ e)))
inductive yo0 (K:W.Frag)(n:Nat)(t:TGs)(v:V)(σ:St)(H:Hp)(Q:St->Hp->Prop):Prop
 | mk (a xs:_)(h0:v = .ref a)(h1:SqL K H a xs)(h2:xs.length=n)(h3:t xs σ H Q):yo0 K n t v σ H Q
def gLst (K:W.Frag)(n:Nat)(t:TGs):TG:=λv σ H Q=>yo0 K n t v σ H Q
theorem yf6 {es:List Expr}{k:Nat}{t:TGs}{n:Nat}{i:Pos}(q:X.calm=true)(h:PGs X es t)
   (w:(assignEach es X.env).length=n:=by rfl) (j:(assignEach es X.env).findIdx? (·.1)=none:=by rfl):PG X (.Tuple es k i) (gLst X.K n t):=by
 intro d s g H v u Q I r c;obtain⟨a,x,y,z,A,c⟩:=c;subst y;cases r;obtain⟨l,f,B,F⟩:=I.list z;have m:=f.length;rw[assign_Tuple];refine Qa (wpAny_standAt ?_);unfold unpack;have p:(assignEach es X.env).length=l.toArray.size:=by rw[w,<-A,m,Qk]
 rw[p,j];refine Qa (wpAny_holding (unpackItems_list (I.ok.hd q) B.isList λC D=>?_));have E:Inv X d g H { s with heap:=C }:=I.kept (t':=s.toks) λb o e=>D b o (Qz (Qo e)) e
 exact h d _ g H x _ Q E (by simpa using f) c
theorem zD1:∀ {b:')'} {c:'#'},IntsAre b c->∃a:List (Int×Tok),b=a.map (λp=>Value.int p.1 p.2)/\a.map (·.1)=c
 | _,_,.nil=>⟨[],rfl,rfl⟩
 | _,_,.cons n t h=>by
   obtain⟨a,d,e⟩:=zD1 h;exact⟨(n,t)::a,by rw[QB,d],by rw[QB,e]⟩
def iSeq (K:W.Frag)(tl:TE):TI:=λσ H R=>tl σ H λx H1=>∃a,x = .ref a/\(((∃xs,SqL K H1 a xs)/\R (Itl K a) H1)\/((∃xs,SqT K H1 a xs)/\R (Itt K a) H1))
theorem pi_seq {n l:Expr}{j:TE}(r:PE X l j):PI X n l (iSeq X.K j):=by
 intro m s A H R I h;refine thn (r m s A H _ I h) λv c ⟨x,k,d,t,u⟩=>?_
 obtain⟨a,e,q⟩:=u;subst e;cases t;rcases q with⟨⟨w,f⟩,q⟩ | ⟨⟨w,f⟩,q⟩
 . obtain⟨i,y,p,z⟩:=d.list f
   refine wpAny_pyIter_list p.isList ?_;refine⟨c.heap.objs.size,[c.heap.objs.size],_,_,k,rfl,d.kept (t':=c.toks) λb o e=>Qc _ e,zS7 a _,⟨_,Qj _ rfl,rfl,rfl⟩,λb g=>?_,q⟩;have e:b=c.heap.objs.size:=by simpa using g
   subst e;exact d.fpOk (Qi _) (d.hok.fresh (Qi _))
 . obtain⟨i,y,p,z⟩:=d.tuple f
   refine wpAny_pyIter_tuple (show c.heap.IsTuple a i.toArray from p) ?_;refine⟨c.heap.objs.size,[c.heap.objs.size],_,_,k,rfl,d.kept (t':=c.toks) λb o e=>Qc _ e,zM8 a _,⟨_,Qj _ rfl,rfl,rfl⟩,λb g=>?_,q⟩;have e:b=c.heap.objs.size:=by simpa using g
   subst e;exact d.fpOk (Qi _) (d.hok.fresh (Qi _))
noncomputable def stE:Stmt->Expr
 | .Assign _ v _=>v
 | .Return (some v) _=>v
 | .Expr v _=>v
 | _=>.Constant .none 0 ⟨0,0,0,0⟩
noncomputable def zy8 (e:Expr)(j:Nat):Expr:=match e with
 | .Call _ as _ _=>as.getD j (.Constant .none 0 ⟨0,0,0,0⟩)
 | _=>.Constant .none 0 ⟨0,0,0,0⟩
noncomputable def zh6:Expr->Scope
 | .ListComp _ _ sc _=>sc
 | _=>{ kind:=.function,names:=[],isGenerator:=false,isCoroutine:=false }
noncomputable def stAt (l:List Stmt)(i:Nat):Stmt:=l.getD i (.Pass ⟨0,0,0,0⟩)
noncomputable def stBody:Stmt->List Stmt
 | .If _ b _ _=>b
 | .For _ _ b _ _=>b
 | .While _ b _ _=>b
 | _=>[]
end
theorem iteB {c:Bool}{A B:Prop}(e:c=false)(h:B):if c=true then A else B:=by
 subst e;exact iteF h
theorem iteA {c:Bool}{A B:Prop}(e:c=true)(h:A):if c=true then A else B:=by
 subst e;exact iteT h
theorem zy9 {a lo b:Int}(c:lo<=a)(d:a<=b):(decide (a<lo) || decide (b<a))=false:=by
 rw[Qe '!',Qe '!'];rfl
theorem zN8 {a b:Int}(h:b<=a):decide (a<b)=false:=Qe '!'
theorem fl0 {f:Str}{v:V}:(putF f v []).length<=1:=zo0 f v []
theorem flS {f:Str}{v:V}{fs:List (Str×V)}{k:Nat}(h:fs.length<=k):(putF f v fs).length<=k+1:=QD (zo0 f v fs) (Nat.succ_le_succ h)
theorem zl4 {fs:List (Str×V)}{k:Nat}(h:fs.length<=k)(a:k<1000:=by decide):fs.length<1000:=Nat.lt_of_le_of_lt h a
def zf7 (p:Addr)(H H':Hp):Prop:=∀b o,H b=some o->b≠p->H' b=some o
theorem Same.upd {H:Hp}{l:Addr}{o:HO}(h:H l=none):Same H (upd H l o):=λb u e=>by
 rw[za8 (zb5 e h)];exact e
theorem Same.updT {H a:Hp}{l:Addr}{o:HO}(s:Same H a)(h:a l=none):Same H (L2.upd a l o):=s.trans (Same.upd h)
theorem Same.tup {K:W.Frag}{H H':Hp}{a:Addr}{xs:List V}(e:Same H H')(h:SqT K H a xs):SqT K H' a xs:=by
 rcases h with(h | ⟨o,h⟩) | h
 . exact .inl (.inl (e _ _ h))
 . exact .inl (.inr ⟨o,e _ _ h⟩)
 . exact .inr h
theorem Same.put {H a:Hp}{l:Addr}{o:HO}(s:Same H a)(h:H l=none):Same H (L2.upd a l o):=λb u e=>by
 rw[za8 (zb5 e h)];exact s b u e
theorem upd_id {H:Hp}{m:Addr}{o:HO}(h:H m=some o):L2.upd H m o=H:=by
 funext b
 by_cases a:b=m
 . subst a;rw[za3,h]
 . rw[za8 a]
theorem mt_countLK {X:Cx} (K:W.Frag) (h:X.K=K):MtR X "list.count" (yh8 K):=h▸zT9
theorem zL2 {X:Cx}(K:W.Frag)(h:X.K=K):IxR X (rIxT K):=h▸zi2
theorem int_at {xs:'#'}{i:Nat}{v:V}(h:(xs.map V.int)[i]?=some v):∃z,v = .int z/\xs[i]?=some z:=by
 rw[QK] at h;cases e:xs[i]? with
 | none=>rw[e] at h;cases h
 | some z=>rw[e] at h;exact⟨z,(Qx h).symm,rfl⟩
theorem zB6 {xs:'#'}{j:Nat}{z:Int}(h:xs[j]?=some z):atI (xs.map V.int) (j:Int)=some (V.int z):=zw5 (by rw[QK,h];rfl)
theorem zi9 {xs:'#'}{i:Int}(h0:0<=i)(b:i<xs.length):atI (xs.map V.int) i=some (.int (xs.getD i.toNat 0)):=by
 obtain⟨j,rfl⟩:∃j:Nat,i=j:=⟨i.toNat,by omega⟩;have a:j<xs.length:=by omega
 rw[zB6 (z:=xs[j]) (by simp[a])];simp[a]
theorem zj0 {a b:Int}:decide (V.int a=V.int b)=decide (a=b):=by
 by_cases h:a=b
 . subst h;simp
 . rw[Qe h,Qe];intro e;cases e;exact h rfl
theorem yb4 {J:It}{c:Hp}{D:Addr}{n:Nat}{x:Nat->V}{f:Nat->V}{j:Nat}{o:St}{r:TE}{Q:Hp->Prop}(E:n<=sizeLine)
   (go:∀i g,i<n->J.go i (upd c D (.lst g))) (st:∀g,J.stop n (upd c D (.lst g))) (u:∀i g v a,i<n->J.yld i (upd c D (.lst g)) v a->a=upd c D (.lst g)/\v=x i)
   (w:∀i g R,i<n->R (f i) (upd c D (.lst g))->r (o.set j (some (x i))) (upd c D (.lst g)) R) (q:Q (upd c D (.lst ((List.range n).map f)))) :
   ∃W:Nat->Nat->St->Hp->Prop,(∃m,W 0 m o (upd c D (.lst []))) ∧
     ∀i m h a,W i m h a->(J.stop i a/\Q a)\/(J.go i a/\∃N:St->Hp->Prop,(∀k d,N k d->∃s,s<m/\W (i+1) s k d) ∧
       ∀v d,J.yld i a v d->zp7 j v h d λp z=>zm9 p z λb t=>if b=true then zo3 D r N p t else N p t):=by
 refine⟨λi m h a=>m=n-i/\i<=n/\(∀v,h.set j (some v)=o.set j (some v))/\a=upd c D (.lst ((List.range i).map f)),⟨n,by simp,QH _,λ_=>rfl,rfl⟩,?_⟩;rintro i m h a ⟨rfl,F,A,rfl⟩;by_cases l:i<n
 . refine .inr ⟨go i _ l,λk d=>(∀v,k.set j (some v)=o.set j (some v))/\d=upd c D (.lst ((List.range (i+1)).map f)),λk d ⟨B,C⟩=>⟨n-(i+1),by omega,rfl,l,B,C⟩,λv d y=>?_⟩
   obtain⟨rfl,rfl⟩:=u i _ v d l y;dsimp only[zp7,zm9];refine iteT ?_;dsimp only[zo3];rw[A];refine w i _ _ l ⟨_,za3,?_,?_,?_⟩
   . rw[Qb,List.length_range];omega
   . intro v;simp
   . rw[zh5,List.range_succ,Qq];rfl
 . have e:i=n:=by omega
   subst e;exact .inl ⟨st _,q⟩
theorem zY7 {K:W.Frag}{H:Hp}{a D:Addr}{xs:List V}{o:HO}(h:SqL K H a xs)(n:H D=none):SqL K (upd H D o) a xs:=(Same.upd n).seq h
theorem zY8 {K:W.Frag}{H:Hp}{a D:Addr}{xs:List V}{o:HO}(h:SqT K H a xs)(n:H D=none):SqT K (upd H D o) a xs:=(Same.upd n).tup h
theorem zD2 {a e:Type}(xs:List a)(d:a)(f:a->e):(List.range xs.length).map (λi=>f (xs.getD i d))=xs.map f:=by
 apply List.ext_getElem
 . simp
 . intro i b c
   simp at b c;simp[b]
theorem yb5 {K:W.Frag}{d:Hp}{a D:Addr}{xs:List V}{f:V->V}{j:Nat}{t:St}{s:TE}{Q:Hp->Prop}(h:SqT K d a xs)(o:d D=none)(B:xs.length<=sizeLine)
   (C:∀x c R,x∈xs->R (f x) (upd d D (.lst c))->s (t.set j (some x)) (upd d D (.lst c)) R) (q:Q (upd d D (.lst (xs.map f)))) :
   ∃W:Nat->Nat->St->Hp->Prop,(∃m,W 0 m t (upd d D (.lst []))) ∧
     ∀i m u g,W i m u g->((Itt K a).stop i g/\Q g)\/((Itt K a).go i g/\∃N:St->Hp->Prop,(∀w k,N w k->∃z,z<m/\W (i+1) z w k) ∧
       ∀v k,(Itt K a).yld i g v k->zp7 j v u k λp E=>zm9 p E λb A=>if b=true then zo3 D s N p A else N p A):=by
 refine yb4 (J:=Itt K a) (n:=xs.length) (x:=λi=>xs.getD i .non) (f:=λi=>f (xs.getD i .non)) B (λi c l=>⟨xs,xs[i],zY8 h o,by simp[l]⟩) (λc=>⟨xs,zY8 h o,Qi _⟩) (λi c v g l y=>?_) (λi c R l r=>?_) ?_
 . obtain⟨e,y⟩:=y
   have:=y xs (zY8 h o);exact⟨e,by rw[Qw,this];rfl⟩
 . refine C _ c R ?_ r
   rw[Qw,Qf l];exact Zu l
 . rw[zD2];exact q
theorem comp_list {K:W.Frag}{d:Hp}{a D:Addr}{xs:List V}{f:V->V}{j:Nat}{t:St}{s:TE}{Q:Hp->Prop}(h:SqL K d a xs)(o:d D=none)(B:xs.length<=sizeLine)
   (C:∀x c R,x∈xs->R (f x) (upd d D (.lst c))->s (t.set j (some x)) (upd d D (.lst c)) R) (q:Q (upd d D (.lst (xs.map f)))) :
   ∃W:Nat->Nat->St->Hp->Prop,(∃m,W 0 m t (upd d D (.lst []))) ∧
     ∀i m u g,W i m u g->((Itl K a).stop i g/\Q g)\/((Itl K a).go i g/\∃N:St->Hp->Prop,(∀w k,N w k->∃z,z<m/\W (i+1) z w k) ∧
       ∀v k,(Itl K a).yld i g v k->zp7 j v u k λp E=>zm9 p E λb A=>if b=true then zo3 D s N p A else N p A):=by
 refine yb4 (J:=Itl K a) (n:=xs.length) (x:=λi=>xs.getD i .non) (f:=λi=>f (xs.getD i .non)) B (λi c l=>⟨xs,xs[i],zY7 h o,by simp[l]⟩) (λc=>⟨xs,zY7 h o,Qi _⟩) (λi c v g l y=>?_) (λi c R l r=>?_) ?_
 . obtain⟨e,y⟩:=y
   have:=y xs (zY7 h o);exact⟨e,by rw[Qw,this];rfl⟩
 . refine C _ c R ?_ r
   rw[Qw,Qf l];exact Zu l
 . rw[zD2];exact q
section
variable {prog:Program} {w:World} {A:Around} {E:VP} {s:Shared}
theorem zN9 {a l:Addr}{i:Nat}{its:Array Value}{x:Value}{Q:VP}(d:s.heap.IsTupleIter a l i)(j:s.heap.IsTuple l its)(k:its[i]?=some x)
   (m:∀e,e.IsTupleIter a l (i+1)->Heap.SameBut a s.heap e->Q x { s with heap:=e }):wpAny '*' A (Builtin.SmallTypes.nextOf (.ref a)) Q E s:=by
 obtain⟨n,c,f,b⟩:=id d;obtain⟨o,g,_,p,h⟩:=j;unfold Builtin.SmallTypes.nextOf;refine Qa (wpAny_callSpecial?_slot (name:=Str.ofString "__next__") d.typeIs F.slot_tuple_iterator_next (wpAny_call_entry F.slot_tuple_iterator_next d.typeIs F.entry_tuple_iterator_next ?_ (F.args_tuple_iterator_next_1 _)));show wpAny _ _ (field (.ref a) 0 >>= _) _ _ s;refine Qa (wpAny_field c b (x:=.ref l) rfl ?_);show wpAny _ _ (if (Value.ref l == Value.none)=true then _ else _) _ _ s;rw[Qg (show ¬ ((Value.ref l == Value.none)=true) from Qp)];show wpAny _ _ (field (.ref a) 1 >>= _) _ _ s;refine Qa (wpAny_field c b (x:=.int i 0) rfl ?_);show wpAny _ _ (seqItems? (.ref l) >>= _) _ _ s;refine Qa (wpAny_seqItems g h ?_);simp only[ZE,k];refine Qa (wpAny_setField c b (by simp) (Qd ⟨x,rfl,Qd (m _ ?_ (Heap.SameBut.update ..))⟩));refine⟨_,Zq _ c (Obj.isFreed_of_fields (Obj.data_mapFields b _)),(Obj.cls_mapFields ..).trans f,?_⟩;rw[Obj.data_mapFields b];simp[rawInt]
theorem nextOf_tup_end {b l:Addr}{i:Nat}{its:Array Value}{Q:VP}(h:A.handled=none)(c:s.heap.IsTupleIter b l i)(n:s.heap.IsTuple l its)(p:its[i]?=none)
   (q:∀g e,Heap.ExtBut b s.heap g->(∃o,g.get? e=some o/\o.cls = .type "StopIteration")->E (.ref e) { s with heap:=g }):wpAny '*' A (Builtin.SmallTypes.nextOf (.ref b)) Q E s:=by
 obtain⟨t,d,r,f⟩:=id c;obtain⟨u,j,_,v,k⟩:=n;unfold Builtin.SmallTypes.nextOf;refine Qa (wpAny_callSpecial?_slot (name:=Str.ofString "__next__") c.typeIs F.slot_tuple_iterator_next (wpAny_call_entry F.slot_tuple_iterator_next c.typeIs F.entry_tuple_iterator_next ?_ (F.args_tuple_iterator_next_1 _)));show wpAny _ _ (field (.ref b) 0 >>= _) _ _ s;refine Qa (wpAny_field d f (x:=.ref l) rfl ?_);show wpAny _ _ (if (Value.ref l == Value.none)=true then _ else _) _ _ s;rw[Qg (show ¬ ((Value.ref l == Value.none)=true) from Qp)];show wpAny _ _ (field (.ref b) 1 >>= _) _ _ s;refine Qa (wpAny_field d f (x:=.int i 0) rfl ?_);show wpAny _ _ (seqItems? (.ref l) >>= _) _ _ s;refine Qa (wpAny_seqItems j k ?_);simp only[ZE,p];refine Qa (wpAny_rule (Qa (wpAny_setField d f (by simp) ?_)));show wpAny _ _ (newExc (.type "StopIteration") [] >>= _) _ _ _;refine Qa ?_;simp only[newExc,newTuple];refine Qa (wpAny_newObj_type ?_ (by size_fits));refine Qa (m:=firstArgMember _ _) (wpAny_of_eq (a:=Value.none) (by first | rfl | (simp only[firstArgMember];rfl)) ?_);refine wpAny_newObj_type ?_ (by size_fits);simp only[raiseNew];refine Qa (wpAny_handled ?_);first | rw[show A.in1.handled=none from h] | rw[h]
 refine Qa (Qd (wpAny_throw ?_));exact q _ _ (((Heap.SameBut.update ..).extBut.push _).push _) ⟨_,Qj _ rfl,rfl⟩
structure yf7 (z TI TO i1 i2:Addr):Prop where
 TIz:TI≠z
 TOz:TO≠z
 i1z:i1≠z
 i2z:i2≠z
 TITO:TI≠TO
 TIi1:TI≠i1
 TIi2:TI≠i2
 TOi1:TO≠i1
 TOi2:TO≠i2
 i12:i1≠i2
structure ZAt (h:Heap)(z TI TO i1 i2 l1 l2:Addr)(f0:Value)(i:Nat):Prop where
 hz:IsZip h z TI TO f0
 hTI:IsPair h TI (.ref i1) (.ref i2)
 hTO:∃a b,IsPair h TO a b
 h1:h.IsTupleIter i1 l1 i
 h2:h.IsTupleIter i2 l2 i
theorem zip_item {z TI TO i1 i2 g h:Addr}{k:Nat}{xs ys:Array Value}{x y:Value}{Q:Option Value->Shared->Prop}(D:yf7 z TI TO i1 i2)(L:∀l,l=g\/l=h->l≠z/\l≠TO/\l≠i1/\l≠i2)(a6:ZAt s.heap z TI TO i1 i2 g h .none k)
   (a1:s.heap.IsTuple g xs) (a2:s.heap.IsTuple h ys) (hx:xs[k]?=some x) (hy:ys[k]?=some y)
   (hQ:∀t,ZAt t z TI TO i1 i2 g h (rawInt s.heap.objs.size) (k+1)->IsPair t s.heap.objs.size x y →
     (∀c o,c≠z->c≠TO->c≠i1->c≠i2->s.heap.get? c=some o->t.get? c=some o)->Q (some (.ref s.heap.objs.size)) { s with heap:=t }) :
   wpAny '*' A (pyNext (.ref z)) Q E s:=by
 obtain⟨j,N,⟨a7,b,a3⟩,h1,h2⟩:=a6;obtain⟨a4,aa,ab,ac⟩:=L g (.inl rfl);obtain⟨a5,Z,a0,ad⟩:=L h (.inr rfl);have P:s.TypeIs (.ref z) "zip":=⟨_,j,rfl⟩;unfold pyNext;refine Qa (wpAny_attempt (wpAny_callSpecial?_slot (name:=Str.ofString "__next__") P F.slot_zip_next (wpAny_call_entry F.slot_zip_next P F.entry_zip_next ?_ (F.args_zip_next_1 _))));show wpAny _ _ (field (.ref z) 2 >>= _) _ _ _;refine Qa (wpAny_field j rfl (x:=.bool false) rfl ?_);show wpAny _ _ (field (.ref z) 3 >>= _) _ _ _;refine Qa (wpAny_field j rfl (x:=.ref TI) rfl ?_);refine Qa (wpAny_seqItems N rfl ?_);show wpAny _ _ (Builtin.SmallTypes.ownedTupleIsFree (.ref z) >>= _) _ _ _;refine Qa ?_;unfold Builtin.SmallTypes.ownedTupleIsFree;refine Qa (wpAny_field j rfl (x:=.none) rfl (Qd ?_));simp only[if_true];refine Qa (wpAny_rule (Qa (wpAny_field j rfl (x:=.ref TO) rfl ?_)));refine Qa (wpAny_setField_rec j (by simp) λg1 G d=>?_);replace G:IsZip g1 z TI TO .ellipsis:=G;refine Qa ?_;simp only[List.zipIdx_cons,List.zipIdx_nil,List.forIn_cons,List.forIn_nil];refine Qa (Qa (wpAny_onRaise ?_));show wpAny _ _ (Builtin.SmallTypes.nextOf (.ref i1) >>= _) _ _ _;refine Qa (zN9 (h1.extBut d.extBut D.i1z) (a1.extBut d.extBut a4) hx λg2 j1 m=>Qd ?_);have R:IsPair g2 TO a7 b:=m.extBut _ _ D.TOi1 (d.extBut _ _ D.TOz a3);refine Qa (wpAny_seqItems R rfl (Qa (wpAny_updateSeq_pair R λg3 H n=>?_)));replace H:IsPair g3 TO x b:=H;refine Qa (wpAny_letGo (Qd ?_));refine Qa (Qa (wpAny_onRaise ?_));show wpAny _ _ (Builtin.SmallTypes.nextOf (.ref i2) >>= _) _ _ _;refine Qa (zN9 (((h2.extBut d.extBut D.i2z).extBut m.extBut D.i12.symm).extBut n.extBut D.TOi2.symm) (((a2.extBut d.extBut a5).extBut m.extBut a0).extBut n.extBut Z) hy λg4 j2 p=>Qd ?_);have S:IsPair g4 TO x b:=p.extBut _ _ D.TOi2 H;refine Qa (wpAny_seqItems S rfl (Qa (wpAny_updateSeq_pair S λa u q=>?_)));replace u:IsPair a TO x y:=u;refine Qa (wpAny_letGo (Qd (Qd ?_)));refine Qa (wpAny_seqItems u rfl (Qa (wpAny_newTuple ?_)));have sz:a.objs.size=s.heap.objs.size:=by rw[q.1,p.1,n.1,m.1,d.1]
 have T:IsZip a z TI TO .ellipsis:=q.extBut _ _ D.TOz.symm (p.extBut _ _ D.i2z.symm (n.extBut _ _ D.TOz.symm (m.extBut _ _ D.i1z.symm G)));have U:∀c o,c≠z->c≠TO->c≠i1->c≠i2->s.heap.get? c=some o->a.get? c=some o:=λc o f v I J e=>q.extBut _ _ v (p.extBut _ _ J (n.extBut _ _ v (m.extBut _ _ I (d.extBut _ _ f e))))
 have m1:a.IsTupleIter i1 g (k+1):=((j1.extBut n.extBut D.TOi1.symm).extBut p.extBut D.i12).extBut q.extBut D.TOi1.symm;have m2:a.IsTupleIter i2 h (k+1):=j2.extBut q.extBut D.TOi2.symm;have V:z<a.objs.size:=Qo T;show wpAny _ _ (Builtin.SmallTypes.ownedTupleHandOut (.ref z) (.ref a.objs.size) >>= _) _ _ _;refine Qa ?_;unfold Builtin.SmallTypes.ownedTupleHandOut;have z6:IsZip (a.push { cls:=.type "tuple",data:=.seq #[x,y] }) z TI TO .ellipsis:=Qc _ T;refine Qa (wpAny_setField_rec z6 (by simp) λg7 K W=>?_);replace K:IsZip g7 z TI TO (rawInt a.objs.size):=K;refine wpAny_setField_rec K (by simp) λr B X=>?_
 replace B:IsZip r z TI TO (rawInt a.objs.size):=B;have C:∀c o,c≠z->a.get? c=some o->r.get? c=some o:=λc o f e=>X.extBut _ _ f (W.extBut _ _ f (Qc _ e))
 have Y:IsPair r a.objs.size x y:=X.extBut _ _ (Nat.ne_of_gt V) (W.extBut _ _ (Nat.ne_of_gt V) (Qj _ rfl));rw[sz] at B Y;refine Qd ⟨_,rfl,Qd ?_⟩;show Q (some (.ref a.objs.size)) _;rw[sz];have O:∀ {M l:Addr} {i:Nat},a.IsTupleIter M l i->M≠z->r.IsTupleIter M l i:=λa8 ne=>let⟨o,ho,a9⟩:=a8;⟨o,C _ o ne ho,a9⟩
 exact hQ r ⟨B,C _ _ D.TIz (U _ _ D.TIz D.TITO D.TIi1 D.TIi2 N),⟨x,y,C _ _ D.TOz u⟩,O m1 D.i1z,O m2 D.i2z⟩ Y λc o f v I J e=>C c o f (U c o f v I J e)
theorem zip_end {z TI TO i1 i2 g B:Addr}{k:Nat}{xs:Array Value}{Q:Option Value->Shared->Prop}(C:A.handled=none)(D:yf7 z TI TO i1 i2)(L:g≠z)(Z:ZAt s.heap z TI TO i1 i2 g B .none k)
   (u:s.heap.IsTuple g xs) (G:xs[k]?=none)
   (H:∀l,(∀c o,c≠z->c≠TO->c≠i1->c≠i2->s.heap.get? c=some o->l.get? c=some o)->Q none { s with heap:=l }):wpAny '*' A (pyNext (.ref z)) Q E s:=by
 obtain⟨d,v,⟨a,b,P⟩,I,R⟩:=Z;have m:s.TypeIs (.ref z) "zip":=⟨_,d,rfl⟩;unfold pyNext;refine Qa (wpAny_attempt (wpAny_callSpecial?_slot (name:=Str.ofString "__next__") m F.slot_zip_next (wpAny_call_entry F.slot_zip_next m F.entry_zip_next ?_ (F.args_zip_next_1 _))));show wpAny _ _ (field (.ref z) 2 >>= _) _ _ _;refine Qa (wpAny_field d rfl (x:=.bool false) rfl ?_);show wpAny _ _ (field (.ref z) 3 >>= _) _ _ _;refine Qa (wpAny_field d rfl (x:=.ref TI) rfl ?_);refine Qa (wpAny_seqItems v rfl ?_);show wpAny _ _ (Builtin.SmallTypes.ownedTupleIsFree (.ref z) >>= _) _ _ _;refine Qa ?_;unfold Builtin.SmallTypes.ownedTupleIsFree;refine Qa (wpAny_field d rfl (x:=.none) rfl (Qd ?_));simp only[if_true];refine Qa (wpAny_rule (Qa (wpAny_field d rfl (x:=.ref TO) rfl ?_)));refine Qa (wpAny_setField_rec d (by simp) λJ h i=>?_);replace h:IsZip J z TI TO .ellipsis:=h;refine Qa ?_;simp only[List.zipIdx_cons,List.zipIdx_nil,List.forIn_cons,List.forIn_nil];refine Qa (Qa (wpAny_onRaise ?_));show wpAny _ _ (Builtin.SmallTypes.nextOf (.ref i1) >>= _) _ _ _;refine Qa (nextOf_tup_end C (I.extBut i.extBut D.i1z) (u.extBut i.extBut L) G λK e n M=>?_);obtain⟨N,f,j⟩:=M;have p:IsZip K z TI TO .ellipsis:=n _ _ D.i1z.symm h;have y:e≠z:=λq=>by subst q;rw[p] at f;cases f;simp at j
 refine wpAny_setField_rec p (by simp) λS _ r=>?_
 refine Qa (wpAny_isInstance (T:="StopIteration") (b:=true) ⟨N,r.extBut _ _ y f,j⟩ isSubtype_stop ?_);exact Qd (H _ λc o t _ O _ q=>r.extBut _ _ t (n _ _ O (i.extBut _ _ t q)))
noncomputable abbrev zp1 (h:Heap) (l1:Addr):Heap:=h.push { cls:=.type "tuple_iterator",data:=.fields #[.ref l1,.int 0 0] }
noncomputable abbrev zp2 (h:Heap) (l1 l2:Addr):Heap:=(zp1 h l1).push { cls:=.type "tuple_iterator",data:=.fields #[.ref l2,.int 0 0] }
noncomputable abbrev zp3 (h:Heap) (l1 l2:Addr):Heap:=(zp2 h l1 l2).push { cls:=.type "tuple",data:=.seq #[.ref h.objs.size,.ref (zp1 h l1).objs.size] }
noncomputable abbrev zp4 (h:Heap) (l1 l2:Addr):Heap:=(zp3 h l1 l2).push { cls:=.type "tuple",data:=.seq #[.none,.none] }
noncomputable abbrev zp5 (h:Heap) (l1 l2:Addr):Heap:=(zp4 h l1 l2).push { cls:=.type "zip",data:=.fields #[.none,.bool false,.bool false,.ref (zp2 h l1 l2).objs.size,.ref (zp3 h l1 l2).objs.size] }
theorem zip_made (a b:Addr)(xs ys:Array Value) :
   Meets (Builtin.«zip.__new__» ⟨[.type "zip",.ref a,.ref b],[]⟩) (λ_ R s=>s.heap.IsTuple a xs/\s.heap.IsTuple b ys/\R (.ok (.ret (.ref (zp4 s.heap a b).objs.size))) { s with heap:=zp5 s.heap a b }) :=
 .of_wp λm w A R s h=>by
   obtain⟨c,g,d,e,f⟩:=s;obtain⟨i,j,h⟩:=h;have n:=sub_zip;have k:Heap.IsTuple (Shared.heap ⟨c,g,d,e,f⟩) a xs:=i;have l:Heap.IsTuple (Shared.heap ⟨c.push { cls:=.type "tuple_iterator",data:=.fields #[.ref a,.int 0 0] },g,d,e,f⟩) b ys:=Heap.IsTuple.push j _
   wp_walk using wpAny_pyIter_tuple k,wpAny_pyIter_tuple l
   exact⟨_,rfl,h⟩
theorem zip_call {a b:Addr}{xs ys:Array Value}{Q:VP}(n:s.heap.IsTuple a xs)(p:s.heap.IsTuple b ys)
   (h:∀d,ZAt d (s.heap.objs.size+4) (s.heap.objs.size+2) (s.heap.objs.size+3) s.heap.objs.size (s.heap.objs.size+1) a b .none 0 →
     (∀c o,s.heap.get? c=some o->d.get? c=some o)->Q (.ref (s.heap.objs.size+4)) { s with heap:=d }):wpAny '*' A (call (.type "zip") [.ref a,.ref b]) Q E s:=by
 refine callType_new F.called_zip '&' (F.typeCall_zip_2 _ _) (F.newCall_zip_2 _ _) (λq=>F.args_object_init_3 q _ _) F.entry_zip_new (zip_made a b xs ys) ⟨n,p,?_⟩;have e:(zp1 s.heap a).objs.size=s.heap.objs.size+1:=Zw ..;have f:(zp2 s.heap a b).objs.size=s.heap.objs.size+2:=by rw[Zw,e]
 have g:(zp3 s.heap a b).objs.size=s.heap.objs.size+3:=by rw[Zw,f]
 have j:(zp4 s.heap a b).objs.size=s.heap.objs.size+4:=by rw[Zw,g]
 have i:(zp5 s.heap a b).get? (zp4 s.heap a b).objs.size=some _:=Qj _ rfl;have k:(zp5 s.heap a b).get? (zp3 s.heap a b).objs.size=some _:=Qc _ (Qj _ rfl);have l:(zp5 s.heap a b).get? (zp2 s.heap a b).objs.size=some _:=Qc _ (Qc _ (Qj _ rfl));have m:(zp5 s.heap a b).get? (zp1 s.heap a).objs.size=some _:=Qc _ (Qc _ (Qc _ (Qj _ rfl)));have r:(zp5 s.heap a b).get? s.heap.objs.size=some _:=Qc _ (Qc _ (Qc _ (Qc _ (Qj _ rfl))));show _/\_;rw[f,g,j] at i;rw[e,f] at l;rw[g] at k;rw[e] at m;rw[j];refine⟨⟨_,i,rfl⟩,h _ ⟨i,l,⟨_,_,k⟩,⟨_,r,rfl,rfl⟩,⟨_,m,rfl,rfl⟩⟩ λc o x=>?_⟩;exact Qc _ (Qc _ (Qc _ (Qc _ (Qc _ x))))
end
noncomputable def Itz (l1 l2:Addr):It :=
 ⟨λi H=>∃xs ys x y,H l1=some (.tup xs)/\H l2=some (.tup ys)/\xs[i]?=some x/\ys[i]?=some y,
  λi H v H'=>∃p xs ys x y,H p=none/\v = .ref p/\H l1=some (.tup xs)/\H l2=some (.tup ys)/\xs[i]?=some x/\ys[i]?=some y/\H'=upd H p (.tup [x,y]),
  λi H=>∃xs ys,H l1=some (.tup xs)/\H l2=some (.tup ys)/\xs.length<=i⟩
theorem turn_zip {P:Program}{w:World}{K:W.Frag}{es:List Expr}{k0:Nat}{tp:Pos}{r E z TI TO i1 i2:Addr}(D:yf7 z TI TO i1 i2) :
   Turn P w K (.Tuple es k0 tp) (Itz r E) [z,TI,TO,i1,i2] z (λi h=>ZAt h z TI TO i1 i2 r E .none i) where
 mem:=by simp
 obj:=λi h Z b f=>by
   obtain⟨F,B,⟨a,c,C⟩,⟨N,G,c1,d1⟩,⟨O,J,c2,d2⟩⟩:=Z;simp only[Qn,QM,or_false] at f;rcases f with rfl | rfl | rfl | rfl | rfl
   . exact⟨_,F,λv q=>by cases (show Data.fields _=Data.cell v from q)⟩
   . exact⟨_,B,λv q=>by cases (show Data.seq _ _=Data.cell v from q)⟩
   . exact⟨_,C,λv q=>by cases (show Data.seq _ _=Data.cell v from q)⟩
   . exact⟨N,G,λv q=>by rw[d1] at q;cases q⟩
   . exact⟨O,J,λv q=>by rw[d2] at q;cases q⟩
 keep:=λi h S Z k=>by
   obtain⟨F,B,⟨a,c,C⟩,⟨N,G,r1⟩,⟨O,J,r2⟩⟩:=Z;exact⟨k z (by simp) _ F,k TI (by simp) _ B,⟨a,c,k TO (by simp) _ C⟩,⟨N,k i1 (by simp) _ G,r1⟩,⟨O,k i2 (by simp) _ J,r2⟩⟩
 item:=by
   intro X T U V d i a3 s σ H a7 I t Z Y;subst T U V;obtain⟨xs,ys,x,y,u,Q,ex,ey⟩:=Y;obtain⟨_,vx,rx,tx⟩:=I.hok r _ u;obtain⟨_,vy,ry,ty⟩:=I.hok E _ Q;obtain⟨a0,hu,ru⟩:=rx.get ex;obtain⟨v,hv,rv⟩:=ry.get ey;have n:∀b∈[z,TI,TO,i1,i2],H b=none:=λb f=>(t b f).1
   have a8:∀l,l=r\/l=E->l≠z/\l≠TO/\l≠i1/\l≠i2:=λl hl=>by
     have hs:∃o,H l=some o:=by
       rcases hl with e | e
       . exact⟨_,by rw[e];exact u⟩
       . exact⟨_,by rw[e];exact Q⟩
     obtain⟨o,p⟩:=hs;exact⟨zb5 p (n z (by simp)),zb5 p (n TO (by simp)),zb5 p (n i1 (by simp)),zb5 p (n i2 (by simp))⟩
   refine zip_item D a8 Z (show s.heap.IsTuple r vx.toArray from tx.isTup) (show s.heap.IsTuple E vy.toArray from ty.isTup) (x:=a0) (y:=v) (by simpa using hu) (by simpa using hv) λS L hp kk=>?_
   refine⟨_,rfl,wpAny_letOwnedTupleGo_zip L.hz λh2 a4 sb=>?_⟩;have j:∀c o,c∉[z,TO,i1,i2]->s.heap.get? c=some o->h2.get? c=some o:=λc o d e=>sb.extBut _ _ (λq=>d (by simp[q])) (kk c o (λq=>d (by simp[q])) (λq=>d (by simp[q])) (λq=>d (by simp[q])) (λq=>d (by simp[q])) e)
   have M:∀c o,H c=some o->c∉[z,TO,i1,i2]:=λc o e g=>by
     have:H c=none:=n c (by simp only[Qn,QM,or_false] at g ⊢;rcases g with q | q | q | q<;>simp[q]);rw[this] at e;cases e
   have a5:z<s.heap.objs.size:=Qo Z.hz;have a6:IsPair h2 s.heap.objs.size a0 v:=sb.extBut _ _ (Nat.ne_of_gt a5) hp;have A:H s.heap.objs.size=none:=I.fresh;have I2:Inv X a3 σ (upd H s.heap.objs.size (.tup [x,y])) { s with heap:=h2 }:=by
     refine I.step (g':=s.gens) (d':=s.drawn) (t':=s.toks) (ch:=[z,TO,i1,i2]) (λb f=>?_) (λb o _ _ d e _=>j b o d e) (λb o _ _ d e _=>⟨o.slots,j b o d e⟩)
       (λb o _ e a1=>by rw[za8 (Qz (Qo e))];exact a1)
       (λb o d e=>⟨o,j b o d e⟩) (λb zs e=>by rw[za8 (zb5 e A)];exact e) (λb o zs e=>by rw[za8 (zb5 e A)];exact e) (λb ps e=>⟨#[],by rw[za8 (zb5 e A),e];simp⟩) (λm g=>?_) (λb o e=>?_) I.bare
     . obtain⟨f0,f1,f2,f3,f4,f5⟩:=t b (by simp only[Qn,QM,or_false] at f ⊢;rcases f with q | q | q | q<;>simp[q])
       exact⟨f3,f1,f4,f5⟩
     . obtain⟨o,R,ep,p,a2⟩:=g
       refine⟨o,R,ep,j _ o (λg=>?_) p,a2⟩
       exact(t X.env.locals (by simp only[Qn,QM,or_false] at g ⊢;rcases g with q | q | q | q<;>simp[q])).2.1 rfl
     . by_cases f:b=s.heap.objs.size
       . subst f
         rw[za3] at e;cases e;exact⟨(by show 2<=sizeLine;decide),[a0,v],.cons ru (.cons rv .nil),⟨_,a6,rfl,rfl,_,rfl⟩⟩
       . rw[za8 f] at e
         refine(I.hok b o e).stay (λc v d q=>j c v ?_ q) (λc q=>by rw[za8 (zb5 q A)];exact q) λc zs q=>by rw[za8 (zb5 q A)];exact q
         rcases d with rfl | d
         . exact M _ _ e
         . exact M _ _ d
   exact⟨.ref s.heap.objs.size,_,I2,rfl,⟨_,xs,ys,x,y,A,rfl,u,Q,ex,ey,rfl⟩,⟨a4,sb.extBut _ _ D.TIz L.hTI,(let⟨a,c,q⟩:=L.hTO;⟨a,c,sb.extBut _ _ D.TOz q⟩),L.h1.extBut sb.extBut D.i1z,L.h2.extBut sb.extBut D.i2z⟩,λb f=>by
     rw[za8]
     . exact n b f
     . obtain⟨o,e,_⟩:∃o,s.heap.get? b=some o/\True:=by
         simp only[Qn,QM,or_false] at f;obtain⟨F,B,⟨a,c,C⟩,⟨N,G,_⟩,⟨O,J,_⟩⟩:=Z;rcases f with rfl | rfl | rfl | rfl | rfl
         . exact⟨_,F,trivial⟩
         . exact⟨_,B,trivial⟩
         . exact⟨_,C,trivial⟩
         . exact⟨_,G,trivial⟩
         . exact⟨_,J,trivial⟩
       exact Qz (Qo e)⟩
 done:=by
   intro X T U V d i a3 s σ H a7 I t Z Y;subst T U V;obtain⟨xs,ys,u,Q,a9⟩:=Y;obtain⟨_,vx,rx,tx⟩:=I.hok r _ u;have aa:=rx.length;have n:∀b∈[z,TI,TO,i1,i2],H b=none:=λb f=>(t b f).1
   refine zip_end (I.ok.hd d) D (zb5 u (n z (by simp))) Z (show s.heap.IsTuple r vx.toArray from tx.isTup) (by simp;omega) λS kk=>⟨rfl,?_⟩
   have j:∀c o,c∉[z,TO,i1,i2]->s.heap.get? c=some o->S.get? c=some o:=λc o d e=>kk c o (λq=>d (by simp[q])) (λq=>d (by simp[q])) (λq=>d (by simp[q])) (λq=>d (by simp[q])) e
   have M:∀c o,H c=some o->c∉[z,TO,i1,i2]:=λc o e g=>by
     have:H c=none:=n c (by simp only[Qn,QM,or_false] at g ⊢;rcases g with q | q | q | q<;>simp[q]);rw[this] at e;cases e
   refine I.step (g':=s.gens) (d':=s.drawn) (t':=s.toks) (ch:=[z,TO,i1,i2]) (λb f=>?_) (λb o _ _ d e _=>j b o d e) (λb o _ _ d e _=>⟨o.slots,j b o d e⟩) (λ_ _ _ _ a1=>a1)
     (λb o d e=>⟨o,j b o d e⟩) (λ_ _ e=>e) (λ_ _ _ e=>e) (λb ps e=>⟨#[],by rw[e];simp⟩) (λm g=>?_) (λb o e=>?_) I.bare
   . obtain⟨f0,f1,f2,f3,f4,f5⟩:=t b (by simp only[Qn,QM,or_false] at f ⊢;rcases f with q | q | q | q<;>simp[q])
     exact⟨f3,f1,f4,f5⟩
   . obtain⟨o,R,ep,p,a2⟩:=g
     refine⟨o,R,ep,j _ o (λg=>?_) p,a2⟩
     exact(t X.env.locals (by simp only[Qn,QM,or_false] at g ⊢;rcases g with q | q | q | q<;>simp[q])).2.1 rfl
   . refine(I.hok b o e).stay (λc v d q=>j c v ?_ q) (λ_ q=>q) λ_ _ q=>q
     rcases d with rfl | d
     . exact M _ _ e
     . exact M _ _ d
 self:=λ_ _ _ _ _ Z h=>wpAny_pyIter_zip Z.hz h
section
variable {X:Cx} {es:List Expr} {k0:Nat} {tp:Pos}
def iZip (ta:TA):TI:=λσ H R=>ta σ H λvs H1=>∃l1 l2 xs ys,vs=[.ref l1,.ref l2]/\H1 l1=some (.tup xs)/\H1 l2=some (.tup ys)/\R (Itz l1 l2) H1
theorem pi_zip {a b:Expr} {n:TA} {p k:Pos} (y:Gl X "zip") (z:X.mg "zip" = none) (A:PA X [a,b] n) (B:starEach [a,b] X.env=[(false,eval a X.env),(false,eval b X.env)]:=by rfl) (l:starEach [b] X.env=[(false,eval b X.env)]:=by rfl) :
   PI X (.Tuple es k0 tp) (.Call (.Name "zip" p) [a,b] [] k) (iZip n):=by
 intro g s v H a0 I h;refine Call_ (zI1 I y z boot_zip (PyProof.Rows.callWith_type1 (thn (A k g s v H _ I h) λQ c ⟨R,o,f,C,D⟩=>?_) (by rw[B,l]) (by rw[l];rfl)));obtain⟨r,t,S,T,e,E,F,q⟩:=D;subst e;obtain⟨U,V,rfl,w,x⟩:=zS9 C;cases w;cases x;obtain⟨_,G,W,J⟩:=f.hok r _ E;obtain⟨_,K,Y,L⟩:=f.hok t _ F;refine zip_call (show c.heap.IsTuple r G.toArray from J.isTup) (show c.heap.IsTuple t K.toArray from L.isTup) λM Z N=>?_
 refine wpAny_pyIter_zip Z.hz ?_;have O:Inv X g v o { c with heap:=M }:=f.kept (t':=c.toks) N;have d:∀i j:Nat,i≠j->c.heap.objs.size+i≠c.heap.objs.size+j:=λi j P=>by omega
 refine⟨_,_,_,_,o,rfl,O,turn_zip (es:=es) (k0:=k0) (tp:=tp) (TI:=c.heap.objs.size+2) (TO:=c.heap.objs.size+3) (i1:=c.heap.objs.size) (i2:=c.heap.objs.size+1) ⟨d 2 4 '&',d 3 4 '&',d 0 4 '&',d 1 4 '&',d 2 3 '&',d 2 0 '&',d 2 1 '&',d 3 0 '&',d 3 1 '&',d 0 1 '&'⟩,Z,λb u=>?_,q⟩;have m:c.heap.objs.size<=b:=by
   simp only[Qn,QM,or_false] at u
   rcases u with rfl | rfl | rfl | rfl | rfl<;>first | exact Nat.le_add_right _ _ | exact Qi _
 exact f.fpOk m (f.hok.fresh m)
theorem call_sum (o:X.calm=true):zi1 X (.builtin "sum") (λe H Q=>∃l a,e=[.ref l]/\SqL X.K H l (a.map V.int)/\PySem.SumFits a/\Q (.int a.sum) H):=by
 intro E s M H e F Q I r h;obtain⟨l,a,rfl,t,i,q⟩:=h;obtain⟨u,rfl,v⟩:=zp8 r;cases v;obtain⟨m,w,p,G⟩:=I.list t;obtain⟨b,x,f⟩:=zD1 (zl3 w);have y:m.toArray=intItems b.toArray:=by
   unfold intItems;rw[x];simp
 have g:=p.isList;rw[y] at g;have c:∀j,numAt b.toArray j=a.getD j 0:=λj=>by
   unfold numAt;rw[<-f];simp[Qw,QK]
 have d:∀j,j<=a.length->preSum (numAt b.toArray) j=(a.take j).sum:=by
   intro j
   induction j with
   | zero=>intro _;rfl
   | succ j z =>
     intro A;show preSum (numAt b.toArray) j+numAt b.toArray j=_;rw[z '!',c,QY,List.sum_append];have:a[j]?=some (a[j]' '!'):=by simp
     rw[Qw,this];simp
 have k:b.toArray.size=a.length:=by rw[<-f];simp
 refine sum_intList (I.ok.hd o) g (λj A=>?_) λJ K L B=>?_
 . have n:j<a.length:=by omega
   obtain⟨C,D⟩:=i j n;rw[c,d (j+1) '!'];exact⟨C,D⟩
 . rw[k,d a.length (Qi _),QO]
   exact⟨.int a.sum,H,I.kept B,⟨_,rfl⟩,q⟩
theorem pg_tupK {es:List Expr}{k:Nat}{t:TGs}{n:Nat}{a:Pos}(K:W.Frag)(c:X.K=K)(d:X.calm=true)(h:PGs X es t)
 (e:(assignEach es X.env).length=n:=by rfl) (b:(assignEach es X.env).findIdx? (·.1)=none:=by rfl):PG X (.Tuple es k a) (gTup K n t):=c▸ym2 d h e b
end
theorem comp_zip {K:W.Frag}{e:Hp}{k l D:Addr}{xs ys:List V}{f:V->V->V}{rest:St}{o:TE}{Q:Hp->Prop}(r:e k=some (.tup xs))(t:e l=some (.tup ys))(P:xs.length=ys.length)(C:e D=none)(hn:xs.length<=sizeLine)
   (S:∀(i:Nat) x y c R,xs[i]?=some x->ys[i]?=some y->Same e c->R (f x y) c->o (some x::some y::rest) c R) (q:∀c,Same e c->c D=some (.lst (List.zipWith f xs ys))->Q c) :
   ∃W:Nat->Nat->St->Hp->Prop,(∃m,W 0 m (none::none::rest) (upd e D (.lst []))) ∧
     ∀i m g c,W i m g c->((Itz k l).stop i c/\Q c)\/((Itz k l).go i c/\∃N:St->Hp->Prop,(∀j d,N j d->∃E,E<m/\W (i+1) E j d) ∧
       ∀v d,(Itz k l).yld i c v d->gTup K 2 (ym0 (zp7 0) (ym0 (zp7 1) gNil)) v g d λu T=>zm9 u T λb F=>if b=true then zo3 D o N u F else N u F):=by
 have U:(List.zipWith f xs ys).length=xs.length:=by rw[ZI,P,Nat.min_self]
 refine⟨λi m g c=>m=xs.length-i/\i<=xs.length/\(∃a b,g=a::b::rest)/\Same e c/\c D=some (.lst ((List.zipWith f xs ys).take i)),⟨xs.length,by simp,QH _,⟨_,_,rfl⟩,Same.upd C,by rw[za3];rfl⟩,?_⟩;rintro i m g c ⟨rfl,hi,⟨a,b,rfl⟩,s,n⟩;by_cases z:i<xs.length
 . have X:xs[i]?=some xs[i]:=by simp[z]
   have Y:ys[i]?=some (ys[i]' '!'):=by simp
   refine .inr ⟨⟨xs,ys,_,_,s _ _ r,s _ _ t,X,Y⟩,λj d=>(∃a b,j=a::b::rest)/\Same e d/\d D=some (.lst ((List.zipWith f xs ys).take (i+1))),λj d h=>⟨xs.length-(i+1),by omega,rfl,z,h.1,h.2.1,h.2.2⟩,?_⟩;rintro v d ⟨p,I,J,G,H,w,rfl,L,M,A,B,rfl⟩;have Z:I=xs:=by have:=(s _ _ r).symm.trans L;cases this;rfl
   have e2:J=ys:=by have:=(s _ _ t).symm.trans M;cases this;rfl
   subst Z e2;have O:D≠p:=λa0=>by rw[a0,w] at n;cases n
   refine⟨p,_,rfl,SqT.of za3,rfl,_,_,rfl,_,_,rfl,rfl,?_⟩;dsimp only[zm9];refine iteT ?_;show zo3 D o _ (some G::some H::rest) _;refine S i G H _ _ A B (s.updT w) ⟨_,by rw[za8 O];exact n,?_,⟨_,_,rfl⟩,(s.updT w).put C,?_⟩
   . rw[QW];omega
   . rw[za3,QY,List.getElem?_zipWith,A,B]
     rfl
 . have a1:i=xs.length:=by omega
   subst a1;refine .inl ⟨⟨xs,ys,s _ _ r,s _ _ t,Qi _⟩,q c s ?_⟩;rw[n,<-U,QO]
noncomputable abbrev bmV:List Value:=[.type "ValueError",.type "Exception",.type "BaseException",.type "object"]
def MroV (bm:')'):Prop:=bm=bmV\/∃D:Addr,bm = .ref D::bmV
theorem MroV.has {a:')'}(m:MroV a){T:String}{b:Bool}(h:bmV.contains (.type T)=b):a.contains (.type T)=b:=by
 rcases m with rfl | ⟨D,rfl⟩
 . exact h
 . rw[List.contains_cons,h];rfl
theorem MroV.self {a:')'}(m:MroV a)(C:Addr){T:String}{b:Bool}(h:bmV.contains (.type T)=b):(Value.ref C::a).contains (.type T)=b:=by
 rw[List.contains_cons,m.has h];rfl
theorem MroV.passes {a:')'} (m:MroV a) (v:Value):refuseLoop v "__setattr__" a=pure ():=by
 rcases m with rfl | ⟨D,rfl⟩
 . exact PySem.F.store_ValueError.passes v
 . rw[refuseLoop_ref];exact PySem.F.store_ValueError.passes v
section
variable {prog:Program} {w:World} {A:Around} {E:VP} {R:Result->Shared->Prop} {h:Heap} {g:Array GenState} {d:Drawn} {t:Nat} {os:OsState}
variable {nm q:Str} {C N:Addr} {bs bm:')'} {hdct:Bool} {sn:List Str} {sub:')'} {ab:Bool} {col:Option Bool} {dd:Option Addr} {k0 k1 k2 k3 k5:Option Value}
theorem xnew_check {M:Model} (m:MroV bm) {rest:')'} {Q:Unit->Shared->Prop} (a:h.get? C=some (excClassObj nm q C N bs bm hdct sn sub ab col dd k0 k1 k2 k3 k5 "ValueError.__new__"))
   (c:Q () ⟨h,g,d,t,os⟩):wpAny M A (checkBuiltinCall "ValueError.__new__" ⟨.ref C::rest,[]⟩) Q E ⟨h,g,d,t,os⟩:=by
 have b:=m.self C PySem.F.excBase_ValueError.hasB;have e:=PySem.F.excBase_ValueError.noStar;simp only[checkBuiltinCall,PySem.F.excBase_ValueError.newKind,PySem.F.excBase_ValueError.newSplit,PySem.F.excBase_ValueError.newRow]
 repeat (first | refine wpAny_loadPart_at a ?_ | (refine wpAny_isSubtype_exc a ?_;rw[b]) | refine wpAny_staticBase_exc a ?_ | refine wpAny_madeBy_exc a ?_ | simp only[bne_self_eq_false,Zf,if_false] | wp_step)
 exact c
theorem xnew_code (m:MroV bm) {rest:')'} (a:h.get? C=some (excClassObj nm q C N bs bm hdct sn sub ab col dd k0 k1 k2 k3 k5 "ValueError.__new__"))
   (b:R (.ok (.ret (.ref (h.objs.size+1)))) ⟨(h.push { cls:=.type "tuple",data:=.seq rest.toArray }).push { cls:=.ref C,data:=.fields #[.ref h.objs.size,.none,.none,.none,.bool false,.none] },g,d,t,os⟩)
   (i:rest.length<=sizeLine):codeAny '*' A (.builtin "ValueError.__new__" ⟨.ref C::rest,[]⟩) R ⟨h,g,d,t,os⟩:=by
 have j:=PySem.F.excBase_ValueError.ends;have c:=m.self C PySem.F.excBase_ValueError.hasB;have e:=m.self C PySem.F.excBase_ValueError.noAttr;have f:=m.self C PySem.F.excBase_ValueError.noName;refine codeAny_builtinAt PySem.F.excBase_ValueError.entry ?_;unfold Builtin.«BaseException.__new__»;refine PySem.wpAt_bind ?_;show PySem.wpAt _ _ _ (stack >>= _) _ _ _;refine PySem.wpAt_bind (PySem.wpAt_stack λp below=>PySem.wpAt_of_wpAny ?_);wp_walk;refine PySem.wpAt_of_wpAny ?_;rw[PySem.F.excBase_ValueError.owner]
 repeat (first | with_reducible refine wpAny_madeHere_exc PySem.F.excBase_ValueError.canon a ?_ | with_reducible refine wpAny_loadPart_at a ?_ | (with_reducible refine wpAny_isSubtype_exc a ?_;first | rw[c] | rw[e] | rw[f]) | wp_step)
 show R _ _;rw[Zw];exact b
theorem xcall {K:W.Frag} (X:K.In h) (m:MroV bm) {rest:')'} {c:Addr} {Q:VP} (a:h.get? C=some (excClassObj nm q C N bs bm hdct sn sub ab col dd k0 k1 k2 k3 k5 "ValueError.__new__"))
   (p:W.findIn K (.ref C) "__init__" = some (some (.ref c))) (s:W.isFn K (.ref c)=true) (k:rest.length<=sizeLine)
   (u:wpAny '*' (A.under (.builtin "type.__call__" ⟨.ref C::rest,[]⟩)) (call (.ref c) (.ref (h.objs.size+1)::rest)) (λr f=>r = .none/\Q (.ref (h.objs.size+1)) f) E
     ⟨(h.push { cls:=.type "tuple",data:=.seq rest.toArray }).push { cls:=.ref C,data:=.fields #[.ref h.objs.size,.none,.none,.none,.bool false,.none] },g,d,t,os⟩) :
   wpAny '*' A (call (.ref C) rest) Q E ⟨h,g,d,t,os⟩:=by
 have z:=tc_lookup;have B:=tc_bind (.ref C);have D:(⟨h,g,d,t,os⟩:Shared).TypeIs (.ref C) "type":=⟨_,a,rfl⟩;refine wpAny_call (codeAny_of_tree ?_);show wpAny _ _ (callAny (.ref C) _) _ _ _
 repeat (any_goals (first | assumption | with_reducible refine wpAny_loadPart_at a ?_ | wp_step))
 refine⟨rfl,?_⟩;refine codeAny_call_builtin_at (Code.quiet_builtin _ '(') entry_typeCall (wpAny_check_type_call_sub a ?_)
 repeat (first | with_reducible refine wpAny_loadPart_at a ?_ | with_reducible refine wpAny_madeBy_exc a ?_ | wp_step)
 refine codeAny_call_builtin_code (Code.quiet_builtin _ PySem.F.excBase_ValueError.quiet) (xnew_check m a (xnew_code m a ?_ k));show wpAny _ _ _ _ _ _;have i:∀b o,h.get? b=some o->((h.push { cls:=.type "tuple",data:=.seq rest.toArray }).push { cls:=.ref C,data:=.fields #[.ref h.objs.size,.none,.none,.none,.bool false,.none] }).get? b=some o:=λb o e=>Qc _ (Qc _ e)
 have l:=i _ _ a;have X1:K.In ((h.push { cls:=.type "tuple",data:=.seq rest.toArray }).push { cls:=.ref C,data:=.fields #[.ref h.objs.size,.none,.none,.none,.bool false,.none] }):=X.keeps i;have j:((h.push { cls:=.type "tuple",data:=.seq rest.toArray }).push { cls:=.ref C,data:=.fields #[.ref h.objs.size,.none,.none,.none,.bool false,.none] }).get? (h.objs.size+1)=some { cls:=.ref C,data:=.fields #[.ref h.objs.size,.none,.none,.none,.bool false,.none] }:=by heap_get
 have n:(Value.ref C::bm).contains (.ref C)=true:=by simp
 unfold isInstance
 repeat (first | with_reducible refine wpAny_loadPart_at j ?_ | wp_step)
 refine wpAny_isSubtype_exc l ?_;rw[n]
 repeat (first | with_reducible refine wpAny_loadPart_at j ?_ | wp_step)
 show wpAny _ _ (typeLookup (.ref C) _) _ _ _;refine W.looks_findIn X1 p _ _ _ _ (λ_ _ e=>e) ?_;refine wpAny_holding (Qa ?_);unfold bindSpecial;refine Qa (W.looks_typeIn X1 (beq_iff_eq.mp s) _ _ _ _ (λ_ _ e=>e) ?_);rw[Ql '&'];refine Qd (Qa (Zj u (λr f v=>?_) λ_ _ x=>x));obtain⟨rfl,y⟩:=v
 wp_walk
 exact y
end
open PySem.Builtin PySem.Builtin.ObjectAttr
section
variable {prog:Program} {w:World} {A:Around} {E:VP} {h:Heap} {g:Array GenState} {d:Drawn} {t:Nat} {os:OsState}
variable {nm q:Str} {C N x:Addr} {bs bm:')'} {sn:List Str} {sub:')'} {ab:Bool} {col:Option Bool} {dd:Option Addr} {k0 k1 k2 k3 k5:Option Value} {newId:String} {mA:Str->Option Value} {name:Str} {v:Value} {K:W.Frag}
theorem xsa_check {M:Model}(m:MroV bm){o:Obj}{a:Value}{Q:Unit->Shared->Prop}(c:h.get? C=some (excClassObj nm q C N bs bm true sn sub ab col dd k0 k1 k2 k3 k5 newId))(e:h.get? x=some o)(f:o.cls = .ref C)(i:Q () ⟨h,g,d,t,os⟩) :
   wpAny M A (checkBuiltinCall "object.__setattr__" ⟨[.ref x,a,v],[]⟩) Q E ⟨h,g,d,t,os⟩:=by
 have b:=m.self C PySem.F.store_ValueError.hasOwner;have j:=PySem.F.store_ValueError.args (.ref x) a v;simp only[checkBuiltinCall,PySem.F.store_ValueError.kind,PySem.F.store_ValueError.split];refine Qa ?_;unfold isInstance
 repeat (first | (with_reducible refine wpAny_loadPart_at e ?_;rw[f]) | (with_reducible refine wpAny_isSubtype_exc c ?_;rw[b]) | wp_step)
 exact i
theorem xsa_entry (X:K.In h)(m:MroV bm){G:Tok}{Q:PySem.Fin->Shared->Prop}{ns:List Str}(hC:h.get? C=some (excClassObj nm q C N bs bm true sn sub ab col dd k0 k1 k2 k3 k5 newId))(S:W.findIn K (.ref C) name=some none)(a6:x≠C)(I:h.Inst x C mA)
   (P:∀i T,i.Inst x C (λy=>if y=name then some v else mA y) →
     (∀b o,b≠x->(∀a f,h.get? x=some a->a.dict=some f->b≠f)->h.get? b=some o->i.get? b=some o) →
     (∀a,h.get? x=some a->∃k,i.get? x=some k/\k.cls=a.cls/\k.data=a.data/\k.slots=a.slots/\(∀f,a.dict=some f->k.dict=some f)/\(a.dict=none->k.dict=some h.objs.size))->Q (.done (.ret .none)) ⟨i,g,d,T,os⟩) (hw:Within mA ns) (hsz:ns.length<=sizeLine) :
   wpAny '*' A (Builtin.«object.__setattr__» ⟨[.ref x,.str name G,v],[]⟩) Q E ⟨h,g,d,t,os⟩:=by
 obtain⟨o,j,H,s,hd⟩:=I;have R:=m.passes (.ref x);have lk:∀(A:Around) (Q:Option Value->Shared->Prop) (E:VP),Q none ⟨h,g,d,t,os⟩->wpAny '*' A (typeLookup (.ref C) name) Q E ⟨h,g,d,t,os⟩:=λA Q E q=>W.looks_findIn X S A Q E _ (λ_ _ e=>e) q
 unfold Builtin.«object.__setattr__»
 repeat (first | rw[refuse_eq] | (rw[refuseLoop_ref,R]) | (with_reducible refine wpAny_loadPart_at j ?_;rw[H]) | with_reducible refine wpAny_mroOf_exc hC ?_ | with_reducible refine lk _ _ _ ?_ | wp_step)
 rcases hd with⟨L,U⟩ | ⟨f,p,u,V⟩
 . rw[L,Qg (by simp[typeHasDict])]
   split
   . rename_i hcd
     cases hcd
   split
   . rename_i c hcd
     exact absurd hcd (s c)
   . have M:(h.push { cls:=.type "dict",data:=.dict #[] }).get? x=some o:=Qc _ j
     have z:x≠h.objs.size:=Qz (Qo j);refine Qa (wpAny_alloc' (Qa (wpAny_update' M (Qd ?_))));have Y:((h.push { cls:=.type "dict",data:=.dict #[] }).update x λo=>{ cls:=o.cls,dict:=some h.objs.size,data:=o.data,slots:=o.slots }).get? h.objs.size=some { cls:=.type "dict",data:=.dict #[] }:=(Heap.get?_update_ne _ _ _ _ z.symm).trans (Heap.get?_push_at rfl rfl);have Z:((h.push { cls:=.type "dict",data:=.dict #[] }).update x λo=>{ cls:=o.cls,dict:=some h.objs.size,data:=o.data,slots:=o.slots }).Ns h.objs.size (λ_=>none):=⟨_,#[],_,Y,rfl,λe he=>absurd he (by simp),λ_=>rfl⟩;show wpAny _ _ (storeInDict h.objs.size (.str name G) name v) _ _ _;unfold storeInDict newKeyGuard;refine Qa (Qd (Qa (wpAny_nsSet1 (Heap.Ns1.of_empty Z) λi n l=>?_)));obtain⟨oD,a0,a1,B,D,F⟩:=n.count (Within.cons name v Within.nil);refine Qa (wpAny_lookBehind B (by rw[D];exact pastItsLine_dict (QD F (by rw[QE,List.length_nil,sizeLine_eq];omega))) ?_)
     wp_walk
     have O:i.get? x=some { cls:=o.cls,dict:=some h.objs.size,data:=o.data,slots:=o.slots }:=by
       refine(l.2 x z).trans (Zq _ M ?_);have a2:=(Heap.get?_some_iff.mp j).2;obtain⟨oc,od,a3,a7⟩:=o
       cases a3<;>first | rfl | exact a2
     refine P i _ ⟨_,O,H,s,.inr ⟨h.objs.size,rfl,z.symm,?_⟩⟩ (λb ob a4 _ r=>?_) (λa J=>?_)
     . obtain⟨o',es,ep,e1,e2,e3,eu,e4⟩:=n
       exact⟨o',es,ep,e1,e2,e3,eu,λy=>by rw[e4 y];by_cases hy:y=name<;>simp[hy,U]⟩
     . exact(l.2 b (Qz (Qo r))).trans ((Heap.get?_update_ne _ _ _ _ a4).trans (Qc _ r))
     . obtain rfl:o=a:=Qx (j.symm.trans J)
       exact⟨_,O,rfl,rfl,rfl,λf e=>(by rw[L] at e;cases e),λ_=>rfl⟩
 . rw[p]
   refine Qd ?_;show wpAny _ _ (storeInDict f (.str name G) name v) _ _ _;unfold storeInDict newKeyGuard;refine Qa (Qd (Qa (wpAny_nsSet1 V λi n l=>?_)));obtain⟨oD,a0,a1,B,D,F⟩:=n.count (Within.cons name v hw);refine Qa (wpAny_lookBehind B (by rw[D];exact pastItsLine_dict (QD F (by rw[QE];omega))) ?_)
   wp_walk
   refine P i _ ⟨o,(l.2 x u.symm).trans j,H,s,.inr ⟨f,p,u,n⟩⟩ (λb ob _ a5 r=>(l.2 b (a5 o f j p)).trans r) (λa J=>?_);obtain rfl:o=a:=Qx (j.symm.trans J);exact⟨o,(l.2 x u.symm).trans j,rfl,rfl,rfl,λ_ e=>e,λe=>(by rw[p] at e;cases e)⟩
theorem yo1 (X:K.In h) (m:MroV bm) {Q:Unit->Shared->Prop} {ns:List Str} (k:h.get? C=some (excClassObj nm q C N bs bm true sn sub ab col dd k0 k1 k2 k3 k5 newId)) (r:W.findIn K (.ref C) "__setattr__" = some (some (.builtin "object.__setattr__")))
   (s:W.findIn K (.ref C) name=some none) (u:x≠C) (I:h.Inst x C mA)
   (z:∀c j,c.Inst x C (λy=>if y=name then some v else mA y) →
     (∀b o,b≠x->(∀a i,h.get? x=some a->a.dict=some i->b≠i)->h.get? b=some o->c.get? b=some o) →
     (∀a,h.get? x=some a->∃f,c.get? x=some f/\f.cls=a.cls/\f.data=a.data/\f.slots=a.slots/\(∀i,a.dict=some i->f.dict=some i)/\(a.dict=none->f.dict=some h.objs.size))->Q () ⟨c,g,d,j,os⟩) (B:Within mA ns) (hsz:ns.length<=sizeLine) :
   wpAny '*' A (setAttr (.ref x) name v) Q E ⟨h,g,d,t,os⟩:=by
 obtain⟨o,l,n,_⟩:=id I;have H:=PySem.F.store_ValueError.slot.bind (.ref x);have D:∀(A:Around) (Q:Option Value->Shared->Prop) (E:VP) (t:Nat),Q (some (.builtin "object.__setattr__")) ⟨h,g,d,t,os⟩->wpAny '*' A (typeLookup (.ref C) "__setattr__") Q E ⟨h,g,d,t,os⟩:=λA Q E t q=>W.looks_findIn X r A Q E _ (λ_ _ e=>e) q
 unfold setAttr callSpecial? specialOf
 repeat (any_goals (first | assumption | (with_reducible refine wpAny_loadPart_at l ?_;rw[n]) | refine D _ _ _ _ ?_ | wp_step))
 refine codeAny_call_builtin PySem.F.store_ValueError.slot.plain PySem.F.store_ValueError.entry (xsa_check m k l n (xsa_entry X m k s u I (λc j F G p=>?_) B hsz))
 repeat (any_goals (first | assumption | wp_step))
 exact z c j F G p
end
noncomputable def ExcO (C e:Addr)(od:Option Addr):HO:=.ext λh=>∃t:Addr,h.get? e=some { cls:=.ref C,dict:=od,data:=.fields #[.ref t,.none,.none,.none,.bool false,.none] }
structure XCls (K:W.Frag)(C:Addr):Prop where
 ob:∃nm q N bs bm sn sub ab col dd k0 k1 k2 k3 k5,K.lookup C=some (excClassObj nm q C N bs bm true sn sub ab col dd k0 k1 k2 k3 k5 "ValueError.__new__")/\MroV bm
 sa:W.findIn K (.ref C) "__setattr__" = some (some (.builtin "object.__setattr__"))
 kp:W.keepIn K (.ref C)=true
section
variable {X:Cx} {pins:PL} {σ:St} {H:Hp} {s:Shared} {C x:Addr} {od:Option Addr}
theorem zY9 (I:'%')(e:H x=some (ExcO C x od)):∃t:Addr,s.heap.get? x=some { cls:=.ref C,dict:=od,data:=.fields #[.ref t,.none,.none,.none,.bool false,.none] }:=(I.hok x _ e).1
theorem yh9 {P:Program}{w:World}{H:Hp}{h:Heap}{t:Addr}(e:h.get? x=some { cls:=.ref C,dict:=od,data:=.fields #[.ref t,.none,.none,.none,.bool false,.none] }):ze6 P w H h x (ExcO C x od) :=
 ⟨⟨t,e⟩,⟨_,e⟩,λb c ⟨t,a⟩ k=>⟨t,k _ a⟩⟩
theorem cls_ne (I:'%'){o:HO}{a:Obj}(b:X.K.lookup C=some a)(e:H x=some o):x≠C:=λz=>by
 have c:=I.ok.mod.kin _ _ b;have:=(I.bs _ _ c).2;rw[z,this] at e;cases e
def XPut (D:St->Hp->Prop)(σ:St)(H:Hp)(a C:Addr)(od:Option Addr)(f:Str)(y:V):Prop:=match od with
 | none=>∀dx,H dx=none->dx≠a->D σ (upd (upd H dx (.xd (putF f y []))) a (ExcO C a (some dx)))
 | some dx=>∃fs,H dx=some (.xd fs)/\fs.length<1000/\D σ (upd H dx (.xd (putF f y fs)))
theorem yo2 {P:Program}{w:World}{H:Hp}{h:Heap}{a:Addr}{mA:Str->Option Value}{f:Str}{y:V}{u:Value}{fs:List (Str×V)}(i:fs.length<1000)(b:h.Ns1 a λg=>if g=f then some u else mA g)(r:∀g,RelO (fs.lookup g) (mA g))(c:PySem.Within mA (fs.map (·.1)))(d:RelV y u) :
   ze6 P w H h a (.xd (putF f y fs)):=by
 refine⟨by have:=zo0 f y fs;omega,_,b,λg=>?_,λg e=>?_⟩
 . rw[zb0]
   by_cases q:g=f
   . rw[Ql q];simp only[q,if_true];exact d
   . rw[Qg q];simp only[q,if_false];exact r g
 . by_cases q:g=f
   . rw[q];exact(zu8 f y fs).1
   . refine(zu8 f y fs).2 g (c g λz=>e ?_)
     simp only[q,if_false];exact z
theorem xsetattr_ok {f:Str}{y:V}{u:Value}{a3:St->Hp->Prop}{A:Around}{E:VP}(I:'%')(c:XCls X.K C)(na:ze0 X.K C f)(e:H x=some (ExcO C x od))(ry:RelV y u)(q:XPut a3 σ H x C od f y) :
   wpAny (model X.prog X.w) A (setAttr (.ref x) f u) (λ_ s'=>∃H',Inv X pins σ H' s'/\a3 σ H') E s:=by
 obtain⟨nm,qn,ae,bs,bm,sn,sub,ab,ac,dd,k0,k1,k2,k3,k5,hK,m⟩:=c.ob;have hC:=I.kIn _ _ hK;obtain⟨t,k⟩:=zY9 I e;have a0:=cls_ne I hK e;cases od with
 | none =>
   have R:s.heap.Inst x C (λ_=>none):=⟨_,k,rfl,λc z=>(by cases z),.inl ⟨rfl,λ_=>rfl⟩⟩;obtain⟨i,g,d,tk,os⟩:=s;refine yo1 (ns:=[]) I.kIn m hC c.sa na a0 R (λh' O S T U=>?_) PySem.Within.nil (QH _);obtain⟨W,Y,B,D,F,_,Z⟩:=U _ k;have G:=Z rfl;have r:h'.get? x=some { cls:=.ref C,dict:=some i.objs.size,data:=.fields #[.ref t,.none,.none,.none,.bool false,.none] }:=by
     rw[Y];obtain⟨c1,d1,a4,a5⟩:=W;simp only at B D F G;subst B D F G;rfl
   have M:∀b o,b≠x->i.get? b=some o->h'.get? b=some o:=λb o h a=>T b o h (λo0 j J K=>by rw[k] at J;cases J;cases K) a
   have l:H i.objs.size=none:=I.fresh;have a6:i.objs.size≠x:=λz=>by rw[<-z,l] at e;cases e
   obtain⟨oI,v,_,_,P⟩:=S;have N:h'.Ns1 i.objs.size (λg=>if g=f then some u else none):=by
     rw[r] at v;cases v;rcases P with⟨z,_⟩ | ⟨d',Q,_,L⟩
     . cases z
     . cases Q;exact L
   refine⟨_,?_,q _ l a6⟩;refine I.un (t':=O) (h':=h') ⟨λb o a n _ _=>?_,λb o a n _ _=>⟨o.slots,?_⟩,λb o a n _=>?_,λb o a _=>?_,λb xs z=>?_,λb o xs z=>?_,λb ps z=>⟨#[],?_⟩⟩ λb o z=>?_
   . exact M b o (λz=>by rw[z,e] at n;cases n) a
   . exact M b o (λz=>by rw[z,e] at n;cases n) a
   . rw[za8 (λz=>by rw[z,e] at n;cases n),za8 (Qz (Qo a))];exact n
   . by_cases h:b=x
     . subst h;exact⟨_,r⟩
     . exact⟨o,M b o h a⟩
   . rw[za8 (zD0 z e (by intro w;cases w)),za8 (zb5 z l)];exact z
   . rw[za8 (zD0 z e (by intro w;cases w)),za8 (zb5 z l)];exact z
   . rw[za8 (zD0 z e (by intro w;cases w)),za8 (zb5 z l),z];simp
   . by_cases h:b=x
     . subst h
       rw[za3] at z;cases z;exact yh9 r
     . rw[za8 h] at z
       by_cases a1:b=i.objs.size
       . subst a1
         rw[za3] at z;cases z;exact yo2 (mA:=λ_=>none) '&' N (λg=>True.intro) PySem.Within.nil ry
       . rw[za8 a1] at z
         refine(I.hok b o z).stay (λc a9 hc qv=>M c a9 ?_ qv) (λc p=>?_) λc xs p=>?_
         . rcases hc with rfl | hc
           . exact h
           . exact zD0 hc e (by intro w;cases w)
         . rw[za8 (zD0 p e (by intro w;cases w)),za8 (zb5 p l)];exact p
         . rw[za8 (zD0 p e (by intro w;cases w)),za8 (zb5 p l)];exact p
 | some j =>
   obtain⟨fs,K,hl,q⟩:=q;obtain⟨ad,mA,L,aa,wi⟩:=I.hok j _ K;have a7:j≠x:=zD0 K e (by intro w;cases w);have R:s.heap.Inst x C mA:=⟨_,k,rfl,λc z=>(by cases z),.inr ⟨j,rfl,a7,L⟩⟩;have hz:(fs.map (·.1)).length<=sizeLine:=by rw[Qb,sizeLine_eq];omega
   obtain⟨i,g,d,tk,os⟩:=s;refine yo1 (ns:=fs.map (·.1)) I.kIn m hC c.sa na a0 R (λh' O S T U=>?_) wi hz;obtain⟨W,Y,B,D,F,Z,_⟩:=U _ k;have G:=Z j rfl;have r:h'.get? x=some { cls:=.ref C,dict:=some j,data:=.fields #[.ref t,.none,.none,.none,.bool false,.none] }:=by
     rw[Y];obtain⟨c1,d1,a4,a5⟩:=W;simp only at B D F G;subst B D F G;rfl
   obtain⟨oI,v,_,_,P⟩:=S;have N:h'.Ns1 j (λg=>if g=f then some u else mA g):=by
     rw[r] at v;cases v;rcases P with⟨z,_⟩ | ⟨d',Q,_,L⟩
     . cases z
     . cases Q;exact L
   refine⟨_,I.write (t':=O) (h':=h') (x:=j) (e:=j) (by rw[K];exact True.intro) (.inl rfl) (λb o h a=>?_) (let⟨o,_,_,e',_⟩:=N;⟨o,e'⟩) (yo2 hl N aa wi ry),q⟩;by_cases a2:b=x
   . subst a2
     rw[show i.get? b=_ from k] at a;cases a;exact r
   . exact T b o a2 (λo0 d0 J a8=>by rw[show i.get? x=_ from k] at J;cases J;cases a8;exact h) a
end
section
variable {X:Cx} {o value:Expr} {f:Str} {pos pos':Pos} {ta tv:TE}
def sXFld (K:W.Frag)(ta tv:TE)(f:Str):TS:=λD σ H=>tv σ H λy H1=>ta σ H1 λx H2=>∃a C od,x = .ref a/\H2 a=some (ExcO C a od)/\XCls K C/\ze0 K C f/\XPut D.nx σ H2 a C od f y
theorem yi0 (e:PE X o ta)(g:PE X value tv)(i:swapsWith value (some (.Attribute o f pos')) pos.line X.env=pure false):PS X (.Assign [.Attribute o f pos'] value pos) (sXFld X.K ta tv f):=by
 intro d s b H D I h;refine plainObj_wpAny_Assign_Attribute (thn (g d s b H _ I h) λu j ⟨y,k,l,m,q⟩=>thn (e d j b k _ l q) λp F ⟨x,G,r,t,a,C,J,v,w,c,n,z⟩=>?_) i;subst v;obtain rfl:p=Value.ref a:=t;exact thn (xsetattr_ok r c n w m z) λ_ K ⟨A,B,E⟩=>⟨b,A,B,E⟩
end
structure yr6 (K:W.Frag)(C:Addr)(m:Str)(f:Addr):Prop where
 ga:W.specialIn K (.ref C) "__getattribute__" = some (some (.builtin "type.__getattribute__"))
 rd:W.readsIn K C (.type "type")=true
 fd:W.findCls K (.ref C) (.type "type") m=some (.val (.ref f))
 kp:W.keepIn K (.ref f)=true
section
variable {X:Cx} {CX:CXT} {k:Nat} {f C:Addr} {fd:FuncData} {ps:List Str} {sp:Sp} {dvs:List V} {ds:')'} {E:XK} {x m:Str} {p pos apos:Pos} {e:Expr} {es:List Expr} {t:TA}
theorem zO0 {pl:Sem Bool}(M:yr6 X.K C m f)(j:Gl X x)(l:X.mg x=some (.ref C))(F:FnOk X.prog X.w X.K X.mg X.base CX k f fd ps sp)(n:Room k X.A)(o:zj2 X.K fd ps ds)(q:Vals dvs ds)(u:zn0 CX X E)(v:PA X (e::es) t)
   (d:(x == ("__debug__" : Str))=false:=by decide)
   (g:starEach (e::es) X.env=(false,eval e X.env)::starEach es X.env:=by rfl) (i:(backTo pos (starEach es X.env)).any (·.1)=false:=by rfl)
   (w:eval (.Call (.Attribute (.Name x p) m apos) (e::es) [] pos) X.env=(do
     let a <-eval (.Name x p) X.env
     standAt apos.atName
     let(f,first) <-holding [a] (getMethod a m pl)
     callWith pos f first (backTo pos (starEach (e::es) X.env)) (backToKw pos (keywordEach [] X.env))):=by rfl) :
   PE X (.Call (.Attribute (.Name x p) m apos) (e::es) [] pos) (ym8 sp dvs E t):=by
 intro c s z H Q I h;refine W.methodCall_KW (pl:=pl) (zs5 I j l ?_ d) w;refine W.method_cls I.kIn M.ga (W.cls_value I.kIn M.rd M.fd (by rfl) ?_);refine W.callWith_K (first:=[]) (h₀:=X.base) I.ok.mod.kin M.kp (thn (v pos c _ z H _ (I.tok _) h) λA B ⟨D,G,b,r,y⟩=>⟨b.kIn,?_⟩) g i;exact zY0 F n o q u b r y
end
noncomputable def del (H:Hp)(a:Addr):Hp:=λb=>if b=a then none else H b
theorem yb6 (H:Hp)(a:Addr):del H a a=none:=Ql rfl
theorem zz0 {H:Hp}{a b:Addr}(h:b≠a):del H a b=H b:=Qg h
theorem ze6.got {P:Program}{w:World}{H:Hp}{h:Heap}{a:Addr}{o:HO}(x:ze6 P w H h a o):∃b,h.get? a=some b:=by
 cases o with
 | lst d=>obtain⟨_,_,_,_,e⟩:=x;exact⟨_,e⟩
 | tup d=>obtain⟨_,_,_,_,e,_⟩:=x;exact⟨_,e⟩
 | dK c=>obtain⟨_,_,_,_,o,_,_,e,_⟩:=x;exact⟨_,e⟩
 | dT c=>obtain⟨_,_,_,_,o,_,_,e,_⟩:=x;exact⟨_,e⟩
 | set S n=>obtain⟨o,_,_,_,e,_⟩:=x;exact⟨_,e⟩
 | ins C g fs=>obtain⟨_,_,_,e,_⟩:=x;exact⟨_,e⟩
 | own y=>obtain⟨_,e⟩:=x;exact⟨_,e⟩
 | xd fs=>obtain⟨_,_,⟨_,_,_,e,_⟩,_⟩:=x;exact⟨_,e⟩
 | rng i j=>obtain⟨_,_,_,e⟩:=x;exact⟨_,e⟩
 | frz b u=>obtain⟨e,_⟩:=x;exact⟨_,e⟩
 | tbl k=>exact⟨_,show h.get? a=some _ from x⟩
 | met f y=>exact⟨_,show h.get? a=some _ from x⟩
 | ext l=>obtain⟨_,⟨_,e⟩,_⟩:=x;exact⟨_,e⟩
section
variable {X:Cx} {pins:PL} {σ:St} {H H':Hp} {s s':Shared} {C x a:Addr} {od:Option Addr} {cls a0:Value}
theorem Inv.del (I:'%')(e:H x=some (ExcO C x od)):Inv X pins σ (L2.del H x) s:=by
 have f:∀b u,H b=some u->(∀d,u≠.ext d)->b≠x:=λb u q n z=>by rw[z,e] at q;cases q;exact n _ rfl
 have:=I.un (t':=s.toks) (h':=s.heap) (H':=L2.del H x) ⟨λb o a n _ _=>a,λb o a n _ _=>⟨o.slots,a⟩,λb o a n _=>?_,λb o a _=>⟨o,a⟩,λb g z=>?_,λb o g z=>?_,λb i z=>⟨#[],?_⟩⟩ λb o z=>?_
 . exact this
 . unfold L2.del;split
   . rfl
   . exact n
 . rw[zz0 (f b _ z λd w=>by cases w)];exact z
 . rw[zz0 (f b _ z λd w=>by cases w)];exact z
 . rw[zz0 (f b _ z λd w=>by cases w),z];simp
 . have h:b≠x:=λq=>by rw[q,yb6] at z;cases z
   rw[zz0 h] at z;exact(I.hok b o z).stay (λ_ _ _ q=>q) (λc q=>by rw[zz0 (f c _ q λd w=>by cases w)];exact q) λc g q=>by rw[zz0 (f c _ q λd w=>by cases w)];exact q
end
section
variable {P:Program} {w:World} {K:W.Frag} {mg:Str->Option Value} {base:Heap} {N:List Str} {qual:Str} {scope:Scope} {f:Addr} {cd:Value} {A:Around} {outer:List Env} {s:Shared} {H:Hp} {E:XK}
end
section
variable {M:Model} {A:Around} {E:VP} {env:Env}
variable {nm q:Str} {C N:Addr} {bs bm:')'} {hdct:Bool} {sn:List Str} {sub:')'} {ab:Bool} {col:Option Bool} {dd:Option Addr} {k0 k1 k2 k3 k5:Option Value} {newId:String}
theorem xraise {s:Shared}{x:Sem Value}{Q:Flow->Shared->Prop}(m:MroV bm)(i:A.handled=none)
   (h:wpAny M A x (λv a=>∃e b t,v = .ref e/\a.heap.get? C=some (excClassObj nm q C N bs bm hdct sn sub ab col dd k0 k1 k2 k3 k5 newId)/\a.heap.get? e=some { cls:=.ref C,dict:=b,data:=.fields #[.ref t,.none,.none,.none,.bool false,.none] }/\E (.ref e) a) E s) :
   wpAny M A (raiseStmt env (some x) none) Q E s:=by
 have f:(Value.ref C::bm).contains (.type "BaseException")=true:=m.self C '&';unfold raiseStmt;refine Qa (Zj h (λv a j=>?_) λ_ _ x=>x);obtain⟨e,b,t,rfl,c,k,l⟩:=j;obtain⟨n,g,d,o,p⟩:=a
 repeat (first | with_reducible refine wpAny_loadPart_at k ?_ | with_reducible refine wpAny_loadPart_at c ?_ | (with_reducible refine wpAny_isSubtype_exc c ?_;rw[f]) | wp_step)
 exact wpAny_raiseNew_none i l
end
section
variable {X:Cx} {CX:CXT} {k:Nat} {f C:Addr} {fd:FuncData} {ps:List Str} {sp:Sp} {dvs:List V} {ds:')'} {E Ei:XK} {x m:Str} {p pos cpos apos:Pos} {e:Expr} {es:List Expr} {t:TA}
theorem run_xmake2 {a:PL} {i:St} {H:Hp} {s:Shared} {Q:Addr->Hp->Prop} {us:')'} {vs:List V} (c:XCls X.K C) (y:W.findIn X.K (.ref C) "__init__" = some (some (.ref f))) (z:W.isFn X.K (.ref f)=true) (F:FnOk X.prog X.w X.K X.mg X.base CX k f fd ps sp) (A:Room (k+1) X.A) (B:zj2 X.K fd ps ds) (D:Vals dvs ds)
   (G:zn0 CX X E) (I:Inv X a i H s) (r:Vals vs us) (J:vs.length<=sizeLine)
   (h:∀x,H x=none->sp (.ref x::(vs++dvs)) (upd H x (ExcO C x none)) (λv K=>v = .non/\Q x K) E) :
   wpAny (model X.prog X.w) X.A (call (.ref C) us) (λv n=>v = .ref (s.heap.objs.size+1)/\∃j,Inv X a i j n/\Q (s.heap.objs.size+1) j) X.xe s:=by
 obtain⟨Z,qn,a0,bs,bm,sn,sub,ab,Y,dd,k0,k1,k2,k3,k5,L,m⟩:=c.ob;have M:=I.kIn _ _ L;have u:=h (s.heap.objs.size+1) (I.hok.fresh (Nat.le_succ _));have N:Inv X a i H { s with heap:=s.heap.push { cls:=.type "tuple",data:=.seq us.toArray } }:=I.kept (t':=s.toks) λb o e=>Qc _ e
 have q:(s.heap.push { cls:=.type "tuple",data:=.seq us.toArray }).objs.size=s.heap.objs.size+1:=Zw ..;have l:Inv X a i (upd H (s.heap.objs.size+1) (ExcO C (s.heap.objs.size+1) none)) { s with heap:=(s.heap.push { cls:=.type "tuple",data:=.seq us.toArray }).push { cls:=.ref C,data:=.fields #[.ref s.heap.objs.size,.none,.none,.none,.bool false,.none] } }:=by
   refine N.laid (t':=s.toks) (λb o e=>Qc _ e) (Nat.le_of_eq q) (yh9 (t:=s.heap.objs.size) ?_);rw[<-q];exact Qj _ rfl
 have w:Vals (V.ref (s.heap.objs.size+1)::(vs++dvs)) (Value.ref (s.heap.objs.size+1)::(us++ds)):=.cons rfl (r.append D);have O:(Value.ref (s.heap.objs.size+1)::us++ds).length=ps.length:=by
   have e:=w.length;rw[F.len _ _ _ _ u] at e;exact e.symm
 obtain⟨p,a1,d,tk,os⟩:=s;refine xcall I.kIn m M y z (by rw[<-r.length];exact J) ?_;refine wpAny_call (codeAny_mono (F.run _ X.stack _ _ ⟨Value.ref (p.objs.size+1)::us,[]⟩ (Value.ref (p.objs.size+1)::(us++ds)) _ _ E (A.make C us []) (l.env0.make C us []) (B _ (Value.ref (p.objs.size+1)::us) l.kIn O) w u) λr n g=>?_);cases r with
 | error e=>exact G a i _ _ e n l g
 | ok P =>
   cases P with
   | ret a2 =>
     obtain⟨v,j,R,S,T,U⟩:=l.after g;subst T;exact⟨S,rfl,j,R,U⟩
   | next=>exact False.elim g
   | brk=>exact False.elim g
   | cont=>exact False.elim g
end
noncomputable def Cx.caught (X:Cx)(e:Value):Cx:={ X with A:=X.A.mark (some e),calm:=false,xe:=λ_ _=>False }
section
variable {X:Cx} {pins pins':PL} {σ:St} {H:Hp} {s:Shared} {E:XK} {e:Value} {D:Ends} {f:Flow}
theorem Inv.caught (I:'%')(e:Value):Inv (X.caught e) pins σ H s :=
 let ok:=I.ok
 ⟨⟨ok.mod,ok.kind,ok.glob,ok.blt,ok.above,ok.inj,ok.has,ok.cab,(λz=>nomatch z),ok.frames,ok.stk,ok.exf,ok.bs,ok.bsz,ok.noex,ok.exfs,ok.funs,ok.frf⟩,I.os,I.bare,I.base,I.loc,I.cell,I.free,I.freeC,I.pin,I.hok,I.len⟩
theorem Inv.uncaught (a:X.calm=true->X.A.handled=none)(I:Inv (X.caught e) pins σ H s):Inv X pins σ H s :=
 let ok:=I.ok
 ⟨⟨ok.mod,ok.kind,ok.glob,ok.blt,ok.above,ok.inj,ok.has,ok.cab,a,ok.frames,ok.stk,ok.exf,ok.bs,ok.bsz,ok.noex,ok.exfs,ok.funs,ok.frf⟩,I.os,I.bare,I.base,I.loc,I.cell,I.free,I.freeC,I.pin,I.hok,I.len⟩
theorem SP.uncaught (c:X.calm=true->X.A.handled=none)(h:SP (X.caught e) pins D f s):SP X pins D f s:=by
 cases f with
 | next=>obtain⟨a,b,I,q⟩:=h;exact⟨a,b,I.uncaught c,q⟩
 | brk=>obtain⟨a,b,I,q⟩:=h;exact⟨a,b,I.uncaught c,q⟩
 | cont=>obtain⟨a,b,I,q⟩:=h;exact⟨a,b,I.uncaught c,q⟩
 | ret u=>obtain⟨v,a,b,I,r,q⟩:=h;exact⟨v,a,b,I.uncaught c,r,q⟩
end
section
variable {X:Cx} {C:Addr} {E:XK} {x:Str} {p pos hpos:Pos} {body suite:List Stmt} {b₀:Stmt} {tb th:TS}
end
structure FunD (K:W.Frag)(x qual:Str)(st:Stmt)(f:Addr)(fd:FuncData):Prop where
 ex:∃(oc:Value) (od:Option Addr) (dV kV doc pm:Value) (an:Option Addr) (cdv ct:Value) (osl:Array (Option Value)),
   fd=W.fnOf x qual (zf4 st) (zc9 st) (za5 st) dV kV doc pm an cdv ct/\K.lookup f=some ⟨oc,od,.func fd,osl⟩/\W.codeIn K cdv qual=true
 kp:W.keepIn K (.ref f)=true
section
variable {P:Program} {w:World} {K:W.Frag} {mg:Str->Option Value} {base:Heap} {CX:CXT}
theorem Fun.d {x a:Str}{st:Stmt}{f:Addr}{fd:FuncData}(F:Fun K x a st f fd):FunD K x a st f fd:=by
 obtain⟨e,g,kV,b,i,j,c,k,d,h⟩:=F.ex;exact⟨⟨e,g,.none,kV,b,i,j,c,k,d,h⟩,F.kp⟩
theorem FunD.ok {x d:Str}{st:Stmt}{f:Addr}{fd:FuncData}{N ps:List Str}{k:Nat}{sp:Sp}(F:FunD K x d st f fd)(S:zb2 N ps (za5 st))(len:∀a H Q E,sp a H Q E->a.length=ps.length)
   (e:∀(b:Value) (A:Around) (c:List Env) (s:Shared) (H:Hp) (a:List V) (Q:VK) (E:XK),Room k (A.deeper (envOfC d (za5 st) s.heap.objs.size f b))->sp a H Q E →
     ∃t,PSs (cxOf CX0 P w K mg base N d (za5 st) f b A c s H E).nox (zc9 st) t/\t { nx:=λ_ j=>Q .non j,rt:=Q } (start N a) H):FnOk P w K mg base CX0 (k+1) f fd ps sp:=by
 obtain⟨p,r,u,kV,n,v,y,b,z,o,rfl,l,g⟩:=F.ex;refine ym9 l g S len λA c s H a Q E m i=>?_
 obtain⟨t,h,q⟩:=e b A c s H a Q E m i;exact⟨t,h.nox,q⟩
theorem zL3 {x a:Str}{st:Stmt}{f:Addr}{m:Value}{n e:Option Addr}{j:Array (Option Value)}{g kV d h b i:Value}(l:K.lookup f=some ⟨m,n,.func (W.fnOf x a (zf4 st) (zc9 st) (za5 st) g kV d h e b i),j⟩)
 (c:W.codeIn K b a=true) (k:W.keepIn K (.ref f)=true):FunD K x a st f (W.fnOf x a (zf4 st) (zc9 st) (za5 st) g kV d h e b i):=⟨⟨m,n,g,kV,d,h,e,b,i,j,rfl,l,c⟩,k⟩
abbrev EN:XK:=λ_ _ _=>False
end
def zZ0 (CX:CXT)(X:Cx)(Ex:St->XK):Prop:=∀(pins:PL) (σ:St) (H:Hp) (s:Shared) (e:Value) (s':Shared),'%'->CX X.stack H s (Ex σ) e s'->X.xe e s'
def yo3 (sp:Sp)(dvs:List V)(Ex:St->XK)(t:TA):TE:=λσ H Q=>t σ H λvs H1=>sp (vs++dvs) H1 Q (Ex σ)
section
variable {X:Cx} {pins pins':PL} {σ:St} {H:Hp} {s:Shared} {Ex:St->XK} {D:Ends} {fl:Flow}
end
section
variable {X:Cx} {CX:CXT} {k:Nat} {f C:Addr} {fd:FuncData} {ps:List Str} {sp:Sp} {dvs:List V} {ds:')'} {Ex:St->XK} {x m:Str} {p pos apos:Pos} {e o:Expr} {es:List Expr} {ta:TE} {t:TA}
theorem pe_callS (F:FnOk X.prog X.w X.K X.mg X.base CX k f fd ps sp)(v:Room k X.A)(w:Gl X x)(y:X.mg x=some (.ref f))(z:W.keepIn X.K (.ref f)=true)(A:zj2 X.K fd ps ds)(B:Vals dvs ds)(C:zZ0 CX X Ex)
   (D:PA X (e::es) t) (n:(x == ("__debug__" : Str))=false:=by decide) (E:starEach (e::es) X.env=(false,eval e X.env)::starEach es X.env:=by rfl) (o:(backTo pos (starEach es X.env)).any (·.1)=false:=by rfl) :
   PE X (.Call (.Name x p) (e::es) [] pos) (yo3 sp dvs Ex t):=by
 intro i s g H Q I h;refine wpAny_Call_Name_kw (zs5 I w y ?_ n);refine W.callWith_K (h₀:=X.base) I.ok.mod.kin z (thn (D pos i s g H _ I h) λa d ⟨j,l,b,r,q⟩=>⟨b.kIn,?_⟩) E o;have m:Vals (j++dvs) (a++ds):=r.append B;have G:(a++ds).length=ps.length:=by rw[<-m.length];exact F.len _ _ _ _ q
 refine wpAny_call (codeAny_mono (F.run X.A X.stack d l ⟨a,[]⟩ (a++ds) (j++dvs) Q (Ex g) v b.env0 (A d a b.kIn G) m q) λr J c=>?_);cases r with
 | error e=>exact C i g l d e J b c
 | ok K =>
   cases K with
   | ret u=>exact b.after c
   | next=>exact False.elim c
   | brk=>exact False.elim c
   | cont=>exact False.elim c
end
section
variable {X:Cx} {D:Addr} {Ex:St->XK} {x:Str} {p pos hpos:Pos} {body suite:List Stmt} {b₀:Stmt} {tb th:TS}
end
section
variable {X:Cx} {pins:PL} {σ:St} {H:Hp} {s:Shared}
theorem zL4 {M:Model}{A:Around}{E:VP}{i:Nat}{x:Str}{F:Pos}{Q:Unit->Shared->Prop}(I:'%')(K:X.N.Nodup)(v:X.N[i]?=some x)(L:X.env.scope.names.lookup x=some .local)
   (h:∀w,Inv X pins (σ.set i none) H w->Q () w):wpAny M A (do bindName X.env x .none;unbindBehindTheSuite X.env x F) Q E s:=by
 obtain⟨m,N,O⟩:=id I.loc;have D:(X.env.scope.kind == .class || (X.env.scope.kind == .module && X.env.locals != X.env.globals))=false:=by rw[I.ok.kind];rfl
 have G:i<σ.length:=by rw[I.len];exact(QN.mp v).1
 have cne:=I.cne;refine wpAny_nameGoes_keeps L N D λZ a0 J a=>?_
 refine h _ ⟨I.ok,I.os,I.bare,⟨λb o e n t g=>?_,λb o e n t g=>?_,I.base.free,λb o e g=>?_,I.base.tups,I.base.frzs,I.base.tbls⟩,⟨_,J,λj y P f l R=>?_⟩,λy c e=>?_,I.free,I.freeC,λp S=>?_,λb T e=>?_,by simpa using I.len⟩
 . exact(a.2 b (Qz (QJ (Qo e) I.ok.above))).trans (I.base.keep b o e n t g)
 . obtain⟨sl,f⟩:=I.base.slot b o e n t g
   exact⟨sl,(a.2 b (Qz (QJ (Qo e) I.ok.above))).trans f⟩
 . obtain⟨U,f⟩:=I.base.there b o e g
   exact⟨U,(a.2 b (Qz (QJ (Qo e) I.ok.above))).trans f⟩
 . by_cases u:j=i
   . subst u
     rw[List.getElem?_set_self G] at l;cases l
   . rw[List.getElem?_set_ne (Ne.symm u)] at l
     obtain⟨V,W,q⟩:=O j y P f l R;refine⟨V,W,?_⟩;rcases q with⟨k,e⟩ | ⟨k,c,e,z⟩
     . refine .inl ⟨k,?_⟩
       have:y≠x:=λe=>u (zM5 K f (e▸v))
       simp[this,e]
     . exact .inr ⟨k,c,e,z.sameBut a (cne y c e)⟩
 . obtain⟨B,z⟩:=I.cell y c e
   exact⟨B,z.sameBut a (cne y c e)⟩
 . obtain⟨e,n,C,Y,d⟩:=I.pin p S
   exact⟨(a.2 p.1 C).trans e,n,C,Y,d⟩
 . refine(I.hok b T e).stay (λc B r q=>(a.2 c ?_).trans q) (λ_ q=>q) λ_ _ q=>q
   rintro rfl;rcases r with rfl | r
   . rw[I.free] at e;cases e
   . rw[I.free] at r;cases r
end
section
variable {X:Cx} {D:Addr} {Ex:St->XK} {x n:Str} {i:Nat} {p pos hpos:Pos} {body suite:List Stmt} {b₀:Stmt} {tb th:TS}
noncomputable def Ends.forget (D:Ends)(i:Nat):Ends:={ nx:=λσ H=>D.nx (σ.set i none) H,rt:=D.rt,bk:=λσ H=>D.bk (σ.set i none) H,ct:=λσ H=>D.ct (σ.set i none) H }
end
theorem zI6 {K:W.Frag} {c:Value} {D:Addr} {b:Bool} (a:W.subIn K (.ref D) (.type "BaseException")=some true) (d:(W.clsIn K D).isSome=true) (e:W.typeIn K (.ref D)=some (.type "type")) (f:W.subIn K c (.ref D)=some b) :
   W.exmOne K c (.ref D)=some b:=by
 unfold W.exmOne W.kitCls;simp[a,d,e,f]
theorem zI7 {K:W.Frag} {c:Value} {D:Addr} {b:Bool} (a:(c == .ref D)=false) (d:(W.clsIn K D).isSome=true) (e:W.typeIn K (.ref D)=some (.type "type")) (f:W.subIn K c (.ref D)=some b) :
   W.kitOne K c (.ref D)=some b:=by
 unfold W.kitOne W.kitCls;rw[a];simp[d,e,f]
section
variable {X:Cx}
inductive yi1  (x:V)(y:V)(H:Hp)(Q:VK):Prop
 | mk (a b xs ys:_)(h0:x = .ref a)(h1:y = .ref b)(h2:H a=some (.tup xs))(h3:H b=some (.tup ys))(h4:xs.length+ys.length<=sizeLine)(h5:∀p H',Same H H'->H' p=some (.tup (xs++ys))->Q (.ref p) H'):yi1  x y H Q
def rCatU:R2:=λx y H Q=>yi1  x y H Q
theorem zL5:OpR X (binaryOp .Add) rCatU:=by
 intro w s J H x y v u Q I j k h;obtain⟨a,b,l,A,rfl,rfl,c,d,B,q⟩:=h;by_cases m:l=[]
 . subst m
   cases j;cases k;obtain⟨z,C,D,_⟩:=I.tuple (SqT.of c);obtain⟨L,S,E,_⟩:=I.tuple (SqT.of d);have F:z=[]:=C.nil_iff.mpr rfl;subst F;obtain⟨⟨O,T,M,sl⟩,o,r,n,t⟩:=id D;obtain⟨⟨N,P,K,R⟩,f,g,U,i⟩:=id E;simp only at r t g i;subst r t g i
   exact concat_meets ⟨_,o,rfl⟩ ⟨_,f,rfl⟩ noFill_tuple_add seq_tuple_add PySem.F.slot_tuple_add PySem.F.entry_tuple_add (PySem.F.args_tuple_add_2 _ _)
     (tuple_addW0 _ _ _ _ _ _ _ _ _ _ (by simp)) ⟨o,f,.ref b,H,I,rfl,q b H (Same.refl _) d⟩
 . refine op_catT w s J H _ _ v u Q I j k ⟨a,b,l,A,rfl,rfl,SqT.of c,SqT.of d,m,B,λe=>?_,λ_ p G=>q p _ (Same.upd G) za3⟩
   subst e;exact q a H (Same.refl _) (by rw[Zi];exact c)
end
theorem zO1 {J:It}{u:Hp}{D:Addr}{n:Nat}{x:Nat->V}{j:Nat}{f:St}{t:TT}{s:TE}{Q:Hp->Prop}(d:Nat->Hp->Prop)(h0:d 0 (upd u D (.lst [])))
   (go:∀i a,i<n->d i a->J.go i a) (st:∀a,d n a->J.stop n a) (z:∀i v a c,i<n->d i a->J.yld i a v c->c=a/\v=x i)
   (step:∀i a (N:St->Hp->Prop),i<n->d i a->(∀c,d (i+1) c->N (f.set j (some (x i))) c)->t (f.set j (some (x i))) a λb g=>if b=true then zo3 D s N (f.set j (some (x i))) g else N (f.set j (some (x i))) g)
   (q:∀a,d n a->Q a) :
   ∃W:Nat->Nat->St->Hp->Prop,(∃m,W 0 m f (upd u D (.lst []))) ∧
     ∀i m h a,W i m h a->(J.stop i a/\Q a)\/(J.go i a/\∃N:St->Hp->Prop,(∀k c,N k c->∃w,w<m/\W (i+1) w k c) ∧
       ∀v c,J.yld i a v c->zp7 j v h c λp A=>t p A λb g=>if b=true then zo3 D s N p g else N p g):=by
 refine⟨λi m h a=>m=n-i/\i<=n/\(∀v,h.set j (some v)=f.set j (some v))/\d i a,⟨n,by simp,QH _,λ_=>rfl,h0⟩,?_⟩;rintro i m h a ⟨rfl,E,B,l⟩;by_cases o:i<n
 . refine .inr ⟨go i _ o l,λk c=>(∀v,k.set j (some v)=f.set j (some v))/\d (i+1) c,λk c ⟨C,r⟩=>⟨n-(i+1),by omega,rfl,o,C,r⟩,λv c y=>?_⟩
   obtain⟨rfl,rfl⟩:=z i v _ c o l y;dsimp only[zp7];rw[B];exact step i _ _ o l λc r=>⟨λv=>by simp,r⟩
 . have e:i=n:=by omega
   subst e;exact .inl ⟨st _ l,q _ l⟩
theorem comp_rangeI {l:Hp}{D:Addr}{lo:Int}{n:Nat}{j:Nat}{d:St}{k:TT}{h:TE}{Q:Hp->Prop}(e:Nat->Hp->Prop)(h0:e 0 (upd l D (.lst [])))
   (step:∀i a (N:St->Hp->Prop),i<n->e i a->(∀c,e (i+1) c->N (d.set j (some (.int (lo+i)))) c)->k (d.set j (some (.int (lo+i)))) a λb f=>if b=true then zo3 D h N (d.set j (some (.int (lo+i)))) f else N (d.set j (some (.int (lo+i)))) f)
   (q:∀a,e n a->Q a) :
   ∃W:Nat->Nat->St->Hp->Prop,(∃m,W 0 m d (upd l D (.lst []))) ∧
     ∀i m o a,W i m o a->((Itr lo n).stop i a/\Q a)\/((Itr lo n).go i a/\∃N:St->Hp->Prop,(∀p c,N p c->∃r,r<m/\W (i+1) r p c) ∧
       ∀v c,(Itr lo n).yld i a v c->zp7 j v o c λg t=>k g t λb f=>if b=true then zo3 D h N g f else N g f) :=
 zO1 (J:=Itr lo n) (x:=λi=>.int (lo+i)) e h0 (λi a s _=>s) (λa _=>Qi _) (λi v a c s _ y=>y) step q
theorem zi3 {K:W.Frag}{t:Hp}{D a:Addr}{xs:List V}{j:Nat}{h:St}{s:TT}{r:TE}{Q:Hp->Prop}(g:Nat->Hp->Prop)(h0:g 0 (upd t D (.lst [])))
   (o:∀i c,g i c->SqL K c a xs)
   (step:∀i x c (N:St->Hp->Prop),xs[i]?=some x->g i c->(∀d,g (i+1) d->N (h.set j (some x)) d)->s (h.set j (some x)) c λb k=>if b=true then zo3 D r N (h.set j (some x)) k else N (h.set j (some x)) k)
   (q:∀c,g xs.length c->Q c) :
   ∃W:Nat->Nat->St->Hp->Prop,(∃m,W 0 m h (upd t D (.lst []))) ∧
     ∀i m u c,W i m u c->((Itl K a).stop i c/\Q c)\/((Itl K a).go i c/\∃N:St->Hp->Prop,(∀w d,N w d->∃z,z<m/\W (i+1) z w d) ∧
       ∀v d,(Itl K a).yld i c v d->zp7 j v u d λp A=>s p A λb k=>if b=true then zo3 D r N p k else N p k):=by
 refine zO1 (J:=Itl K a) (n:=xs.length) (x:=λi=>xs.getD i .non) g h0 (λi c l f=>⟨xs,xs[i],o _ _ f,by simp[l]⟩) (λc f=>⟨xs,o _ _ f,Qi _⟩) (λi v c d l f y=>?_) (λi c N l f B=>?_) q
 . obtain⟨e,y⟩:=y
   have:=y xs (o _ _ f);exact⟨e,by rw[Qw,this];rfl⟩
 . have e:xs[i]?=some (xs.getD i .non):=by rw[Qw,Qf l];rfl
   exact step i _ c N e f B
theorem dict_mapF (g:Array Value->Array Value)(o:Obj):(Obj.mapFields g o).dict=o.dict:=by
 obtain⟨c,d,a,sl⟩:=o
 cases a<;>rfl
def TrD (h base:Heap)(e:Addr)(cls:Value)(od:Option Addr)(fl:Value):Prop :=
 ∃ob fs T ot tf,h.get? e=some ob/\(ob.cls=cls/\ob.dict=od)/\ob.data = .fields fs/\fs[1]?=some (.ref T)/\base.get? T=none/\T≠e/\h.get? T=some ot/\ot.data = .fields tf/\tf[3]?=some fl
def FlD (base:Heap)(l:List Env)(e:Addr)(cls:Value)(od:Option Addr)(fl:Value)(h:Heap):Prop:=base.StaysIn h/\base.get? e=none/\h.FunFrames base l/\TrD h base e cls od fl
theorem FlD.there {base h:Heap}{l:List Env}{e:Addr}{b fl:Value}{c:Option Addr}(x:FlD base l e b c fl h):∃a,h.get? e=some a/\(a.cls=b/\a.dict=c)/\∃d,a.data = .fields d:=by
 obtain⟨_,_,_,a,fs,_,_,_,f,g,i,_⟩:=x;exact⟨a,f,g,fs,i⟩
section
variable {M:Model} {A:Around} {E:VP} {s:Shared} {base:Heap} {env:Env} {outer l:List Env} {L e:Addr} {cls fl:Value} {od:Option Addr} {Q:Unit->Shared->Prop}
theorem zv0 (x:FlD base l e cls od fl s.heap)(k:∀h,FlD base l e cls od .none h->s.heap.UpToSlots h->Q () { s with heap:=h }):wpAny M A (setFlight (.ref e) none) Q E s:=by
 obtain⟨v,w,y,B,fs,T,G,n,p,C,q,r,t,u,i,g,D⟩:=x;have j:3<n.size:=(Zr.mp D).1
 let U:Heap:=s.heap.update T (Obj.mapFields (·.setIfInBounds 3 ((none:Option Addr).elim Value.none λf=>rawInt f)))
 have d:∀b,b≠T->U.get? b=s.heap.get? b:=λb a=>ZA _ _ (Ne.symm a)
 have m:∀b o,s.heap.get? b=some o->(∀F,o.data≠.fields F)->b≠T:=λb o a c z=>by
   rw[z,i] at a;cases a;exact c n g
 unfold setFlight;refine Qa (wpAny_field p q r ?_);rw[Ql (show(Value.ref T != Value.none)=true by simp)];refine wpAny_setField i g j (k U ⟨λb o a=>(d b λz=>by rw[z,t] at a;cases a).trans (v b o a),w,y.of_keeps λb o a c=>⟨o,(d b (m b o a c)).trans a,rfl⟩,?_⟩ λb o a c=>⟨o.slots,(d b (m b o a c)).trans a⟩);exact⟨B,fs,T,_,_,(d e (Ne.symm u)).trans p,C,q,r,t,u,Zq _ i (Obj.isFreed_of_fields (Obj.data_mapFields g _)),Obj.data_mapFields g _,by simp[j]⟩
theorem yb7 {g:Obj}{fs:Array Value}{t:Value}{J:Bool}(K:A.frames=some (env::outer))(i:s.heap.FunFrames base (env::outer))(N:env.frame=some L)(p:s.heap.get? e=some g)(st:base.StaysIn s.heap)(y:base.get? e=none)(j:g.data = .fields fs)(sz:1<fs.size)
   (k:∀q,FlD base (env::outer) e g.cls g.dict (rawInt L) q->s.heap.UpToSlots q->Q () { s with heap:=q }) :
   wpAny M A (do let a <-frameOf env;let l <-entryPlaceOf L J;let b <-EntryCells.newEntry t a .none (rawInt L) .none l;setField (.ref e) 1 b) Q E s:=by
 have G:e∉(env::outer).filterMap (·.frame):=λr=>by
   obtain⟨_,o,B,f⟩:=i.mem r;rw[p] at B;cases B;exact f fs j
 refine Qa (wpAny_frameOf_fun K i N λd m=>?_);refine Qa (wpAny_entryPlaceOf λl u=>?_);unfold EntryCells.newEntry newFields;refine Qa (wpAny_newObj_type ?_ (u.sizeOk5 _ _ _ _ _));have C:d.get? e=some g:=(m.2.1 e G).trans p;have v:base.StaysIn d:=λb o c=>(m.2.1 b λr=>by rw[(i.mem r).1] at c;cases c).trans (st b o c)
 generalize H:(([t,.ref L,.none,rawInt L,.none]++(if l.isEmpty then List.replicate 6 Value.none else l)).toArray:Array Value)=n
 have I:n[3]?=some (rawInt L):=by rw[<-H];rcases u with rfl | ⟨_,_,_,_,_,_,_,rfl⟩<;>simp
 have D:=Qc (h:=d) { cls:=.type "traceback",dict:=none,data:=.fields n } C;refine wpAny_setField D j sz (k _ ?_ ?_)
 all_goals
   have w:d.objs.size≠e:=Nat.ne_of_gt (Qo C);have keep:∀b o,b≠e->d.get? b=some o->((d.push { cls:=.type "traceback",dict:=none,data:=.fields n }).update e (Obj.mapFields (·.setIfInBounds 1 (Value.ref d.objs.size)))).get? b=some o:=λb o c O=>by
     rw[ZA _ _ (Ne.symm c)];exact Qc _ O
   have x:∀b o,s.heap.get? b=some o->(∀P,o.data≠.fields P)->b≠e:=λb o c f z=>by
     rw[z,p] at c;cases c;exact f fs j
 . have F:=Obj.data_mapFields j (·.setIfInBounds 1 (Value.ref d.objs.size))
   have R:=Zq (Obj.mapFields (·.setIfInBounds 1 (Value.ref d.objs.size))) D (Obj.isFreed_of_fields F);have S:=(ZA (d.push { cls:=.type "traceback",dict:=none,data:=.fields n }) (Obj.mapFields (·.setIfInBounds 1 (Value.ref d.objs.size))) (Ne.symm w)).trans (Qj d rfl);refine⟨λb o c=>keep b o (λz=>by rw[z,y] at c;cases c) (v b o c),y,i.of_keeps λb o c f=>?_,?_⟩
   . obtain⟨sl,z⟩:=m.2.2 b o c
     exact⟨_,keep b _ (x b o c f) z,rfl⟩
   . exact⟨_,_,d.objs.size,_,_,R,⟨Obj.cls_mapFields _ _,dict_mapF _ _⟩,F,by simp[sz],v.fresh,w,S,rfl,I⟩
 . intro b o c f
   obtain⟨sl,z⟩:=m.2.2 b o c;exact⟨sl,keep b _ (x b o c f) z⟩
theorem leave_first {b:Obj}{fs:Array Value}(i:A.frames=some (env::outer))(j:s.heap.FunFrames base (env::outer))(c:env.frame=some L)(d:s.heap.get? e=some b)(st:base.StaysIn s.heap)(l:base.get? e=none)(f:b.data = .fields fs)(g:fs[1]?=some .none)
   (k:∀a,FlD base (env::outer) e b.cls b.dict .none a->s.heap.UpToSlots a->Q () { s with heap:=a }):wpAny M A («leaving» env (.ref e)) Q E s:=by
 unfold «leaving» noteFrame;simp only[c];refine Qa (Qa (wpAny_field d f g ?_));rw[Qg '&'];exact yb7 i j c d st l f (Zr.mp g).1 λa x m=>zv0 (s:={ s with heap:=a }) x λn o h=>k n o (m.trans h)
theorem zZ1 (q:A.frames=some (env::outer))(j:env.frame=some L)(x:FlD base (env::outer) e cls od .none s.heap)
   (k:∀d,FlD base (env::outer) e cls od (rawInt L) d->s.heap.UpToSlots d->Q () { s with heap:=d }):wpAny M A (noteFrame (.ref e) env) Q E s:=by
 obtain⟨r,t,u,G,fs,T,H,v,l,⟨w,y⟩,m,n,B,C,g,h,p⟩:=x;subst w y;unfold noteFrame;simp only[j];refine Qa (wpAny_field l m n ?_);rw[Ql (show(Value.ref T != Value.none)=true by simp)];refine Qa (wpAny_field g h p ?_);rw[Qg (show ¬ ((Value.none == rawInt L)=true) by simp[rawInt])];refine Qa (wpAny_setField g h (Zr.mp p).1 ?_);have f:∀b,b≠T->(s.heap.update T (Obj.mapFields (·.setIfInBounds 3 Value.none))).get? b=s.heap.get? b:=λb a=>ZA _ _ (Ne.symm a)
 have i:∀b o,s.heap.get? b=some o->(∀D,o.data≠.fields D)->b≠T:=λb o a c z=>by
   rw[z,g] at a;cases a;exact c v h
 refine yb7 q (u.of_keeps λb o a c=>⟨o,(f b (i b o a c)).trans a,rfl⟩) j ((f e (Ne.symm C)).trans l) (λb o a=>(f b λz=>by rw[z,B] at a;cases a).trans (r b o a)) t m (Zr.mp n).1 λd x F=>k d x λb o a c=>F b o ((f b (i b o a c)).trans a) c
theorem leave_on (d:A.frames=some (env::outer))(f:env.frame=some L)(x:FlD base (env::outer) e cls od .none s.heap)
   (k:∀a,FlD base outer e cls od .none a->s.heap.UpToSlots a->Q () { s with heap:=a }):wpAny M A («leaving» env (.ref e)) Q E s:=by
 unfold «leaving»;refine Qa (zZ1 d f x λg h b=>zv0 (s:={ s with heap:=g }) h λi j c=>?_);obtain⟨l,m,⟨_,_,n⟩,o⟩:=j;exact k i ⟨l,m,n,o⟩ (b.trans c)
end
def FlyD (h:Heap)(H:Hp)(h0:Heap)(a:Addr)(cls:Value)(od:Option Addr):Prop :=
 (H a=none/\h0.get? a=none)/\∃T,(H T=none/\h0.get? T=none)/\∃oe vs oT ts,h.get? a=some oe/\(oe.cls=cls/\oe.dict=od)/\oe.data = .fields vs/\vs[1]?=some (.ref T)/\T≠a/\h.get? T=some oT/\oT.data = .fields ts/\ts[3]?=some Value.none
theorem FlyD.from {h:Heap}{H:Hp}{h0 c:Heap}{a:Addr}{d:Value}{f:Option Addr}(x:FlyD h H h0 a d f)(k:∀b o,c.get? b=some o->∃i,h0.get? b=some i):FlyD h H c a d f:=by
 have g:∀b,h0.get? b=none->c.get? b=none:=λb e=>by
   cases q:c.get? b with
   | none=>rfl
   | some o=>obtain⟨i,z⟩:=k b o q;rw[e] at z;cases z
 obtain⟨⟨j,l⟩,T,⟨m,n⟩,r⟩:=x;exact⟨⟨j,g _ l⟩,T,⟨m,g _ n⟩,r⟩
theorem FlyD.flying {h:Heap}{H:Hp}{h0 B:Heap}{a:Addr}{c:Value}{d:Option Addr}{l:List Env}(x:FlyD h H h0 a c d)(g:h.FunFrames B l) :
   ∃T,(H T=none/\h0.get? T=none)/\FlD (W.hideAll h (a::([T]++frs l))) l a c d .none h:=by
 obtain⟨_,T,z,i,j,k,m,n,p,q,r,s,t,u,v⟩:=x;refine⟨T,z,λb o e=>W.of_hideAll _ e,W.hideAll_none _ QC,W.funFrames_hide g λf w b y=>?_,i,j,T,k,m,n,p,q,r,W.hideAll_none _ (by simp),s,t,u,v⟩;exact Qv _ (Qv _ (List.mem_filterMap.mpr ⟨f,w,y⟩))
theorem zO2 {P:Program}{w:World}{fs ts:List Addr}{l R:List Env}{E H:Hp}{h0 g h B:Heap}{a:Addr}{C:Value}{F:Option Addr}(u:Un fs [] E H h0 g)(ok:HOk P w H g)(G:g.FunFrames B l)
   (I:∀b∈frs l,(b∈fs\/h0.get? b=none)/\H b=none) (s:H a=none/\h0.get? a=none) (p:∀T∈ts,H T=none/\h0.get? T=none)
   (x:FlD (W.hideAll g (a::(ts++frs l))) R a C F .none h) (J:g.UpToSlots h):Un fs [] E H h0 h/\HOk P w H h/\FlyD h H h0 a C F:=by
 obtain⟨S,_,_,U,V,T,X,K,Y,Z,e3,e4,L,M,N,O,e9⟩:=x;have keep:∀b o,b∉a::(ts++frs l)->g.get? b=some o->h.get? b=some o:=λb o d e=>S b o (W.hideAll_get _ e d)
 have r:∀b,b∈a::(ts++frs l)->H b=none/\(b∈frs l\/h0.get? b=none):=λb d=>by
   rcases Qn.mp d with rfl | d
   . exact⟨s.1,.inr s.2⟩
   . rcases Qs.mp d with d | d
     . exact⟨(p b d).1,.inr (p b d).2⟩
     . exact⟨(I b d).2,.inl d⟩
 have A:∀b o,h0.get? b≠none->g.get? b=some o->∃sl,h.get? b=some { o with slots:=sl }:=λb o n e=>by
   by_cases d:b∈a::(ts++frs l)
   . rcases(r b d).2 with q | q
     . obtain⟨_,t,j,k⟩:=G.mem q
       rw[e] at j;cases j;exact J b o e k
     . exact absurd q n
   . exact⟨o.slots,keep b o d e⟩
 refine⟨⟨λb o e n m i=>?_,λb o e n m i=>?_,u.free,λb o e i=>?_,u.tups,u.frzs,u.tbls⟩,λb o q=>?_,s,T,?_,U,V,X,K,Y,Z,e3,e4,M,N,O,e9⟩
 . refine keep b o (λd=>?_) (u.keep b o e n m i)
   rcases(r b d).2 with q | q
   . rcases(I b q).1 with q | q
     . exact m q
     . rw[e] at q;cases q
   . rw[e] at q;cases q
 . obtain⟨sl,q⟩:=u.slot b o e n m i
   obtain⟨D,v⟩:=A b _ (by rw[e];simp) q;exact⟨D,v⟩
 . obtain⟨t,q⟩:=u.there b o e i
   obtain⟨D,v⟩:=A b _ (by rw[e];simp) q;exact⟨_,v⟩
 . refine(ok b o q).stay (λc a0 y qv=>keep c a0 (λf=>?_) qv) (λ_ z=>z) λ_ _ z=>z
   have n:=(r c f).1;rcases y with rfl | y
   . rw[q] at n;cases n
   . rw[y] at n;cases n
 . by_cases f:T∈a::(ts++frs l)
   . rcases Qn.mp f with z | f
     . exact absurd z M
     . rcases Qs.mp f with f | f
       . exact p T f
       . obtain⟨_,t,j,k⟩:=G.mem f
         obtain⟨sl,z⟩:=J T t j k;rw[N] at z;cases z;exact absurd O (k K)
   . have Q:g.get? T=none:=by
       cases q:g.get? T with
       | none=>rfl
       | some o=>rw[W.hideAll_get _ q f] at L;cases L
     refine⟨?_,?_⟩
     . cases q:H T with
       | none=>rfl
       | some o=>obtain⟨ob,z⟩:=(ok T o q).got;rw[Q] at z;cases z
     . cases q:h0.get? T with
       | none=>rfl
       | some o=>obtain⟨ob,z⟩:=u.there T o q (by simp);rw[Q] at z;cases z
def CXD (P:Program)(w:World):CXT:=λouter H s E e s'=>∃a cls od H',e = .ref a/\s'.os=s.os/\AllBare s'.gens/\Un (frs outer) [] H H' s.heap s'.heap/\HOk P w H' s'.heap/\FlyD s'.heap H' s.heap a cls od/\E cls od H'
def yi2 (X:Cx)(E:XK):Prop:=∀(pins:PL) (σ:St) (H:Hp) (s:Shared) (x C:Addr) (od:Option Addr),'%'->H x=some (ExcO C x od)->X.s₀.heap.get? x=none->E (.ref C) od (del H x)->X.xe (.ref x) s
theorem Inv.leftD {X:Cx}{g:PL}{m:St}{H:Hp}{s:Shared}{a:Addr}{e:Option Addr}{d:Value}{ts:List Addr}{c:Heap}{j:List Env}(I:Inv X g m H s)(h:X.ex=[])(k:H a=none/\X.s₀.heap.get? a=none)(i:∀T∈ts,H T=none/\X.s₀.heap.get? T=none)
   (x:FlD (W.hideAll s.heap (a::(ts++frs X.stack))) j a d e .none c) (l:s.heap.UpToSlots c):Un X.fs [] X.H₀ H X.s₀.heap c/\HOk X.prog X.w H c/\FlyD c H X.s₀.heap a d e:=by
 have u:=I.base;rw[h] at u;refine zO2 u I.hok I.stack (λb f=>⟨?_,I.stkFree b f⟩) k i x l;rcases Qn.mp (I.stkSub b f) with z | z
 . right;rw[z];exact Heap.get?_none_of_le I.ok.above
 . exact .inl z
section
variable {P:Program} {w:World} {K:W.Frag} {mg:Str->Option Value} {base:Heap} {N:List Str} {qual:Str} {scope:Scope} {f:Addr} {cd:Value} {A:Around} {outer:List Env} {s:Shared} {H:Hp} {E:XK}
theorem zw6:yi2 (cxOf (CXD P w) P w K mg base N qual scope f cd A outer s H E) E:=by
 intro r y c d x C g I e n q;obtain⟨t,h⟩:=zY9 I e;have J:=I.del e;have i:del c x x=none:=yb6 _ _;refine leave_first (base:=W.hideAll d.heap (x::([]++frs (cxOf (CXD P w) P w K mg base N qual scope f cd A outer s H E).stack))) (outer:=outer) (L:=s.heap.objs.size) I.ok.frames ?_ rfl h (λb o z=>W.of_hideAll _ z) (W.hideAll_none _ QC) rfl rfl λv j k=>?_
 . exact W.funFrames_hide I.stack λa l b m=>Qv _ (List.mem_filterMap.mpr ⟨a,l,m⟩)
 . obtain⟨u,ok,p⟩:=J.leftD (ts:=[]) rfl ⟨i,n⟩ (λ_ z=>nomatch z) j k
   exact⟨x,.ref C,g,_,rfl,I.os,I.bare,u,ok,p,q⟩
theorem zf6:zn0 (CXD P w) (cxOf (CXD P w) P w K mg base N qual scope f cd A outer s H E) E:=by
 intro x D y B e l I q;obtain⟨a,c,g,h,rfl,m,i,un,ok,n,q⟩:=q;have J:=I.call' (ch:=[]) m un ok i λb z=>nomatch z
 have d:FlyD l.heap h s.heap a c g:=n.from λb o z=>I.base.there b o z (λz=>nomatch z)
 obtain⟨T,z,p⟩:=d.flying J.stack;refine leave_on J.ok.frames rfl p λC j r=>?_
 obtain⟨u,k,t⟩:=J.leftD (ts:=[T]) rfl d.1 (λb v=>by rw[QG.mp v];exact z) j r;exact⟨a,c,g,h,rfl,J.os,J.bare,u,k,t,q⟩
theorem passes_own_fnD :
   PassesOwn (model (cxOf (CXD P w) P w K mg base N qual scope f cd A outer s H E).prog (cxOf (CXD P w) P w K mg base N qual scope f cd A outer s H E).w) (cxOf (CXD P w) P w K mg base N qual scope f cd A outer s H E).A (cxOf (CXD P w) P w K mg base N qual scope f cd A outer s H E).env (cxOf (CXD P w) P w K mg base N qual scope f cd A outer s H E).xe :=
 PassesOwn.leaving
theorem FunD.okD {CX:CXT}{x c:Str}{st:Stmt}{fd:FuncData}{N ps:List Str}{k:Nat}{sp:Sp}(F:FunD K x c st f fd)(S:zb2 N ps (za5 st))(len:∀a H Q E,sp a H Q E->a.length=ps.length)
   (d:∀(b:Value) (A:Around) (outer:List Env) (s:Shared) (H:Hp) (a:List V) (Q:VK) (E:XK),Room k (A.deeper (envOfC c (za5 st) s.heap.objs.size f b))->sp a H Q E →
     ∃t,PSs (cxOf (CXD P w) P w K mg base N c (za5 st) f b A outer s H E) (zc9 st) t/\t { nx:=λ_ i=>Q .non i,rt:=Q } (start N a) H):FnOk P w K mg base (CXD P w) (k+1) f fd ps sp:=by
 obtain⟨o,p,r,kV,m,u,v,b,y,n,rfl,j,e⟩:=F.ex;refine ym9 j e S len λA outer s H a Q E l g=>?_
 obtain⟨t,h,q⟩:=d b A outer s H a Q E l g;exact⟨t,h,q⟩
theorem zF6 {X:Cx}:zn0 (CXD X.prog X.w) X EN:=λ_ _ _ _ _ _ _ ⟨_,_,_,_,_,_,_,_,_,_,z⟩=>z.elim
end
section
variable {X:Cx} {CX:CXT} {k:Nat} {f C:Addr} {fd:FuncData} {ps:List Str} {sp:Sp} {dvs:List V} {ds:')'} {E Ei:XK} {x m:Str} {p pos cpos apos:Pos} {e:Expr} {es:List Expr} {t:TA}
def tRaiseD (C:Addr)(sp:Sp)(dvs:List V)(Ei E:XK)(t:TA):TS:=λ_ σ H=>t σ H λvs H1=>vs.length<=sizeLine/\∀x,H1 x=none →
 sp (.ref x::(vs++dvs)) (upd H1 x (ExcO C x none)) (λv H2=>v = .non/\∃od,H2 x=some (ExcO C x od)/\E (.ref C) od (del H2 x)) Ei
theorem zB7 (R:yi2 X E) (w:X.calm=true) (c:XCls X.K C) (y:W.findIn X.K (.ref C) "__init__" = some (some (.ref f))) (A:W.isFn X.K (.ref f)=true) (F:FnOk X.prog X.w X.K X.mg X.base CX k f fd ps sp) (B:Room (k+1) X.A) (D:Gl X x) (G:X.mg x=some (.ref C)) (J:zj2 X.K fd ps ds) (K:Vals dvs ds) (L:zn0 CX X Ei)
   (M:PA X (e::es) t) (n:(x == ("__debug__" : Str))=false:=by decide) (O:starEach (e::es) X.env=(false,eval e X.env)::starEach es X.env:=by rfl) (o:(backTo cpos (starEach es X.env)).any (·.1)=false:=by rfl) :
   PS X (.Raise (some (.Call (.Name x p) (e::es) [] cpos)) none pos) (tRaiseD C sp dvs Ei E t):=by
 intro i s l H a0 I h;obtain⟨nm,P,N,bs,bm,sn,sub,ab,col,dd,k0,k1,k2,k3,k5,S,m⟩:=c.ob;rw[arm_exec_Raise];simp only[evalOpt,Option.map];refine Qa (wpAny_standAt (xraise (C:=C) m (I.ok.hd w) (hdct:=true) (nm:=nm) (q:=P) (N:=N) (bs:=bs) (sn:=sn) (sub:=sub) (ab:=ab) (col:=col) (dd:=dd) (k0:=k0) (k1:=k1) (k2:=k2) (k3:=k3) (k5:=k5) (newId:="ValueError.__new__") ?_));refine Qa (Zj (wpAny_Call_Name_kw (zs5 I D G ?_ n)) (λv s3 T=>Qa (wpAny_standAt (Qd T))) λ_ _ z=>z);refine W.callWith_K (h₀:=X.base) I.ok.mod.kin c.kp (thn (M cpos i s l H _ I h) λus s1 ⟨vs,H1,d,r,U,q⟩=>⟨d.kIn,?_⟩) O o;refine thn (run_xmake2 (Q:=λx a=>∃b,a x=some (ExcO C x b)/\E (.ref C) b (del a x)) c y A F B J K L d r U q) λv V ⟨Y,a,g,b,j,Z⟩=>?_
 obtain⟨t2,u⟩:=zY9 g j;exact⟨_,_,_,Y,g.kIn _ _ S,u,R i l a V _ C b g j (Heap.get?_none_of_le (QD d.sz (Nat.le_succ _))) Z⟩
end
noncomputable def Cx.inTryD (X:Cx)(pins:PL)(Ex:St->XK):Cx:={ X with pn:=X.pn++pins,xe:=λe s1=>∃σ H s,'%'/\CXD X.prog X.w X.stack H s (Ex σ) e s1 }
section
variable {X:Cx} {pins pins':PL} {σ:St} {H:Hp} {s:Shared} {Ex:St->XK} {D:Ends} {fl:Flow}
theorem Inv.inTryD (I:'%')(Ex:St->XK):Inv (X.inTryD pins Ex) [] σ H s :=
 let ok:=I.ok
 ⟨⟨ok.mod,ok.kind,ok.glob,ok.blt,ok.above,ok.inj,ok.has,ok.cab,ok.hd,ok.frames,ok.stk,ok.exf,ok.bs,ok.bsz,ok.noex,ok.exfs,ok.funs,ok.frf⟩,I.os,I.bare,I.base,I.loc,I.cell,I.free,I.freeC,λp a=>I.pin p (by
   rw[Zi] at a;exact a),I.hok,I.len⟩
theorem Inv.outTryD (I:Inv (X.inTryD pins Ex) pins' σ H s):Inv X pins σ H s :=
 let ok:=I.ok
 ⟨⟨ok.mod,ok.kind,ok.glob,ok.blt,ok.above,ok.inj,ok.has,ok.cab,ok.hd,ok.frames,ok.stk,ok.exf,ok.bs,ok.bsz,ok.noex,ok.exfs,ok.funs,ok.frf⟩,I.os,I.bare,I.base,I.loc,I.cell,I.free,I.freeC,λp a=>I.pin p (Zl _ a),I.hok,I.len⟩
theorem SP.outTryD (h:SP (X.inTryD pins Ex) pins' D fl s):SP X pins D fl s:=by
 cases fl with
 | next=>obtain⟨a,b,I,q⟩:=h;exact⟨a,b,I.outTryD,q⟩
 | brk=>obtain⟨a,b,I,q⟩:=h;exact⟨a,b,I.outTryD,q⟩
 | cont=>obtain⟨a,b,I,q⟩:=h;exact⟨a,b,I.outTryD,q⟩
 | ret u=>obtain⟨v,a,b,I,r,q⟩:=h;exact⟨v,a,b,I.outTryD,r,q⟩
theorem zz1:zZ0 (CXD X.prog X.w) (X.inTryD pins Ex) Ex:=λb a H s e c I q=>⟨a,H,s,I.outTryD,q⟩
end
noncomputable def zp9 (cls:Value)(a:Addr)(od:Option Addr):HO:=.ext λh=>∃oe,h.get? a=some oe/\(oe.cls=cls/\oe.dict=od)/\∃vs,oe.data = .fields vs
theorem landD_ok {P:Program}{w:World}{H:Hp}{h:Heap}{a:Addr}{c:Value}{d:Option Addr}{b:Obj}(e:h.get? a=some b)(f:(b.cls=c/\b.dict=d)/\∃g,b.data = .fields g):ze6 P w H h a (zp9 c a d):=⟨⟨b,e,f⟩,⟨_,e⟩,λl m ⟨t,i,j⟩ k=>⟨t,k _ i,j⟩⟩
section
variable {X:Cx} {D:Addr} {Ex:St->XK} {x n:Str} {i:Nat} {p pos hpos:Pos} {body suite:List Stmt} {b₀:Stmt} {tb th:TS}
def tTryD (K:W.Frag)(Ex:St->XK)(D:Addr)(i:Nat)(tb th:TS):TS:=λD' σ H=>tb D' σ H/\∀σ' cls od H' a,Ex σ' cls od H'->H' a=none->W.exmOne K cls (.ref D)=some true/\th (D'.forget i) (σ'.set i (some (.ref a))) (upd H' a (zp9 cls a od))
theorem yi3 (C:X.stack=X.env::X.outer/\X.env.frame=some X.env.locals)(hg:Gl X x)(hm:X.mg x=some (.ref D))(E:X.N.Nodup)(F:X.N[i]?=some n)(y:X.env.scope.names.lookup n=some .local)(d:∀t,PSs (X.inTryD t Ex) body tb)(hh:∀e,PSs (X.caught e) (b₀::suite) th)
   (a6:(x == ("__debug__" : Str))=false:=by decide) :
   PS X (.Try body [.ExceptHandler (some (.Name x p)) (some n) (b₀::suite) hpos] [] [] pos) (tTryD X.K Ex D i tb th):=by
 intro t ae σ af D' a1 ag;obtain⟨h1,h⟩:=ag;refine wpAny_Try_except (Zj (d t [] ae σ af D' (a1.inTryD Ex) h1) (λf j q=>?_) λe j q=>?_)
 . cases f with
   | next=>exact wpAny_execs_nil (SP.outTryD (fl:=.next) q)
   | brk=>exact SP.outTryD (fl:=.brk) q
   | cont=>exact SP.outTryD (fl:=.cont) q
   | ret u=>exact SP.outTryD (fl:=.ret u) q
 . obtain⟨P,H0,s0,Q,a,H,R,A,rfl,S,K,un,ok,fl,q⟩:=q
   obtain⟨ec,qh⟩:=h P H R A a q fl.1.1;have J:=Q.call' (ch:=[]) S un ok K λb z=>nomatch z
   have ff:=J.stack;have Z:=fl.1;obtain⟨a2,z,fw⟩:=fl.flying ff;have fr:X.A.frames=some (X.env::X.outer):=by rw[<-C.1];exact J.ok.frames
   rw[C.1] at fw;refine zZ1 fr C.2 fw λh1 a3 L=>?_
   refine zv0 a3 λh I M=>?_
   have N:∀(G:Heap),FlD (W.hideAll j.heap (a::([a2]++frs (X.env::X.outer)))) (X.env::X.outer) a H R .none G->j.heap.UpToSlots G->Un (frs X.stack) [] H0 A s0.heap G/\HOk X.prog X.w A G:=λG a7 a8=>by
     obtain⟨u,a9,_⟩:=zO2 (l:=X.env::X.outer) un ok (by rw[<-C.1];exact ff) (λb d=>by rw[<-C.1] at d;exact⟨.inl d,J.stkFree b d⟩) fl.1 (ts:=[a2]) (λb d=>by rw[QG.mp d];exact z) a7 a8;exact⟨u,a9⟩
   have J2:Inv X t P A { j with heap:=h }:=Q.call' (ch:=[]) (s':={ j with heap:=h }) S (N h I (L.trans M)).1 (N h I (L.trans M)).2 K λb z=>nomatch z
   refine wpAny_handleBy_cons (codeAny_handlers_test ?_) (by intro q;cases q);refine zs5 (X:=X.caught (.ref a)) (J2.caught _) hg hm ?_ a6;obtain⟨oe,he,⟨a4,_⟩,_⟩:=I.there;have LT:W.Looks (model X.prog X.w) h (typeOf (.ref a)) H:=by
     subst a4;exact(W.Looks.ld he).andThen .now
   refine(W.exm_one J2.kIn LT ec) _ _ _ _ (λ_ _ e=>e) ?_;show codeAny _ _ _ _ _;refine codeAny_handlers_suite_as (zv0 I λT a0 aa=>?_);obtain⟨g,ab⟩:=N T a0 ((L.trans M).trans aa);obtain⟨ah,ac,ad⟩:=a0.there;have B:∀b u,A b=some u->b≠a:=λb u e w=>by rw[w,Z.1] at e;cases e
   have J3:Inv X t P (upd A a (zp9 H a R)) { j with heap:=T }:=by
     refine Q.call' (ch:=[]) (s':={ j with heap:=T }) S ⟨g.keep,g.slot,λb o e n hx=>?_,g.there,λb U e=>?_,λb o u e=>?_,λb ps e=>?_⟩ (λb o e=>?_) K λb z=>nomatch z
     . rw[za8 (λw=>by rw[w,Z.2] at e;cases e)];exact g.free b o e n hx
     . rw[za8 (B b _ (g.tups b U e))];exact g.tups b U e
     . rw[za8 (B b _ (g.frzs b o u e))];exact g.frzs b o u e
     . obtain⟨a5,e1⟩:=g.tbls b ps e
       exact⟨a5,by rw[za8 (B b _ e1)];exact e1⟩
     . by_cases d:b=a
       . subst d
         rw[za3] at e;cases e;exact landD_ok ac ad
       . rw[za8 d] at e
         exact(ab b o e).stay (λ_ _ _ q=>q) (λc q=>by rw[za8 (B c _ q)];exact q) λc U q=>by rw[za8 (B c _ q)];exact q
   refine zM6 (X:=X.caught (.ref a)) (v:=.ref a) (J3.caught _) E F (.inl y) rfl (λs4 J4=>?_) (.inr y);refine Zj (hh (.ref a) t s4 _ _ (D'.forget i) J4 qh) (λf s' r=>?_) λ_ _ z=>False.elim z
   have r:=SP.uncaught a1.ok.hd r;cases f with
   | next=>obtain⟨V,O,k,m⟩:=r;exact zL4 k E F y λY s=>⟨_,_,s,m⟩
   | brk=>obtain⟨V,O,k,m⟩:=r;exact zL4 k E F y λY s=>⟨_,_,s,m⟩
   | cont=>obtain⟨V,O,k,m⟩:=r;exact zL4 k E F y λY s=>⟨_,_,s,m⟩
   | ret u=>obtain⟨v,V,O,k,rr,m⟩:=r;exact zL4 k E F y λY s=>⟨v,_,_,s,rr,m⟩
end
theorem zU2 {M:Model}{A:Around}{E:VP}{K:W.Frag}{h:Heap}{g:Array GenState}{d:Drawn}{t:Nat}{os:OsState}{x C:Addr}{c:Obj}{e:Option Obj}{a:Value}{Q:Unit->Shared->Prop}
   (X:K.In h) (I:W.InstAt h x c C e) (b:W.mroIn K C (.type "BaseException")=some true) (q:Q () { heap:=h,gens:=g,drawn:=d,toks:=t,os:=os }) :
   wpAny M A (checkBuiltinCall "BaseException.__getattribute__" { pos:=[Value.ref x,a] }) Q E { heap:=h,gens:=g,drawn:=d,toks:=t,os:=os }:=by
 have f:builtinKind "BaseException.__getattribute__" = some Manifest.AttrKind.slot:=by decide +kernel
 have i:splitId "BaseException.__getattribute__" = some ("BaseException","__getattribute__"):=by decide +kernel
 have j:=F.args_bexc_ga (Value.ref x) a;have k:=W.InstAt.type I (M:=M);have l:=W.looks_mroIn (M:=M) X b;unfold checkBuiltinCall;simp only[f,i];refine Qa ?_;unfold isInstance;refine Qa (W.Looks.at k (W.Looks.at l ?_));refine wpAny_ite_false rfl ?_;exact wpAny_of_eq j q
theorem get_valueX {prog:Program}{w:World}{A:Around}{E:VP}{s:Shared}{K:W.Frag}{x C:Addr}{l:Obj}{c:Option Obj}{name:Str}{b:Bool}{Q:VP}{v:Value}
   (X:K.In s.heap) (I:W.InstAt s.heap x l C c)
   (f:W.findIn K (.ref C) "__getattribute__" = some (some (.builtin "BaseException.__getattribute__")))
   (i:W.findIn K (.ref C) "__getattr__" = some none)
   (j:W.mroIn K C (.type "BaseException")=some true)
   (m:W.findObj K C c name=some (.value v)) (n:W.handedIn v=true)
   (h:Q v { s with toks:=s.toks+1 }):wpAny '*' A (getAttr (.ref x) name b) Q E s:=by
 obtain⟨r,g,d,t,u⟩:=s;have e:=W.InstAt.type I (M:=model prog w);have o:=W.looks_findIn (M:=model prog w) X f;have p:=W.looks_findIn (M:=model prog w) X i;have q:=W.looks_find (M:=model prog w) X I m
 have k:(b && onTheHeap (Value.builtin "BaseException.__getattribute__"))=false:=by cases b<;>rfl
 unfold getAttr;refine Qa (wpAny_mkText ?_);unfold getAttrBy;refine wpAny_holding (Qa (W.Looks.at e (Qa (W.Looks.at o ?_))));refine wpAny_ite_false rfl ?_;unfold getAttrByItsOwn;refine Qa ?_;unfold hookBefore;refine wpAny_ite_true rfl (W.Looks.at p ?_);refine Qa (wpAny_attempt (wpAny_holding ?_));unfold callGetattribute;refine wpAny_ite_false (by rw[k];rfl) ?_;unfold boundAndCalled;refine Qa (wpAny_of_eq (F.attr_ValueError.ga.bind (Value.ref x)) ?_);refine wpAny_call (codeAny_call_builtin F.attr_ValueError.ga.plain F.entry_bexc_ga ?_);refine zU2 X I j ?_;unfold Builtin.«object.__getattribute__»;refine Qa (wpAny_of_eq (a:=(Value.ref x,[Value.str name t])) rfl ?_);refine Qa (Qd (Qa (W.Looks.at e (Qa (W.Looks.at q (Qd ?_))))));show wpAny '*' A (handedOut v) Q E _;rw[W.handedOut_of n];exact Qd h
theorem kin_classX {prog:Program}{w:World}{A:Around}{E:VP}{s:Shared}{K:W.Frag}{x D:Addr}{k b:Obj}{Q:Option Value->Shared->Prop}
   (e:W.findIn K (.ref D) "__getattribute__" = some (some (.builtin "BaseException.__getattribute__")))
   (f:W.findIn K (.ref D) "__getattr__" = some none)
   (i:W.mroIn K D (.type "BaseException")=some true)
   (hdct:W.hasDictIn K D=true) (l:W.findIn K (.ref D) "__class__" = some (some (.builtin "object.__class__")))
   (m:W.specialIn K (.builtin "object.__class__") "__get__" = some (some (.builtin "getset_descriptor.__get__")))
   (j:W.takesIn K (.builtin "object.__class__")=some true) (n:W.mroIn K D (.type "object")=some true)
   (X:K.In s.heap) (I:W.InstAt s.heap x k D (some b)) (h:Q (some (.ref D)) { s with toks:=s.toks+1 }) :
   wpAny '*' A (getAttr? (.ref x) "__class__") Q E s:=by
 have o:W.findObj K D (some b) "__class__" = some (.bind (.builtin "getset_descriptor.__get__") (.builtin "object.__class__")) :=
   W.findObj_data (by obtain⟨y,p,_⟩:=W.any_some hdct;rw[p];rfl) l m j
 obtain⟨v,g,d,t,z⟩:=s;have c:=W.InstAt.type I (M:=model prog w);have q:=W.looks_findIn (M:=model prog w) X e;have r:=W.looks_findIn (M:=model prog w) X f;have u:=W.looks_find (M:=model prog w) X I o;unfold getAttr?;refine Qa (wpAny_mkText ?_);unfold getAttrBy?;refine Qa (wpAny_attempt ?_);unfold getAttrBy;refine wpAny_holding (Qa (W.Looks.at c (Qa (W.Looks.at q ?_))));refine wpAny_ite_false rfl ?_;unfold getAttrByItsOwn;refine Qa ?_;unfold hookBefore;refine wpAny_ite_true rfl (W.Looks.at r ?_);refine Qa (wpAny_attempt (wpAny_holding ?_));unfold callGetattribute;refine wpAny_ite_false rfl ?_;unfold boundAndCalled;refine Qa (wpAny_of_eq (F.attr_ValueError.ga.bind (Value.ref x)) ?_);refine wpAny_call (codeAny_call_builtin F.attr_ValueError.ga.plain F.entry_bexc_ga ?_);refine zU2 X I i ?_;unfold Builtin.«object.__getattribute__»;refine Qa (wpAny_of_eq (a:=(Value.ref x,[Value.str "__class__" t])) rfl ?_);refine Qa (Qd (Qa (W.Looks.at c (Qa (W.Looks.at u ?_)))));show wpAny _ _ (Builtin.ObjectAttr.bindTo (.builtin "getset_descriptor.__get__") (.builtin "object.__class__") (.ref x) (.ref D)) _ _ _;unfold Builtin.ObjectAttr.bindTo;refine Qa (wpAny_holding (wpAny_call (W.class_get X I n ?_)));refine Qd ?_;show wpAny '*' A (handedOut (.ref D)) _ _ _;refine W.handed_on rfl ?_;exact Qd h
theorem kitx_X {K:W.Frag}{x D:Addr}{o p:Obj}
   (g:W.findIn K (.ref D) "__getattribute__" = some (some (.builtin "BaseException.__getattribute__")))
   (i:W.findIn K (.ref D) "__getattr__" = some none)
   (j:W.mroIn K D (.type "BaseException")=some true)
   (hdct:W.hasDictIn K D=true) (r:W.findIn K (.ref D) "__class__" = some (some (.builtin "object.__class__")))
   (s:W.specialIn K (.builtin "object.__class__") "__get__" = some (some (.builtin "getset_descriptor.__get__")))
   (l:W.takesIn K (.builtin "object.__class__")=some true) (t:W.mroIn K D (.type "object")=some true) :
   W.KitX K (.ref x) (.ref D) λh=>W.InstAt h x o D (some p):=by
 have a:∃c b d sl,List.lookup D K=some { cls:=c,dict:=b,data:=.cls d,slots:=sl }:=by
   obtain⟨d,f,_⟩:=W.any_some hdct;unfold W.clsIn at f
   split at f
   . rename_i c b cd' sl e
     exact⟨_,_,_,_,e⟩
   . cases f
 obtain⟨c,b,d,sl,a⟩:=a;refine⟨λ_ _ _ I=>W.InstAt.type I,λM h X _=>?_,λh y u v n w X m=>?_,λX I k=>kin_classX g i j hdct r s l t X I k⟩
 . intro A B C E k q
   exact Qa (wpAny_loadPart (k D _ (X D _ a)) (Qd q))
 . refine Bool.eq_false_iff.mpr λq=>?_
   have e:=Value.ref.inj (beq_iff_eq.mp q);subst e;have z:=(X D _ a).symm.trans m;cases z
structure XAsk (K:W.Frag)(C:Addr):Prop where
 ga:W.findIn K (.ref C) "__getattribute__" = some (some (.builtin "BaseException.__getattribute__"))
 gt:W.findIn K (.ref C) "__getattr__" = some none
 be:W.mroIn K C (.type "BaseException")=some true
 hd:W.hasDictIn K C=true
 kc:W.findIn K (.ref C) "__class__" = some (some (.builtin "object.__class__"))
 mo:W.mroIn K C (.type "object")=some true
structure XWay (K:W.Frag):Prop where
 gt:W.specialIn K (.builtin "object.__class__") "__get__" = some (some (.builtin "getset_descriptor.__get__"))
 tk:W.takesIn K (.builtin "object.__class__")=some true
section
variable {X:Cx} {pins:PL} {σ:St} {H:Hp} {s:Shared}
theorem yi4 {C a d:Addr}{fs:List (Str×V)}(I:'%')(e:H a=some (zp9 (.ref C) a (some d)))(h:H d=some (.xd fs)) :
   ∃f b,W.InstAt s.heap a f C (some b)/\∃c:Str->Option Value,(∀n,W.lookIn n b=some (c n))/\∀g,RelO (fs.lookup g) (c g):=by
 obtain⟨f,i,⟨j,k⟩,q,l⟩:=(I.hok a _ e).1;obtain⟨_,c,m,r,_⟩:=I.hok d _ h;obtain⟨b,o,p⟩:=zT0 m;refine⟨f,b,⟨i,j,?_,?_⟩,c,p,r⟩
 . unfold W.notCls
   rw[l]
 . rw[k];exact o
def yr7 (K:W.Frag)(ta:TE)(f:Str):TE:=λσ H Q=>ta σ H λx H1=>∃a C dx fs v,x = .ref a/\H1 a=some (zp9 (.ref C) a (some dx))/\H1 dx=some (.xd fs)/\XAsk K C/\ze0 K C f/\fs.lookup f=some v/\Q v H1
theorem pe_xget {e:Expr}{f:Str}{j:Pos}{d:TE}(k:PE X e d)(m:attributeBase e f X.env (eval e X.env)=eval e X.env):PE X (.Attribute e f j) (yr7 X.K d f):=by
 intro i s E H Q I h;refine yh4 m (thn (k i s E H _ I h) λu F ⟨x,p,b,t,a,C,G,fs,v,w,y,z,c,n,l,q⟩=>?_);subst w;obtain rfl:u=Value.ref a:=t;obtain⟨K,L,J,A,B,r⟩:=yi4 b y z;obtain⟨u,D,g⟩:=RelO.some_of (v:=v) (o:=A f) (by rw[<-l];exact r f);exact get_valueX b.kIn J c.ga c.gt c.be (W.findObj_own c.hd n rfl (by rw[B,D])) (zT1 g) ⟨v,p,b.tok _,g,q⟩
def rIsX (K:W.Frag):List V->Hp->VK->Prop:=λxs H Q=>∃a D dx fs cv c b,xs=[.ref a,cv]/\ClsV cv c/\H a=some (zp9 (.ref D) a (some dx))/\H dx=some (.xd fs)/\XAsk K D/\XWay K/\W.kitOne K (.ref D) c=some b/\Q (.bl b) H
theorem call_isX:zi1 X (.builtin "isinstance") (rIsX X.K):=by
 intro p s E H t v Q I r h;obtain⟨a,D,x,fs,y,c,b,rfl,f,g,i,k,w,e,q⟩:=h;obtain⟨u,j,rfl,l,d⟩:=zS9 r;have m:j=c:=by
   cases f with
   | ty n=>exact d
   | own C=>exact d
 subst m;cases (show u=Value.ref a from l);obtain⟨A,B,J,_⟩:=yi4 I g i;exact W.kia_one (kitx_X k.ga k.gt k.be k.hd k.kc w.gt w.tk k.mo) I.kIn J e (λz=>nomatch z) λo=>⟨.bl b,H,I.tok o,rfl,q⟩
theorem kit_self {K:W.Frag}{C:Addr}:W.kitOne K (.ref C) (.ref C)=some true:=by
 unfold W.kitOne;rw[Ql (by simp)]
end
theorem pe_xgetK {X:Cx}(K:W.Frag)(h:X.K=K){e:Expr}{f:Str}{b:Pos}{a:TE}(c:PE X e a)(d:attributeBase e f X.env (eval e X.env)=eval e X.env):PE X (.Attribute e f b) (yr7 K a f):=by
 subst h;exact pe_xget c d
theorem zI8 {X:Cx} (K:W.Frag) (h:X.K=K):zi1 X (.builtin "isinstance") (rIsX K):=by
 subst h;exact call_isX
section
variable {X:Cx}
theorem strsAre_of:∀ {a:List Str} {b:')'},Vals (a.map V.str) b->StrsAre b a:=by
 intro a
 induction a with
 | nil=>intro b r;rw[List.map_nil] at r;cases r;exact .nil
 | cons y a c =>
   intro b r;rw[QB] at r;cases r with
   | cons d f =>
     obtain⟨t,e⟩:=d;subst e;exact .cons y t (c f)
theorem zU3:∀(l:List (Str×Tok)),Vals ((l.map (·.1)).map V.str) (strValues l)
 | []=>.nil
 | (y,t)::l=>.cons ⟨t,rfl⟩ (zU3 l)
def rStarts:V->List V->Hp->VK->Prop:=λx vs H Q=>∃z y,x = .str z/\vs=[.str y]/\Q (.bl (Txt.startswith z y)) H
theorem zU4:MtR X "str.startswith" rStarts:=by
 intro c s g H x d v e Q I a b h;obtain⟨z,y,rfl,rfl,q⟩:=h;obtain⟨t,rfl⟩:=a;obtain⟨u,rfl,f,rfl⟩:=b.one;exact SC.startswith ⟨.bl _,H,I,rfl,q⟩
def rJoin (K:W.Frag):V->List V->Hp->VK->Prop:=λx vs H Q=>∃(z:Str) (l:Addr) (ys:List Str),x = .str z/\vs=[.ref l]/\SqL K H l (ys.map V.str)/\(ys.map (·.length)).sum+ys.length*z.length<=16777216/\Q (.str (Txt.join z ys)) H
theorem zL6:MtR X "str.join" (rJoin X.K):=by
 intro g s o H x j v m Q I a b h;obtain⟨z,l,c,rfl,rfl,d,e,q⟩:=h;obtain⟨t,rfl⟩:=a;obtain⟨u,rfl,f⟩:=b.one;cases f;obtain⟨i,r,p,_⟩:=I.list d;exact join_list p.isList (strsAre_of r) e λn k=>⟨.str (Txt.join z c),H,I.tok _,⟨_,rfl⟩,q⟩
def rSplit:V->List V->Hp->VK->Prop:=λx vs H Q=>∃(z y:Str),x = .str z/\vs=[.str y]/\(y.length == 0)=false/\z.length<=1000000/\∀l,H l=none->Q (.ref l) (upd H l (.lst ((Txt.split z y).map V.str)))
theorem zO3:MtR X "str.split" rSplit:=by
 intro d s j H x w v z Q I m n h;obtain⟨x,y,rfl,rfl,f,A,q⟩:=h;obtain⟨t,rfl⟩:=m;obtain⟨_,rfl,u,rfl⟩:=n.one;have r:sizeLine=16777216:=by decide
 have o:=q _ I.fresh;have p:=split_le x y;have c:∀(l:List (Str×Tok)) (k:Nat),l.map (·.1)=Txt.split x y->EP X d j Q (.ref s.heap.objs.size) { s with heap:=s.heap.push { cls:=.type "list",data:=.seq (strValues l).toArray },toks:=k }:=λl k e=>by
   refine⟨.ref s.heap.objs.size,_,?_,rfl,o⟩;have g:=zU3 l;rw[e] at g;exact I.lnew g (by rw[Qb];omega)
 cases a:(decide (x.length<y.length) || decide (Builtin.Str.strKind x<Builtin.Str.strKind y))
 . cases b:(Builtin.Str.occurrences x y 0 x.length (x.length+1)).isEmpty
   . have i:Txt.split x y=Builtin.Str.partsBetween x (Builtin.Str.occurrences x y 0 x.length (x.length+1)) y.length:=(Qg (ne_true_of_eq_false a)).trans (Qg (ne_true_of_eq_false b))
     refine call_meets F.slot_str_split (typeIs_str _ _ _) F.entry_str_split (F.args_str_split_2 _ _) (meets_str_split_sep x y t u a f b '!' (by rw[<-i];omega)) ?_;show EP X d j Q _ { s with toks:=_,heap:=s.heap.push { cls:=.type "list",data:=.seq (strsFrom s.toks (Builtin.Str.partsBetween x (Builtin.Str.occurrences x y 0 x.length (x.length+1)) y.length)).toArray } };rw[strsFrom_eq];exact c (numbered s.toks _) _ ((numbered_texts _ _).trans i.symm)
   . exact call_meets F.slot_str_split (typeIs_str _ _ _) F.entry_str_split (F.args_str_split_2 _ _) (meets_str_split_not_found x y t u a f b)
       (c [(x,t)] s.toks ((Qg (ne_true_of_eq_false a)).trans (Ql b)).symm)
 . exact call_meets F.slot_str_split (typeIs_str _ _ _) F.entry_str_split (F.args_str_split_2 _ _) (meets_str_split_cannot_occur x y t u a)
     (c [(x,t)] s.toks (Ql a).symm)
def rSlS:V->Option Int->Option Int->Hp->VK->Prop:=λx lo hi H Q=>∃z,x = .str z/\z.length<=sizeLine/\Q (.str (Txt.slice z lo hi)) H
theorem yi5 {v:Value}{p:Option Int}(h:IsPart v p):∃q:Option (Int×Tok),v=partValue q/\q.map (·.1)=p:=by
 cases h with
 | none=>exact⟨none,rfl,rfl⟩
 | int i t=>exact⟨some (i,t),rfl,rfl⟩
theorem sl_str:SlR X rSlS:=by
 intro f s o H x v g i j m sl Q I a b c d h;obtain⟨z,rfl,e,q⟩:=h;obtain⟨t,rfl⟩:=a;obtain⟨l,rfl,rfl⟩:=yi5 c;obtain⟨u,rfl,rfl⟩:=yi5 d
 refine⟨"str",_,F.slot_str_getitem.lookup,typeIs_str _ _ _,wpAny_getItem_str_slice (l:=l) (u:=u) (st:=none) b rfl
   (post_val_or_str ⟨QD (Txt.slice_le z _ _) e,λn k=>⟨.str _,H,I.tok _,⟨_,rfl⟩,q⟩⟩)⟩
theorem call_int_text:zi1 X (.type "int") (λa H Q=>∃x n,a=[.str x]/\intText? x=some n/\x.length<=640/\Q (.int n) H):=by
 intro d s f H a e Q I r h;obtain⟨x,n,rfl,b,c,q⟩:=h;obtain⟨u,rfl,t,rfl⟩:=zp8 r;exact W.KIN.call_text b c ⟨.int n,H,I.tok _,⟨_,rfl⟩,q⟩
theorem bools_at:∀ {bs:List Bool} {a:')'},Vals (bs.map V.bl) a->a=bs.map Value.bool:=by
 intro bs
 induction bs with
 | nil=>intro a r;rw[List.map_nil] at r;cases r;rfl
 | cons b bs c =>
   intro a r;rw[QB] at r;cases r with
   | cons d e =>
     cases d;rw[c e];rfl
theorem all_range (bs:List Bool):((List.range bs.length).all λi=>(bs[i]?).getD true)=bs.all id:=by
 induction bs with
 | nil=>rfl
 | cons b bs a =>
   rw[QE,List.range_succ_eq_map,List.all_cons,List.all_map,List.all_cons];have e:((λi=>((b::bs)[i]?).getD true) ∘ Nat.succ)=λi=>(bs[i]?).getD true:=by
     funext i
     simp
   rw[e,a];simp
theorem call_all (m:X.calm=true):zi1 X (.builtin "all") (λf H Q=>∃(l:Addr) (bs:List Bool),f=[.ref l]/\SqL X.K H l (bs.map V.bl)/\Q (.bl (bs.all id)) H):=by
 intro D s M H f E Q I r h;obtain⟨l,bs,rfl,n,q⟩:=h;obtain⟨u,rfl,o⟩:=zp8 r;cases o;obtain⟨c,t,p,F⟩:=I.list n;have g:=bools_at t;have d:=p.isList;have k:l<s.heap.objs.size:=by obtain⟨_,e,_⟩:=d;exact Qo e
 have w:X.A.handled=none:=I.ok.hd m;refine call_all_walk (wpAny_pyIter_list d ?_)
 refine⟨s.heap.objs.size,[s.heap.objs.size,l],[s.heap.objs.size],c.toArray.size,_,_,λi=>(bs[i]?).getD true,rfl,Walks.list (A:=X.A.in1) w _ l (Qz k) c.toArray,
   ⟨⟨_,Qj _ rfl,rfl,rfl⟩,d.push _⟩,λi v G J K y j=>?_,λL z B=>?_⟩
 . have a:c[i]?=some v:=by simpa using y
   rw[g,QK] at a;cases e:bs[i]? with
   | none=>rw[e] at a;cases a
   | some b =>
     rw[e] at a;cases a;simp only[e,Option.getD_some] at j;exact wpAny_truthy_bool j
 . have e:((List.range c.toArray.size).all λi=>(bs[i]?).getD true)=bs.all id:=by
     rw[Qk,g,Qb];exact all_range bs
   rw[e];exact⟨.bl _,H,I.kept (t':=z) λb x e=>B b x (λC=>by rw[QG.mp C] at e;exact Nat.lt_irrefl _ (Qo e)) (Qc _ e),rfl,q⟩
noncomputable def Its (z:Str):It:=⟨λi _=>i<z.cps.size,λi H x H'=>H'=H/\∃c,z.cps[i]?=some c/\x = .str ⟨#[c]⟩,λi _=>z.cps.size<=i⟩
def iStr (tl:TE):TI:=λσ H R=>tl σ H λx H1=>∃z,x = .str z/\R (Its z) H1
theorem yb8 {P:Program} {w:World} {K:W.Frag} {S:Expr} {z:Str} {t:Tok} {a:Addr} {ty:String} (O:["enumerate","zip","dict_itemiterator","dict_reverseitemiterator","odict_iterator","itertools.zip_longest","itertools.pairwise"].contains ty=false)
   (W:∀L:Around,L.handled=none->Walks P w L a [a] [a] z.cps.size (SignAt z) (λi h=>h.IsStrIter a ty z t i)) (N:∀(A:Around) (i:Nat) (s:Shared) (Q:VP) (E:VP),s.heap.IsStrIter a ty z t i->Q (.ref a) s->wpAny (model P w) A (pyIter (.ref a)) Q E s) :
   Turn P w K S (Its z) [a] a (λi h=>i<=z.cps.size/\h.IsStrIter a ty z t i) where
 mem:=by simp
 obj:=λi h f b g=>by
   have e:b=a:=by simpa using g
   subst e;obtain⟨_,o,e,c,d⟩:=f;exact⟨o,e,λv z=>by rw[d] at z;cases z⟩
 keep:=λi h m f k=>by
   obtain⟨T,o,e,c,d⟩:=f;exact⟨T,o,k a (by simp) o e,c,d⟩
 item:=by
   intro X j q r u i G s M H E I n f p;subst j q r;obtain⟨x,y,U,B,C,D⟩:=n a (by simp);refine(W X.A (I.ok.hd u)).item i s _ _ p f.2 λv m l j J F=>?_
   obtain⟨c,a0,R,rfl⟩:=j;have V:Inv X G M H { s with heap:=m,toks:=l }:=I.turned (t':=l) (λb o g e=>F b o (by simpa using g) e) x y B C D;obtain⟨o,e,Y,d⟩:=id J;exact⟨_,rfl,yg6 (s:={ s with heap:=m,toks:=l }) e Y d O ⟨.str ⟨#[c]⟩,H,V,⟨_,rfl⟩,⟨rfl,c,R,rfl⟩,⟨p,J⟩,λb g=>(n b g).1⟩⟩
 done:=by
   intro X j q r u i G s M H E I n f p;subst j q r;obtain⟨x,y,U,B,C,D⟩:=n a (by simp);have Z:i=z.cps.size:=Nat.le_antisymm f.1 p;subst Z;exact(W X.A (I.ok.hd u)).done s _ _ f.2 λm l F=>⟨rfl,I.turned (t':=l) (λb o g e=>F b o (by simpa using g) e) x y B C D⟩
 self:=λA i s Q E f h=>N A i s Q E f.2 h
theorem pi_str {f l:Expr}{n:TE}(u:PE X l n):PI X f l (iStr n):=by
 intro k s r H R I h;refine thn (u k s r H _ I h) λv a ⟨x,w,g,y,B⟩=>?_
 obtain⟨z,e,q⟩:=B;subst e;obtain⟨t,rfl⟩:=y;have m:∀(o:Obj) (d:Nat->Heap->Prop),Turn X.prog X.w X.K f (Its z) [a.heap.objs.size] a.heap.objs.size d->d 0 (a.heap.push o)->PIE X k r f R (.ref a.heap.objs.size) { a with heap:=a.heap.push o }:=λo d T c=>by
   refine⟨a.heap.objs.size,[a.heap.objs.size],d,Its z,w,rfl,g.kept (t':=a.toks) λb o e=>Qc _ e,T,c,λb C=>?_,q⟩;have e:b=a.heap.objs.size:=by simpa using C
   subst e;exact g.fpOk (Qi _) (g.hok.fresh (Qi _))
 cases p:z.cps.all (· < 128)
 . exact wpAny_pyIter_wide p (m _ _ (yb8 (t:=t) (ty:="str_iterator") '&' (λD j=>Walks.strWide j _ z t) λA i s Q E c h=>wpAny_pyIter_striter_wide c h) ⟨QH _,_,Qj _ rfl,rfl,rfl⟩)
 . exact wpAny_pyIter_ascii p (m _ _ (yb8 (t:=t) (ty:="str_ascii_iterator") '&' (λD j=>Walks.strAscii j _ z t) λA i s Q E c h=>wpAny_pyIter_striter_ascii c h) ⟨QH _,_,Qj _ rfl,rfl,rfl⟩)
theorem comp_str {g:Hp}{D:Addr}{z:Str}{f:Nat->V}{j:Nat}{p:St}{l:TE}{Q:Hp->Prop}(F:z.cps.size<=sizeLine)
   (step:∀c o (R:V->Hp->Prop),c∈z.cps.toList->R (f c) (upd g D (.lst o))->l (p.set j (some (.str ⟨#[c]⟩))) (upd g D (.lst o)) R)
   (q:Q (upd g D (.lst (z.cps.toList.map f)))) :
   ∃W:Nat->Nat->St->Hp->Prop,(∃m,W 0 m p (upd g D (.lst []))) ∧
     ∀i m r a,W i m r a->((Its z).stop i a/\Q a)\/((Its z).go i a/\∃N:St->Hp->Prop,(∀s d,N s d->∃t,t<m/\W (i+1) t s d) ∧
       ∀v d,(Its z).yld i a v d->zp7 j v r d λk A=>zm9 k A λb u=>if b=true then zo3 D l N k u else N k u):=by
 refine zO1 (J:=Its z) (n:=z.cps.size) (x:=λi=>.str ⟨#[z.cps.toList.getD i 0]⟩) (λi a=>a=upd g D (.lst ((z.cps.toList.take i).map f))) rfl (λi a h _=>h) (λa _=>Qi _) (λi v a d h _ y=>?_) (λi a N h B C=>?_) (λa e=>?_)
 . obtain⟨e,c,E,rfl⟩:=y
   refine⟨e,?_⟩;have:z.cps.toList[i]?=some c:=by simpa using E
   rw[Qw,this];rfl
 . subst B
   have w:i<z.cps.toList.length:=by simpa using h
   have e:z.cps.toList[i]?=some (z.cps.toList.getD i 0):=by rw[Qw,Qf w];rfl
   dsimp only[zm9];refine iteT (step _ _ _ (Qy e) ⟨_,za3,by rw[Qb,QW];omega,?_⟩);refine C _ ?_;rw[zh5,QY,Qq,e];rfl
 . rw[e,QV (by simp)]
   exact q
noncomputable def exElt (e:Expr)(j:Nat):Expr:=match e with
 | .Tuple es _ _=>es.getD j (.Constant .none 0 ⟨0,0,0,0⟩)
 | _=>.Constant .none 0 ⟨0,0,0,0⟩
inductive yo4 (K:W.Frag)(x:V)(y:V)(H:Hp)(Q:VK):Prop
 | mk (a b xs:_)(h0:x = .ref a)(h1:y = .ref b)(h2:SqL K H a xs)(h3:SqL K H b [])(h4:Q (.bl xs.isEmpty) H):yo4 K x y H Q
def rEqE (K:W.Frag):R2:=λx y H Q=>yo4 K x y H Q
theorem yo5 {X:Cx}(g:X.A.units<cLine):OpR X (compareOp .Eq) (rEqE X.K):=by
 intro L s O H x y v u Q I l m h;obtain⟨a,b,j,rfl,rfl,n,o,q⟩:=h;cases l;cases m;obtain⟨d,r,⟨p,t,w,z,_,A⟩,N⟩:=I.list n;obtain⟨c,B,⟨C,D,E,F,_,G⟩,M⟩:=I.list o;have k:s.heap.IsList a d.toArray:=⟨p,w,z,t,A⟩;have f:s.heap.IsList b c.toArray:=⟨C,E,F,D,G⟩;obtain rfl:c=[]:=by cases B;rfl
 cases j with
 | nil =>
   obtain rfl:d=[]:=by cases r;rfl
   exact(PySem.SeqAt.RcAt.lists (e:=λ_=>true) k f rfl g (λi J=>absurd J (by simp))) _ _ _ _ ⟨.bl true,H,I,rfl,q⟩
 | cons x j =>
   have K:=r.length;refine(PySem.SeqAt.RcAt.lists_lengths k f ?_ g) _ _ _ _ ⟨.bl false,H,I,rfl,q⟩;simp only[Qk,List.length_nil,<-K,QE];simp
end
end L2
namespace L2
open PySem PySem.NumText
theorem yi6 {c:Nat}:∀ {p q A B:List Nat},c∉p->c∉q->p++c::A=q++c::B->p=q/\A=B
 | [],[],A,B,_,_,h=>⟨rfl,by injection h⟩
 | [],b::q,A,B,_,hq,h=>by
   injection h with d e
   exact absurd (Qn.mpr (.inl d)) hq
 | a::p,[],A,B,hp,_,h=>by
   injection h with d e
   exact absurd (Qn.mpr (.inl d.symm)) hp
 | a::p,b::q,A,B,hp,hq,h=>by
   injection h with d e
   obtain⟨f,g⟩:=yi6 (λz=>hp (Qv _ z)) (λz=>hq (Qv _ z)) e;exact⟨by rw[d,f],g⟩
theorem zn6 {a b:Str}(h:a.cps.toList=b.cps.toList):a=b:=by
 cases a;cases b;congr 1;exact Array.toList_inj.mp h
theorem zh7 (a b:Str):(a++b).cps.toList=a.cps.toList++b.cps.toList:=by
 show(a.cps++b.cps).toList=_;simp
theorem zo4 {c:Nat}(p q:Str)(r:List Str):(Str.join ⟨#[c]⟩ (p::q::r)).cps.toList=p.cps.toList++c::(Str.join ⟨#[c]⟩ (q::r)).cps.toList:=by
 show((p++⟨#[c]⟩)++Str.join ⟨#[c]⟩ (q::r)).cps.toList=_;rw[zh7,zh7];simp
theorem yo6 {c:Nat}:∀ {d f:List Str},d≠[]->f≠[]->(∀p∈d,c∉p.cps.toList)->(∀q∈f,c∉q.cps.toList)->Str.join ⟨#[c]⟩ d=Str.join ⟨#[c]⟩ f->d=f
 | [],_,h,_,_,_,_=>absurd rfl h
 | _::_,[],_,h,_,_,_=>absurd rfl h
 | [p],[q],_,_,_,_,e=>by
   have:p=q:=e;rw[this]
 | [p],q::q2::r,_,_,hp,_,e=>by
   have h:=hp p (QG.mpr rfl);have a:=congrArg (λz:Str=>z.cps.toList) e;rw[zo4] at a;have b:p.cps.toList=q.cps.toList++c::(Str.join ⟨#[c]⟩ (q2::r)).cps.toList:=a;rw[b] at h;exact absurd (QS _ QC) h
 | p::p2::r,[q],_,_,_,hq,e=>by
   have h:=hq q (QG.mpr rfl);have a:=congrArg (λz:Str=>z.cps.toList) e;rw[zo4] at a;have b:p.cps.toList++c::(Str.join ⟨#[c]⟩ (p2::r)).cps.toList=q.cps.toList:=a;rw[<-b] at h;exact absurd (QS _ QC) h
 | p::p2::r,q::q2::r2,_,_,hp,hq,e=>by
   have a:=congrArg (λz:Str=>z.cps.toList) e;rw[zo4,zo4] at a;obtain⟨b,i⟩:=yi6 (hp p QC) (hq q QC) a;have:=yo6 (by simp) (by simp) (λz g=>hp z (Qv _ g)) (λz g=>hq z (Qv _ g)) (zn6 i);rw[zn6 b,this]
theorem split_ne (x y:Str):Txt.split x y≠[]:=λe=>by
 have:=PyProof.Rows.split_pos x y;rw[e] at this;exact absurd this '&'
theorem zw7 {c:Nat}{ws:List Str}(a:ws≠[])(b:∀w∈ws,c∉w.cps.toList):Txt.split (Txt.join ⟨#[c]⟩ ws) ⟨#[c]⟩=ws:=by
 have e:Txt.join ⟨#[c]⟩ ws=Str.join ⟨#[c]⟩ ws:=StrLaws.glued_eq_join _ _;refine yo6 (c:=c) (split_ne _ _) a (λp d=>StrLaws.split_free _ c p d) b ?_;rw[StrLaws.join_split,e]
theorem at_0 {a:Type}{x:a}{r:List a}:atI (x::r) 0=some x:=(zw5 (j:=0) (xs:=x::r) rfl)
theorem at_1 {a:Type}{x y:a}{r:List a}:atI (x::y::r) 1=some y:=(zw5 (j:=1) (xs:=x::y::r) rfl)
theorem at_2 {a:Type}{x y z:a}{r:List a}:atI (x::y::z::r) 2=some z:=(zw5 (j:=2) (xs:=x::y::z::r) rfl)
noncomputable def sI (n:Int):Str:=Str.ofString (toString n)
theorem zd1 (a b:Str):(a++b).length=a.length+b.length:=by
 show(a.cps++b.cps).size=_;simp[Str.length]
theorem zt7 {n:Int}(h0:0<=n)(h:n<=1000000):(sI n).length<=10:=W.KT.len_num h0 '!'
theorem zz2:Str.ofString " " = ⟨#[32]⟩:=by decide
theorem yr8:Str.ofString "\n" = ⟨#[10]⟩:=by decide
theorem figures:(Str.ofString "0123456789").cps.toList=[48,49,50,51,52,53,54,55,56,57]:=by decide
theorem fig_in (c:Nat):(!(Builtin.Str.occurrences (Str.ofString "0123456789") ⟨#[c]⟩ 0 (Str.ofString "0123456789").length 1).isEmpty)=decide (48<=c/\c<=57):=by
 rw[StrLaws.found_one,figures];by_cases h:48<=c/\c<=57
 . rw[Qh h]
   have:c=48\/c=49\/c=50\/c=51\/c=52\/c=53\/c=54\/c=55\/c=56\/c=57:=by omega
   rcases this with rfl | rfl | rfl | rfl | rfl | rfl | rfl | rfl | rfl | rfl<;>decide
 . rw[Qe h]
   refine Qe λa=>h ?_
   simp at a;omega
noncomputable def zd5 (x:Int):Str:=if x=0 then Str.ofString "tray" else Str.ofString (toString x)
theorem yf8 {f w:Str}(b:32∉f.cps.toList)(c:32∉w.cps.toList):Txt.split ((f++⟨#[32]⟩)++w) ⟨#[32]⟩=[f,w]:=by
 have e:(f++⟨#[32]⟩)++w=Txt.join ⟨#[32]⟩ [f,w]:=by
   show _=Builtin.Str.glued _ _;rw[StrLaws.glued_eq_join];rfl
 rw[e];refine zw7 (by simp) λx a=>?_
 simp only[Qn,QM,or_false] at a;rcases a with rfl | rfl
 . exact b
 . exact c
theorem split3 {f w v:Str}(b:32∉f.cps.toList)(c:32∉w.cps.toList)(d:32∉v.cps.toList):Txt.split ((((f++⟨#[32]⟩)++w)++⟨#[32]⟩)++v) ⟨#[32]⟩=[f,w,v]:=by
 have e:(((f++⟨#[32]⟩)++w)++⟨#[32]⟩)++v=Txt.join ⟨#[32]⟩ [f,w,v]:=by
   show _=Builtin.Str.glued _ _;rw[StrLaws.glued_eq_join];refine zn6 ?_;rw[zo4,zo4];show _=_++32::(_++32::v.cps.toList);rw[zh7,zh7,zh7,zh7];simp
 rw[e];refine zw7 (by simp) λx a=>?_
 simp only[Qn,QM,or_false] at a;rcases a with rfl | rfl | rfl
 . exact b
 . exact c
 . exact d
theorem join_snoc {y:Str}:∀ {c:List Str} (w:Str),c≠[]->Txt.join y (c++[w])=(Txt.join y c++y)++w:=by
 intro c w d;show Builtin.Str.glued _ _=(Builtin.Str.glued _ _++y)++w;rw[StrLaws.glued_eq_join,StrLaws.glued_eq_join]
 induction c with
 | nil=>exact absurd rfl d
 | cons a c f =>
   cases c with
   | nil=>rfl
   | cons b c =>
     have e:=f (by simp);show(a++y)++Str.join y (b::c++[w])=(((a++y)++Str.join y (b::c))++y)++w;rw[e];refine zn6 ?_;simp only[zh7,QR]
noncomputable def zU5 (z:Str):Bool:=if Txt.startswith z (Str.ofString "0")=true then decide (z=Str.ofString "0") else if z.length=0\/4<z.length then false else z.cps.toList.all λc=>decide (48<=c/\c<=57)
noncomputable def zz3 (z:Str):Option Int:=if zU5 z=true then some ((digitsVal z.cps.toList:Nat):Int) else none
noncomputable def zq5 (z:Str):Option Int :=
 if z=Str.ofString "tray" then some 0 else
 match zz3 (if Txt.startswith z (Str.ofString "-")=true then Txt.slice z (some 1) none else z) with
 | none=>none
 | some n=>if n=0 then none else some (if Txt.startswith z (Str.ofString "-")=true then -n else n)
theorem zF7 {z:Str}(h:zU5 z=true):AllDigits z.cps.toList/\z.cps.toList≠[]/\z.length<=4:=by
 unfold zU5 at h
 split at h
 . have e:=Zv h
   subst e;exact⟨by unfold AllDigits;decide,by decide,by decide⟩
 . split at h
   . cases h
   . rename_i h1 h2
     refine⟨λc a=>Zv (List.all_eq_true.mp h c a),λe=>h2 (.inl ?_),by omega⟩;have:z.cps.toList.length=z.length:=by simp[Str.length]
     rw[<-this,e];rfl
theorem isNum_int {z:Str}(h:zU5 z=true):intText? z=some ((digitsVal z.cps.toList:Nat):Int):=by
 obtain⟨a,b,c⟩:=zF7 h;exact intText_digits a b '!'
end L2
namespace L2
open PySem PySem.Spec PyProof.Rows
section
variable {prog:Program} {w:World} {A:Around} {R:Result->Shared->Prop} {s:Shared}
end
section
variable {X:Cx} {scope:Scope} {cl:List (Str×Addr)} {C:Addr} {N':List Str} {s0:Shared} {H0:Hp} {fp:List Addr} {Ex:XK} {pins:PL} {σ:St} {H:Hp} {s:Shared}
end
section
variable {X:Cx} {scope:Scope} {N':List Str} {ix:List (Option Nat)} {tg iter elt:Expr} {ifs:List Expr} {pos:Pos} {wi:TI} {g:TG} {tif:TT} {telt:TE}
end
section
variable {M:Model} {A:Around} {E:VP} {s:Shared}
end
section
variable {P:Program} {w:World} {K:W.Frag} {mg:Str->Option Value} {base:Heap} {N:List Str} {qual:Str} {scope:Scope} {f:Addr} {cd:Value} {A:Around} {outer:List Env} {s:Shared} {H:Hp} {E:XK}
end
section
variable {P:Program} {w:World} {K:W.Frag} {mg:Str->Option Value} {base:Heap} {N:List Str} {qual:Str} {fsc:Scope} {f:Addr} {cd:Value} {A:Around} {outer:List Env} {ss:Shared} {HH:Hp} {E:XK}
variable {scope:Scope} {N':List Str} {ix:List (Option Nat)} {tg iter elt:Expr} {ifs:List Expr} {pos:Pos} {wi:TI} {g:TG} {tif:TT} {telt:TE}
end
section
variable {X:Cx} {C1 C2:Addr} {E:XK} {x1 x2:Str} {p1 p2 pos hp1 hp2:Pos} {body su1 su2:List Stmt} {b₁ b₂:Stmt} {tb th1 th2:TS}
end
end L2
namespace Sx
open PySem PyProof.Rows
noncomputable abbrev SM (α:Type):=StateT SortSt Sem α
noncomputable def zF8:Bool->Keyed->Array Keyed->Nat->Nat->Nat->SM (Option Nat):=sortPriv% PySem.Builtin.gallop
noncomputable def yb9:Array Keyed->Array Keyed->SM (Array Keyed):=sortPriv% PySem.Builtin.mergeLo
noncomputable def yc0:Array Keyed->Array Keyed->SM (Array Keyed):=sortPriv% PySem.Builtin.mergeHi
noncomputable def yi7:Nat->SM Unit:=sortPriv% PySem.Builtin.setMinGallop
noncomputable def yr9 (left:Bool)(key:Keyed)(arr:Array Keyed)(base i:Nat):SM (Option Bool):=do
 let x <-elem' arr (base+i)
 if left=true then lt' x key else do
   let r <-lt' key x
   pure (r.map λt=>!t)
noncomputable abbrev GS:=Option (Option Nat)×Nat×Nat
section
variable {M:Model} {A:Around} {E:VP} {s:Shared}
theorem yc1 {p:Nat->Bool}{f:Nat->GS->SM (ForInStep GS)}{n lo a:Nat}{st:SortSt}{Q:GS->SortSt->Prop}(mono:∀i j,i<j->j<n->p j=true->p i=true)
   (t:∀x l r (R:ForInStep GS->SortSt->Prop),(l≥r->R (.done (none,l,r)) st)->(l<r->p (l+(r-l) / 2)=true->R (.yield (none,l+(r-l) / 2+1,r)) st)->(l<r->p (l+(r-l) / 2)=false->R (.yield (none,l,l+(r-l) / 2)) st) →
     r<=n->wpS M A E s (f x (none,l,r)) R st)
   (u:lo<=a) (v:a<=n) (w:∀i,i<lo->p i=true) (y:∀i,a<=i->i<n->p i=false)
   (h:∀k,k<=n->(∀i,i<k->p i=true)->(∀i,k<=i->i<n->p i=false)->Q (none,k,k) st):wpS M A E s (forIn [0:n] ((none,lo,a):GS) f) Q st:=by
 refine wpS_forRange (I:=λx c m=>m=st/\∃l r,c=(none,l,r)/\l<=r/\r<=n/\r-l<=n-x/\(∀i,i<l->p i=true)/\∀i,r<=i->i<n->p i=false)
   ?step ?fin ⟨rfl,lo,a,rfl,u,v,by omega,w,y⟩
 case fin =>
   rintro c m ⟨rfl,l,r,rfl,B,b,C,d,g⟩;obtain rfl:l=r:=by omega
   exact h l b d g
 case step =>
   rintro x c m _ G ⟨rfl,l,r,rfl,B,b,C,d,g⟩;refine t x l r _ (λF=>?_) (λq e=>⟨rfl,_,_,rfl,by omega,b,by omega,λi a=>?_,g⟩) (λq e=>⟨rfl,_,_,rfl,by omega,by omega,by omega,d,λi a D=>?_⟩) b
   . obtain rfl:l=r:=by omega
     exact h l b d g
   . rcases QP i (l+(r-l) / 2) with z | z
     . exact mono i _ z '!' e
     . obtain rfl:i=l+(r-l) / 2:=by omega
       exact e
   . cases o:p i with
     | false=>rfl
     | true =>
       rcases QP (l+(r-l) / 2) i with z | z
       . have:=mono _ i z D o
         rw[e] at this;cases this
       . obtain rfl:i=l+(r-l) / 2:=by omega
         rw[e] at o;cases o
theorem wp_gallop {left:Bool}{key:Keyed}{arr:Array Keyed}{base:Nat}{p:Nat->Bool}{n hint:Nat}{st:SortSt}{Q:Option Nat->SortSt->Prop}
   (t:∀i,i<n->∀R:Option Bool->SortSt->Prop,R (some (p i)) st->wpS M A E s (yr9 left key arr base i) R st) (mono:∀i j,i<j->j<n->p j=true->p i=true) (U:hint<n)
   (h:∀k,k<=n->(∀i,i<k->p i=true)->(∀i,k<=i->i<n->p i=false)->Q (some k) st):wpS M A E s (zF8 left key arr base n hint) Q st:=by
 have V:∀i j,i<j->j<n->p i=false->p j=false:=λi j T u e=>by
   cases W:p j with
   | false=>rfl
   | true=>rw[mono i j T u W] at e;cases e
 have O:∀j,j<n->p j=true->∀i,i<=j->p i=true:=λj u e i v=>by
   rcases Nat.lt_or_eq_of_le v with z | rfl
   . exact mono i j z u e
   . exact e
 have N:∀i,p i=false->∀j,i<=j->j<n->p j=false:=λi e j v u=>by
   rcases Nat.lt_or_eq_of_le v with z | rfl
   . exact V i j z u e
   . exact e
 unfold zF8;refine Qm (t hint U _ ?_);cases e:p hint with
 | true =>
   dsimp only;rw[Ql rfl]
   refine Qm (ZL (wpS_forRange (I:=λx c d=>d=st/\∃l o,c=(none,l,o)/\l<o/\x+1<=o/\hint+l<n/\p (hint+l)=true)
     (Q:=λc d=>d=st/\∃l o,c=(none,l,o)/\l<o/\hint+l<n/\p (hint+l)=true/\(n-hint<=o\/p (hint+o)=false)) ?step ?fin ⟨rfl,0,1,rfl,by omega,by omega,by omega,e⟩) ?post)
   case fin =>
     rintro c d ⟨rfl,l,o,rfl,g,q,f,b⟩;exact⟨rfl,l,o,rfl,g,f,b,.inl '!'⟩
   case step =>
     rintro x c d _ X ⟨rfl,l,o,rfl,g,q,f,b⟩;dsimp only;by_cases a:o≥n-hint
     . rw[Ql a]
       exact Qt ⟨rfl,l,o,rfl,g,f,b,.inl a⟩
     . rw[Qg a]
       refine Qm (t _ '!' _ ?_);cases m:p (hint+o) with
       | true =>
         dsimp only;rw[Qg '&'];exact Qt ⟨rfl,_,_,rfl,by omega,by omega,by omega,m⟩
       | false =>
         dsimp only;rw[Ql '&'];exact Qt ⟨rfl,l,o,rfl,g,f,b,.inr m⟩
   case post =>
     rintro c d ⟨rfl,l,o,rfl,g,q,f,b⟩;dsimp only;have w:hint+l+1<=hint+min o (n-hint):=by omega
     have y:hint+min o (n-hint)<=n:=by omega
     have B:∀i,i<hint+l+1->p i=true:=λi v=>O _ q f i '!'
     have C:∀i,hint+min o (n-hint)<=i->i<n->p i=false:=λi P D=>by
       rcases b with z | z
       . omega
       . exact N _ z _ '!' D
     refine Qm (yc1 mono (λx l r R F G H Y=>?_) w y B C λk J K L=>Qt (h k J K L));dsimp only;by_cases a:l≥r
     . rw[Ql a]
       exact Qt (F a)
     . rw[Qg a]
       refine Qm (t _ '!' _ ?_);cases m:p (l+(r-l) / 2) with
       | true =>
         dsimp only;rw[Ql rfl];exact Qt (G '!' m)
       | false =>
         dsimp only;rw[Qg '&'];exact Qt (H '!' m)
 | false =>
   dsimp only;rw[Qg '&']
   refine Qm (ZL (wpS_forRange (I:=λx c d=>d=st/\∃l o,c=(none,l,o)/\l<o/\x+1<=o/\l<=hint/\p (hint-l)=false)
     (Q:=λc d=>d=st/\∃l o,c=(none,l,o)/\l<o/\l<=hint/\p (hint-l)=false/\(hint+1<=o\/(o<=hint/\p (hint-o)=true))) ?step ?fin ⟨rfl,0,1,rfl,by omega,by omega,by omega,e⟩) ?post)
   case fin =>
     rintro c d ⟨rfl,l,o,rfl,g,q,f,b⟩;exact⟨rfl,l,o,rfl,g,f,b,.inl '!'⟩
   case step =>
     rintro x c d _ X ⟨rfl,l,o,rfl,g,q,f,b⟩;dsimp only;by_cases a:o≥hint+1
     . rw[Ql a]
       exact Qt ⟨rfl,l,o,rfl,g,f,b,.inl a⟩
     . rw[Qg a]
       refine Qm (t _ '!' _ ?_);cases m:p (hint-o) with
       | true =>
         dsimp only;rw[Ql rfl];exact Qt ⟨rfl,l,o,rfl,g,f,b,.inr ⟨by omega,m⟩⟩
       | false =>
         dsimp only;rw[Qg '&'];exact Qt ⟨rfl,_,_,rfl,by omega,by omega,by omega,m⟩
   case post =>
     rintro c d ⟨rfl,l,o,rfl,g,q,f,b⟩;dsimp only;have w:hint+1-min o (hint+1)<=hint-l:=by
       rcases b with z | ⟨z,S⟩
       . omega
       . omega
     have y:hint-l<=n:=by omega
     have B:∀i,i<hint+1-min o (hint+1)->p i=true:=λi v=>by
       rcases b with z | ⟨z,S⟩
       . omega
       . exact O _ '!' S i '!'
     have C:∀i,hint-l<=i->i<n->p i=false:=λi P D=>N _ f _ P D
     refine Qm (yc1 mono (λx l r R F G H Y=>?_) w y B C λk J K L=>Qt (h k J K L));dsimp only;by_cases a:l≥r
     . rw[Ql a]
       exact Qt (F a)
     . rw[Qg a]
       refine Qm (t _ '!' _ ?_);cases m:p (l+(r-l) / 2) with
       | true =>
         dsimp only;rw[Ql rfl];exact Qt (G '!' m)
       | false =>
         dsimp only;rw[Qg '&'];exact Qt (H '!' m)
end
section
variable {α:Type} {R:α->α->Prop} {T out A B A1 A2 B1 B2:List α} {z:α}
structure MLo (R:α->α->Prop)(T out A B:List α):Prop where
 perm:(out++(A++B)).Perm T
 so:out.Pairwise R
 sa:A.Pairwise R
 sb:B.Pairwise R
 lo:∀x∈out,∀y∈A++B,R x y
 la:∀z,A.getLast?=some z->∀y∈B,R y z
theorem MLo.takeA (m:MLo R T out (A1++A2) B)(h:∀x∈A1,∀y∈B,R x y):MLo R T (out++A1) A2 B:=by
 have sa:=QI.mp m.sa;refine⟨by simpa [QR] using m.perm,QI.mpr ⟨m.so,sa.1,λx a y b=>m.lo x a y (by simp[b])⟩,sa.2.1,m.sb,λx a y b=>?_,λz c y b=>m.la z (by rw[List.getLast?_append,c];rfl) y b⟩;rcases Qs.mp a with a | a
 . exact m.lo x a y (by rcases Qs.mp b with q | q<;>simp[q])
 . rcases Qs.mp b with q | q
   . exact sa.2.2 x a y q
   . exact h x a y q
theorem MLo.takeB (m:MLo R T out A (B1++B2))(h:∀y∈B1,∀x∈A,R y x):MLo R T (out++B1) A B2:=by
 have sb:=QI.mp m.sb;refine⟨.trans ?_ m.perm,QI.mpr ⟨m.so,sb.1,λx a y b=>m.lo x a y (by simp[b])⟩,m.sa,sb.2.1,λx a y b=>?_,λz c y b=>m.la z c y (by simp[b])⟩
 . rw[QR]
   refine List.Perm.append_left out ?_;rw[<-QR,<-QR];exact List.Perm.append_right B2 List.perm_append_comm
 . rcases Qs.mp a with a | a
   . exact m.lo x a y (by rcases Qs.mp b with q | q<;>simp[q])
   . rcases Qs.mp b with q | q
     . exact h x a y q
     . exact sb.2.2 x a y q
theorem MLo.len (m:MLo R T out A B):out.length+(A.length+B.length)=T.length:=by
 have:=m.perm.length_eq;simpa using this
theorem MLo.dis (m:MLo R T out A B)(d:T.Pairwise λx y=>R x y\/R y x){x y:α}(a:x∈A)(b:y∈B):R x y\/R y x:=by
 have c:=(m.perm.pairwise_iff (R:=λx y=>R x y\/R y x) (λh=>h.symm)).mpr d;exact(QI.mp (QI.mp c).2.1).2.2 x a y b
theorem MLo.memA (m:MLo R T out A B){x:α}(a:x∈A):x∈T:=m.perm.mem_iff.mp (by simp[a])
theorem MLo.memB (m:MLo R T out A B){x:α}(a:x∈B):x∈T:=m.perm.mem_iff.mp (by simp[a])
def Mer (R:α->α->Prop)(T m:List α):Prop:=m.Perm T/\m.Pairwise R
theorem MLo.doneA (m:MLo R T out A []):Mer R T (out++A) :=
 ⟨by simpa using m.perm,QI.mpr ⟨m.so,m.sa,λx a y b=>m.lo x a y (by simp[b])⟩⟩
theorem MLo.doneB (m:MLo R T out [] B):Mer R T (out++B) :=
 ⟨by simpa using m.perm,QI.mpr ⟨m.so,m.sb,λx a y b=>m.lo x a y (by simp[b])⟩⟩
theorem MLo.last (m:MLo R T out [z] B):Mer R T (out++(B++[z])):=by
 refine⟨.trans (List.Perm.append_left out List.perm_append_comm) m.perm,QI.mpr ⟨m.so,QI.mpr ⟨m.sb,List.pairwise_singleton _ _,λx a y b=>?_⟩,λx a y b=>m.lo x a y ?_⟩⟩
 . obtain rfl:y=z:=by simpa using b
   exact m.la y rfl x a
 . rcases Qs.mp b with q | q
   . simp[q]
   . simp at q;simp[q]
end
section
variable {α:Type} {R:α->α->Prop} {T:List α}
theorem zg4 {a:Array α}{i:Nat}(h:i<a.size):a.toList.drop i=a[i]::a.toList.drop (i+1):=by
 have b:i<a.toList.length:=by simpa using h
 rw[ZK b];simp
theorem zO4 {a:Array α}{i:Nat}(h:a.size<=i):a.toList.drop i=[]:=List.drop_eq_nil_of_le (by simpa using h)
theorem zF9 (a:Array α)(i:Nat):(a.extract i).toList=a.toList.drop i:=by
 rw[Array.toList_extract,List.extract_eq_drop_take];exact QV (by simp)
theorem zo5 (a:Array α)(i k:Nat):(a.extract i (i+k)).toList=(a.toList.drop i).take k:=by
 rw[Array.toList_extract,List.extract_eq_drop_take];congr 1;omega
theorem zL7 {e a b:Array α}{c d:Nat}(m:MLo R T e.toList (a.toList.drop c) (b.toList.drop d))(h:b.size<=d\/a.size<=c):Mer R T (e++a.extract c++b.extract d).toList:=by
 rw[Zb,Zb,zF9,zF9];rcases h with h | h
 . rw[zO4 h] at m ⊢
   simpa using m.doneA
 . rw[zO4 h] at m ⊢
   simpa using m.doneB
theorem zL8 {d a b:Array α}{c e:Nat}(m:MLo R T d.toList (a.toList.drop c) (b.toList.drop e))(h:c+1=a.size):Mer R T (d++b.extract e++a.extract c).toList:=by
 rw[Zb,Zb,zF9,zF9];rw[zg4 (a:=a) (i:=c) '!',zO4 (a:=a) (i:=c+1) '!'] at m ⊢;simpa using m.last
theorem yc2 {out a b : Array α} {ia ib : Nat} (m : MLo R T out.toList (a.toList.drop ia) (b.toList.drop ib)) (h : ia < a.size) (hb : ∀ y ∈ b.toList.drop ib, R a[ia] y) : MLo R T (out.push a[ia]).toList (a.toList.drop (ia + 1)) (b.toList.drop ib) := by
  rw [zg4 h] at m;rw [Array.toList_push]
  exact MLo.takeA (A1 := [a[ia]]) m fun x hx y hy => by obtain rfl : x = a[ia] := by simpa using hx
                                                        exact hb y hy
theorem zO5 {out a b : Array α} {ia ib : Nat} (m : MLo R T out.toList (a.toList.drop ia) (b.toList.drop ib)) (h : ib < b.size) (ha : ∀ x ∈ a.toList.drop ia, R b[ib] x) : MLo R T (out.push b[ib]).toList (a.toList.drop ia) (b.toList.drop (ib + 1)) := by
  rw [zg4 h] at m;rw [Array.toList_push]
  exact MLo.takeB (B1 := [b[ib]]) m fun x hx y hy => by obtain rfl : x = b[ib] := by simpa using hx
                                                        exact ha y hy
theorem lo_runA {e a b:Array α}{c d k:Nat}(m:MLo R T e.toList (a.toList.drop c) (b.toList.drop d))(h:∀x∈(a.toList.drop c).take k,∀y∈b.toList.drop d,R x y):MLo R T (e++a.extract c (c+k)).toList (a.toList.drop (c+k)) (b.toList.drop d):=by
 rw[Zb,zo5,<-List.drop_drop];rw[<-Za k (a.toList.drop c)] at m;exact m.takeA h
theorem lo_runB {e a b:Array α}{d c k:Nat}(m:MLo R T e.toList (a.toList.drop d) (b.toList.drop c))(h:∀y∈(b.toList.drop c).take k,∀x∈a.toList.drop d,R y x):MLo R T (e++b.extract c (c+k)).toList (a.toList.drop d) (b.toList.drop (c+k)):=by
 rw[Zb,zo5,<-List.drop_drop];rw[<-Za k (b.toList.drop c)] at m;exact m.takeB h
end
structure Cmp (M:Model)(A:Around)(s:Shared)(κ:SortKind)(lt:Keyed->Keyed->Bool)(T:List Keyed):Prop where
 ask:∀x∈T,∀y∈T,wpAny M A (keyLt' κ x.1 y.1) (λb s'=>s'=s/\b=lt x y) (λ_ _=>False) s
 tr:∀x y z,lt x y=true->lt y z=true->lt x z=true
 as:∀x y,lt x y=true->lt y x=false
 di:T.Pairwise λx y=>lt x y=true\/lt y x=true
abbrev LtR (lt:Keyed->Keyed->Bool):Keyed->Keyed->Prop:=λx y=>lt x y=true
section
variable {M:Model} {A:Around} {E:VP} {s:Shared} {κ:SortKind} {lt:Keyed->Keyed->Bool} {T T':List Keyed}
theorem Cmp.sub (c:Cmp M A s κ lt T)(h:T'.Sublist T):Cmp M A s κ lt T':=⟨λx a y b=>c.ask x (h.subset a) y (h.subset b),c.tr,c.as,c.di.sublist h⟩
theorem Cmp.perm (c:Cmp M A s κ lt T)(h:T'.Perm T):Cmp M A s κ lt T':=⟨λx a y b=>c.ask x (h.mem_iff.mp a) y (h.mem_iff.mp b),c.tr,c.as,(h.pairwise_iff (λz=>z.symm)).mpr c.di⟩
theorem yc3 {x y:Keyed}{st:SortSt}{Q:Option Bool->SortSt->Prop}(c:Cmp M A s κ lt T)(a:x∈T)(d:y∈T)(e:kindOf st=κ)(h:Q (some (lt x y)) st):wpS M A E s (lt' x y) Q st:=by
 rw[lt'_eq];refine Qm (wpS_get ?_);rw[e];refine Qm (wpS_lift (wpAny_attempt (Zj (c.ask x a y d) (λb g z=>⟨z.1,?_⟩) λ_ _ f=>f.elim)));rw[z.2];exact Qt h
theorem ze7 {arr:Array Keyed}{i:Nat}{st:SortSt}{Q:Keyed->SortSt->Prop}(a:i<arr.size)(h:Q arr[i] st):wpS M A E s (elem' arr i) Q st:=by
 rw[elem'_eq,Zh arr i a];exact Qt h
theorem zL9 {st:SortSt}{g:Nat}{Q:Unit->SortSt->Prop}(h:Q () (SortSt.mk' (kindOf st) (arrOf st) (pendingOf st) g (failedOf st))):wpS M A E s (yi7 g) Q st:=by
 unfold yi7;exact wpS_modify h
theorem zZ2 {left:Bool}{key:Keyed}{arr:Array Keyed}{base hint:Nat}{L:List Keyed}{st:SortSt}{Q:Option Nat->SortSt->Prop}(c:Cmp M A s κ lt T)(l:kindOf st=κ)(g:key∈T)(t:∀x∈L,x∈T)
   (u:∀i (h:i<L.length),arr[base+i]?=some L[i]) (v:L.Pairwise (LtR lt)) (w:hint<L.length)
   (h:∀k,k<=L.length->(∀x∈L.take k,(if left=true then lt x key else !lt key x)=true)->(∀x∈L.drop k,(if left=true then lt x key else !lt key x)=false)->Q (some k) st) :
   wpS M A E s (zF8 left key arr base L.length hint) Q st:=by
 refine wp_gallop (p:=λi=>match L[i]? with | some x=>if left=true then lt x key else !lt key x | none=>false) (λi a R b=>?_) (λi j o m e=>?_) w λk q y B=>h k q (λx f=>?_) λx f=>?_
 . unfold yr9
   obtain⟨C,e⟩:=Zr.mp (u i a);refine Qm (ze7 C ?_);rw[e];have n:L[i]∈T:=t _ (Zu a);rw[Qf a] at b;dsimp only at b;cases left with
   | true =>
     rw[Ql rfl];exact yc3 c n g l b
   | false =>
     rw[Qg '&'];exact Qm (yc3 c g n l (Qt b))
 . have a:i<L.length:=by omega
   rw[Qf m] at e;rw[Qf a];have b:lt L[i] L[j]=true:=Zm.mp v i j a m o;cases left with
   | true =>
     dsimp only at e ⊢;rw[Ql rfl] at e ⊢;exact c.tr _ _ _ b e
   | false =>
     dsimp only at e ⊢;rw[Qg '&'] at e ⊢;cases z:lt key L[i] with
     | false=>rfl
     | true=>rw[c.tr _ _ _ z b] at e;cases e
 . obtain⟨i,a,rfl⟩:=List.mem_iff_getElem.mp f
   have r:i<k:=by simp at a;omega
   have d:i<L.length:=by simp at a;omega
   have:=y i r;rw[Qf d] at this;simpa using this
 . obtain⟨i,a,rfl⟩:=List.mem_iff_getElem.mp f
   have d:k+i<L.length:=by simp at a;omega
   have:=B (k+i) '!' d;rw[Qf d] at this;simpa using this
theorem yi8 {left:Bool}{key:Keyed}{a:Array Keyed}{i:Nat}{st:SortSt}{Q:Option Nat->SortSt->Prop}(c:Cmp M A s κ lt T)(g:kindOf st=κ)(d:key∈T)(l:∀x∈a.toList.drop i,x∈T)
   (m:(a.toList.drop i).Pairwise (LtR lt)) (r:i<a.size)
   (h:∀k,k<=a.size-i->(∀x∈(a.toList.drop i).take k,(if left=true then lt x key else !lt key x)=true)->(∀x∈a.toList.drop (i+k),(if left=true then lt x key else !lt key x)=false)->Q (some k) st) :
   wpS M A E s (zF8 left key a i (a.size-i) 0) Q st:=by
 have e:(a.toList.drop i).length=a.size-i:=by simp
 have:=zZ2 (E:=E) (left:=left) (key:=key) (arr:=a) (base:=i) (hint:=0) (L:=a.toList.drop i) (Q:=Q) c g d l (λj n=>by
   have f:i+j<a.size:=by rw[e] at n;omega
   rw[Zh a (i+j) f];simp) m (by rw[e];omega) λk b o p=>h k (by rw[e] at b;exact b) o (λx q=>p x (by rw[List.drop_drop];exact q))
 rw[e] at this;exact this
end
end Sx
namespace Sx
inductive Aa6 (p0 p1 p2 p3 p4 p5:Prop):Prop | mk (h0:p0) (h1:p1) (h2:p2) (h3:p3) (h4:p4) (h5:p5):Aa6 p0 p1 p2 p3 p4 p5
inductive Aa8 (p0 p1 p2 p3 p4 p5 p6 p7:Prop):Prop | mk (h0:p0) (h1:p1) (h2:p2) (h3:p3) (h4:p4) (h5:p5) (h6:p6) (h7:p7):Aa8 p0 p1 p2 p3 p4 p5 p6 p7
inductive Ex4 {α β γ δ:Type}(p:α->β->γ->δ->Prop):Prop | mk (a0:α) (a1:β) (a2:γ) (a3:δ) (h:p a0 a1 a2 a3):Ex4 p
inductive Ex5 {α β γ δ ε:Type}(p:α->β->γ->δ->ε->Prop):Prop | mk (a0:α) (a1:β) (a2:γ) (a3:δ) (a4:ε) (h:p a0 a1 a2 a3 a4):Ex5 p
inductive Ex7 {α β γ δ ε ζ η:Type}(p:α->β->γ->δ->ε->ζ->η->Prop):Prop | mk (a0:α) (a1:β) (a2:γ) (a3:δ) (a4:ε) (a5:ζ) (a6:η) (h:p a0 a1 a2 a3 a4 a5 a6):Ex7 p
open PySem PyProof.Rows
section
variable {M:Model} {A:Around} {E:VP} {s:Shared} {κ:SortKind} {lt:Keyed->Keyed->Bool} {T:List Keyed}
theorem yi9 {a b:Nat}(h:a=b):(a == b)=true:=by simpa using h
theorem yj0 {a b:Nat}(h:¬ a=b):¬ (a == b)=true:=by simpa using h
theorem ze5 {c d:Type}{a b:Nat}{X Y:StateT c Sem d}{Q:d->c->Prop}{st:c}(e:a=b->wpS M A E s X Q st)(f:¬ a=b->wpS M A E s Y Q st):wpS M A E s (if (a == b)=true then X else Y) Q st:=by
 by_cases h:a=b
 . rw[Ql (yi9 h)];exact e h
 . rw[Qg (yj0 h)];exact f h
theorem zf2 {a b:Type}{c:Prop}[Decidable c]{X Y:StateT a Sem b}{Q:b->a->Prop}{st:a}(d:c->wpS M A E s X Q st)(e:¬ c->wpS M A E s Y Q st):wpS M A E s (if c then X else Y) Q st:=by
 by_cases h:c
 . rw[Ql h];exact d h
 . rw[Qg h];exact e h
theorem yj1 {R:Nat->Prop}{G:Prop}(a:(∀o,R o)->G)(b:∀o,R o):G:=a b
theorem zO6 {R S:Array Keyed->Nat->Prop}{G:Prop}(a:(∀o j,S o j->R o j)->G)(b:∀o j,S o j->R o j):G:=a b
inductive Ex1 (p q r s t:Prop):Prop
 | mk (a:p)(b:q)(c:r)(d:s)(e:t)
section
variable (κ:SortKind) (lt:Keyed->Keyed->Bool) (T:List Keyed) (ar:Array Keyed) (pd:Array (Nat×Nat×Nat))
inductive LD {V:Type}:Option (Array Keyed)×V->SortSt->Prop
 | mk (r:Array Keyed)(g:Nat)(w:V)(h:Mer (LtR lt) T r.toList):LD (some r,w) (SortSt.mk' κ ar pd g none)
variable (a b:Array Keyed) (n:Nat)
inductive LoA:Option (Array Keyed)×Array Keyed×Nat×Nat×Nat->SortSt->Prop
 | mk (o:Array Keyed)(ja jb mg g:Nat)(m:MLo (LtR lt) T o.toList (a.toList.drop ja) (b.toList.drop jb))(h3:ja+1<a.size)(h4:jb<b.size)(h5:n<=o.size):LoA (none,o,ja,jb,mg) (SortSt.mk' κ ar pd g none)
inductive LoB (g:Nat)(n:Nat):Option (Array Keyed)×Array Keyed×Nat×Nat×Nat×Nat->SortSt->Prop
 | mk (o:Array Keyed)(ja jb ac bc:Nat)(m:MLo (LtR lt) T o.toList (a.toList.drop ja) (b.toList.drop jb))(h3:ja+1<a.size)(h4:jb<b.size)(h5:n<=o.size):LoB g n (none,o,ja,jb,ac,bc) (SortSt.mk' κ ar pd g none)
inductive LoC:Option (Array Keyed)×Array Keyed×Nat×Nat×Nat×Nat×Nat->SortSt->Prop
 | mk (o:Array Keyed)(ja jb mg ac bc g:Nat)(m:MLo (LtR lt) T o.toList (a.toList.drop ja) (b.toList.drop jb))(h3:ja+1<a.size)(h4:jb<b.size)(h5:n<=o.size):LoC (none,o,ja,jb,mg,ac,bc) (SortSt.mk' κ ar pd g none)
inductive Or2 {V:Type}(p q:V->SortSt->Prop)(v:V)(st:SortSt):Prop
 | l (h:p v st)
 | r (h:q v st)
end
theorem wp_mergeLo {a b:Array Keyed}{ar:Array Keyed}{t:Array (Nat×Nat×Nat)}{ad:Nat}{Q:Array Keyed->SortSt->Prop}(c:Cmp M A s κ lt T)(hT:(a.toList++b.toList).Perm T)
   (sa:a.toList.Pairwise (LtR lt)) (sb:b.toList.Pairwise (LtR lt)) (ha:0<a.size) (hb:0<b.size) (first:∀x∈a.toList,lt b[0] x=true) (last:∀a0,a.toList.getLast?=some a0->∀y∈b.toList,lt y a0=true)
   (h:∀m j,Mer (LtR lt) T m.toList->Q m (SortSt.mk' κ ar t j none)):wpS M A E s (yb9 a b) Q (SortSt.mk' κ ar t ad none):=by
 unfold yb9;refine Qm (wpS_lift (wpAny_rule ⟨rfl,?_⟩));refine Qm (ze7 hb ?_);have m0:MLo (LtR lt) T (#[]:Array Keyed).toList (a.toList.drop 0) (b.toList.drop 0):=⟨by simpa using hT,by simp,by simpa using sa,by simpa using sb,by simp,by simpa using last⟩;have m1:MLo (LtR lt) T (#[b[0]]:Array Keyed).toList (a.toList.drop 0) (b.toList.drop 1):=zO5 m0 hb (by simpa using first);refine ze5 (λh1=>Qt (h _ _ (zL7 m1 (.inl '!')))) λh1=>?_
 refine ze5 (λh2=>Qt (h _ _ (zL8 m1 h2))) λh2=>?_
 refine Qm (wpS_get ?_);have ae:∀ {l:Array Keyed} {W O:Nat},MLo (LtR lt) T l.toList (a.toList.drop W) (b.toList.drop O)->O<b.size->l.size<a.size+b.size:=λ{l W O} m P=>by
   have e:=m.len;have e':=hT.length_eq;simp at e e';omega
 refine Qm (ZL (wpS_forRange
   (LoA κ lt T ar t a b) (Q:=LD κ lt T ar t) ?step ?fin (.mk _ 0 1 _ ad m1 '!' '!' (by simp))) ?post)
 case post =>
   rintro _ _ ⟨r,j,w,X⟩;exact Qt (h r j X)
 case fin =>
   rintro _ _ ⟨l,W,O,Y,j,m,a1,P,g⟩;have:=ae m P;omega
 case step =>
   rintro x _ _ _ g ⟨l,W,O,Y,j,m,a1,P,af⟩
   refine Qm (ZL (wpS_forRange
     (λy=>LoB κ lt T ar t a b j (l.size+y)) (Q:=Or2 (LD κ lt T ar t) (LoB κ lt T ar t a b j (l.size+1)))
     ?step1 ?fin1 (.mk l W O _ _ m a1 P '!')) ?post1)
   case fin1 =>
     rintro _ _ ⟨o,f,d,Z,bc,m,u,i,C⟩;exact .r (.mk o f d Z bc m u i '!')
   case step1 =>
     rintro y _ _ _ v ⟨o,f,d,Z,bc,m,u,i,C⟩;have U:f<a.size:=by omega
     have ma:a[f]∈a.toList.drop f:=by rw[zg4 U];exact .head _
     have mb:b[d]∈b.toList.drop d:=by rw[zg4 i];exact .head _
     refine Qm (ze7 i (Qm (ze7 U ?_)));refine Qm (yc3 c (m.memB mb) (m.memA ma) rfl ?_);cases e:lt b[d] a[f] with
     | true =>
       dsimp only;rw[Ql rfl];refine Qm (ze7 i ?_);have G:=zO5 m i λx g=>by
         have q:=m.sa;rw[zg4 U] at g q;rcases Qn.mp g with rfl | g
         . exact e
         . exact c.tr _ _ _ e ((Zx.mp q).1 x g)
       refine ze5 (λD=>Qt (Or2.l (.mk _ j _ (zL7 G (.inl '!'))))) λD=>?_
       exact zf2 (λ_=>Qt (Or2.r (.mk _ _ _ _ _ G u '!' (by simp;omega)))) λ_=>Qt (LoB.mk _ _ _ _ _ G u '!' (by simp;omega))
     | false =>
       dsimp only;rw[Qg '&'];refine Qm (ze7 U ?_);have e':lt a[f] b[d]=true:=(m.dis c.di ma mb).resolve_right (by show ¬ lt _ _=true;rw[e];decide);have G:=yc2 m U λx g=>by
         have q:=m.sb;rw[zg4 i] at g q;rcases Qn.mp g with rfl | g
         . exact e'
         . exact c.tr _ _ _ e' ((Zx.mp q).1 x g)
       refine ze5 (λD=>Qt (Or2.l (.mk _ j _ (zL8 G D)))) λD=>?_
       exact zf2 (λ_=>Qt (Or2.r (.mk _ _ _ _ _ G '!' i (by simp;omega)))) λ_=>Qt (LoB.mk _ _ _ _ _ G '!' i (by simp;omega))
   case post1 =>
     rintro _ _ (⟨r,j,w,X⟩ | ⟨o,f,d,Z,bc,m,u,i,C⟩)
     . exact Qt (LD.mk r j _ X)
     refine Qm (wpS_lift (wpAny_rule ⟨rfl,?_⟩))
     refine Qm (ZL (wpS_forRange
       (λ_=>LoC κ lt T ar t a b (l.size+1)) (Q:=Or2 (LD κ lt T ar t) (LoC κ lt T ar t a b (l.size+1)))
       ?step2 ?fin2 (.mk o f d _ _ _ j m u i C)) ?post2)
     case fin2=>exact λ_ _ h=>.r h
     case post2 =>
       rintro _ _ (⟨r,j,w,X⟩ | ⟨o,f,d,Y,Z,bc,j,m,u,i,C⟩)
       . exact Qt (LD.mk r j _ X)
       exact Qm (zL9 (Qt (LoA.mk o f d _ _ m u i '!')))
     case step2 =>
       clear m u i C af a1 P;rintro y _ _ _ v ⟨o,f,d,Y,Z,bc,j,m,u,i,C⟩;dsimp only;have a5:∀K,wpS M A E s (yi7 K) (λ_ a6=>a6=SortSt.mk' κ ar t K none) (SortSt.mk' κ ar t j none):=λK=>zL9 rfl
       refine yj1 (R:=?R0) (λfin0=>?main0) ?fin0
       case main0 =>
         refine zf2 (λag=>?_) λag=>?_
         . generalize Y-1=K
           exact fin0 K
         . exact fin0 Y
       case fin0 =>
         intro K;refine Qm (ZL (a5 _) λ_ a6 e=>?_);subst e;clear a5;refine Qm (ze7 i ?_);have mb:b[d]∈b.toList.drop d:=by rw[zg4 i];exact .head _
         refine Qm (yi8 c rfl (m.memB mb) (λx g=>m.memA g) m.sa '!' λk hk k1 k2=>?_);dsimp only;refine zO6 (R:=?R1) (S:=λH p=>Ex1 (MLo (LtR lt) T H.toList (a.toList.drop p) (b.toList.drop d)) (l.size+1<=H.size) (∀x∈a.toList.drop p,lt b[d] x=true) (p+1<a.size) True) (λfin1=>?main1) ?fin1
         case main1 =>
           have a2:∀x∈(a.toList.drop f).take k,∀y∈b.toList.drop d,lt x y=true:=λx g y v=>by
             have q:=k1 x g;rw[Qg '&'] at q;have e:lt x b[d]=true:=(m.dis c.di (ZC g) mb).resolve_right (by simpa using q);have q':=m.sb;rw[zg4 i] at v q';rcases Qn.mp v with rfl | v
             . exact e
             . exact c.tr _ _ _ e ((Zx.mp q').1 y v)
           have I:=lo_runA m a2;have z:l.size+1<=(o++a.extract f (f+k)).size:=by simp;omega
           have F:∀x∈a.toList.drop (f+k),lt b[d] x=true:=λx g=>by
             have q:=k2 x g;rw[Qg '&'] at q;simpa using q
           have a4:¬ f+k=a.size:=λa0=>by
             obtain⟨w,hw⟩:∃w,(a.toList.drop f).getLast?=some w:=by
               rw[zg4 (show f<a.size by omega)];exact⟨_,List.getLast?_eq_getLast (by simp)⟩
             have w1:lt _ _=true:=m.la w hw _ mb;have w2:w∈(a.toList.drop f).take k:=by
               rw[QV (by simp;omega)];exact List.mem_of_getLast? hw
             rw[c.as _ _ (a2 w w2 _ mb)] at w1;cases w1
           refine zf2 (λa7=>?_) λa7=>?_
           . refine ze5 (λD=>Qt (Or2.l (.mk _ _ _ (zL8 I D)))) λD=>?_
             refine ze5 (λa0=>absurd a0 a4) λ_=>?_
             have a3:f+k+1<a.size:=by omega
             clear a2 a4 D a7;generalize o++a.extract f (f+k)=H at I z ⊢;generalize f+k=p at I F a3 ⊢;exact fin1 H p ⟨I,z,F,a3,trivial⟩
           . have ek:f+k=f:=by omega
             rw[ek] at F;exact fin1 o f ⟨m,C,F,u,trivial⟩
         case fin1 =>
           clear k1 k2 hk mb u C m;rintro H p ⟨I,z,F,a3,_⟩;refine Qm (ze7 i ?_);have B:=zO5 I i F;refine ze5 (λh7=>Qt (Or2.l (.mk _ _ _ (zL7 B (.inl '!'))))) λh7=>?_
           have h8:p<a.size:=by omega
           have ma:a[p]∈a.toList.drop p:=by rw[zg4 h8];exact .head _
           have o3:l.size+1<=(H.push b[d]).size:=by simp;omega
           have a8:d+1<b.size:=by omega
           clear I z F h7;generalize H.push b[d]=o1 at B o3 ⊢;refine Qm (ze7 h8 ?_);refine Qm (yi8 c rfl (B.memA ma) (λx g=>B.memB g) B.sb '!' λn hn n1 n2=>?_);dsimp only;refine zO6 (R:=?R2) (S:=λz L=>Ex1 (MLo (LtR lt) T z.toList (a.toList.drop p) (b.toList.drop L)) (l.size+1<=z.size) (∀y∈b.toList.drop L,lt a[p] y=true) (L<b.size) True) (λfin2=>?main2) ?fin2'
           case main2 =>
             have a9:∀y∈(b.toList.drop (d+1)).take n,∀x∈a.toList.drop p,lt y x=true:=λy v x g=>by
               have q:=n1 y v;rw[Ql rfl] at q;have q':=B.sa;rw[zg4 h8] at g q';rcases Qn.mp g with rfl | g
               . exact q
               . exact c.tr _ _ _ q ((Zx.mp q').1 x g)
             have J:=lo_runB B a9;have o4:l.size+1<=(o1++b.extract (d+1) (d+1+n)).size:=by simp;omega
             have N:∀y∈b.toList.drop (d+1+n),lt a[p] y=true:=λy v=>by
               have q:=n2 y v;rw[Ql rfl] at q;exact(J.dis c.di ma v).resolve_right (by show ¬ lt _ _=true;rw[q];decide)
             refine zf2 (λaa=>?_) λaa=>?_
             . refine ze5 (λh9=>Qt (Or2.l (.mk _ _ _ (zL7 J (.inl '!'))))) λh9=>?_
               have V:d+1+n<b.size:=by omega
               clear a9 h9 aa;generalize o1++b.extract (d+1) (d+1+n)=z at J o4 ⊢;generalize d+1+n=L at J N V ⊢;exact fin2 z L ⟨J,o4,N,V,trivial⟩
             . have en:d+1+n=d+1:=by omega
               rw[en] at N;exact fin2 o1 (d+1) ⟨B,o3,N,a8,trivial⟩
           case fin2' =>
             clear n1 n2 hn ma B o3 a8 i;rintro z L ⟨J,o4,N,V,_⟩;refine Qm (ze7 h8 ?_);have m5:=yc2 J h8 N;refine ze5 (λab=>Qt (Or2.l (.mk _ _ _ (zL8 m5 ab)))) λab=>?_
             exact zf2 (λ_=>Qt (Or2.r (.mk _ _ _ _ _ _ _ m5 '!' V (by simp;omega)))) λ_=>Qt (LoC.mk _ _ _ _ _ _ _ m5 '!' V (by simp;omega))
end
end Sx
namespace Sx
open PySem PyProof.Rows
section
variable {α:Type} {R:α->α->Prop} {T:List α}
abbrev Rv (R:α->α->Prop):α->α->Prop:=λx y=>R y x
abbrev MHi (R:α->α->Prop)(T:List α)(out a b:Array α)(na nb:Nat):Prop:=MLo (Rv R) T out.toList (b.toList.take nb).reverse (a.toList.take na).reverse
theorem Mer.rev {m:List α}(h:Mer (Rv R) T m):Mer R T m.reverse:=⟨(List.reverse_perm m).trans h.1,by rw[ZB];exact h.2⟩
theorem zr0 {a:Array α}{n:Nat}(h0:0<n)(h:n<=a.size):(a.toList.take n).reverse=a[n-1]::(a.toList.take (n-1)).reverse:=by
 obtain⟨k,rfl⟩:∃k,n=k+1:=⟨n-1,by omega⟩;have b:k<a.toList.length:=by simp;omega
 rw[List.take_succ_eq_append_getElem b,List.reverse_append];simp
theorem zz4 (a:Array α)(n:Nat):(a.extract 0 n).toList=a.toList.take n:=by
 have:=zo5 a 0 n;simpa using this
theorem zG0 {e a b:Array α}{c d:Nat}(m:MHi R T e a b c d)(h:c=0\/d=0):Mer R T (a.extract 0 c++b.extract 0 d++e.reverse).toList:=by
 rw[Zb,Zb,zz4,zz4,Array.toList_reverse];unfold MHi at m;rcases h with rfl | rfl
 . have q:=(MLo.doneA (by simpa using m)).rev
   simpa using q
 . have q:=(MLo.doneB (by simpa using m)).rev
   simpa using q
theorem zG1 {c a b:Array α}{d:Nat}(m:MHi R T c a b d 1)(f:0<b.size):Mer R T (b.extract 0 1++a.extract 0 d++c.reverse).toList:=by
 rw[Zb,Zb,zz4,zz4,Array.toList_reverse];unfold MHi at m;rw[zr0 '!' '!'] at m;have q:=(MLo.last (by simpa using m)).rev;have e:b.toList.take 1=[b[0]]:=by
   have z:=congrArg List.reverse (zr0 (a:=b) (n:=1) '!' '!');simpa using z
 rw[e];simpa using q
theorem zO7 {out a b : Array α} {na nb : Nat} (m : MHi R T out a b na nb) (h0 : 0 < na) (h : na ≤ a.size) (hb : ∀ y ∈ b.toList.take nb, R y a[na - 1]) : MHi R T (out.push a[na - 1]) a b (na - 1) nb := by
  unfold MHi at m ⊢;rw [zr0 h0 h] at m;rw [Array.toList_push]
  exact MLo.takeB (B1 := [a[na - 1]]) m fun x hx y hy => by obtain rfl : x = a[na - 1] := by simpa using hx
                                                            exact hb y (by simpa using hy)
theorem yc4 {out a b : Array α} {na nb : Nat} (m : MHi R T out a b na nb) (h0 : 0 < nb) (h : nb ≤ b.size) (ha : ∀ x ∈ a.toList.take na, R x b[nb - 1]) : MHi R T (out.push b[nb - 1]) a b na (nb - 1) := by
  unfold MHi at m ⊢;rw [zr0 h0 h] at m;rw [Array.toList_push]
  exact MLo.takeA (A1 := [b[nb - 1]]) m fun x hx y hy => by obtain rfl : x = b[nb - 1] := by simpa using hx
                                                            exact ha y (by simpa using hy)
theorem yc5 {a:Array α}{k n:Nat}(h:k<=n):(a.toList.take n).reverse=(a.extract k n).reverse.toList++(a.toList.take k).reverse:=by
 obtain⟨d,rfl⟩:∃d,n=k+d:=⟨n-k,by omega⟩;rw[Array.toList_reverse,zo5,<-List.reverse_append,<-List.take_add]
theorem hi_runA {f a b:Array α}{c e k:Nat}(m:MHi R T f a b c e)(i:k<=c)(h:∀x∈(a.toList.take c).drop k,∀y∈b.toList.take e,R y x):MHi R T (f++(a.extract k c).reverse) a b k e:=by
 unfold MHi at m ⊢;rw[yc5 i] at m;rw[Zb];refine m.takeB λx g y j=>h x ?_ y (by simpa using j)
 obtain⟨d,rfl⟩:∃d,c=k+d:=⟨c-k,by omega⟩;rw[Array.toList_reverse,zo5] at g;rw[List.drop_take,Zz];simpa using g
theorem hi_runB {f a b:Array α}{e c k:Nat}(m:MHi R T f a b e c)(i:k<=c)(h:∀y∈(b.toList.take c).drop k,∀x∈a.toList.take e,R x y):MHi R T (f++(b.extract k c).reverse) a b e k:=by
 unfold MHi at m ⊢;rw[yc5 i] at m;rw[Zb];refine m.takeA λx g y j=>h x ?_ y (by simpa using j)
 obtain⟨d,rfl⟩:∃d,c=k+d:=⟨c-k,by omega⟩;rw[Array.toList_reverse,zo5] at g;rw[List.drop_take,Zz];simpa using g
theorem zM0 {L:List α}{R:α->α->Prop}{x y:α}{n:Nat}{a:Array α}(h0:0<n)(h:n<=a.size)(d:(a.toList.take n).Pairwise R)(f:x∈a.toList.take n):x=a[n-1]\/R x a[n-1]:=by
 have e:=zr0 h0 h;have b:((a.toList.take n).reverse).Pairwise λp q=>R q p:=ZB.mpr d
 rw[e] at b;have c:x∈(a.toList.take n).reverse:=by simpa using f
 rw[e] at c;rcases Qn.mp c with q | q
 . exact .inl q
 . exact .inr ((Zx.mp b).1 x q)
theorem MHi.sa {d a b:Array α}{c e:Nat}(m:MHi R T d a b c e):(a.toList.take c).Pairwise R:=ZB.mp (MLo.sb m)
theorem MHi.sb {d a b:Array α}{e c:Nat}(m:MHi R T d a b e c):(b.toList.take c).Pairwise R:=ZB.mp (MLo.sa m)
theorem MHi.ma {d a b:Array α}{c e:Nat}(m:MHi R T d a b c e){x:α}(h:x∈a.toList.take c):x∈T:=MLo.memB m (by simpa using h)
theorem MHi.mb {d a b:Array α}{e c:Nat}(m:MHi R T d a b e c){x:α}(h:x∈b.toList.take c):x∈T:=MLo.memA m (by simpa using h)
theorem MHi.dis {f a b:Array α}{c e:Nat}(m:MHi R T f a b c e)(d:T.Pairwise λx y=>R x y\/R y x){x y:α}(g:x∈a.toList.take c)(h:y∈b.toList.take e):R x y\/R y x :=
 MLo.dis m (d.imp λz=>z.symm) (by simpa using h) (by simpa using g)
theorem zG2 {a:Array α}{n:Nat}(h0:0<n)(h:n<=a.size):a[n-1]∈a.toList.take n:=by
 have:a[n-1]∈(a.toList.take n).reverse:=by rw[zr0 h0 h];exact .head _
 simpa using this
end
section
variable {M:Model} {A:Around} {E:VP} {s:Shared} {κ:SortKind} {lt:Keyed->Keyed->Bool} {T:List Keyed}
theorem yj2 {left:Bool}{key:Keyed}{a:Array Keyed}{n hint:Nat}{st:SortSt}{Q:Option Nat->SortSt->Prop}(c:Cmp M A s κ lt T)(g:kindOf st=κ)(d:key∈T)(i:∀x∈a.toList.take n,x∈T)
   (l:(a.toList.take n).Pairwise (LtR lt)) (r:n<=a.size) (t:hint<n)
   (h:∀k,k<=n->(∀x∈a.toList.take k,(if left=true then lt x key else !lt key x)=true)->(∀x∈(a.toList.take n).drop k,(if left=true then lt x key else !lt key x)=false)->Q (some k) st) :
   wpS M A E s (zF8 left key a 0 n hint) Q st:=by
 have e:(a.toList.take n).length=n:=by simp;omega
 have:=zZ2 (E:=E) (left:=left) (key:=key) (arr:=a) (base:=0) (hint:=hint) (L:=a.toList.take n) (Q:=Q) c g d i (λj m=>by
   have f:0+j<a.size:=by rw[e] at m;omega
   rw[Zh a (0+j) f];simp) l (by rw[e];omega) λk b o p=>h k (by rw[e] at b;exact b) (λx q=>o x (by rw[List.take_take,ZF (by rw[e] at b;exact b)];exact q)) p
 rw[e] at this;exact this
section
variable (κ:SortKind) (lt:Keyed->Keyed->Bool) (T:List Keyed) (ar:Array Keyed) (pd:Array (Nat×Nat×Nat)) (a b:Array Keyed) (n:Nat)
inductive HiA:Option (Array Keyed)×Nat×Nat×Array Keyed×Nat->SortSt->Prop
 | mk (o:Array Keyed)(ja jb mg g:Nat)(m:MHi (LtR lt) T o a b ja jb)(h3:0<ja)(h4:ja<=a.size)(h5:1<jb)(h6:jb<=b.size)(h7:n<=o.size):HiA (none,ja,jb,o,mg) (SortSt.mk' κ ar pd g none)
inductive HiB (g:Nat)(n:Nat):Option (Array Keyed)×Nat×Nat×Array Keyed×Nat×Nat->SortSt->Prop
 | mk (o:Array Keyed)(ja jb ac bc:Nat)(m:MHi (LtR lt) T o a b ja jb)(h3:0<ja)(h4:ja<=a.size)(h5:1<jb)(h6:jb<=b.size)(h7:n<=o.size):HiB g n (none,ja,jb,o,ac,bc) (SortSt.mk' κ ar pd g none)
inductive HiC:Option (Array Keyed)×Nat×Nat×Array Keyed×Nat×Nat×Nat->SortSt->Prop
 | mk (o:Array Keyed)(ja jb mg ac bc g:Nat)(m:MHi (LtR lt) T o a b ja jb)(h3:0<ja)(h4:ja<=a.size)(h5:1<jb)(h6:jb<=b.size)(h7:n<=o.size):HiC (none,ja,jb,o,mg,ac,bc) (SortSt.mk' κ ar pd g none)
end
theorem wp_mergeHi {a b:Array Keyed}{ar:Array Keyed}{z:Array (Nat×Nat×Nat)}{ab:Nat}{Q:Array Keyed->SortSt->Prop}(c:Cmp M A s κ lt T)(hT:(a.toList++b.toList).Perm T)
   (sa:a.toList.Pairwise (LtR lt)) (sb:b.toList.Pairwise (LtR lt)) (ha:0<a.size) (hb:0<b.size) (first:∀x∈a.toList,lt b[0] x=true) (last:∀y∈b.toList,lt y a[a.size-1]=true)
   (h:∀m l,Mer (LtR lt) T m.toList->Q m (SortSt.mk' κ ar z l none)):wpS M A E s (yc0 a b) Q (SortSt.mk' κ ar z ab none):=by
 unfold yc0;refine Qm (wpS_lift (wpAny_rule ⟨rfl,?_⟩));have ta:a.toList.take a.size=a.toList:=QV (by simp);have tb:b.toList.take b.size=b.toList:=QV (by simp);have m0:MHi (LtR lt) T #[] a b a.size b.size:=by
   unfold MHi;rw[ta,tb];refine⟨.trans ?_ hT,by simp,ZB.mpr sb,ZB.mpr sa,by simp,λaj hz y C=>?_⟩
   . exact((List.reverse_perm _).append (List.reverse_perm _)).trans List.perm_append_comm
   . have e:aj=b[0]:=by
       rw[List.getLast?_reverse,List.head?_eq_getElem?] at hz;have:b.toList[0]?=some b[0]:=by simp
       rw[this] at hz;exact(Qx hz).symm
     subst e;exact first y (by simpa using C)
 refine Qm (ze7 (show a.size-1<a.size by omega) ?_);have m1:=zO7 m0 ha (Qi _) (by rw[tb];exact last);rw[show(#[]:Array Keyed).push a[a.size-1] = #[a[a.size-1]] from rfl] at m1;refine ze5 (λh1=>Qt (h _ _ (zG0 m1 (.inl h1)))) λh1=>?_
 refine ze5 (λh2=>?_) λh2=>?_
 . refine Qt (h _ _ ?_)
   rw[h2] at m1 ⊢;exact zG1 m1 hb
 refine Qm (wpS_get ?_);have ae:∀ {u:Array Keyed} {O nb:Nat},MHi (LtR lt) T u a b O nb->0<O->O<=a.size->u.size<a.size+b.size:=λ{u O nb} m h0 h1=>by
   have e:=MLo.len m;have e':=hT.length_eq;simp at e e';omega
 refine Qm (ZL (wpS_forRange
   (HiA κ lt T ar z a b) (Q:=LD κ lt T ar z) ?step ?fin (.mk _ _ _ _ ab m1 '!' '!' '!' '!' (by simp))) ?post)
 case post =>
   rintro _ _ ⟨r,l,ad,hm⟩;exact Qt (h r l hm)
 case fin =>
   rintro _ _ ⟨u,O,nb,mg,l,m,g,f,t,i,p⟩;have:=ae m g f;omega
 case step =>
   rintro x _ _ _ p ⟨u,O,nb,mg,l,m,g,f,t,i,af⟩
   refine Qm (ZL (wpS_forRange
     (λy=>HiB κ lt T ar z a b l (u.size+y)) (Q:=Or2 (LD κ lt T ar z) (HiB κ lt T ar z a b l (u.size+1)))
     ?step1 ?fin1 (.mk u O nb _ _ m g f t i '!')) ?post1)
   case fin1 =>
     rintro _ _ ⟨o,j,d,ac,bc,m,g,f,t,i,F⟩;exact .r (.mk o j d ac bc m g f t i '!')
   case step1 =>
     clear m g f t i;rintro y _ _ _ C ⟨o,j,d,ac,bc,m,g,f,t,i,F⟩;have ma:=zG2 g f;have mb:=zG2 (show 0<d by omega) i;refine Qm (ze7 (show d-1<b.size by omega) (Qm (ze7 (show j-1<a.size by omega) ?_)));refine Qm (yc3 c (MHi.mb m mb) (MHi.ma m ma) rfl ?_);cases e:lt b[d-1] a[j-1] with
     | true =>
       dsimp only;rw[Ql rfl];refine Qm (ze7 (show j-1<a.size by omega) ?_);have G:=zO7 m g f λx p=>by
         rcases zM0 (L:=[]) (x:=x) (y:=x) '!' i (MHi.sb m) p with rfl | q
         . exact e
         . exact c.tr _ _ _ q e
       refine ze5 (λD=>Qt (Or2.l (.mk _ l _ (zG0 G (.inl D))))) λD=>?_
       exact zf2 (λ_=>Qt (Or2.r (.mk _ _ _ _ _ G '!' '!' t i (by simp;omega)))) λ_=>Qt (HiB.mk _ _ _ _ _ G '!' '!' t i (by simp;omega))
     | false =>
       dsimp only;rw[Qg '&'];refine Qm (ze7 (show d-1<b.size by omega) ?_);have e':lt a[j-1] b[d-1]=true:=(MHi.dis m c.di ma mb).resolve_right (by show ¬ lt _ _=true;rw[e];decide);have G:=yc4 m '!' i λx p=>by
         rcases zM0 (L:=[]) (x:=x) (y:=x) g f (MHi.sa m) p with rfl | q
         . exact e'
         . exact c.tr _ _ _ q e'
       refine ze5 (λD=>?_) λD=>?_
       . refine Qt (Or2.l (.mk _ l _ ?_))
         generalize o.push b[d-1]=Y at G ⊢;rw[D] at G ⊢;exact zG1 G hb
       exact zf2 (λ_=>Qt (Or2.r (.mk _ _ _ _ _ G g f '!' '!' (by simp;omega)))) λ_=>Qt (HiB.mk _ _ _ _ _ G g f '!' '!' (by simp;omega))
   case post1 =>
     clear m g f t i;rintro _ _ (⟨r,l,ad,hm⟩ | ⟨o,j,d,ac,bc,m,g,f,t,i,F⟩)
     . exact Qt (LD.mk r l _ hm)
     refine Qm (wpS_lift (wpAny_rule ⟨rfl,?_⟩))
     refine Qm (ZL (wpS_forRange
       (λ_=>HiC κ lt T ar z a b (u.size+1)) (Q:=Or2 (LD κ lt T ar z) (HiC κ lt T ar z a b (u.size+1)))
       ?step2 ?fin2 (.mk o j d _ _ _ l m g f t i F)) ?post2)
     case fin2=>exact λ_ _ h=>.r h
     case post2 =>
       clear m g f t i F;rintro _ _ (⟨r,l,ad,hm⟩ | ⟨o,j,d,mg,ac,bc,l,m,g,f,t,i,F⟩)
       . exact Qt (LD.mk r l _ hm)
       exact Qm (zL9 (Qt (HiA.mk o j d _ _ m g f t i '!')))
     case step2 =>
       clear m g f t i F af;rintro y _ _ _ C ⟨o,j,d,mg,ac,bc,l,m,g,f,t,i,F⟩;dsimp only;have ag:∀U,wpS M A E s (yi7 U) (λ_ a5=>a5=SortSt.mk' κ ar z U none) (SortSt.mk' κ ar z l none):=λU=>zL9 rfl
       refine yj1 (R:=?R0) (λfin0=>?main0) ?fin0
       case main0 =>
         refine zf2 (λah=>?_) λah=>?_
         . generalize mg-1=U
           exact fin0 U
         . exact fin0 mg
       case fin0 =>
         intro U;refine Qm (ZL (ag _) λ_ a5 e=>?_);subst e;have mb:=zG2 (show 0<d by omega) i;refine Qm (ze7 (show d-1<b.size by omega) ?_);refine Qm (yj2 c rfl (MHi.mb m mb) (λx p=>MHi.ma m p) (MHi.sa m) f (show j-1<j by omega) λk hk k1 k2=>?_);dsimp only;refine zO6 (R:=?R1) (S:=λJ v=>Ex1 (MHi (LtR lt) T J a b v d) (u.size+1<=J.size) (∀x∈a.toList.take v,lt x b[d-1]=true) (0<v) (v<=a.size)) (λfin1=>?main1) ?fin1
         case main1 =>
           have a6:∀x∈(a.toList.take j).drop k,∀y∈b.toList.take d,lt y x=true:=λx p y C=>by
             have q:=k2 x p;rw[Qg '&'] at q;have e:lt b[d-1] x=true:=by simpa using q
             rcases zM0 (L:=[]) (x:=y) (y:=y) (show 0<d by omega) i (MHi.sb m) C with rfl | q
             . exact e
             . exact c.tr _ _ _ q e
           have P:=hi_runA m hk a6;have B:u.size+1<=(o++(a.extract k j).reverse).size:=by simp;omega
           have K:∀x∈a.toList.take k,lt x b[d-1]=true:=λx p=>by
             have q:=k1 x p;rw[Qg '&'] at q;have ai:x∈a.toList.take j:=by
               rw[<-ZF hk,<-List.take_take] at p;exact ZC p
             exact(MHi.dis m c.di ai mb).resolve_right (by show ¬ lt _ _=true;simpa using q)
           refine zf2 (λa7=>?_) λa7=>?_
           . refine ze5 (λD=>Qt (Or2.l (.mk _ _ _ (zG0 P (.inl D))))) λD=>?_
             have V:k<=a.size:=QD hk f;have W:0<k:=Nat.pos_of_ne_zero D;clear a7 a6 D;generalize o++(a.extract k j).reverse=J at P B ⊢;generalize k=v at P K W V ⊢;exact fin1 J v ⟨P,B,K,W,V⟩
           . have ek:k=j:=by omega
             rw[ek] at K ⊢;exact fin1 o j ⟨m,F,K,g,f⟩
         case fin1 =>
           clear hk k1 k2 mb g f F m;rintro J v ⟨P,B,K,W,V⟩;refine Qm (ze7 (show d-1<b.size by omega) ?_);have w:=yc4 P '!' i K;refine ze5 (λh9=>?_) λh9=>?_
           . refine Qt (Or2.l (.mk _ _ _ (?_)))
             generalize J.push b[d-1]=Y at w ⊢;rw[h9] at w ⊢;exact zG1 w hb
           have o3:u.size+1<=(J.push b[d-1]).size:=by simp;omega
           have a2:1<d-1:=by omega
           have Z:d-1<=b.size:=by omega
           clear P B K h9;generalize J.push b[d-1]=Y at w o3 ⊢;generalize d-1=I at w a2 Z ⊢;have ma:=zG2 W V;refine Qm (ze7 (show v-1<a.size by omega) ?_);refine Qm (yj2 c rfl (MHi.ma w ma) (λx p=>MHi.mb w p) (MHi.sb w) Z (show I-1<I by omega) λn hn n1 n2=>?_);dsimp only;refine zO6 (R:=?R2) (S:=λB N=>Ex1 (MHi (LtR lt) T B a b v N) (u.size+1<=B.size) (∀y∈b.toList.take N,lt y a[v-1]=true) (1<N) (N<=b.size)) (λfin2=>?main2) ?fin2'
           case main2 =>
             have a8:∀y∈(b.toList.take I).drop n,∀x∈a.toList.take v,lt x y=true:=λy C x p=>by
               have q:=n2 y C;rw[Ql rfl] at q;have e:lt a[v-1] y=true:=(MHi.dis w c.di ma (List.mem_of_mem_drop C)).resolve_right (by show ¬ lt _ _=true;rw[q];decide);rcases zM0 (L:=[]) (x:=x) (y:=x) W V (MHi.sa w) p with rfl | q
               . exact e
               . exact c.tr _ _ _ q e
             have H:=hi_runB w hn a8;have o4:u.size+1<=(Y++(b.extract n I).reverse).size:=by simp;omega
             have X:∀y∈b.toList.take n,lt y a[v-1]=true:=λy C=>by
               have q:=n1 y C;rw[Ql rfl] at q;exact q
             refine zf2 (λa9=>?_) λa9=>?_
             . refine ze5 (λa3=>?_) λa3=>?_
               . refine Qt (Or2.l (.mk _ _ _ (?_)))
                 generalize Y++(b.extract n I).reverse=B at H ⊢;rw[a3] at H ⊢;exact zG1 H hb
               refine ze5 (λa4=>Qt (Or2.l (.mk _ _ _ (zG0 H (.inr a4))))) λa4=>?_
               have a0:1<n:=by omega
               have a1:n<=b.size:=QD hn Z;clear a9 a8 a3 a4;generalize Y++(b.extract n I).reverse=B at H o4 ⊢;generalize n=N at H X a0 a1 ⊢;exact fin2 B N ⟨H,o4,X,a0,a1⟩
             . have en:n=I:=by omega
               rw[en] at X ⊢;exact fin2 Y I ⟨w,o3,X,a2,Z⟩
           case fin2' =>
             clear hn n1 n2 ma a2 Z o3 w;rintro B N ⟨H,o4,X,a0,a1⟩;refine Qm (ze7 (show v-1<a.size by omega) ?_);have m5:=zO7 H W V X;refine ze5 (λaa=>Qt (Or2.l (.mk _ _ _ (zG0 m5 (.inl aa))))) λaa=>?_
             exact zf2 (λ_=>Qt (Or2.r (.mk _ _ _ _ _ _ _ (m5) '!' '!' (a0) (a1) (by simp;omega)))) λ_=>Qt (HiC.mk _ _ _ _ _ _ _ (m5) '!' '!' (a0) (a1) (by simp;omega))
end
section
variable {α:Type}
theorem yc6 (base:Nat):∀(m:List α) (k:Nat) (b:Array α),base+k+m.length<=b.size →
   ((m.zipIdx k).foldl (λa x=>match x with | (p,j)=>a.setIfInBounds (base+j) p) b).toList=b.toList.take (base+k)++(m++b.toList.drop (base+k+m.length))
 | [],k,b,_=>by simp
 | x::m,k,b,h=>by
   simp only[QE] at h;rw[List.zipIdx_cons,List.foldl_cons,yc6 base m (k+1) _ (by simp;omega)];have c:base+k<b.toList.length:=by simp;omega
   rw[Array.toList_setIfInBounds];have d:(b.toList.set (base+k) x).take (base+(k+1))=b.toList.take (base+k)++[x]:=by
     rw[show base+(k+1)=base+k+1 by omega,List.take_succ_eq_append_getElem (by simpa using c),List.take_set_of_le (Qi _)];simp
   have e:(b.toList.set (base+k) x).drop (base+(k+1)+m.length)=b.toList.drop (base+k+(x::m).length):=by
     rw[List.drop_set_of_lt '!'];congr 1;simp;omega
   rw[d,e];simp
end
theorem last_get {b:Type}{X:Array b}{a:b}(h:0<X.size)(z:X.toList.getLast?=some a):X[X.size-1]=a:=by
 obtain⟨L⟩:=X;have c:0<L.length:=by simpa using h
 simp only[List.getLast?_eq_getElem?] at z;rw[Qf '!'] at z;simpa using z
noncomputable def Rn (lt:Keyed->Keyed->Bool):Nat->List (Nat×Nat×Nat)->List (List Keyed)->Prop
 | _,[],[]=>True
 | f,(s,n,_)::pd,l::ls=>s=f/\n=l.length/\l≠[]/\l.Pairwise (LtR lt)/\Rn lt (f+l.length) pd ls
 | _,_,_=>False
section
variable {lt:Keyed->Keyed->Bool}
theorem Rn.len:∀ {f:Nat} {b:List (Nat×Nat×Nat)} {a:List (List Keyed)},Rn lt f b a->b.length=a.length/\a.length<=a.flatten.length
 | _,[],[],_=>⟨rfl,Qi _⟩
 | _,[],_::_,h=>h.elim
 | _,_::_,[],h=>h.elim
 | f,(s,n,_)::b,l::a,h=>by
   obtain⟨_,_,c,_,d⟩:=h;have:=d.len;have:0<l.length:=List.length_pos_iff.mpr c;simp only[QE,List.flatten_cons,Qr];omega
theorem Rn.split:∀ {f:Nat} (b:List (Nat×Nat×Nat)) {c:List (Nat×Nat×Nat)} {d:List (List Keyed)},Rn lt f (b++c) d->∃a g,d=a++g/\a.length=b.length/\Rn lt f b a/\Rn lt (f+a.flatten.length) c g
 | f,[],c,d,h=>⟨[],d,rfl,rfl,trivial,by simpa using h⟩
 | f,_::_,c,[],h=>h.elim
 | f,(s,n,w)::b,c,l::d,h=>by
   obtain⟨i,j,k,m,o⟩:=h;obtain⟨a,g,e,p,q,r⟩:=Rn.split b o;refine⟨l::a,g,by rw[e];rfl,by simp[p],⟨i,j,k,m,q⟩,?_⟩;simpa [Nat.add_assoc] using r
theorem Rn.join:∀ {f:Nat} {d a:List (Nat×Nat×Nat)} {c b:List (List Keyed)},Rn lt f d c->Rn lt (f+c.flatten.length) a b->Rn lt f (d++a) (c++b)
 | f,[],a,[],b,_,h=>by simpa using h
 | f,[],a,_::_,b,h,_=>h.elim
 | f,_::_,a,[],b,h,_=>h.elim
 | f,(s,n,w)::d,a,l::c,b,h,h'=>by
   obtain⟨e,g,i,j,k⟩:=h;refine⟨e,g,i,j,Rn.join k ?_⟩;simpa [Nat.add_assoc] using h'
end
section
variable {M:Model} {A:Around} {E:VP} {s:Shared} {κ:SortKind} {lt:Keyed->Keyed->Bool} {T:List Keyed}
theorem zU6 {P a b S:List Keyed}(c:Cmp M A s κ lt (P++(a++(b++S)))){x y:Keyed}(d:x∈a)(e:y∈b):lt x y=true\/lt y x=true :=
 (QI.mp (QI.mp c.di).2.1).2.2 x d y (Zl _ e)
theorem yj3 {lt:Keyed->Keyed->Bool}{B:List Keyed}{b y:Keyed}(c:B.Pairwise (LtR lt))(d:B[0]?=some b)(a:y∈B):y=b\/lt b y=true:=by
 cases B with
 | nil=>cases a
 | cons z B =>
   obtain rfl:z=b:=by simpa using d
   rcases Qn.mp a with q | q
   . exact .inl q
   . exact .inr ((Zx.mp c).1 y q)
theorem le_last {lt:Keyed->Keyed->Bool}{B:List Keyed}{b y:Keyed}(c:B.Pairwise (LtR lt))(d:B.getLast?=some b)(e:y∈B):y=b\/lt y b=true:=by
 have a:B.reverse.Pairwise (LtR λp q=>lt q p):=ZB.mpr c;exact yj3 (lt:=λp q=>lt q p) a (by rw[<-List.head?_eq_getElem?,List.head?_reverse];exact d) (by simpa using e)
theorem wp_mergeAt {ar:Array Keyed}{v:Array (Nat×Nat×Nat)}{a5 i:Nat}{pre post:List (Nat×Nat×Nat)}{w V:Nat}{P a b S:List Keyed}{Q:Bool->SortSt->Prop}
   (c:Cmp M A s κ lt (P++(a++(b++S)))) (B:ar.toList=P++(a++(b++S))) (K:v.toList=pre++(P.length,a.length,w)::(P.length+a.length,b.length,V)::post) (L:i=pre.length)
   (hA:a≠[]) (hB:b≠[]) (D:a.Pairwise (LtR lt)) (F:b.Pairwise (LtR lt))
   (h:∀W X p C,X.toList=pre++(P.length,a.length+b.length,w)::post->W.toList=P++(C++S)->C.Perm (a++b)->C.Pairwise (LtR lt)->Q true (SortSt.mk' κ W X p none)) :
   wpS M A E s (mergeAt' i) Q (SortSt.mk' κ ar v a5 none):=by
 have nA:0<a.length:=List.length_pos_iff.mpr hA;have N:0<b.length:=List.length_pos_iff.mpr hB;have sz:ar.size=P.length+(a.length+(b.length+S.length)):=by
   have:=congrArg List.length B;simpa using this
 have p0:v[i]?=some (P.length,a.length,w):=by
   rw[<-QU,K,L];simp
 have p1:v[i+1]?=some (P.length+a.length,b.length,V):=by
   rw[<-QU,K,L];simp
 have np:((v.setIfInBounds i (P.length,a.length+b.length,w)).eraseIdxIfInBounds (i+1)).toList=pre++(P.length,a.length+b.length,w)::post:=by
   rw[Array.toList_eraseIdxIfInBounds,Array.toList_setIfInBounds,K,L,List.set_append_right _ _ '!'];rw[Nat.sub_self,List.set_cons_zero,List.eraseIdx_append_of_length_le '!'];simp
 unfold mergeAt';refine Qm (wpS_get ?_);dsimp only;rw[p0,p1];refine Qm (m:=set _) (wpS_modify (f:=λ_=>_) ?_);have Y:∀j (G:j<a.length),ar[P.length+j]?=some a[j]:=λj G=>by
   rw[<-QU,B,Zd '!',Zz,Zn G,Qf G]
 have Z:∀j (G:j<b.length),ar[P.length+a.length+j]?=some b[j]:=λj G=>by
   rw[<-QU,B,Zd '!',show P.length+a.length+j-P.length=a.length+j by omega,Zd '!',Zz,Zn G,Qf G]
 obtain⟨r,H⟩:∃r,b[0]?=some r:=⟨_,Qf N⟩;obtain⟨t,I⟩:∃t,a.getLast?=some t:=⟨_,List.getLast?_eq_getLast hA⟩;have mB:r∈b:=Qy H;have mA:t∈a:=List.mem_of_getLast? I;have a0:∀x∈a,x∈P++(a++(b++S)):=λx d=>by simp[d]
 have a1:∀x∈b,x∈P++(a++(b++S)):=λx d=>by simp[d]
 have eb:ar[P.length+a.length]' '!'=r:=by
   have z:=Z 0 N;rw[Nat.add_zero,Zh ar _ '!'] at z;rw[Qf N] at H;exact(Qx z).trans (Qx H)
 refine Qm (ze7 (show P.length+a.length<ar.size by omega) ?_);rw[eb];refine Qm (zZ2 c rfl (a1 _ mB) a0 Y D nA λk hk k1 k2=>?_);have J:∀x∈a.take k,∀y∈b,lt x y=true:=λx d y g=>by
   have q:=k1 x d;rw[Qg '&'] at q;have e:lt x r=true:=(zU6 c (ZC d) mB).resolve_right (by simpa using q);rcases yj3 F H g with rfl | z
   . exact e
   . exact c.tr _ _ _ e z
 have a2:∀x∈a.drop k,lt r x=true:=λx d=>by
   have q:=k2 x d;rw[Qg '&'] at q;simpa using q
 have U:(∀x∈a,∀y∈b,lt x y=true)->Q true (SortSt.mk' κ ar ((v.setIfInBounds i (P.length,a.length+b.length,w)).eraseIdxIfInBounds (i+1)) a5 none):=λz =>
   h _ _ _ (a++b) np (by rw[B];simp) (.refl _) (QI.mpr ⟨D,F,z⟩)
 refine ze5 (λh1=>?_) λh1=>?_
 . refine Qt (U λx d y g=>J x ?_ y g)
   rw[QV '!'];exact d
 have el:ar[P.length+k+(a.length-k)-1]' '!'=t:=by
   have z:=Y (a.length-1) '!';have z':ar[P.length+k+(a.length-k)-1]?=some a[a.length-1]:=by rw[<-z];congr 1;omega
   rw[Zh ar _ '!'] at z';rw[List.getLast?_eq_getElem?,Qf '!'] at I;exact(Qx z').trans (Qx I)
 refine Qm (ze7 (show P.length+k+(a.length-k)-1<ar.size by omega) ?_);rw[el];refine Qm (zZ2 c rfl (a0 _ mA) a1 Z F (show b.length-1<b.length by omega) λn O n1 n2=>?_);have a3:∀y∈b.take n,lt y t=true:=λy g=>by
   have q:=n1 y g;rw[Ql rfl] at q;exact q
 have a4:∀y∈b.drop n,∀x∈a,lt x y=true:=λy g x d=>by
   have q:=n2 y g;rw[Ql rfl] at q;have e:lt t y=true:=(zU6 c mA (List.mem_of_mem_drop g)).resolve_right (by rw[q];decide);rcases le_last D I d with rfl | z
   . exact e
   . exact c.tr _ _ _ z e
 refine ze5 (λh2=>?_) λh2=>?_
 . refine Qt (U λx d y g=>a4 y ?_ x d)
   rw[h2];exact g
 have l:(ar.extract (P.length+k) (P.length+a.length)).toList=a.drop k:=by
   rw[show P.length+a.length=P.length+k+(a.length-k) by omega,zo5,B,List.drop_append];rw[List.drop_eq_nil_of_le '!',Zz,List.nil_append,List.drop_append_of_le_length hk,ZD (by simp)];exact QV (by simp)
 have u:(ar.extract (P.length+a.length) (P.length+a.length+n)).toList=b.take n:=by
   rw[zo5,B,<-QR,List.drop_append,List.drop_eq_nil_of_le (by simp)];rw[show P.length+a.length-(P++a).length=0 by simp,List.nil_append,List.drop_zero,ZD O]
 have c':Cmp M A s κ lt (a.drop k++b.take n):=c.sub (by
   refine .trans ?_ (List.sublist_append_right P _);exact(List.drop_sublist k a).append ((List.take_sublist n b).trans (List.sublist_append_left b S)))
 have after:∀(m:Array Keyed) p,Mer (LtR lt) (a.drop k++b.take n) m.toList →
     Q true (SortSt.mk' κ (m.toList.zipIdx.foldl (λa6 x=>match x with | (a7,j)=>a6.setIfInBounds (P.length+k+j) a7) ar) ((v.setIfInBounds i (P.length,a.length+b.length,w)).eraseIdxIfInBounds (i+1)) p none):=λm p o=>by
   have ml:m.toList.length=a.length-k+n:=by
     have z:=o.1.length_eq;rw[Qr,List.length_drop,QW,ZF O] at z;exact z
   refine h _ _ _ (a.take k++(m.toList++b.drop n)) np ?_ ?_ ?_
   . rw[yc6 _ _ 0 _ (by rw[ml];omega),ml,B]
     rw[Nat.add_zero,List.take_append,QV '!',Zz,ZD hk];have e2:(P++(a++(b++S))).drop (P.length+k+(a.length-k+n))=b.drop n++S:=by
       rw[show P.length+k+(a.length-k+n)=(P++a).length+n by simp;omega,<-QR,List.drop_append,List.drop_eq_nil_of_le '!',Zz,List.nil_append,List.drop_append_of_le_length O]
     rw[e2];simp
   . refine .trans (List.Perm.append_left _ (o.1.append_right _)) ?_
     rw[QR,Za,<-QR,Za]
   . refine QI.mpr ⟨D.sublist (List.take_sublist _ _),QI.mpr ⟨o.2,F.sublist (List.drop_sublist _ _),λx d y g=>?_⟩,λx d y g=>?_⟩
     . rcases Qs.mp (o.1.mem_iff.mp d) with q | q
       . exact a4 y g x (List.mem_of_mem_drop q)
       . have z:=F
         rw[<-Za n b] at z;exact(QI.mp z).2.2 x q y g
     . rcases Qs.mp g with q | q
       . rcases Qs.mp (o.1.mem_iff.mp q) with q | q
         . have z:=D
           rw[<-Za k a] at z;exact(QI.mp z).2.2 x d y q
         . exact J x d y (ZC q)
       . exact J x d y (List.mem_of_mem_drop q)
 have R:0<(ar.extract (P.length+k) (P.length+a.length)).size:=by
   rw[<-Qu,l,List.length_drop];omega
 have T:0<(ar.extract (P.length+a.length) (P.length+a.length+n)).size:=by
   rw[<-Qu,u,QW];omega
 have fy:(ar.extract (P.length+a.length) (P.length+a.length+n))[0]=r:=by
   have z:(ar.extract (P.length+a.length) (P.length+a.length+n))[0]?=some r:=by
     rw[<-QU,u,List.getElem?_take_of_lt '!'];exact H
   rw[Zh _ 0 T] at z;exact Qx z
 have lx:(a.drop k).getLast?=some t:=by
   have z:=I;rw[<-Za k a,List.getLast?_append] at z;cases e:(a.drop k).getLast? with
   | some a8=>rw[e] at z;exact z
   | none =>
     have:=congrArg List.length (List.getLast?_eq_none_iff.mp e);simp at this;omega
 refine zf2 (λh3=>?_) λh3=>?_
 . refine Qm (wp_mergeLo c' (by rw[l,u]) (by rw[l];exact D.sublist (List.drop_sublist _ _)) (by rw[u];exact F.sublist (List.take_sublist _ _)) R T (by rw[l,fy];exact a2) (by
     rw[l,u];intro z hz y g;rw[lx] at hz;obtain rfl:=Qx hz;exact a3 y g) λm p o=>?_)
   refine Qm (wpS_modify (Qm (wpS_get (Qt ?_))));exact after m p o
 . refine Qm (wp_mergeHi c' (by rw[l,u]) (by rw[l];exact D.sublist (List.drop_sublist _ _)) (by rw[u];exact F.sublist (List.take_sublist _ _)) R T (by rw[l,fy];exact a2) (by
     rw[u];intro y g;have z:(ar.extract (P.length+k) (P.length+a.length)).toList.getLast?=some t:=by rw[l];exact lx
     have e:=last_get R z;rw[e];exact a3 y g) λm p o=>?_)
   refine Qm (wpS_modify (Qm (wpS_get (Qt ?_))));exact after m p o
end
noncomputable def at' (ar:Array Keyed)(i:Nat):Keyed:=ar.getD i (Value.none,Value.none)
def Up (lt:Keyed->Keyed->Bool)(ar:Array Keyed)(lo n:Nat):Prop:=∀i j,i<j->j<n->lt (at' ar (lo+i)) (at' ar (lo+j))=true
theorem at'_of {ar:Array Keyed}{i:Nat}{x:Keyed}(h:ar[i]?=some x):at' ar i=x:=by
 unfold at';rw[Array.getD_eq_getD_getElem?,h];rfl
theorem zw8 {ar:Array Keyed}{i:Nat}(h:i<ar.size):ar[i]=at' ar i:=(at'_of (Zh ar i h)).symm
theorem zv1 {ar a:Array Keyed}{i j:Nat}(h:ar[i]?=a[j]?):at' ar i=at' a j:=by
 unfold at';rw[Array.getD_eq_getD_getElem?,Array.getD_eq_getD_getElem?,h]
theorem zO8 {ar:Array Keyed}{i j:Nat}(a:j<=ar.size)(k:Nat):at' (mirror ar i j ((j-i) / 2)) k=if i<=k/\k<j then at' ar (i+j-1-k) else at' ar k:=by
 have e:=getElem?_mirror_all (i:=i) a k
 split
 . rename_i h;rw[Ql h] at e;exact zv1 e
 . rename_i h;rw[Qg h] at e;exact zv1 e
theorem zO9 {ar:Array Keyed}{a d:Nat}(b:a<ar.size)(c:d<=a)(k:Nat) :
   at' (bubble ar a d) k=if k=a-d then at' ar a else if a-d<k/\k<=a then at' ar (k-1) else at' ar k:=by
 have e:=getElem?_bubble b d c k
 split
 . rename_i h;rw[Ql h] at e;exact zv1 e
 . rename_i h
   rw[Qg h] at e
   split
   . rename_i h';rw[Ql h'] at e;exact zv1 e
   . rename_i h';rw[Qg h'] at e;exact zv1 e
def zP0 (lo:Nat)(ar br:Array Keyed):Prop:=∀i,i<lo->br[i]?=ar[i]?
section
variable {M:Model} {A:Around} {E:VP} {s:Shared} {κ:SortKind} {lt:Keyed->Keyed->Bool} {T:List Keyed} {ar:Array Keyed} {pd:Array (Nat×Nat×Nat)} {g:Nat}
theorem in_T (a:ar.toList.Perm T){i:Nat}(h:i<ar.size):at' ar i∈T:=by
 rw[<-zw8 h];exact a.mem_iff.mp (by simp)
theorem zB8 {i j:Nat}{Q:Option Bool->SortSt->Prop}(c:Cmp M A s κ lt T)(d:ar.toList.Perm T)(a:i<ar.size)(b:j<ar.size)
   (h:Q (some (lt (at' ar i) (at' ar j))) (SortSt.mk' κ ar pd g none)):wpS M A E s (ltAt' i j) Q (SortSt.mk' κ ar pd g none):=by
 rw[ltAt'_eq];refine Qm (wpS_get (Qm (ze7 a (Qm (ze7 b ?_)))));rw[zw8 a,zw8 b];exact yc3 c (in_T d a) (in_T d b) rfl h
theorem apart (c:Cmp M A s κ lt T)(e:ar.toList.Perm T){i j:Nat}(a:i<ar.size)(b:j<ar.size)(h:i≠j):lt (at' ar i) (at' ar j)=true\/lt (at' ar j) (at' ar i)=true:=by
 have d:=(c.perm e).di;rw[<-zw8 a,<-zw8 b];rcases QP i j with z | z
 . exact Zm.mp d i j (by simpa using a) (by simpa using b) z
 . exact(Zm.mp d j i (by simpa using b) (by simpa using a) '!').symm
noncomputable abbrev AS:=Option (Option Nat)×Nat
theorem yo7 {f:Nat->AS->SM (ForInStep AS)}{lo a b:Nat}{st:SortSt}{Q:AS->SortSt->Prop}(c:Cmp M A s κ lt T)(r:ar.toList.Perm T)
   (t:∀x n (R:ForInStep AS->SortSt->Prop),1<=n->n<b->(lt (at' ar (lo+n)) (at' ar (lo+n-1))=true->R (.done (none,n)) st)->(lt (at' ar (lo+n)) (at' ar (lo+n-1))=false->R (.yield (none,n+1)) st)->wpS M A E s (f x (none,n)) R st)
   (y:lo+b<=ar.size) (B:1<=a) (u:a<=b) (w:Up lt ar lo a)
   (h:∀n,a<=n->n<=b->Up lt ar lo n->(n=b\/lt (at' ar (lo+n)) (at' ar (lo+n-1))=true)->Q (none,n) st):wpS M A E s (forIn [a:b] ((none,a):AS) f) Q st:=by
 refine wpS_forRange (I:=λx v g=>g=st/\v=(none,x)/\Up lt ar lo x) ?step ?fin ⟨rfl,rfl,w⟩
 case fin =>
   rintro v g ⟨rfl,rfl,d⟩;rw[show max a b=b by omega] at d ⊢;exact h b u (Qi _) d (.inl rfl)
 case step =>
   rintro x v g m o ⟨rfl,rfl,d⟩;refine t x x _ '!' o (λe=>h x m '!' d (.inr e)) λe=>⟨rfl,rfl,λi j p C=>?_⟩
   rcases QP j x with z | z
   . exact d i j p z
   . obtain rfl:j=x:=by omega
     have k:lt (at' ar (lo+j-1)) (at' ar (lo+j))=true:=(apart c r '!' '!' '!').resolve_right (by rw[e];decide);rcases QP i (j-1) with q | q
     . have l:=d i (j-1) q '!'
       rw[show lo+(j-1)=lo+j-1 by omega] at l;exact c.tr _ _ _ l k
     . rw[show lo+i=lo+j-1 by omega]
       exact k
theorem wp_count {lo a:Nat}{Q:Option Nat->SortSt->Prop}(c:Cmp M A s κ lt T)(b:ar.toList.Perm T)(O:lo+a<=ar.size)(P:1<=a)
   (h:∀m o,o.toList.Perm T->zP0 lo ar o->1<=m->m<=a->Up lt o lo m->Q (some m) (SortSt.mk' κ o pd g none)):wpS M A E s (countRun' lo a) Q (SortSt.mk' κ ar pd g none):=by
 rw[countRun'_eq];refine Qm (yo7 (ar:=ar) (lo:=lo) c b (λx n R l f u w=>?_) O (Qi 1) P (λi j p y=>by omega) λn l f B K=>?_)
 . dsimp only
   refine Qm (zB8 c b '!' '!' ?_);cases e:lt (at' ar (lo+n)) (at' ar (lo+n-1)) with
   | true=>dsimp only;rw[Ql rfl];exact Qt (u e)
   | false=>dsimp only;rw[Qg '&'];exact Qt (w e)
 dsimp only;by_cases C:n=a
 . rw[Ql (yi9 C)]
   exact Qt (h n ar b (λ_ _=>rfl) l f B)
 rw[Qg (yj0 C)];have L:=K.resolve_left C;by_cases G:n>1
 . rw[Ql G]
   refine Qm (zB8 c b '!' '!' ?_);have e:=B 0 (n-1) '!' '!';rw[Nat.add_zero,show lo+(n-1)=lo+n-1 by omega] at e;rw[e];dsimp only;rw[Ql rfl];exact Qt (h n ar b (λ_ _=>rfl) l f B)
 rw[Qg G];obtain rfl:n=1:=by omega
 refine Qm (wpS_lift (wpAny_rule ⟨rfl,?_⟩))
 refine Qm (ZL (wpS_forRange (I:=λx v k=>k=SortSt.mk' κ ar pd g none/\v=(none,x,0)/\∀i j,i<j->j<x->lt (at' ar (lo+j)) (at' ar (lo+i))=true)
   (Q:=λv k=>k=SortSt.mk' κ ar pd g none/\∃x,v=(none,x,0)/\2<=x/\x<=a/\∀i j,i<j->j<x->lt (at' ar (lo+j)) (at' ar (lo+i))=true) ?step ?fin ⟨rfl,rfl,?ini⟩) ?post)
 case ini =>
   intro i j p y;obtain rfl:i=0:=by omega
   obtain rfl:j=1:=by omega
   rw[Nat.add_zero];exact L
 case fin =>
   rintro v k ⟨rfl,rfl,d⟩;rw[show max (1+1) a=a by omega] at d ⊢;exact⟨rfl,a,rfl,by omega,Qi _,d⟩
 case step =>
   rintro x v k V D ⟨rfl,rfl,d⟩;dsimp only;refine Qm (zB8 c b '!' '!' ?_);cases e:lt (at' ar (lo+x)) (at' ar (lo+x-1)) with
   | true =>
     dsimp only;rw[Ql rfl,Qg '&'];refine Qt ⟨rfl,rfl,λi j p y=>?_⟩;rcases QP j x with z | z
     . exact d i j p z
     . obtain rfl:j=x:=by omega
       rcases QP i (j-1) with q | q
       . have H:=d i (j-1) q '!'
         rw[show lo+(j-1)=lo+j-1 by omega] at H;exact c.tr _ _ _ e H
       . rw[show lo+i=lo+j-1 by omega]
         exact e
   | false =>
     dsimp only;rw[Qg '&'];have S:lt (at' ar (lo+x-1)) (at' ar (lo+x))=true:=(apart c b '!' '!' '!').resolve_right (by rw[e];decide);refine Qm (zB8 c b '!' '!' ?_);rw[S];dsimp only;rw[Ql rfl];exact Qt ⟨rfl,x,rfl,by omega,by omega,d⟩
 case post =>
   rintro v k ⟨rfl,x,rfl,W,D,d⟩;dsimp only;rw[Qg '&',reverseSlice'_eq];refine Qm (wpS_modify ?_);have r:(mirror ar lo (lo+x) ((lo+x-lo) / 2)).toList.Perm T:=.trans (Array.perm_iff_toList_perm.mp (mirror_perm _ _ _ _)) b;have J:zP0 lo ar (mirror ar lo (lo+x) ((lo+x-lo) / 2)):=λi X=>by
     rw[getElem?_mirror_all '!',Qg '!']
   have U:(mirror ar lo (lo+x) ((lo+x-lo) / 2)).size=ar.size:=mirror_size _ _ _ _;have F:Up lt (mirror ar lo (lo+x) ((lo+x-lo) / 2)) lo x:=λi j p y=>by
     rw[zO8 '!',zO8 '!',Ql '!',Ql '!'];have:=d (x-1-j) (x-1-i) '!' '!';rw[show lo+(lo+x)-1-(lo+i)=lo+(x-1-i) by omega,show lo+(lo+x)-1-(lo+j)=lo+(x-1-j) by omega];exact this
   show wpS M A E s _ Q (SortSt.mk' κ (mirror ar lo (lo+x) ((lo+x-lo) / 2)) pd g none);generalize mirror ar lo (lo+x) ((lo+x-lo) / 2)=t at r J U F ⊢;refine Qm (yo7 (ar:=t) (lo:=lo) c r (λx n R l f u w=>?_) '!' '!' D F λn l f N _=>?_)
   . dsimp only
     refine Qm (zB8 c r '!' '!' ?_);cases e:lt (at' t (lo+n)) (at' t (lo+n-1)) with
     | true=>dsimp only;rw[Ql rfl];exact Qt (u e)
     | false=>dsimp only;rw[Qg '&'];exact Qt (w e)
   . exact Qt (h n t r J '!' f N)
theorem bubble_up {a:Array Keyed}{lo k l:Nat}(m:lo+k<a.size)(h:l<=k)(b:Up lt a lo k)(e:∀i,i<l->lt (at' a (lo+i)) (at' a (lo+k))=true)(f:∀i,l<=i->i<k->lt (at' a (lo+k)) (at' a (lo+i))=true) :
   Up lt (bubble a (lo+k) (lo+k-(lo+l))) lo (k+1):=by
 intro i j d n;rw[zO9 '!' '!',zO9 '!' '!',show lo+k-(lo+k-(lo+l))=lo+l by omega];by_cases g:i<l
 . rw[Qg '!',Qg '!']
   by_cases c:j=l
   . subst c
     rw[Ql rfl];exact e i g
   . rw[Qg '!']
     by_cases o:j<l
     . rw[Qg '!']
       exact b i j d '!'
     . rw[Ql '!',show lo+j-1=lo+(j-1) by omega]
       exact b i (j-1) '!' '!'
 . by_cases c:i=l
   . subst c
     rw[Ql rfl,Qg '!',Ql '!',show lo+j-1=lo+(j-1) by omega];exact f (j-1) '!' '!'
   . rw[Qg '!',Ql '!',Qg '!',Ql '!',show lo+i-1=lo+(i-1) by omega,show lo+j-1=lo+(j-1) by omega]
     exact b (i-1) (j-1) '!' '!'
theorem wp_bin {lo n ok:Nat}{Q:Bool->SortSt->Prop}(c:Cmp M A s κ lt T)(L:ar.toList.Perm T)(Y:lo+n<=ar.size)(U:ok<=n)(N:Up lt ar lo ok)
   (h:∀o,o.toList.Perm T->zP0 lo ar o->Up lt o lo n->Q true (SortSt.mk' κ o pd g none)):wpS M A E s (binarySort' lo n ok) Q (SortSt.mk' κ ar pd g none):=by
 rw[binarySort'_eq]
 refine Qm (ZL (wpS_forRange (I:=λk v d=>v=(none,())/\∃a,d=SortSt.mk' κ a pd g none/\a.toList.Perm T/\a.size=ar.size/\zP0 lo ar a/\Up lt a lo (min k n))
   (Q:=λv d=>v=(none,())/\∃a,d=SortSt.mk' κ a pd g none/\a.toList.Perm T/\zP0 lo ar a/\Up lt a lo n) ?step ?fin ⟨rfl,ar,rfl,L,rfl,λ_ _=>rfl,λi j J Z=>N i j J '!'⟩) ?post)
 case post =>
   rintro v d ⟨rfl,a,rfl,t,B,u⟩;exact Qt (h a t B u)
 case fin =>
   rintro v d ⟨rfl,a,rfl,t,B,u,C⟩;rw[show min (max (max ok 1) n) n=n by omega] at C;exact⟨rfl,a,rfl,t,u,C⟩
 case step =>
   rintro k v d V W ⟨rfl,a,rfl,q,O,P,p⟩;rw[show min k n=k by omega] at p
   refine Qm (ZL (wpS_forRange (I:=λx v b=>b=SortSt.mk' κ a pd g none/\∃l r,v=(none,l,r)/\l<=r/\r<=k/\r-l<=k-x ∧
       (∀i,i<l->lt (at' a (lo+i)) (at' a (lo+k))=true)/\(∀i,r<=i->i<k->lt (at' a (lo+k)) (at' a (lo+i))=true))
     (Q:=λv b=>b=SortSt.mk' κ a pd g none/\∃l r,v=(none,l,r)/\l<=k ∧
       (∀i,i<l->lt (at' a (lo+i)) (at' a (lo+k))=true)/\(∀i,l<=i->i<k->lt (at' a (lo+k)) (at' a (lo+i))=true)) ?istep ?ifin ⟨rfl,0,k,rfl,by omega,by omega,by omega,λi D=>by omega,λi F G=>by omega⟩) ?ipost)
   case ifin =>
     rintro v b ⟨rfl,l,r,rfl,R,w,S,f,m⟩;obtain rfl:l=r:=by omega
     exact⟨rfl,l,l,rfl,w,f,m⟩
   case istep =>
     rintro x v b _ X ⟨rfl,l,r,rfl,R,w,S,f,m⟩;dsimp only;by_cases y:l≥r
     . rw[Ql y]
       obtain rfl:l=r:=by omega
       exact Qt ⟨rfl,l,l,rfl,w,f,m⟩
     . rw[Qg y]
       refine Qm (zB8 c q '!' '!' ?_);cases e:lt (at' a (lo+k)) (at' a (lo+(l+r) / 2)) with
       | true =>
         dsimp only;rw[Ql rfl];refine Qt ⟨rfl,l,(l+r) / 2,rfl,by omega,by omega,by omega,f,λi F G=>?_⟩;rcases QP ((l+r) / 2) i with z | z
         . exact c.tr _ _ _ e (p _ i z G)
         . obtain rfl:i=(l+r) / 2:=by omega
           exact e
       | false =>
         dsimp only;rw[Qg '&'];have H:lt (at' a (lo+(l+r) / 2)) (at' a (lo+k))=true:=(apart c q '!' '!' '!').resolve_right (by rw[e];decide);refine Qt ⟨rfl,(l+r) / 2+1,r,rfl,by omega,by omega,by omega,λi F=>?_,m⟩;rcases QP i ((l+r) / 2) with z | z
         . exact c.tr _ _ _ (p i _ z '!') H
         . obtain rfl:i=(l+r) / 2:=by omega
           exact H
   case ipost =>
     rintro v b ⟨rfl,l,r,rfl,K,f,m⟩;show wpS M A E s (do moveDown' (lo+k) (lo+l);pure (ForInStep.yield (none,()))) _ _;rw[moveDown'_eq];refine Qm (wpS_modify (Qt ⟨rfl,bubble a (lo+k) (lo+k-(lo+l)),rfl,.trans (Array.perm_iff_toList_perm.mp (bubble_perm _ _ _)) q,(bubble_size _ _ _).trans O,λi D=>?_,?_⟩))
     . rw[getElem?_bubble '!' _ '!',Qg '!',Qg '!']
       exact P i D
     . rw[show min (k+1) n=k+1 by omega]
       exact bubble_up '!' K p f m
end
section
variable {M:Model} {A:Around} {E:VP} {s:Shared} {κ:SortKind} {lt:Keyed->Keyed->Bool} {T:List Keyed}
theorem zU7 {n:Array Keyed}{d:Array (Nat×Nat×Nat)}{g i:Nat}{q:List (List Keyed)}{rest:List Keyed}{Q:Bool->SortSt->Prop}(c:Cmp M A s κ lt T)(v:n.toList.Perm T)(G:Rn lt 0 d.toList q)
   (H:n.toList=q.flatten++rest) (X:i+1<d.size)
   (h:∀j k r o,j.toList.Perm T->Rn lt 0 k.toList o->j.toList=o.flatten++rest->k.size+1=d.size->o.flatten.length=q.flatten.length->Q true (SortSt.mk' κ j k r none)) :
   wpS M A E s (mergeAt' i) Q (SortSt.mk' κ n d g none):=by
 obtain⟨pre,a,b,post,t,I⟩:∃pre a b post,d.toList=pre++a::b::post/\pre.length=i:=by
   refine⟨d.toList.take i,d.toList[i]'(by simp;omega),d.toList[i+1]'(by simp;omega),d.toList.drop (i+2),?_,by simp;omega⟩;rw[<-ZK,<-ZK,Za]
 have u:=G;rw[t] at u;obtain⟨l,J,K,Y,L,f⟩:=Rn.split pre u;obtain⟨sa,Z,pa⟩:=a;obtain⟨sb,nb,pb⟩:=b
 match J,f with
 | [],f=>exact f.elim
 | [_],f=>exact f.2.2.2.2.elim
 | Aa::Bb::lr,f =>
   obtain⟨w,N,x,O,y,P,R,S,B⟩:=f;rw[Nat.zero_add] at w y B;subst w N y P K;have p:n.toList=l.flatten++(Aa++(Bb++(lr.flatten++rest))):=by rw[H];simp
   refine wp_mergeAt (pre:=pre) (post:=post) (c.perm (T':=l.flatten++(Aa++(Bb++(lr.flatten++rest)))) (p▸v)) p t I.symm x R O S λj k r C D F m U=>?_
   refine h j k r (l++C::lr) ?_ ?_ ?_ ?_ ?_
   . rw[F]
     refine .trans ?_ (p▸v);refine List.Perm.append_left _ ?_;rw[<-QR Aa];exact List.Perm.append_right _ m
   . rw[D]
     refine Rn.join L ⟨by simp,by rw[m.length_eq];simp,λz=>?_,U,?_⟩
     . have:=m.length_eq
       rw[z] at this;have z3:=List.length_pos_iff.mpr x;simp at this;omega
     . have e:0+l.flatten.length+C.length=l.flatten.length+Aa.length+Bb.length:=by rw[m.length_eq];simp;omega
       rw[e];exact B
   . rw[F];simp
   . have V:=congrArg List.length D
     have W:=congrArg List.length t;simp at V W;omega
   . have:=m.length_eq
     simp at this ⊢;omega
theorem Rn.power {f:Nat}{c:Nat}:∀ {b:List (Nat×Nat×Nat)} {a:List (List Keyed)} (k:Nat),Rn lt f b a->Rn lt f (b.modify k λx=>(x.1,x.2.1,c)) a
 | [],a,k,h=>by cases k<;>exact h
 | _::_,[],k,h=>h.elim
 | (s,n,w)::b,l::a,0,h=>h
 | (s,n,w)::b,l::a,k+1,h=>⟨h.1,h.2.1,h.2.2.1,h.2.2.2.1,Rn.power (f:=f+l.length) k h.2.2.2.2⟩
theorem below_take {lo:Nat}{ar a:Array Keyed}(h:zP0 lo ar a)(b:a.size=ar.size):a.toList.take lo=ar.toList.take lo:=by
 apply List.ext_getElem?;intro i;rcases QP i lo with z | z
 . rw[List.getElem?_take_of_lt z,List.getElem?_take_of_lt z,QU,QU]
   exact h i z
 . rw[QT (by simp;omega),QT (by simp;omega)]
theorem up_pairwise {ar:Array Keyed}{lo n:Nat}(c:Up lt ar lo n)(g:lo+n<=ar.size):((ar.toList.drop lo).take n).Pairwise (LtR lt):=by
 refine Zm.mpr λi j d e a=>?_
 have f:i<n:=by simp at d;omega
 have b:j<n:=by simp at e;omega
 have:=c i j a b;rw[<-zw8 '!',<-zw8 '!'] at this;show lt _ _=true;simpa using this
section
variable (κ:SortKind) (lt:Keyed->Keyed->Bool) (ar:Array Keyed)
inductive RnA (n:Nat):Option Unit×Nat->SortSt->Prop
 | mk (br:Array Keyed)(pd:Array (Nat×Nat×Nat))(g lo:Nat)(ls:List (List Keyed))(rest:List Keyed)(hT:br.toList.Perm ar.toList)(hR:Rn lt 0 pd.toList ls)(hL:br.toList=ls.flatten++rest)(hlo:ls.flatten.length=lo)(hx:n<=lo):RnA n (none,lo) (SortSt.mk' κ br pd g none)
inductive RnQ:Option Unit×Nat->SortSt->Prop
 | mk (br:Array Keyed)(pd:Array (Nat×Nat×Nat))(g:Nat)(ls:List (List Keyed))(n:Nat)(hT:br.toList.Perm ar.toList)(hR:Rn lt 0 pd.toList ls)(hL:br.toList=ls.flatten):RnQ (none,n) (SortSt.mk' κ br pd g none)
inductive RnM (tl:List Keyed)(lo:Nat):Option Unit×Unit->SortSt->Prop
 | mk (br:Array Keyed)(pd:Array (Nat×Nat×Nat))(g:Nat)(ls:List (List Keyed))(hT:br.toList.Perm ar.toList)(hR:Rn lt 0 pd.toList ls)(hL:br.toList=ls.flatten++tl)(h:ls.flatten.length=lo):RnM tl lo (none,()) (SortSt.mk' κ br pd g none)
inductive RnE (p:Nat->Prop):Option Unit×Unit->SortSt->Prop
 | mk (br:Array Keyed)(pd:Array (Nat×Nat×Nat))(g:Nat)(ls:List (List Keyed))(hT:br.toList.Perm ar.toList)(hR:Rn lt 0 pd.toList ls)(hL:br.toList=ls.flatten++[])(h:p pd.size):RnE p (none,()) (SortSt.mk' κ br pd g none)
inductive RnS (ls:List (List Keyed))(br:Array Keyed)(n:Nat):Prop
 | mk (run rest':List Keyed)(hT:br.toList.Perm ar.toList)(g1:run.length=n)(g2:run≠[])(g3:run.Pairwise (LtR lt))(g4:br.toList=ls.flatten++(run++rest'))
end
theorem wp_sortRuns {ar:Array Keyed}{Q:Unit->SortSt->Prop}(c:Cmp M A s κ lt ar.toList)
   (h:∀i t g,i.toList.Perm ar.toList->i.toList.Pairwise (LtR lt)->Q () (SortSt.mk' κ i t g none)):wpS M A E s sortRuns' Q (SortSt.mk' κ ar #[] 7 none):=by
 rw[sortRuns'_eq];refine Qm (wpS_get ?_)
 try dsimp only
 have e0:(arrOf (SortSt.mk' κ ar #[] 7 none)).size=ar.size:=rfl;simp only[e0];generalize minRun' ar.size ar.size 0=mr
 refine Qm (ZL (wpS_forRange
   (RnA κ lt ar) (Q:=RnQ κ lt ar) ?step ?fin (.mk ar #[] 7 0 [] ar.toList (.refl _) trivial rfl rfl (Qi _))) ?post)
 case fin =>
   rintro _ _ ⟨i,t,g,d,u,I,p,y,q,F,hx⟩;refine .mk i t g u _ p y ?_;have z1:=p.length_eq;have K:=congrArg List.length q;rw[Qr] at K;simp only[Qu] at z1 K;have:I.length=0:=by omega
   rw[QA this,Zi] at q;exact q
 case step =>
   rintro x _ _ _ hx ⟨i,t,g,d,u,I,p,y,q,F,a9⟩;have hs:i.size=ar.size:=by simpa using p.length_eq
   have hl:i.size=d+I.length:=by
     have:=congrArg List.length q;rw[Qr,F] at this;simpa using this
   refine zf2 (λG=>?_) λG=>?_
   . refine Qt (RnQ.mk i t g u _ p y ?_)
     have aa:d≥ar.size:=G;have:I.length=0:=by omega
     rw[QA this,Zi] at q;exact q
   replace G:¬ d≥ar.size:=G;refine Qm (wp_count c p '!' '!' λm O J P a3 a7 T=>?_);dsimp only;have a4:O.size=i.size:=by have:=J.length_eq.trans p.length_eq.symm;simpa using this
   have N:∀(n:Nat) (j:Array Keyed),j.toList.Perm ar.toList->zP0 d i j->j.size=i.size->1<=n->d+n<=ar.size->Up lt j d n->RnS lt ar u j n:=λn j B U V ab ac W=>by
     refine .mk ((j.toList.drop d).take n) ((j.toList.drop d).drop n) B (by simp;omega) (λz=>?_) (up_pairwise W '!') ?_
     . have:=congrArg List.length z
       simp at this;omega
     . rw[Za]
       have a8:=below_take U V;have e':i.toList.take d=u.flatten:=by rw[q,<-F,ZD (Qi _),QO]
       rw[<-e',<-a8,Za]
   refine zO6 (R:=?R) (S:=RnS lt ar u) (λfin1=>?main) ?fin1
   case main =>
     refine zf2 (λh2=>?_) λh2=>?_
     . refine Qm (wpS_lift (wpAny_rule ⟨rfl,?_⟩))
       refine Qm (wp_bin c J '!' '!' T λj B U W=>?_);have V:j.size=i.size:=by have:=B.length_eq.trans p.length_eq.symm;simpa using this
       have a5:=N (min (ar.size-d) mr) j B (λa6 hi=>(U a6 hi).trans (P a6 hi)) V '!' '!' W;rw[Qg '&'];generalize min (ar.size-d) mr=n at a5 ⊢;exact fin1 j n a5
     . exact fin1 O m (N m O J P a4 a3 '!' T)
   case fin1 =>
     clear N a4 P T J a3 a7 G hl hs p q;rintro j n ⟨w,H,B,rfl,g2,v,g4⟩;refine Qm (wpS_get ?_)
     try dsimp only
     have a2:∀(b:Array Keyed) (a:Array (Nat×Nat×Nat)) (v:Nat) (f:List (List Keyed)),b.toList.Perm ar.toList->Rn lt 0 a.toList f->b.toList=f.flatten++(w++H)->f.flatten.length=d →
         RnA κ lt ar (x+1) (none,d+w.length) (SortSt.mk' κ b (a.push (d,w.length,0)) v none):=λb a C f l e o r=>by
       refine .mk b _ C _ (f++[w]) H l ?_ (by rw[o];simp) (by simp[<-r]) ?_
       . rw[Array.toList_push]
         refine Rn.join e ⟨by rw[r];omega,rfl,g2,v,trivial⟩
       . have:0<w.length:=List.length_pos_iff.mpr g2
         omega
     cases eb:t.back? with
     | none =>
       refine Qm (wpS_modify (Qt ?_));exact a2 j t g u B y g4 F
     | some last =>
       obtain⟨s1,n1,L⟩:=last;dsimp only;generalize power' ar.size (2*s1+n1) (2*s1+n1+n1+w.length) ar.size=pw
       refine Qm (ZL (wpS_forRange
         (λ_=>RnM κ lt ar (w++H) d) (Q:=RnM κ lt ar (w++H) d) ?stepM (λ_ _ z=>z) (.mk j t g u B y g4 F)) ?postM)
       case stepM =>
         rintro a1 _ _ _ hy ⟨b,a,C,f,l,e,o,r⟩;refine Qm (wpS_get ?_)
         try dsimp only
         by_cases D:a.size>1
         . rw[Ql D,Zh a (a.size-2) '!']
           refine zf2 (λh4=>?_) λh4=>?_
           . exact Qt (RnM.mk b a C f l e o r)
           . refine Qm (zU7 c l e o (show a.size-2+1<a.size by omega) λX Y Z a0 L w2 w3 w4 w5=>?_)
             rw[Qg '&'];exact Qt (RnM.mk X Y Z a0 L w2 w3 (w5.trans r))
         . rw[Qg D]
           exact Qt (RnM.mk b a C f l e o r)
       case postM =>
         rintro _ _ ⟨b,a,C,f,l,e,o,r⟩;refine Qm (wpS_modify (Qm (wpS_modify (Qt ?_))));exact a2 b (a.modify (a.size-1) λx=>(x.1,x.2.1,pw)) C f l (by rw[Array.toList_modify];exact e.power _) o r
 case post =>
   rintro _ _ ⟨i,t,g,u,n,p,y,q⟩;dsimp only;have hz:t.size<=ar.size:=by
     have z1:=y.len;have K:=congrArg List.length q;have z3:=p.length_eq;simp only[Qu] at z1 K z3;omega
   refine Qm (ZL (wpS_forRange
     (λa1=>RnE κ lt ar λk=>k<=1\/k+a1<=ar.size) (Q:=RnE κ lt ar λk=>k<=1) ?stepE ?finE (.mk i t g u p y (by simpa using q) (.inr '!'))) ?postE)
   case finE =>
     rintro _ _ ⟨b,a,v,f,l,e,o,r⟩;exact .mk b a v f l e o '!'
   case stepE =>
     rintro a1 _ _ _ hy ⟨b,a,v,f,l,e,o,r⟩;refine Qm (wpS_get ?_)
     try dsimp only
     refine zf2 (λD=>?_) λD=>?_
     . exact Qt (RnE.mk b a v f l e o D)
     have e1:(pendingOf (SortSt.mk' κ b a v none)).size=a.size:=rfl;simp only[e1] at D ⊢;generalize(Option.any _ _:Bool)=tt
     refine Qm (zU7 c l e o (by split<;>omega) λX Y Z a0 L w2 w3 w4 w5=>?_);rw[Qg '&'];exact Qt (RnE.mk X Y Z a0 L w2 w3 '!')
   case postE =>
     rintro _ _ ⟨b,a,v,f,l,e,o,r⟩;refine Qt (h b a v l ?_);rw[o];have z:=e.len.1
     match a,f,e with
     | ⟨[]⟩,[],_=>simp
     | ⟨[(_,_,_)]⟩,[ad],e=>simpa using e.2.2.2.1
     | ⟨_::_::_⟩,_,_=>simp at r
     | ⟨[_]⟩,_::_::_,_=>simp at z
end
end Sx
namespace Sx
open PySem PySem.W PySem.Calls PyProof.Rows
def RawD (h:Heap)(d:Addr)(es:Array DictEntry)(ep:Nat):Prop:=∃o,h.get? d=some o/\o.ExactDict/\o.data = .dict es ep
section
variable {prog:Program} {w:World} {A:Around} {E:VP} {s:Shared} {d it:Addr} {es:Array DictEntry} {ep i:Nat}
theorem RawD.typeIs (x:RawD s.heap d es ep):s.TypeIs (.ref d) "dict":=by
 obtain⟨o,a,b,_⟩:=x;exact⟨o,a,b.1⟩
theorem RawD.lt {h:Heap}(x:RawD h d es ep):d<h.objs.size:=let⟨_,a,_⟩:=x;Qo a
theorem RawD.at_ {h h':Heap}(x:RawD h d es ep)(e:∀o,h.get? d=some o->h'.get? d=some o):RawD h' d es ep:=let⟨o,a,r⟩:=x;⟨o,e o a,r⟩
theorem raw_iter {Q:VP}(f:(d == sysModules)=false)(c:RawD s.heap d es ep)
   (g:Q (.ref s.heap.objs.size) { s with heap:=s.heap.push { cls:=.type "dict_keyiterator",data:=.fields #[.ref d,.int 0 0,.int es.size 0,.int ep 0] } }):wpAny '*' A (pyIter (.ref d)) Q E s:=by
 obtain⟨o,e,h,b⟩:=id c;have a:=c.typeIs;refine wpAny_pyIter_slot a F.slot_dict_iter (wpAny_call_entry F.slot_dict_iter a F.entry_dict_iter ?_ (F.args_dict_iter_1 _));unfold Builtin.«dict.__iter__»;refine Qa ?_;unfold Builtin.Dict.dictSlotNone;refine Qa (wpAny_notOrdered_dict a (Qd ?_));show wpAny _ _ (Builtin.Dict.showsAll d >>= _) _ _ s;unfold Builtin.Dict.showsAll;rw[Qg (by rw[f];exact Qp)];refine Qa (Qd (Qa (wpAny_dictEntries e b (Qa (wpAny_dictEpoch e b ?_)))));exact Qa (wpAny_newObj_type (Qd ⟨_,rfl,"dict_keyiterator",_,⟨_,Qj _ rfl,rfl⟩,F.slot_dict_keyiterator_next.lookup,g⟩))
theorem raw_next {Q:Option Value->Shared->Prop}(g:s.heap.IsKeyIter it d i es.size ep)(k:RawD s.heap d es ep)(l:i<es.size)
   (m:∀c,c.IsKeyIter it d (i+1) es.size ep->Heap.SameBut it s.heap c->Q (some es[i].key) { s with heap:=c }):wpAny '*' A (pyNext (.ref it)) Q E s:=by
 obtain⟨o,e,n,b⟩:=id g;obtain⟨q,h,p,j⟩:=id k;have a:=g.typeIs;unfold pyNext
 refine Qa (wpAny_attempt (wpAny_callSpecial?_slot (name:=Str.ofString "__next__") a F.slot_dict_keyiterator_next
   (wpAny_call_entry F.slot_dict_keyiterator_next a F.entry_dict_keyiterator_next ?_ (F.args_dict_keyiterator_next_1 _))))
 refine Qa (Qd (Qa (Qa ?_)))
 first | refine Qa (wpAny_typeNameOfWhole_keyiter a (Qd ?_)) | refine Qa (wpAny_typeNameOf_keyiter a (Qd ?_))
 refine Qa (wpAny_fieldsOf e b ?_);simp only[show Builtin.Dict_items.ownsTuple "dict_keyiterator" = false by decide,Zf,if_false];show wpAny _ _ (if (Value.ref d == Value.none)=true then _ else _) _ _ s;rw[Qg (show ¬ ((Value.ref d == Value.none)=true) from Qp)];refine Qa (Qd (Qa (wpAny_dictEntries h j ?_)));rw[Qg (by simp)];refine Qa (Qd (Qa (wpAny_dictEpoch h j ?_)));rw[Qg (by simp)];refine Qd ?_;simp only[show ¬ ((i:Int)<0) from by omega,if_false,ZE,Array.getElem?_eq_getElem l];refine Qa ?_
 first | refine Qa (wpAny_typeNameOfWhole_keyiter a (Qd ?_)) | refine Qa (wpAny_typeNameOf_keyiter a (Qd ?_))
 refine Qa (wpAny_isOneOf_keyiter a ?_);show wpAny _ _ (setField (.ref it) 1 (rawInt ((i:Int)+1)) >>= _) _ _ s;refine Qa (wpAny_setField e b (by simp) ?_);have f:(s.heap.update it (Obj.mapFields (·.setIfInBounds 1 (rawInt ((i:Int)+1))))).IsKeyIter it d (i+1) es.size ep :=
   ⟨_,Zq _ e (Obj.isFreed_of_fields (Obj.data_mapFields b _)),(Obj.cls_mapFields ..).trans n,by rw[Obj.data_mapFields b];simp[rawInt]⟩
 refine Qa (wpAny_holding (Qa (wpAny_isOneOf_keyiter (s:={ s with heap:=s.heap.update it (Obj.mapFields (·.setIfInBounds 1 (rawInt ((i:Int)+1)))) }) f.typeIs ?_)));show wpAny _ _ (pure es[i].key) _ _ _;exact Qd (Qd ⟨_,rfl,Qd (m _ f (Heap.SameBut.update ..))⟩)
theorem raw_end {Q:Option Value->Shared->Prop}(k:A.handled=none)(e:s.heap.IsKeyIter it d es.size es.size ep)(l:RawD s.heap d es ep)
   (n:∀h,Heap.ExtBut it s.heap h->Q none { s with heap:=h }):wpAny '*' A (pyNext (.ref it)) Q E s:=by
 obtain⟨o,i,q,j⟩:=id e;obtain⟨r,f,p,g⟩:=id l;have c:=e.typeIs;unfold pyNext
 refine Qa (wpAny_attempt (wpAny_callSpecial?_slot (name:=Str.ofString "__next__") c F.slot_dict_keyiterator_next
   (wpAny_call_entry F.slot_dict_keyiterator_next c F.entry_dict_keyiterator_next ?_ (F.args_dict_keyiterator_next_1 _))))
 refine Qa (Qd (Qa (Qa ?_)))
 first | refine Qa (wpAny_typeNameOfWhole_keyiter c (Qd ?_)) | refine Qa (wpAny_typeNameOf_keyiter c (Qd ?_))
 refine Qa (wpAny_fieldsOf i j ?_);simp only[show Builtin.Dict_items.ownsTuple "dict_keyiterator" = false by decide,Zf,if_false];show wpAny _ _ (if (Value.ref d == Value.none)=true then _ else _) _ _ s;rw[Qg (show ¬ ((Value.ref d == Value.none)=true) from Qp)];refine Qa (Qd (Qa (wpAny_dictEntries f g ?_)));rw[Qg (by simp)];refine Qa (Qd (Qa (wpAny_dictEpoch f g ?_)));rw[Qg (by simp)];refine Qd ?_;simp only[show ¬ ((es.size:Int)<0) from by omega,if_false,ZE,Array.getElem?_eq_none (Qi es.size)];refine Qa ?_
 first | refine Qa (wpAny_typeNameOfWhole_keyiter c (Qd ?_)) | refine Qa (wpAny_typeNameOf_keyiter c (Qd ?_))
 show wpAny _ _ (setField (.ref it) 0 .none >>= _) _ _ s;refine Qa (wpAny_setField i j (by simp) ?_);show wpAny _ _ (newExc (.type "StopIteration") [] >>= _) _ _ _;refine Qa ?_;simp only[newExc,newTuple];refine Qa (wpAny_newObj_type ?_ (by size_fits));refine Qa (m:=firstArgMember _ _) (wpAny_of_eq (a:=Value.none) (by first | rfl | (simp only[firstArgMember];rfl)) ?_);refine wpAny_newObj_type ?_ (by size_fits);simp only[raiseNew];refine Qa (wpAny_handled ?_);rw[show A.in1.handled=none from k];refine Qa (Qd (wpAny_throw ?_));refine Qa (wpAny_isInstance (T:="StopIteration") (b:=true) ⟨_,Qj _ rfl,rfl⟩ isSubtype_stop ?_);exact Qd (n _ (((Heap.SameBut.update ..).extBut.push _).push _))
theorem raw_walks (q:A.handled=none)(I d:Addr)(n:d≠I)(es:Array DictEntry)(ep:Nat) :
   Walks prog w A I [I,d] [I] es.size (λi v=>∃h:i<es.size,v=es[i].key) (λi h=>h.IsKeyIter I d i es.size ep/\RawD h d es ep) where
 sub:=λb c=>by simp at c;simp[c]
 frame:=λ_ _ _ a k=>⟨let⟨o,t,r⟩:=a.1;⟨o,k I (by simp) o t,r⟩,a.2.at_ λo e=>k d (by simp) o e⟩
 item:=λi s Q E l a f=>raw_next a.1 a.2 l λg m j=>f _ g s.toks ⟨l,rfl⟩ ⟨m,a.2.at_ λo e=>j.extBut d o n e⟩ λb o c e=>j.extBut b o (λh=>c (by simp[h])) e
 done:=λs Q E a f=>raw_end q a.1 a.2 λg p=>f g s.toks λb o c e=>p b o (λh=>c (by simp[h])) e
 self:=λ_ _ _ _ a f=>wpAny_pyIter_keyiter a.1 f
theorem raw_src (lo:(d == sysModules)=false):KdlSrc prog w "dict" d d es.size (λi v=>∃h:i<es.size,v=es[i].key) (λh=>RawD h d es ep) where
 type:=λ_ a=>a.typeIs
 there:=λ_ a=>⟨a.lt,a.lt⟩
 keep:=λ_ _ a c=>a.at_ λo e=>c d (.inl rfl) o e
 notList:=by decide
 notTuple:=by decide
 hint:=λ_ _ _ _ a b=>kdl_hint_dict a.typeIs b
 iter:=λ_ _ f a=>⟨_,_,(λ_ _ b=>raw_iter lo a b),raw_walks f _ d (Qz a.lt) es ep,⟨⟨_,Qj _ rfl,rfl,rfl⟩,a.at_ λo e=>Qc _ e⟩⟩
theorem raw_collect {R:')'->Shared->Prop}(lo:(d == sysModules)=false)(k:A.handled=none)(l:RawD s.heap d es ep)(m:es.size<=sizeLine)
   (h:∀(c:Heap) (g:Nat),(∀b o,s.heap.get? b=some o->c.get? b=some o)->R (es.toList.map (·.key)) { s with heap:=c,toks:=g }):wpAny '*' A (collect (.ref d)) R E s :=
 kdu_collect (raw_src (ep:=ep) (es:=es) lo) k l m λc g a n f=>by
   have e:a.toList=es.toList.map (·.key):=by
     apply List.ext_getElem?;intro j;rcases QP j es.size with z | z
     . have i:j<a.size:=by rw[f.1];exact z
       obtain⟨_,q⟩:=f.2 j a[j] (Zh a j i);rw[QU,Zh a j i,QK,QU,Zh es j z,q];rfl
     . rw[QT (by rw[Qu,f.1];exact z),QT (by simpa using z)]
   rw[e];exact h c g n
end
noncomputable def lexB:'#'->'#'->Bool
 | [],[]=>false
 | [],_::_=>true
 | _::_,[]=>false
 | a::l,b::m=>if a=b then lexB l m else decide (a<b)
theorem yj4:∀ {x y z:'#'},lexB x y=true->lexB y z=true->lexB x z=true
 | [],[],_,h,_=>nomatch h
 | [],_::_,[],_,h=>nomatch h
 | [],_::_,_::_,_,_=>rfl
 | _::_,[],_,h,_=>nomatch h
 | _::_,_::_,[],_,h=>nomatch h
 | a::x,b::y,c::z,h,h'=>by
   unfold lexB at h h' ⊢;by_cases e:a=b
   . subst e
     rw[Ql rfl] at h;by_cases d:a=c
     . subst d
       rw[Ql rfl] at h' ⊢;exact yj4 h h'
     . rw[Qg d] at h' ⊢
       exact h'
   . rw[Qg e] at h
     have f:a<b:=by simpa using h
     by_cases d:b=c
     . subst d
       rw[Qg e];exact h
     . rw[Qg d] at h'
       have g:b<c:=by simpa using h'
       rw[Qg '!'];simp;omega
theorem lexB_as:∀ {x y:'#'},lexB x y=true->lexB y x=false
 | [],[],h=>nomatch h
 | [],_::_,_=>rfl
 | _::_,[],h=>nomatch h
 | a::x,b::y,h=>by
   unfold lexB at h ⊢;by_cases e:a=b
   . subst e
     rw[Ql rfl] at h ⊢;exact lexB_as h
   . rw[Qg e] at h
     have c:a<b:=by simpa using h
     rw[Qg '!'];simp;omega
theorem yj5:∀ {x y:'#'},x≠y->lexB x y=true\/lexB y x=true
 | [],[],h=>absurd rfl h
 | [],_::_,_=>.inl rfl
 | _::_,[],_=>.inr rfl
 | a::x,b::y,h=>by
   unfold lexB;by_cases e:a=b
   . subst e
     rw[Ql rfl,Ql rfl];exact yj5 λz=>h (by rw[z])
   . rw[Qg e,Qg (Ne.symm e)]
     simp;omega
theorem L2P {c d:Type}{F G:c->d->Prop}{l:List c}{m:List d}(r:Paired F l m)(f:∀a b,F a b->G a b):Paired G l m:=by
 induction r with
 | nil=>exact .nil
 | cons x _ e=>exact .cons (f _ _ x) e
noncomputable def rowOf (h:Heap):Value->List Int
 | .ref a=>match h.get? a with
   | some o=>match o.data with
     | .seq xs _=>xs.toList.map numOf
     | _=>[]
   | none=>[]
 | _=>[]
def RowIs (h:Heap) (v:Value) (k:'#'):Prop:=∃a o xs n,v = .ref a/\h.get? a=some o/\o.cls = .type "tuple"/\o.data = .seq xs n/\IntsAre xs.toList k
theorem ints_nums {vs:')'}{ns:'#'}(h:IntsAre vs ns):vs.map numOf=ns:=by
 induction h with
 | nil=>rfl
 | cons _ _ _ a=>rw[QB,a];rfl
theorem RowIs.row {h:Heap}{v:Value}{k:'#'}(x:RowIs h v k):rowOf h v=k:=by
 obtain⟨a,o,e,n,rfl,b,f,c,d⟩:=x;unfold rowOf;dsimp only;rw[b];dsimp only;rw[c];exact ints_nums d
theorem RowIs.keep {h h':Heap} {v:Value} {k:'#'} (x:RowIs h v k) (d:∀b o,h.get? b=some o->o.cls = .type "tuple"->h'.get? b=some o):RowIs h' v k:=by
 obtain⟨a,o,e,n,rfl,f,c,g,i⟩:=x;exact⟨a,o,e,n,rfl,d a o f c,c,g,i⟩
section
variable {prog:Program} {w:World} {A:Around} {E:VP} {s:Shared}
theorem lex_int {b:Bool}{p q:Int}{t u:Tok}{i:Nat}{Q:Bool->Shared->Prop}(h:Q (decide (p<q)) s):wpAny '*' A (oneLt' (b && i == 0) (.int p t) (.int q u)) Q E s:=by
 cases (b && i == 0) with
 | true=>exact oneLt_int h
 | false=>exact kat_one _ _ (PyProof.Rows.lt_int h)
theorem yo8 {b:Bool}{Q:Bool->Shared->Prop}:∀(a c:')') (k l:'#') (i:Nat),IntsAre a k->IntsAre c l->Q (lexB k l) s->KatLex prog w A b (decide (k.length<l.length)) Q (a.zip c) i s
 | [],[],[],[],i,_,_,h=>by
   refine kat_nil ?_;exact h
 | [],y::c,[],m::l,i,_,_,h=>by
   refine kat_nil ?_;have e:decide (([]:'#').length<(m::l).length)=true:=by simp
   rw[e];exact h
 | x::a,[],m::k,[],i,_,_,h=>by
   refine kat_nil ?_;have e:decide ((m::k).length<([]:'#').length)=false:=by simp
   rw[e];exact h
 | x::a,y::c,m::k,n::l,i,hx,hy,h=>by
   obtain⟨t,rfl,d⟩:∃t,x = .int m t/\IntsAre a k:=by cases hx;exact⟨_,rfl,by assumption⟩
   obtain⟨u,rfl,f⟩:∃t,y = .int n t/\IntsAre c l:=by cases hy;exact⟨_,rfl,by assumption⟩
   show KatLex prog w A b _ Q ((Value.int m t,Value.int n u)::a.zip c) i s;refine kat_cons (wpAny_eqBool_int ?_);unfold lexB at h;by_cases e:m=n
   . subst e
     rw[Ql rfl] at h;rw[show(m == m)=true by simp];refine kat_yes ?_;have g:decide ((m::k).length<(m::l).length)=decide (k.length<l.length):=by simp
     rw[g];exact yo8 a c k l (i+1) d f h
   . rw[Qg e] at h
     rw[show(m == n)=false by simpa using e];exact kat_no (lex_int h)
 | [],_,_::_,_,_,h,_,_=>nomatch h
 | _::_,_,[],_,_,h,_,_=>nomatch h
 | _,[],_,_::_,_,_,h,_=>nomatch h
 | _,_::_,_,[],_,_,h,_=>nomatch h
theorem rows_lt {b:Bool}{x y:Value}{k l:'#'}{Q:Bool->Shared->Prop}(i:RowIs s.heap x k)(j:RowIs s.heap y l)(h:Q (lexB k l) s):wpAny '*' A (keyLt' (tuples' b) x y) Q E s:=by
 obtain⟨a,o,m,n,rfl,p,u,q,d⟩:=i;obtain⟨v,z,r,B,rfl,f,t,g,c⟩:=j;refine kat_lt p q f g ?_;have e:decide (m.size<r.size)=decide (k.length<l.length):=by
   rw[<-d.length,<-c.length,Qu,Qu]
 rw[e];exact yo8 _ _ _ _ 0 d c h
theorem zG3:∀(a:')'),a.zip a=a.map λv=>(v,v)
 | []=>rfl
 | v::a=>by rw[List.zip_cons_cons,zG3 a];rfl
theorem rows_map {h:Heap}{vs:')'}{a:List (List Int)}(r:Paired (RowIs h) vs a):vs.map (rowOf h)=a:=by
 induction r with
 | nil=>rfl
 | cons x _ b=>rw[QB,x.row,b]
theorem zG4 {h:Heap}{vs:')'}{b:List (List Int)}(r:Paired (RowIs h) vs b):∀v∈vs,∃k∈b,RowIs h v k:=by
 induction r with
 | nil=>intro v a;cases a
 | cons x _ c =>
   intro v a;rcases Qn.mp a with rfl | a
   . exact⟨_,.head _,x⟩
   . obtain⟨k,d,y⟩:=c v a
     exact⟨k,.tail _ d,y⟩
theorem rows_tups {h:Heap}{vs:')'}{d:List (List Int)}(r:Paired (RowIs h) vs d)(g:∀k∈d,k≠[]):∃fs,KatTups h vs fs/\fs.length=vs.length/\∀f∈fs,∃m t,f = .int m t:=by
 induction r with
 | nil=>exact⟨[],KatTups.nil,rfl,λf b=>by cases b⟩
 | @cons v k vs d x _ p =>
   obtain⟨fs,e,l,q⟩:=p λk s=>g k (.tail _ s)
   obtain⟨a,o,j,n,rfl,u,w,A,c⟩:=x;have z:=g k (.head _);obtain⟨m,t,B⟩:∃m t,j[0]?=some (.int m t):=by
     rw[<-QU];cases i:j.toList with
     | nil=>rw[i] at c;cases c;exact absurd rfl z
     | cons y C=>rw[i] at c;cases c;exact⟨_,_,rfl⟩
   refine⟨.int m t::fs,KatTups.cons u w A B e,by simp[l],λf b=>?_⟩;rcases Qn.mp b with rfl | b
   . exact⟨m,t,rfl⟩
   . exact q f b
theorem yc7 (vs:')'):(vs.map λv=>((v,v):Keyed)).map (·.2)=vs:=by
 rw[Zt];exact List.map_id vs
theorem sort_rows {a:Addr} {vs:')'} {B:List (List Int)} {n:Nat} {P:PySem.Fin->Shared->Prop} (r:s.heap.get? a=some (seqObj "list" vs.toArray n)) (S:vs.length<=sizeLine)
   (C:Paired (RowIs s.heap) vs B) (Z:2<=vs.length->∀k∈B,k≠[]) (U:B.Nodup)
   (h:∀G d c,(∀b o,b≠a->s.heap.get? b=some o->G.get? b=some o)->G.get? a=some (seqObj "list" (List.toArray d) c)->d.Perm vs->d.Pairwise (λx y=>lexB (rowOf s.heap x) (rowOf s.heap y)=true)->P (.done (.ret .none)) { s with heap:=G }) :
   wpAny '*' A (Builtin.«list.sort» ⟨[.ref a],[]⟩) P E s:=by
 have ha:a<s.heap.objs.size:=Qo r;rw[list_sort_plain];refine Qa (listItems_at r rfl ?_);refine Qa (listUpdate_at r rfl ?_ (by rw[Qk];exact S) (QH _));obtain⟨D,O⟩:∃D,(s.heap.update a (Obj.mapSeq λ_=>(#[]:Array Value))).get? a=some (seqObj "list" #[] D):=⟨_,get?_update_seq r λ_=>#[]⟩;have k1:∀b o,b≠a->s.heap.get? b=some o->(s.heap.update a (Obj.mapSeq λ_=>(#[]:Array Value))).get? b=some o:=λb o p e=>(ZA _ _ (Ne.symm p)).trans e
 refine Qa (seqEpoch_at O rfl ?_);refine Qa (wpAny_newTuple ?_ (by show vs.length<=_;exact S));refine Qa (wpAny_newList ?_ (QH _));refine wpAny_holding ?_;have u:(((s.heap.update a (Obj.mapSeq λ_=>(#[]:Array Value))).push (seqObj "tuple" vs.toArray 0)).push (seqObj "list" #[] 0)).get? a=some (seqObj "list" #[] D):=Qc _ (Qc _ O);have H:∀b o,b≠a->s.heap.get? b=some o->(((s.heap.update a (Obj.mapSeq λ_=>(#[]:Array Value))).push (seqObj "tuple" vs.toArray 0)).push (seqObj "list" #[] 0)).get? b=some o:=λb o p e =>
   Qc _ (Qc _ (k1 b o p e))
 show wpAny '*' A _ P E { s with heap:=((s.heap.update a (Obj.mapSeq λ_=>(#[]:Array Value))).push (seqObj "tuple" vs.toArray 0)).push (seqObj "list" #[] 0) };generalize((s.heap.update a (Obj.mapSeq λ_=>(#[]:Array Value))).push (seqObj "tuple" vs.toArray 0)).push (seqObj "list" #[] 0)=j at u H ⊢;have I:∀b o,s.heap.get? b=some o->o.cls = .type "tuple"->j.get? b=some o:=λb o e J=>H b o (λz=>by
   rw[z,r] at e;cases e;exact absurd (show Value.type "list" = Value.type "tuple" from J) (by simp)) e
 have N:∀(i:SortSt) (d:')'),(arrOf i).map (·.2)=d.toArray->failedOf i=none->d.Perm vs->d.Pairwise (λx y=>lexB (rowOf s.heap x) (rowOf s.heap y)=true) →
     wpAny '*' A (do
       let Y:=(arrOf i).map (·.2)
       let X:=(<-seqEpoch a) != D
       Builtin.List.listUpdate (.ref a) λ_=>Y
       if let some e:=failedOf i then rule "list.sort.comparison-raised";throw e
       if X then rule "list.sort.modified";raiseError "ValueError" "list modified during sort"
       ret .none) P E { s with heap:=j }:=λi d h1 f R h4=>by
   dsimp only;rw[h1];refine Qa (seqEpoch_at u rfl ?_);refine Qa (listUpdate_at u rfl ?_ (QH _) (by show d.toArray.size<=_;rw[Qk,R.length_eq];omega));rw[f];simp only[bne_self_eq_false,Zf,if_false];refine Qd ?_;obtain⟨c,J⟩:∃c,(j.update a (Obj.mapSeq λ_=>d.toArray)).get? a=some (seqObj "list" d.toArray c):=⟨_,get?_update_seq u λ_=>d.toArray⟩;exact h _ d c (λb o p e=>(ZA _ _ (Ne.symm p)).trans (H b o p e)) J R h4
 dsimp only;by_cases f:vs.toArray.size<2
 . rw[Ql f,Ql f]
   refine Qa (Qd ?_);rw[StateT.run_pure];refine Qa (Qd ?_);refine N _ vs ?_ rfl (.refl _) ?_
   . show(vs.toArray.zip vs.toArray).map (·.2)=vs.toArray
     apply Array.toList_inj.mp;rw[Array.toList_map,show(vs.toArray.zip vs.toArray).toList=vs.zip vs by simp,zG3,yc7]
   . rw[Qk] at f
     match vs,f with
     | [],_=>exact .nil
     | [_],_=>exact List.pairwise_singleton _ _
     | _::_::_,f=>exact absurd f (by simp)
 . rw[Qg f,Qg f]
   rw[Qk] at f;have a0:Paired (RowIs j) vs B:=L2P C λv k x=>x.keep I
   obtain⟨fs,f1,f2,f3⟩:=rows_tups a0 (Z '!');refine Qa (kat_kind (s:={ s with heap:=j }) (T:=.type "int") f1 '!' (λv hv=>by obtain⟨m,t,rfl⟩:=f3 v hv;exact Looks.now) '&' ?_);have c:Cmp '*' A { s with heap:=j } (tuples' (Value.type "int" != Value.type "tuple")) (λx y=>lexB (rowOf s.heap x.1) (rowOf s.heap y.1)) (vs.toArray.zip vs.toArray).toList:=by
     rw[show(vs.toArray.zip vs.toArray).toList=vs.zip vs by simp,zG3];refine⟨λx K y L=>?_,λx y z=>yj4,λx y=>lexB_as,?_⟩
     . obtain⟨x,a1,rfl⟩:=QQ.mp K
       obtain⟨y,a2,rfl⟩:=QQ.mp L;obtain⟨kx,_,V⟩:=zG4 C x a1;obtain⟨ky,_,W⟩:=zG4 C y a2;refine rows_lt (s:={ s with heap:=j }) (V.keep I) (W.keep I) ⟨rfl,?_⟩;rw[V.row,W.row]
     . rw[List.pairwise_map]
       have e:=rows_map C;rw[<-e] at U;have a3:vs.Pairwise λx y=>rowOf s.heap x≠rowOf s.heap y:=List.pairwise_map.mp U
       exact a3.imp λz=>yj5 z
   refine Qa (Zj (wp_sortRuns (E:=E) (Q:=λ_ i=>∃l F g,i=SortSt.mk' (tuples' (Value.type "int" != Value.type "tuple")) l F g none/\l.toList.Perm (vs.toArray.zip vs.toArray).toList/\l.toList.Pairwise (LtR λx y=>lexB (rowOf s.heap x.1) (rowOf s.heap y.1))) c λl F g q M=>⟨l,F,g,rfl,q,M⟩) ?_ λ_ _ e=>e);rintro⟨⟨⟩,i⟩ s' ⟨rfl,l,F,g,rfl,q,M⟩;rw[show(vs.toArray.zip vs.toArray).toList=vs.zip vs by simp,zG3] at q;refine N _ (l.toList.map (·.2)) ?_ rfl ?_ ?_
   . apply Array.toList_inj.mp
     simp
   . have:=q.map (·.2)
     rw[yc7] at this;exact this
   . rw[List.pairwise_map]
     refine M.imp_of_mem λ{x y} K L z=>?_
     obtain⟨v,_,rfl⟩:=QQ.mp (q.mem_iff.mp K);obtain⟨a4,_,rfl⟩:=QQ.mp (q.mem_iff.mp L);exact z
theorem sorted_rows {x:Value}{vs:')'}{i:List (List Int)}{Q:VP}(r:vs.length<=sizeLine)(j:Paired (RowIs s.heap) vs i)(D:2<=vs.length->∀k∈i,k≠[])(H:i.Nodup)
   (I:∀(R:')'->Shared->Prop) (E:VP),(∀(d:Heap) (f:Nat),(∀b o,s.heap.get? b=some o->d.get? b=some o)->R vs { s with heap:=d,toks:=f })->wpAny '*' A.in1 (collect x) R E s)
   (h:∀(a:Heap) (f:Nat),(∀b o,s.heap.get? b=some o->a.get? b=some o)->∀(d:Heap) (g:')') (c:Nat),(∀b o,a.get? b=some o->d.get? b=some o)->d.get? a.objs.size=some (seqObj "list" (List.toArray g) c)->g.Perm vs →
     g.Pairwise (λx y=>lexB (rowOf s.heap x) (rowOf s.heap y)=true)->Q (.ref a.objs.size) { s with heap:=d,toks:=f }) :
   wpAny '*' A (call (.builtin "sorted") [x]) Q E s:=by
 refine Calls.call_function_entry kind_sorted plain_sorted entry_sorted (args_sorted1 _) ?_;unfold Builtin.«sorted»;refine Qa (m:=checkCount "sorted" 1 1 _) (Qd ?_);refine Qa (I _ _ λa f t=>?_);refine Qa (wpAny_newList ?_ r);have l:∀b o,s.heap.get? b=some o->(a.push (seqObj "list" vs.toArray 0)).get? b=some o:=λb o e=>Qc _ (t b o e)
 have u:(a.push (seqObj "list" vs.toArray 0)).get? a.objs.size=some (seqObj "list" vs.toArray 0):=Qj _ rfl;show wpAny _ _ _ _ _ { s with heap:=a.push (seqObj "list" vs.toArray 0),toks:=f };have F:Paired (RowIs (a.push (seqObj "list" vs.toArray 0))) vs i:=L2P j λv k x=>x.keep λb o e _=>l b o e
 have J:∀x y,x∈vs->y∈vs->lexB (rowOf (a.push (seqObj "list" vs.toArray 0)) x) (rowOf (a.push (seqObj "list" vs.toArray 0)) y)=true->lexB (rowOf s.heap x) (rowOf s.heap y)=true:=λx y n p z=>by
   obtain⟨M,_,B⟩:=zG4 j x n;obtain⟨N,_,C⟩:=zG4 j y p;rw[(B.keep λb o e _=>l b o e).row,(C.keep λb o e _=>l b o e).row] at z;rw[B.row,C.row];exact z
 refine Qa (wpAny_holding (wpAny_call_entry slot_list_sort ⟨_,u,rfl⟩ entry_list_sort (sort_rows (s:={ s with heap:=a.push (seqObj "list" vs.toArray 0),toks:=f }) u r F D H λd g c K G q L=>⟨_,rfl,?_⟩) (args_list_sort _)));refine Qd ⟨_,rfl,h a f t d g c (λb o e=>K b o (Qz (Qo e)) (Qc _ e)) G q ?_⟩;exact L.imp_of_mem λ{x y} n p z=>J x y (q.mem_iff.mp n) (q.mem_iff.mp p) z
end
end Sx
namespace L2
open PySem PySem.Spec PyProof.Rows
section
variable {κ:Type} [DecidableEq κ]
noncomputable def valV (kvs:List (κ×V))(k:κ):Option V:=(kvs.find? λkv=>decide (kv.1=k)).map (·.2)
noncomputable def putK (kvs:List (κ×V))(k:κ)(v:V):List (κ×V) :=
 if (kvs.any λkv=>decide (kv.1=k))=true then kvs.map (λkv=>if kv.1=k then(kv.1,v) else kv) else kvs++[(k,v)]
theorem zG5 {p:κ×V}{r:List (κ×V)}{k:κ}(e:p.1=k):valV (p::r) k=some p.2:=by simp[valV,List.find?_cons,e]
theorem zz5 {p:κ×V}{r:List (κ×V)}{k:κ}(e:¬ p.1=k):valV (p::r) k=valV r k:=by simp[valV,List.find?_cons,e]
theorem zP1 (k:κ):∀a:List (κ×V),(a.any λb=>decide (b.1=k))=(valV a k).isSome
 | []=>rfl
 | p::r=>by
   rw[List.any_cons];by_cases e:p.1=k
   . simp only[zG5 e,Qh e,Bool.true_or,Option.isSome_some]
   . rw[zz5 e,Qe e,Bool.false_or];exact zP1 k r
theorem zK6 (a:List (κ×V))(k:κ)(v:V):(putK a k v).length<=a.length+1:=by
 unfold putK
 split
 . rw[Qb];omega
 . rw[Qr,QE,List.length_nil];omega
theorem putK_new {a:List (κ×V)}{k:κ}(v:V)(h:valV a k=none):putK a k v=a++[(k,v)]:=by
 unfold putK;rw[zP1,h];exact Qg '&'
theorem RelO.isSome_eq {o:Option V}{u:Option Value}(r:RelO o u):o.isSome=u.isSome:=by
 cases o with
 | none=>cases u with
   | none=>rfl
   | some _=>exact(show False from r).elim
 | some _=>cases u with
   | none=>exact(show False from r).elim
   | some _=>rfl
theorem KV.val {d:List (κ×V)}{vs:List (κ×Value)}(r:KV d vs)(k:κ):RelO (valV d k) (valueAt vs k):=by
 unfold KV at r
 induction r with
 | nil=>exact True.intro
 | @cons p q j a h t g =>
   obtain⟨f,i⟩:=h;by_cases e:p.1=k
   . have c:q.1=k:=f.symm.trans e
     have b:valueAt (q::a) k=some q.2:=by simp[valueAt,List.find?_cons,c]
     rw[zG5 e,b];exact i
   . have c:¬ q.1=k:=λz=>e (f.trans z)
     have b:valueAt (q::a) k=valueAt a k:=by simp[valueAt,List.find?_cons,c]
     rw[zz5 e,b];exact g
theorem KV.any {b:List (κ×V)}{vs:List (κ×Value)}(r:KV b vs)(k:κ):(b.any λa=>decide (a.1=k))=vs.any λa=>decide (a.1=k):=by
 unfold KV at r
 induction r with
 | nil=>rfl
 | cons h t c=>rw[List.any_cons,List.any_cons,c,h.1]
theorem KV.repl {c:List (κ×V)}{vs:List (κ×Value)}(r:KV c vs)(k:κ){y:V}{u:Value}(d:RelV y u) :
   KV (c.map λa=>if a.1=k then(a.1,y) else a) (vs.map λa=>if a.1=k then(a.1,u) else a):=by
 unfold KV at r ⊢
 induction r with
 | nil=>exact .nil
 | @cons p q i j h t f =>
   rw[QB,QB];refine .cons ?_ f;obtain⟨b,g⟩:=h;by_cases e:p.1=k
   . rw[Ql e,Ql (b.symm.trans e)];exact⟨b,d⟩
   . rw[Qg e,Qg (λz=>e (b.trans z))];exact⟨b,g⟩
theorem KV.put {a:List (κ×V)}{vs:List (κ×Value)}(r:KV a vs)(k:κ){y:V}{u:Value}(b:RelV y u):KV (putK a k y) (stored vs k u):=by
 unfold putK stored;rw[r.any k];by_cases e:(vs.any λc=>decide (c.1=k))=true
 . rw[Ql e,Ql e];exact r.repl k b
 . rw[Qg e,Qg e];exact Paired.snoc r ⟨rfl,b⟩
theorem KV.length {a:List (κ×V)}{vs:List (κ×Value)}(r:KV a vs):a.length=vs.length:=Paired.length r
end
theorem yj6 {P:Program}{w:World}{k:Key}{u:Value}(r:RelV (kV k) u):(zf3 P w).is k u=true:=by
 cases k with
 | inl i=>obtain⟨t,e⟩:=(show ∃t,u=Value.int i t from r);subst e;exact mixKind_int P w i t
 | inr x=>obtain⟨t,e⟩:=(show ∃t,u=Value.str x t from r);subst e;exact mixKind_str P w x t
theorem zU8 {P:Program}{w:World}:∀ {a:List Key} {b:')'},Vals (a.map kV) b->ItemsAre (zf3 P w) a b
 | [],_,r=>by rw[List.map_nil] at r;cases r;exact .nil
 | k::a,_,r=>by
   rw[QB] at r;cases r with
   | cons h t=>exact .cons (yj6 h) (zU8 t)
abbrev KT (H:Hp):List (List Key×V)->List (List Key×Addr×Value)->Prop:=Paired λp q=>p.1=q.1/\H q.2.1=some (.tup (p.1.map kV))/\RelV p.2 q.2.2
theorem KT.val {H:Hp}{d:List (List Key×V)}{xs:List (List Key×Addr×Value)}(r:KT H d xs)(k:List Key):RelO (valV d k) ((atKey xs k).map (·.2)):=by
 induction r with
 | nil=>exact True.intro
 | @cons p q j a h t g =>
   obtain⟨f,_,i⟩:=h;by_cases e:p.1=k
   . have c:q.1=k:=f.symm.trans e
     have b:atKey (q::a) k=some q.2:=by simp[atKey,List.find?_cons,c]
     rw[zG5 e,b];exact i
   . have c:¬ q.1=k:=λz=>e (f.trans z)
     have b:atKey (q::a) k=atKey a k:=by simp[atKey,List.find?_cons,c]
     rw[zz5 e,b];exact g
theorem KT.repl {H:Hp}{c:List (List Key×V)}{xs:List (List Key×Addr×Value)}(r:KT H c xs)(k:List Key){y:V}{u:Value}(f:RelV y u) :
   KT H (c.map λb=>if b.1=k then(b.1,y) else b) (xs.map (putAt k u)):=by
 induction r with
 | nil=>exact .nil
 | @cons p q j l h t g =>
   rw[QB,QB];refine .cons ?_ g;obtain⟨a,d,i⟩:=h;unfold putAt;by_cases e:p.1=k
   . rw[Ql e,Ql (a.symm.trans e)];exact⟨a,d,f⟩
   . rw[Qg e,Qg (λz=>e (a.trans z))];exact⟨a,d,i⟩
theorem KT.put {H:Hp}{a:List (List Key×V)}{xs:List (List Key×Addr×Value)}(r:KT H a xs)(k:List Key){b:Addr}{y:V}{u:Value}(d:H b=some (.tup (k.map kV)))(c:RelV y u) :
   KT H (putK a k y) (storedH xs k b u):=by
 have e:(a.any λf=>decide (f.1=k))=(atKey xs k).isSome:=by
   rw[zP1,(r.val k).isSome_eq,Option.isSome_map]
 unfold putK storedH;rw[e];by_cases q:(atKey xs k).isSome=true
 . rw[Ql q,Ql q];exact r.repl k c
 . rw[Qg q,Qg q];exact Paired.snoc r ⟨rfl,d,c⟩
theorem KT.keeps {H H':Hp}{a:List (List Key×V)}{xs:List (List Key×Addr×Value)}(r:KT H a xs)(d:∀b c,H b=some (.tup c)->H' b=some (.tup c)):KT H' a xs :=
 Paired.mapP r λ_ _ z=>⟨z.1,d _ _ z.2.1,z.2.2⟩
section
variable {P:Program} {w:World} {H:Hp} {h:Heap} {a:Addr}
theorem ys0 {u:HO}(ok:HOk P w H h)(e:Rd H a u):ze6 P w H h a u:=e.ok ok
theorem yj7 {b:List (Key×V)}(ok:HOk P w H h)(e:Rd H a (.dK b)):b.length<=sizeLine/\(a == sysModules)=false/\∃c,KV b c/\h.DictOf (zf3 P w) a c :=
 show ze6 P w H h a (.dK b) from ys0 ok e
theorem dk_of {b:List (Key×V)}(ok:HOk P w H h)(e:H a=some (.dK b)):b.length<=sizeLine/\(a == sysModules)=false/\∃c,KV b c/\h.DictOf (zf3 P w) a c:=yj7 ok (.inl e)
theorem zI9 {b:List Key}(ok:HOk P w H h)(e:H a=some (.tup (b.map kV))):(tupleKind (zf3 P w)).is h b a:=by
 obtain⟨_,c,r,o,d,f,_,n,g⟩:=(show ze6 P w H h a (.tup (b.map kV)) from ok a _ e);exact⟨o,c.toArray,n,d,f,g,by simpa using zU8 r⟩
theorem yj8 {c:List (List Key×V)}(ok:HOk P w H h)(e:Rd H a (.dT c)):c.length<=sizeLine/\(a == sysModules)=false ∧
   ∃d,KT H c d/\h.DictOfH (tupleKind (zf3 P w)) a d:=by
 obtain⟨z,y,d,r,o,g,i,j,k,n,s,u⟩:=(show ze6 P w H h a (.dT c) from ys0 ok e);refine⟨z,y,d,r,o,g,i,j,k,n,s,λx b=>?_,u⟩;have all:∀ {l:List (List Key×V)} {m:List (List Key×Addr×Value)},KT H l m->∀x∈m,(tupleKind (zf3 P w)).is h x.1 x.2.1:=by
   intro l m q
   induction q with
   | nil=>intro x b;exact nomatch b
   | @cons p q A B f t v =>
     intro x b;rcases Qn.mp b with e | b
     . subst e
       exact zI9 ok (by rw[<-f.1];exact f.2.1)
     . exact v x b
 exact all r x b
theorem ys1 {b:List (List Key×V)}(ok:HOk P w H h)(e:H a=some (.dT b)):b.length<=sizeLine/\(a == sysModules)=false ∧
 ∃c,KT H b c/\h.DictOfH (tupleKind (zf3 P w)) a c:=yj8 ok (.inl e)
end
def DGet (H:Hp)(a:Addr)(y:V)(r:Option V):Prop :=
 (∃kvs k,Rd H a (.dK kvs)/\y=kV k/\r=valV kvs k)\/∃kvs k b,Rd H a (.dT kvs)/\y = .ref b/\H b=some (.tup (k.map kV))/\r=valV kvs k
def DPut (H:Hp)(a:Addr)(y v:V)(H':Hp):Prop :=
 (∃kvs k,H a=some (.dK kvs)/\y=kV k/\kvs.length<sizeLine/\H'=upd H a (.dK (putK kvs k v))) ∨
 ∃kvs k b,H a=some (.dT kvs)/\y = .ref b/\H b=some (.tup (k.map kV))/\kvs.length<sizeLine/\H'=upd H a (.dT (putK kvs k v))
theorem DGet.t {H:Hp}{a b:Addr}{c:List (List Key×V)}{k:List Key}(e:H a=some (.dT c))(d:H b=some (.tup (k.map kV))):DGet H a (.ref b) (valV c k):=.inr ⟨c,k,b,.inl e,rfl,d,rfl⟩
theorem DPut.t {H:Hp}{a b:Addr}{c:List (List Key×V)}{k:List Key}{v:V}(e:H a=some (.dT c))(d:H b=some (.tup (k.map kV)))(f:c.length<sizeLine) :
 DPut H a (.ref b) v (upd H a (.dT (putK c k v))):=.inr ⟨c,k,b,e,rfl,d,f,rfl⟩
section
variable {X:Cx} {pins:PL} {σ:St} {H:Hp} {s:Shared} {a:Addr} {y v:V} {u r:Value} {o:Option V} {A:Around} {E:VP}
theorem Inv.big (I:'%'):sysModules<s.heap.objs.size:=by
 have h:mainGlobals<s.heap.objs.size:=(I.mod.glob.keeps I.bk).lt;exact Nat.lt_trans '&' h
theorem d_getItem {Q:VP}(w:A.units+1<cLine)(I:'%')(g:DGet H a y (some v))(n:RelV y u)(h:∀c q,Inv X pins σ H q->RelV v c->Q c q) :
   wpAny (model X.prog X.w) A (getItem (.ref a) u) Q E s:=by
 rcases g with⟨r,k,e,i,l⟩ | ⟨r,k,b,e,i,x,l⟩
 . subst i
   obtain⟨z,B,C,d,j⟩:=yj7 I.hok e;obtain⟨c,m,f⟩:=RelO.some_of (v:=v) (o:=valueAt C k) (by rw[l];exact d.val k);exact wpAny_getItem_of (yj6 n) j.mapOf m (h c _ (I.tok _) f)
 . subst i
   cases (show u=Value.ref b from n);obtain⟨z,B,D,d,j⟩:=yj8 I.hok e;obtain⟨c,m,f⟩:=RelO.some_of (v:=v) (o:=(atKey D k).map (·.2)) (by rw[l];exact d.val k);obtain⟨p,F,t⟩:=Option.map_eq_some_iff.mp m;refine wpAny_getItem_heap (tupleKind_room_in1 w) (zI9 I.hok x) j F ?_;rw[t];exact h c _ (I.tok _) f
theorem d_notIn {Q:VP}(p:A.units+1<cLine)(I:'%')(g:DGet H a y o)(j:RelV y u)(h:∀m,Inv X pins σ H m->Q (.bool (!o.isSome)) m) :
   wpAny (model X.prog X.w) A (compareOp .NotIn u (.ref a)) Q E s:=by
 rcases g with⟨n,k,e,d,l⟩ | ⟨n,k,b,e,d,r,l⟩
 . subst d
   obtain⟨z,f,t,c,i⟩:=yj7 I.hok e;refine wpAny_notIn_of (yj6 j) f i.mapOf ?_;rw[<-(c.val k).isSome_eq,<-l];exact h _ (I.tok _)
 . subst d
   cases (show u=Value.ref b from j);obtain⟨z,f,v,c,i⟩:=yj8 I.hok e;refine wpAny_notIn_heap (tupleKind_room_in1 p) (zI9 I.hok r) f i ?_;have q:=(c.val k).isSome_eq;rw[Option.isSome_map] at q;rw[<-q,<-l];exact h _ (I.tok _)
theorem zZ3 {h':Heap}{t':Nat}{c:HO}(I:'%')(d:Mut (H a))(f:Heap.SameBut a s.heap h')(g:∃q,h'.get? a=some q)(new:ze6 X.prog X.w (upd H a c) h' a c) :
   Inv X pins σ (upd H a c) { s with heap:=h',toks:=t' } :=
 I.write (x:=a) (e:=a) d (.inl rfl) (λb q h z=>(f.2 b h).trans z) g new
theorem dk_new {P:Program}{w:World}{H':Hp}{h':Heap}{b:List (Key×V)}{vs:List (Key×Value)}(z:b.length<=sizeLine)(d:(a == sysModules)=false)(c:KV b vs)(dd:h'.DictOf (zf3 P w) a vs) :
 ze6 P w H' h' a (.dK b):=⟨z,d,vs,c,dd⟩
theorem d_setItem {H':Hp}{Q:Unit->Shared->Prop}(K:A.units+1<cLine)(I:'%')(g:DPut H a y v H')(B:RelV y u)(C:RelV v r)(h:∀D,Inv X pins σ H' D->Q () D) :
   wpAny (model X.prog X.w) A (setItem (.ref a) u r) Q E s:=by
 rcases g with⟨d,k,e,m,l,n⟩ | ⟨d,k,b,e,m,F,l,n⟩
 . subst m n
   obtain⟨z,o,L,f,p⟩:=dk_of I.hok e;have t:L.length<=sizeLine:=by rw[<-f.length];exact z
   have w:(putK d k v).length<=sizeLine:=by have:=zK6 d k v;omega
   refine wpAny_setItem_pairs (hsz:=t) (yj6 B) p λG i x=>h _ ?_
   have M:∃q,G.get? a=some q:=let⟨q,_,_,j,_⟩:=i;⟨q,j⟩;exact zZ3 I (by rw[e];exact True.intro) x M (dk_new w o (f.put k C) i)
 . subst m n
   cases (show u=Value.ref b from B);obtain⟨z,o,N,f,p⟩:=ys1 I.hok e;have t:N.length<=sizeLine:=by rw[<-Paired.length f];exact z
   have w:(putK d k v).length<=sizeLine:=by have:=zK6 d k v;omega
   refine wpAny_setItem_heap (hsz:=t) (tupleKind_room_in1 K) (zI9 I.hok F) p λG i x=>h _ ?_
   obtain⟨q,O,P,j,R,S,T,_,U⟩:=i;refine zZ3 I (by rw[e];exact True.intro) x ⟨q,j⟩ ⟨w,o,_,(f.put k F C).keeps λc V J=>?_,q,O,P,j,R,S,T,U⟩;rw[za8 (zD0 J e (λz=>nomatch z))];exact J
end
def NoSl (i:Expr):Prop:=∀ov iv,subscripted i false ov iv=operate [ov,iv] (getItem ov iv)
theorem subD_of {prog:Program}{w:World}{A:Around}{E:VP}{s:Shared}{env:Env}{c a:Expr}{k:Pos}{T id:String}{Q:VP}
   (l:typeLookup (.type T) "__getitem__" = pure (some (.builtin id))) (m:NoSl a)
   (h:wpAny '*' A (eval c env) (λo f=>wpAny '*' A (eval a env) (λi b=>b.TypeIs o T/\wpAny '*' A (getItem o i) Q E b) E f) E s) :
   wpAny '*' A (eval (.Subscript c a k) env) Q E s:=by
 refine Subscript_ (Zj h (λo f n=>Zj n (λi b e=>?_) λ_ _ x=>x) λ_ _ x=>x);obtain⟨g,e⟩:=e;unfold subscriptTail;refine Qa ?_;rw[getitemInPython_of_ne g.not_modules];refine Qa (wpAny_specialOf g l ?_);have d:wpAny '*' A (subscripted a false o i) (λr j=>wpAny '*' A (letTemporaryGo c o r >>= λ_=>pure r) Q E j) E b:=by
   rw[m o i];exact wpAny_operating (Zj e (λr j p=>Qa (wpAny_letTemporaryGo (Qd p))) λ_ _ x=>x)
 first
   | exact Qd (Qa d)
   | exact Qa (Qd (Qa d))
   | exact Qa d
theorem dict_typeIs {X:Cx} {d:PL} {h:St} {H:Hp} {s:Shared} {a:Addr} {y:V} {o:Option V} (I:Inv X d h H s) (g:DGet H a y o):s.TypeIs (.ref a) "dict":=by
 rcases g with⟨f,k,e,_,_⟩ | ⟨f,k,b,e,_,_,_⟩
 . obtain⟨_,_,i,_,c⟩:=yj7 I.hok e
   exact c.typeIs
 . obtain⟨_,_,j,_,c⟩:=yj8 I.hok e
   exact c.typeIs
def tDGet (td ty:TE):TE:=λσ H Q=>td σ H λx H1=>ty σ H1 λy H2=>∃a v,x = .ref a/\DGet H2 a y (some v)/\Q v H2
def tDNotIn (ty td:TE):TE:=λσ H Q=>ty σ H λy H1=>td σ H1 λx H2=>∃a o,x = .ref a/\DGet H2 a y o/\Q (.bl (!o.isSome)) H2
def sDPut (td ty tv:TE):TS:=λD σ H=>tv σ H λv H1=>td σ H1 λx H2=>ty σ H2 λy H3=>∃a H4,x = .ref a/\DPut H3 a y v H4/\D.nx σ H4
section
variable {X:Cx} {o i e value:Expr} {pos pos' tpos:Pos} {td ty tv:TE}
theorem zZ4 (f:X.A.units+1<cLine)(j:PE X o td)(k:PE X i ty)(l:NoSl i):PE X (.Subscript o i pos) (tDGet td ty):=by
 intro b s d H Q I h;refine subD_of PySem.F.slot_dict_getitem.lookup l (thn (j b s d H _ I h) λu m ⟨x,n,p,q,r⟩=>thn (k b m d n _ p r) λC D ⟨y,t,c,w,a,v,z,g,A⟩=>?_);subst z;obtain rfl:u=Value.ref a:=q;exact⟨dict_typeIs c g,d_getItem f c g w λE F B e=>⟨v,t,B,e,A⟩⟩
theorem zJ0 (d:X.A.units+1<cLine)(e:PE X i ty)(f:PE X o td):PC X .NotIn i o (tDNotIn ty td):=by
 intro b s c H Q I h;refine thn (e b s c H _ I h) λA j ⟨y,k,l,m,n⟩=>thn (f b j c k _ l n) λu B ⟨x,p,q,r,a,t,v,g,w⟩=>?_
 subst v;obtain rfl:u=Value.ref a:=r;exact d_notIn d q g m λC z=>⟨.bl (!t.isSome),p,z,rfl,w⟩
theorem ps_dput (d:X.A.units+1<cLine)(e:PE X o td)(f:PE X i ty)(j:PE X value tv)(k:swapsWith value (some (.Subscript o i pos')) pos.line X.env=pure false) :
   PS X (.Assign [.Subscript o i pos'] value pos) (sDPut td ty tv):=by
 intro c s b H D I h;refine wpAny_Assign_Subscript (thn (j c s b H _ I h) λr l ⟨v,m,n,p,q⟩=>thn (e c l b m _ n q) λu t ⟨x,w,z,A,B⟩=>thn (f c t b w _ z B) λL M ⟨y,N,C,E,a,F,G,g,J⟩=>?_) k;subst G;obtain rfl:u=Value.ref a:=A;exact d_setItem d C g E p λO K=>⟨b,F,K,J⟩
end
theorem dt_empty {P:Program} {w:World} {H:Hp} (h:Heap) (a:sysModules<h.objs.size):ze6 P w H (h.push { cls:=.type "dict",data:=.dict #[] }) h.objs.size (.dT []) :=
 ⟨QH _,beq_eq_false_iff_ne.mpr (Ne.symm (Qz a)),[],.nil,_,#[],0,Qj _ rfl,⟨rfl,rfl,rfl⟩,rfl,rfl,List.nodup_nil⟩
noncomputable abbrev ik (k:'#'):List Key:=k.map Sum.inl
theorem zU9 (k:'#'):(ik k).map kV=k.map V.int:=by
 unfold ik;rw[Zt];rfl
def tDisp1 (tk tv:TE):TE:=λσ H Q=>∀p,H p=none->tk σ (upd H p (.dT [])) λx H1=>tv σ H1 λy H2=>H2 p=some (.dT [])/\∃b k,x = .ref b/\H2 b=some (.tup (k.map V.int))/\Q (.ref p) (upd H2 p (.dT [(ik k,y)]))
theorem pe_disp1 {X:Cx}{j:Pos}{d f:Expr}{l m:TE}(A:X.A.units+1<cLine)(B:PE X d l)(C:PE X f m):PE X (.Dict [some d] [f] j) (tDisp1 l m):=by
 intro i s t H a0 I q;have D:=I.hok.fresh (Qi s.heap.objs.size);have E:=I.laid (a:=s.heap.objs.size) (o:=.dT []) (h':=s.heap.push { cls:=.type "dict",data:=.dict #[] }) (t':=s.toks) (λ_ _ q=>Qc _ q) (Qi _) (dt_empty s.heap I.big);rw[arm_eval_Dict,zip_pairTrees [some d] [f] X.env j rfl rfl,dictDisplay_pairs _ (by intro z;cases z) (by show(1:Nat)<17;decide)];refine Qa (wpAny_standAt (Qa ?_));unfold subDict;refine Qa (wpAny_alloc (Qa (wpAny_holding ?_)));rw[Ql (by show(1:Nat)<=15;decide)];refine Qa (pairTrees_cons_walk (thn (B i _ t _ _ E (q _ D)) λu F ⟨x,G,J,K,L⟩=>thn (C i F t G _ J L) λa1 s2 ⟨y,g,h,M,e,b,k,N,O,P⟩=>pairTrees_nil_walk ?_));subst N;obtain rfl:u=Value.ref b:=K;refine wpAny_holding ?_;rw[List.forIn_cons];obtain⟨z,Q,xs,v,R⟩:=ys1 h.hok e;cases v;have c:g b=some (.tup ((ik k).map kV)):=by rw[zU9];exact O
 refine Qa (Qa (Qa (wpAny_dictSet_heap (hsz:=QH _) (show(tupleKind (zf3 X.prog X.w)).room X.A from Nat.lt_of_succ_lt A) (zI9 h.hok c) R λh' w S=>Qd ?_)));dsimp only;rw[List.forIn_nil];refine Qd (Qd (Qd (Qd ⟨.ref s.heap.objs.size,_,?_,rfl,P⟩)));have a2:DPut g s.heap.objs.size (.ref b) y _:=DPut.t e c (by show 0<sizeLine;rw[sizeLine_eq];decide);obtain⟨n,T,U,p,V,W,Y,_,Z⟩:=w;refine zZ3 h (by rw[e];exact True.intro) S ⟨n,p⟩ ⟨by show 1<=sizeLine;rw[sizeLine_eq];decide,Q,_,((KT.put (H:=g) .nil (ik k) c M)).keeps λa3 ys r=>?_,n,T,U,p,V,W,Y,Z⟩;rw[za8 (zD0 r e (λz=>nomatch z))];exact r
abbrev Tups (H:Hp)(ys:List V)(ks:List (List Int)):Prop:=Paired (λy k=>∃b,y = .ref b/\H b=some (.tup (k.map V.int))) ys ks
theorem yo9 {P:Program}{w:World}{H:Hp}{h:Heap}{b:Addr}{k:'#'}(ok:HOk P w H h)(e:H b=some (.tup (k.map V.int))):Sx.RowIs h (.ref b) k:=by
 obtain⟨_,a,r,o,c,d,_,n,f⟩:=(show ze6 P w H h b (.tup (k.map V.int)) from ok b _ e);exact⟨b,o,a.toArray,n,rfl,c,d,f,by simpa using zl3 r⟩
theorem yc8 {P:Program}{w:World}{H:Hp}{h:Heap}(ok:HOk P w H h):∀ {a:List V} {c:List (List Int)} {d:')'},Tups H a c->Vals a d->Paired (Sx.RowIs h) d c
 | _,_,_,.nil,.nil=>.nil
 | _,_,_,.cons ⟨b,e,f⟩ t,.cons r g=>by
   subst e;cases r;exact .cons (yo9 ok f) (yc8 ok t g)
noncomputable def refV:Value->V
 | .ref b=>.ref b
 | _=>.non
theorem Tups.mem {H:Hp}:∀ {c:List V} {d:List (List Int)},Tups H c d->∀y∈c,∃b k,y = .ref b/\k∈d/\H b=some (.tup (k.map V.int))
 | _,_,.nil,y,a=>nomatch a
 | _,_,.cons ⟨b,e,g⟩ t,y,a=>by
   rcases Qn.mp a with rfl | a
   . exact⟨b,_,e,.head _,g⟩
   . obtain⟨h,i,j,l,f⟩:=Tups.mem t y a
     exact⟨h,i,j,.tail _ l,f⟩
theorem yc9:∀ {b:List V} {c:')'},Vals b c->∀u∈c,∃y∈b,RelV y u
 | _,_,.nil,u,a=>nomatch a
 | _,_,.cons r t,u,a=>by
   rcases Qn.mp a with rfl | a
   . exact⟨_,.head _,r⟩
   . obtain⟨y,d,e⟩:=yc9 t u a
     exact⟨y,.tail _ d,e⟩
theorem yj9 {P:Program}{w:World}{H:Hp}{h:Heap}(ok:HOk P w H h):∀(a:')'),(∀u∈a,∃b k,u = .ref b/\H b=some (.tup (List.map V.int k)))->Tups H (a.map refV) (a.map (Sx.rowOf h))/\Vals (a.map refV) a
 | [],_=>⟨.nil,.nil⟩
 | u::a,hu=>by
   obtain⟨b,k,rfl,c⟩:=hu u (.head _);obtain⟨t,v⟩:=yj9 ok a λu d=>hu u (.tail _ d)
   rw[QB,QB];refine⟨.cons ⟨b,rfl,?_⟩ t,.cons rfl v⟩;rw[(yo9 ok c).row];exact c
def yp0 (H:Hp)(ks:List (List Int))(Q:VK):Prop:=∀l zs js,H l=none->Tups H zs js->js.Perm ks->js.Pairwise (λx y=>Sx.lexB x y=true)->Q (.ref l) (upd H l (.lst zs))
section
variable {X:Cx}
theorem zV0 {h:PL}{s:Shared}{l:St}{H:Hp}{Q:VK}{x:Value}{ys:List V}{e:List (List Int)}{us:')'}(I:Inv X h l H s)(N:ys.length<=sizeLine)(m:Tups H ys e)(i:Vals ys us)(v:e.Nodup)(t:2<=ys.length->∀k∈e,k≠[])
   (w:∀(R:')'->Shared->Prop) (E:VP),(∀(f:Heap) (a:Nat),(∀b o,s.heap.get? b=some o->f.get? b=some o)->R us { s with heap:=f,toks:=a })->wpAny (model X.prog X.w) X.A.in1 (collect x) R E s)
   (q:yp0 H e Q):wpAny (model X.prog X.w) X.A (call (.builtin "sorted") [x]) (EP X h l Q) X.xe s:=by
 have O:=i.length;have n:=yc8 I.hok m i;refine Sx.sorted_rows '!' n (λz=>t '!') v w λg a A f d c B C j D=>?_
 have mem:∀u∈d,∃b k,u = .ref b/\H b=some (.tup (List.map V.int k)):=λu F=>by
   obtain⟨y,G,J⟩:=yc9 i u (j.mem_iff.mp F);obtain⟨b,k,rfl,_,K⟩:=m.mem y G;exact⟨b,k,J,K⟩
 obtain⟨L,M⟩:=yj9 I.hok d mem;have p:Inv X h l H { s with heap:=g,toks:=a }:=I.kept A;have r:=j.map (Sx.rowOf s.heap);rw[Sx.rows_map n] at r;refine⟨.ref g.objs.size,_,p.laid (s:={ s with heap:=g,toks:=a }) (t':=a) (o:=.lst (d.map refV)) B (Qi _) (show ze6 X.prog X.w _ f _ (.lst _) from⟨?_,d,c,M,C⟩),rfl,q g.objs.size _ _ (p.hok.fresh (Qi _)) L r (List.pairwise_map.mpr D)⟩;rw[Qb,j.length_eq];omega
theorem call_sortL:zi1 X (.builtin "sorted") (λd H Q=>∃p c a,d=[.ref p]/\SqL X.K H p c/\Tups H c a/\a.Nodup/\(2<=c.length->∀k∈a,k≠[])/\yp0 H a Q):=by
 intro w s B H d y Q I r h;obtain⟨p,c,a,rfl,i,j,l,g,q⟩:=h;obtain⟨u,rfl,m⟩:=zp8 r;cases m;obtain⟨x,f,n,t⟩:=I.list i;refine zV0 I t j f l g (λR E v=>?_) q;have A:=f.length;have e:(s.heap.push (seqObj "list" #[] 0)).objs.size=s.heap.objs.size+1:=size_push' _ _;refine collect_list n.isList (v _ s.toks λb o z=>?_) '!';rw[Heap.get?_update_ne _ _ _ _ (Qz (Qo z))];exact Qc _ z
theorem zV1 {P:Program}{w:World}:∀ {H:Hp} {e:List (List Key×V)} {c:List (List Key×Addr×Value)},KT H e c->∀ {d:List (List Int)},e.map (·.1)=d.map ik →
   Tups H (c.map λx=>V.ref x.2.1) d/\Vals (c.map λx=>V.ref x.2.1) (c.map λx=>(entryOfKey (tupleKind (zf3 P w)) x).key)
 | H,_,_,.nil,[],_=>⟨.nil,.nil⟩
 | H,_,_,.nil,_::_,h=>nomatch h
 | H,_,_,.cons _ _,[],h=>nomatch h
 | H,_,_,.cons (a:=p) (b:=x) hr t,k::d,h=>by
   rw[QB,QB] at h;injection h with f g
   obtain⟨i,j⟩:=zV1 (P:=P) (w:=w) t g;rw[QB,QB];refine⟨.cons ⟨_,rfl,?_⟩ i,.cons rfl j⟩;rw[hr.2.1,f,zU9]
theorem call_sortD (j:X.calm=true):zi1 X (.builtin "sorted") (λb H Q=>∃p a c,b=[.ref p]/\H p=some (.dT a)/\a.map (·.1)=c.map ik/\c.Nodup/\(2<=a.length->∀k∈c,k≠[])/\yp0 H c Q):=by
 intro G s O H b K Q I r h;obtain⟨p,a,c,rfl,l,m,n,i,q⟩:=h;obtain⟨u,rfl,t⟩:=zp8 r;cases t;obtain⟨z,y,b,d,o,e,L,v,A,B,f,M⟩:=(show ze6 X.prog X.w H s.heap p (.dT a) from I.hok p _ l);obtain⟨C,g⟩:=zV1 (P:=X.prog) (w:=X.w) d m;have N:a.length=b.length:=Paired.length d;have D:e.toList.map (·.key)=b.map λx=>(entryOfKey (tupleKind (zf3 X.prog X.w)) x).key:=by rw[f,Zt];rfl
 have J:e.size=b.length:=by rw[<-Qu,f,Qb]
 rw[<-D] at g;refine zV0 I (by rw[Qb];omega) C g n (λw=>i (by rw[Qb] at w;omega)) (λR E F=>?_) q;exact Sx.raw_collect y (show X.A.in1.handled=none from I.ok.hd j) ⟨o,v,A,B⟩ '!' F
end
end L2
namespace Sx
open PySem PySem.W PySem.Calls PyProof.Rows
theorem below_go (xs:Array Nat)(j:Nat)(q:xs.toList.Pairwise (· < ·)):∀(e d c:Nat),d<=c->c<=xs.size->c-d<=e->(∀k,k<d->xs.getD k j<j)->(∀k,c<=k->k<xs.size->j<=xs.getD k j) →
   (∀k,k<SetTable.below.go xs j e d c->xs.getD k j<j)/\(∀k,SetTable.below.go xs j e d c<=k->k<xs.size->j<=xs.getD k j)/\SetTable.below.go xs j e d c<=xs.size:=by
 have mono:∀a b,a<b->b<xs.size->xs.getD a j<xs.getD b j:=λa b o m=>by
   have:=Zm.mp q a b (by simp;omega) (by simpa using m) o;simpa [Array.getD,m,show a<xs.size by omega] using this
 intro e
 induction e with
 | zero =>
   intro d c r g s i l;obtain rfl:d=c:=by omega
   exact⟨i,l,g⟩
 | succ e n =>
   intro d c r g s i l;unfold SetTable.below.go;by_cases h:d<c
   . rw[Ql h]
     dsimp only;by_cases f:xs.getD ((d+c) / 2) j<j
     . rw[Ql f]
       refine n _ _ '!' g '!' (λk t=>?_) l;rcases QP k ((d+c) / 2) with z | z
       . exact Nat.lt_trans (mono k _ z '!') f
       . obtain rfl:k=(d+c) / 2:=by omega
         exact f
     . rw[Qg f]
       refine n _ _ '!' '!' '!' i (λk t p=>?_);rcases QP ((d+c) / 2) k with z | z
       . exact Zs (Nat.lt_of_le_of_lt (Nat.not_lt.mp f) (mono _ k z p))
       . obtain rfl:k=(d+c) / 2:=by omega
         exact Nat.not_lt.mp f
   . rw[Qg h]
     obtain rfl:d=c:=by omega
     exact⟨i,l,g⟩
theorem zP2 (xs:Array Nat)(j:Nat)(a:xs.toList.Pairwise (· < ·)):(∀k,k<SetTable.below xs j->xs.getD k j<j)/\(∀k,SetTable.below xs j<=k->k<xs.size->j<=xs.getD k j)/\SetTable.below xs j<=xs.size :=
 below_go xs j a xs.size 0 xs.size (QH _) (Qi _) '!' (λk h=>by omega) (λk h b=>by omega)
theorem zn7 {a:Type}(xs:Array a)(p:Nat)(x:a):(SetTable.insertAt xs p x).toList=xs.toList.take p++x::xs.toList.drop p:=by
 unfold SetTable.insertAt;have b:(xs.extract p xs.size).toList=xs.toList.drop p:=zF9 xs p;rw[Zb,Array.toList_push,zz4,b];simp
abbrev ElsAre (es:List (Int×Value))(ns:'#'):Prop:=Paired (λe n=>e.1=n/\∃tk,e.2 = .int n tk) es ns
theorem ElsAre.take {es:List (Int×Value)}{ns:'#'}(r:ElsAre es ns):∀i,ElsAre (es.take i) (ns.take i):=by
 induction r with
 | nil=>intro i;simp;exact .nil
 | cons x t a =>
   intro i;cases i with
   | zero=>exact .nil
   | succ i=>exact .cons x (a i)
theorem ElsAre.drop {es:List (Int×Value)}{ns:'#'}(r:ElsAre es ns):∀i,ElsAre (es.drop i) (ns.drop i):=by
 induction r with
 | nil=>intro i;simp;exact .nil
 | cons x t a =>
   intro i;cases i with
   | zero=>exact .cons x t
   | succ i=>exact a i
theorem ElsAre.app {es a:List (Int×Value)}{ns b:'#'}(r:ElsAre es ns)(c:ElsAre a b):ElsAre (es++a) (ns++b):=by
 induction r with
 | nil=>exact c
 | cons x t d=>exact .cons x d
theorem ElsAre.len {es:List (Int×Value)}{ns:'#'}(r:ElsAre es ns):es.length=ns.length:=by
 induction r with
 | nil=>rfl
 | cons x t a=>simp[a]
theorem ElsAre.fst {es:List (Int×Value)}{ns:'#'}(r:ElsAre es ns):es.map (·.1)=ns:=by
 induction r with
 | nil=>rfl
 | cons x t a=>rw[QB,a,x.1]
structure SetS (byT:Bool)(h:Heap)(a:Addr)(ns:'#')(ep:Nat):Prop where
 st:∃o es t,h.get? a=some o/\o.ExactSet/\o.data = .set es ep t/\ElsAre es.toList ns/\t.place.toList=ns.map Int.toNat/\t.dummies = #[]/\t.mask=(if ns.length<5 then 7 else 31)/\t.plain=true/\(byT=false->t.led=true)
 up:ns.Pairwise (· < ·)
 lo:∀n∈ns,1<=n/\n<=5
theorem yk0:∀ {b:'#'} {k:Int},b.Pairwise (· < ·)->(∀n∈b,k<n/\n<=5)->(b.length:Int)<=5-k\/b=[]:=by
 intro b
 induction b with
 | nil=>intro k _ _;exact .inr rfl
 | cons a r f =>
   intro k g c;have h:=c a QC;have u:=Zx.mp g;rw[QE];rcases f (k:=a) u.2 (λn d=>⟨u.1 n d,(c n (Qv _ d)).2⟩) with e | e
   . exact .inl '!'
   . subst e
     exact .inl (by simp only[List.length_nil];omega)
theorem up_full:∀ {b:'#'} {k:Int},b.Pairwise (· < ·)->(∀n∈b,k<n/\n<=5)->(b.length:Int)=5-k->∀i:Nat,i<b.length->b[i]?=some (k+1+i):=by
 intro b
 induction b with
 | nil=>intro k _ _ _ i c;cases c
 | cons a r l =>
   intro k m f g i c;have h:=f a QC;have u:=Zx.mp m;have d:∀n∈r,a<n/\n<=5:=λn j=>⟨u.1 n j,(f n (Qv _ j)).2⟩
   rw[QE] at g c;have o:a=k+1:=by
     rcases yk0 u.2 d with e | e
     . omega
     . subst e
       simp only[List.length_nil] at g;omega
   cases i with
   | zero=>exact congrArg some '!'
   | succ i =>
     have:=l u.2 d '!' i '!';show r[i]?=_;rw[this];exact congrArg some '!'
theorem five {ns:'#'}(c:ns.Pairwise (· < ·))(lo:∀n∈ns,1<=n/\n<=5):ns.length<=5/\(ns.length=5->ns=[1,2,3,4,5]):=by
 have b:∀n∈ns,(0:Int)<n/\n<=5:=λn d=>⟨by have:=lo n d;omega,(lo n d).2⟩
 refine⟨?_,λh=>?_⟩
 . rcases yk0 c b with e | e
   . omega
   . subst e;exact QH _
 . refine List.ext_getElem? λi=>?_
   by_cases a:i<ns.length
   . rw[up_full c b '!' i a]
     rw[h] at a
     match i,a with
     | 0,_=>rfl
     | 1,_=>rfl
     | 2,_=>rfl
     | 3,_=>rfl
     | 4,_=>rfl
   . rw[QT '!',QT (by show 5<=i;omega)]
theorem nat_up {ns:'#'}(c:ns.Pairwise (· < ·))(lo:∀n∈ns,1<=n/\n<=5):(ns.map Int.toNat).Pairwise (· < ·) :=
 List.pairwise_map.mpr (c.imp_of_mem λ{a b} d e z=>by have:=lo a d;have:=lo b e;omega)
theorem zP3 {n:Int}(a:1<=n)(b:n<=5):hashInt n=n:=by
 have:n=1\/n=2\/n=3\/n=4\/n=5:=by omega
 rcases this with rfl | rfl | rfl | rfl | rfl<;>decide
theorem free_at {t:SetTable}{n:Int}(m:1<=n)(o:n<=5)(c:t.mask=7)(d:t.dummies = #[])(p:t.place.toList.Pairwise (· < ·))(g:n.toNat∉t.place.toList):t.freeSlot n=some (n.toNat,false):=by
 have b:t.slot n.toNat = .empty:=by
   unfold SetTable.slot;dsimp only;have e:¬ (t.place[SetTable.below t.place n.toNat]? == some n.toNat)=true:=λz=>by
     have h:t.place[SetTable.below t.place n.toNat]?=some n.toNat:=by simpa using z
     exact g (by have:=Array.mem_of_getElem? h;simpa using this)
   have i:¬ SetTable.has t.dummies n.toNat=true:=by
     rw[d];unfold SetTable.has;simp
   rw[Qg e,Qg i]
 have k:SetTable.bits n % (t.mask+1)=n.toNat:=by
   rw[c];have:n=1\/n=2\/n=3\/n=4\/n=5:=by omega
   rcases this with rfl | rfl | rfl | rfl | rfl<;>decide
 unfold SetTable.freeSlot SetTable.probe;have a:∃f,10*SetTable.turns t.mask=f+1:=⟨10*SetTable.turns t.mask-1,by unfold SetTable.turns;omega⟩;obtain⟨f,a⟩:=a;rw[a];unfold SetTable.probe.go;have l:(t.probeStart n).j=n.toNat:=k;rw[l,b];rfl
section
variable {prog:Program} {w:World} {A:Around} {E:VP} {s:Shared} {byT:Bool} {a:Addr} {ns:'#'} {ep:Nat}
theorem els_of {es:List (Int×Value)}(r:ElsAre es ns)(lo:∀n∈ns,1<=n/\n<=5):ElemsOf (intKind prog w) es:=by
 induction r with
 | nil=>intro e a;cases a
 | @cons e n es ns x t c =>
   intro d a;rcases Qn.mp a with rfl | a
   . obtain⟨f,h,b⟩:=x
     have l:=lo n (.head _);refine⟨⟨n,by rw[b];exact intKind_is _ _ _ _,?_⟩,by rw[b];rfl⟩;rw[f];exact(zP3 l.1 l.2).symm
   . exact c (λm g=>lo m (.tail _ g)) d a
theorem yk1 {es:List (Int×Value)}(r:ElsAre es ns)(n:Int):(es.findIdx? λe=>(intKind prog w).is n e.2)=none↔n∉ns:=by
 rw[List.findIdx?_eq_none_iff]
 induction r with
 | nil=>simp
 | @cons e m es ns x t a =>
   obtain⟨f,b,c⟩:=x;rw[List.forall_mem_cons,a];have d:((intKind prog w).is n e.2=false)↔n≠m:=by
     rw[c,KeyKind.is_eq_decide (knd:=intKind prog w) (intKind_is _ _ m b) n];simp
   rw[d];simp[not_or]
theorem fits_of {t:SetTable}{k:Nat}(a:t.place.size=k)(b:t.dummies = #[])(c:k<=t.mask):t.fits k=true:=by
 unfold SetTable.fits SetTable.fill;rw[a,b];simpa using c
theorem pick5 {b:Type}(es:Array b)(a:es.size=5):(#[0,1,2,3,4]:Array Nat).filterMap (es[·]?)=es:=by
 obtain⟨L⟩:=es
 match L,a with
 | [_,_,_,_,_],_=>rfl
theorem set_add {n:Int}{c:Tok}{Q:Bool->Shared->Prop}(S:SetS byT s.heap a ns ep)(Y:1<=n)(Z:n<=5)
   (h:∀M R a4 ae,Heap.SameBut a s.heap M->SetS byT M a R a4->(∀k,k∈R↔k∈ns\/k=n)->Q ae { s with heap:=M,toks:=s.toks+1 }):wpAny '*' A (setAdd a (.int n c)) Q E s:=by
 obtain⟨⟨a0,es,t,r,J,p,e,l,f,K,C,L⟩,u,d⟩:=S;have h5:=five u d;have hl:=e.len;have a5:t.place.size=es.size:=by rw[<-Qu,l,Qb,<-hl,Qu]
 have ag:es.size=ns.length:=by rw[<-hl,Qu]
 have hf:t.fits es.size=true:=fits_of a5 f (by rw[K];split<;>omega);unfold setAdd;refine wpAny_holding (Qa ((intKind prog w).pyHash (k:=n) (intKind_is _ _ _ _) ?_));unfold setAddHashed setAddHashedIn;refine wpAny_holding (Qa (wpAny_setState_of (s:={ s with toks:=s.toks+1 }) r p hf ?_));dsimp only;have P:ElemsOf (intKind prog w) es.toList:=els_of e d;rw[byScan_of (knd:=intKind prog w) rfl (show es.size<scanBound by unfold scanBound;omega) P];simp only[↓reduceIte];unfold setAddByScan;refine Qa (Qa (wpAny_rule (Qa (wpAny_setScan_of (knd:=intKind prog w) (k:=n) (s:={ s with toks:=s.toks+1 }) (intKind_is _ _ _ _) r p hf P ?_))));by_cases q:n∈ns
 . cases hr:List.findIdx? (λa1=>(intKind prog w).is n a1.2) es.toList with
   | none=>exact absurd q ((yk1 e n).mp hr)
   | some ah =>
     dsimp only;refine Qd (Qd (h s.heap ns ep false (Heap.SameBut.refl a s.heap) ⟨⟨a0,es,t,r,J,p,e,l,f,K,C,L⟩,u,d⟩ λk=>?_));exact⟨.inl,λz=>z.elim id λz=>by rw[z];exact q⟩
 . rw[(yk1 e n).mpr q]
   dsimp only;have a6:ns.length<5:=by
     rcases QP ns.length 5 with z | z
     . exact z
     . exfalso
       apply q;rw[h5.2 '!'];have:n=1\/n=2\/n=3\/n=4\/n=5:=by omega
       simpa using this
   have B:t.mask=7:=by rw[K,Ql a6]
   have T:t.place.toList.Pairwise (· < ·):=by rw[l];exact nat_up u d
   have a7:n.toNat∉t.place.toList:=by
     rw[l];intro z;obtain⟨m,G,a1⟩:=QQ.mp z;have:=d m G;exact q (by rw[show n=m by omega];exact G)
   obtain⟨b1,b2,b3⟩:=zP2 t.place n.toNat T;generalize hi:SetTable.below t.place n.toNat=i at b1 b2 b3;have a2:∀k (g:k<ns.length),t.place.getD k n.toNat=ns[k].toNat:=λk g=>by
     have U:k<t.place.size:=by omega
     have:t.place.toList[k]?=(ns.map Int.toNat)[k]?:=by rw[l]
     rw[QU,Zh t.place k U,QK,Qf g] at this;have:=Qx this;simp[Array.getD,U,this]
   have c1:∀x∈ns.take i,x<n:=λx v=>by
     obtain⟨k,g,rfl⟩:=List.mem_iff_getElem.mp v;have a8:k<i:=by simp at g;omega
     have o:k<ns.length:=by simp at g;omega
     have:=b1 k a8;rw[a2 k o] at this;have:=d ns[k] (Zu o);simp;omega
   have c2:∀x∈ns.drop i,n<x:=λx v=>by
     obtain⟨k,g,rfl⟩:=List.mem_iff_getElem.mp v;have o:i+k<ns.length:=by simp at g;omega
     have:=b2 (i+k) '!' '!';rw[a2 (i+k) o] at this;have ai:=d ns[i+k] (Zu o);have ne:n≠ns[i+k]:=λz=>q (by rw[z];exact Zu o)
     simp;omega
   have H:SetTable.insertAt t.place i n.toNat=((ns.take i++n::ns.drop i).map Int.toNat).toArray:=by
     apply Array.toList_inj.mp;rw[zn7,l];simp[List.map_take,List.map_drop]
   have a9:layNew t es n (.int n c)=(SetTable.insertAt es i (n,.int n c),{ t with place:=SetTable.insertAt t.place i n.toNat },false,false):=by
     unfold layNew;rw[free_at Y Z B f T a7];dsimp only;unfold SetTable.put;dsimp only;rw[hi];have y:SetTable.has t.dummies n.toNat=false:=by rw[f];unfold SetTable.has;simp
     rw[y];simp only[Zf,if_false];have hz:(SetTable.insertAt es i (n,Value.int n c)).size=(SetTable.insertAt t.place i n.toNat).size:=by
       rw[<-Qu,<-Qu,zn7,zn7];simp;omega
     have aa:({ t with place:=SetTable.insertAt t.place i n.toNat }:SetTable).fits (SetTable.insertAt es i (n,Value.int n c)).size=true:=by
       refine fits_of hz.symm f ?_;rw[hz,H];show _<=t.mask;rw[B];simp;omega
     unfold SetTable.orStandIn;rw[aa];simp
   have hh:(intKind prog w).hash n=n:=zP3 Y Z;rw[hh,a9];dsimp only;refine Qa (Qd ?_);rw[Ql C];refine Qa ?_;rw[hashByValue_scannable 8 (show(Value.int n c).scannable=true from rfl)];refine Qd ?_;rw[Ql (show plainKind (Value.int n c)=true from rfl)];have mem:∀k,k∈ns.take i++n::ns.drop i↔k∈ns\/k=n:=λk=>by
     rw[Qs,Qn]
     conv=>rhs;rw[<-Za i ns,Qs]
     constructor
     . rintro(z | z | z)
       . exact .inl (.inl z)
       . exact .inr z
       . exact .inl (.inr z)
     . rintro((z | z) | z)
       . exact .inl z
       . exact .inr (.inr z)
       . exact .inr (.inl z)
   have D:(ns.take i++n::ns.drop i).Pairwise (· < ·):=by
     refine QI.mpr ⟨u.sublist (List.take_sublist _ _),Zx.mpr ⟨c2,u.sublist (List.drop_sublist _ _)⟩,λx v af N=>?_⟩;have:=c1 x v;rcases Qn.mp N with rfl | N
     . exact this
     . have:=c2 af N;omega
   have F:∀m∈ns.take i++n::ns.drop i,1<=m/\m<=5:=λm G=>by
     rcases(mem m).mp G with z | z
     . exact d m z
     . omega
   have j:ElsAre (SetTable.insertAt es i (n,.int n c)).toList (ns.take i++n::ns.drop i):=by
     rw[zn7];exact(e.take i).app (.cons ⟨rfl,c,rfl⟩ (e.drop i))
   have I:(ns.take i++n::ns.drop i).length=ns.length+1:=by simp;omega
   have V:(SetTable.insertAt es i (n,Value.int n c)).size=ns.length+1:=by rw[<-Qu,j.len,I]
   have ab:(SetTable.insertAt t.place i n.toNat).size=ns.length+1:=by rw[H];simp;omega
   generalize ns.take i++n::ns.drop i=ms at mem D F j I H;generalize SetTable.insertAt es i (n,Value.int n c)=b at j V ⊢;have W:b.size<=sizeLine:=by rw[V,sizeLine_eq];omega
   refine Qa (wpAny_storeSet_of (s:={ s with toks:=s.toks+1 }) r p ?_ W);have X:=Heap.SameBut.update s.heap a (Obj.putSet b { t with place:=SetTable.insertAt t.place i n.toNat });have O:(s.heap.update a (Obj.putSet b { t with place:=SetTable.insertAt t.place i n.toNat })).get? a=some { a0 with data:=.set b (ep+1) { t with place:=SetTable.insertAt t.place i n.toNat } }:=by
     have:=Zq (Obj.putSet b { t with place:=SetTable.insertAt t.place i n.toNat }) r (by rw[putSet_of _ _ p];rfl);rw[putSet_of _ _ p] at this;exact this
   have a3:({ t with place:=SetTable.insertAt t.place i n.toNat }:SetTable).tooFull=decide (ns.length+1≥5):=by
     unfold SetTable.tooFull SetTable.fill;dsimp only;rw[ab,f,B];show decide ((ns.length+1+0)*5≥7*3)=_;by_cases z:ns.length+1≥5
     . rw[Qh z,Qh '!']
     . rw[Qe z,Qe '!']
   rw[a3];by_cases h6:ns.length+1≥5
   . rw[Ql (by simpa using h6)]
     have ac:=(five D F).2 '!';subst ac;have ad:relayAll { t with place:=SetTable.insertAt t.place i n.toNat } b (SetTable.grown b.size)=(b,{ mask:=31,place:=#[1,2,3,4,5],dummies:=#[],finger:=t.finger,led:=t.led,moves:=({ t with place:=SetTable.insertAt t.place i n.toNat }:SetTable).movedTo 31,plain:=t.plain },false):=by
       unfold relayAll;have e1:b.map (·.1) = #[1,2,3,4,5]:=by
         apply Array.toList_inj.mp;rw[Array.toList_map,j.fst]
       have y:b.size=5:=by omega
       rw[e1,y];have e3:SetTable.relaid { t with place:=SetTable.insertAt t.place i n.toNat } #[1,2,3,4,5] (SetTable.grown 5)=some ({ mask:=31,place:=#[1,2,3,4,5],dummies:=#[],finger:=t.finger,led:=t.led,moves:=({ t with place:=SetTable.insertAt t.place i n.toNat }:SetTable).movedTo 31,plain:=t.plain },#[0,1,2,3,4]):=by
         unfold SetTable.relaid SetTable.laid;have e4:SetTable.layClean (SetTable.sizeAbove (SetTable.grown 5)-1) #[1,2,3,4,5]=some #[none,some 0,some 1,some 2,some 3,some 4,none,none,none,none,none,none,none,none,none,none,none,none,none,none,none,none,none,none,none,none,none,none,none,none,none,none]:=by decide +kernel
         rw[e4];rfl
       rw[e3];dsimp only;have e5:(#[0,1,2,3,4]:Array Nat).filterMap (b[·]?)=b:=pick5 b y;rw[e5,y];rfl
     rw[ad];dsimp only;refine Qa (Qd (Qa (wpAny_storeSet_of (s:={ s with heap:=s.heap.update a (Obj.putSet b { t with place:=SetTable.insertAt t.place i n.toNat }),toks:=s.toks+1 }) O rfl ?_ W)));have g2:=Zq (Obj.putSet b { mask:=31,place:=#[1,2,3,4,5],dummies:=#[],finger:=t.finger,led:=t.led,moves:=({ t with place:=SetTable.insertAt t.place i n.toNat }:SetTable).movedTo 31,plain:=t.plain }) O (by rw[putSet_of (es:=b) (ep:=ep+1) _ _ rfl];rfl);rw[putSet_of (es:=b) (ep:=ep+1) _ _ rfl] at g2;exact Qd (Qd (h _ [1,2,3,4,5] (ep+1+1) true (X.trans (Heap.SameBut.update _ a _)) ⟨⟨_,b,_,g2,J,rfl,j,rfl,rfl,rfl,C,L⟩,D,F⟩ mem))
   . rw[Qg (by simpa using h6)]
     refine Qd (Qd (h _ ms (ep+1) true X ⟨⟨_,b,_,O,J,rfl,j,?_,f,?_,C,L⟩,D,F⟩ mem))
     . rw[H]
     . show t.mask=_
       rw[B,I,Ql '!']
end
noncomputable def byT (w:World):Bool:=w.params.followText "set-order"
section
variable {prog:Program} {w:World} {A:Around} {E:VP} {s:Shared}
theorem SetS.other {b:Bool}{h h':Heap}{a:Addr}{ns:'#'}{ep:Nat}(S:SetS b h a ns ep)(k:∀o,h.get? a=some o->h'.get? a=some o):SetS b h' a ns ep:=by
 obtain⟨⟨o,c,t,d,r⟩,e,f⟩:=S;exact⟨⟨o,c,t,k o d,r⟩,e,f⟩
theorem set_fresh (h:Heap):SetS (byT w) (h.push { cls:=.type "set",dict:=none,data:=.set #[] 0 (.fresh 0 0 (!byT w)) }) h.objs.size [] 0 :=
 ⟨⟨_,#[],_,Qj _ rfl,⟨rfl,rfl,rfl⟩,rfl,.nil,rfl,rfl,rfl,rfl,λe=>by show(!byT w)=true;rw[e];rfl⟩,.nil,λn a=>by cases a⟩
theorem set_loop {I:Addr}{K c:List Addr}{G:Array GenState->Array GenState->Prop}{n:Nat}{P:Nat->Value->Prop}{St:Nat->Shared->Prop}{R:Result->Shared->Prop}{b:Bool}(W:WalksS prog w A.in1 I K c G n P St)(S:Addr)(D:S∉K)
   (val:Nat->Int) (L:∀i v,P i v->(∃t,v = .int (val i) t)/\1<=val i/\val i<=5) :
   ∀(k i:Nat) (s:Shared) (d:'#') (m:Nat),n-i=k->i<=n->St i s->SetS b s.heap S d m->(∀x,x∈d↔∃j,j<i/\x=val j) →
     (∀a l p,Moved (S::c) G s a->SetS b a.heap S l p->(∀x,x∈l↔∃j,j<n/\x=val j)->R (.ok (.ret .none)) a) →
     codeAny '*' A (.builtin "set.update.loop" ⟨[.ref S,.ref I],[]⟩) R s:=by
 have E:S∉c:=λh=>D (W.sub _ h)
 have C:∀b∈c,b∈S::c:=λb f=>Qv _ f
 intro k
 induction k with
 | zero =>
   intro i s d m Y Z q r u y;obtain rfl:i=n:=by omega
   refine codeAny_builtin F.entry_set_update_loop ?_;rw[Around.under_plainId F.plain_set_update_loop _];show wpAny _ A.in1 (pyNext (.ref I) >>= _) _ _ s;refine Qa (W.done s _ _ q λa g=>?_);show wpAny _ A.in1 (ret Value.none) _ _ a;exact Qd (y a d m (g.mono C) (r.other λo B=>g.heap S _ E B) u)
 | succ k ih =>
   intro i s d m Y Z q r u y;have H:i<n:=by omega
   refine codeAny_builtin F.entry_set_update_loop ?_;rw[Around.under_plainId F.plain_set_update_loop _];show wpAny _ A.in1 (pyNext (.ref I) >>= _) _ _ s;refine Qa (W.item i s _ _ H q λv a hP M g=>?_);obtain⟨⟨t,rfl⟩,v1,v2⟩:=L i v hP;show wpAny _ A.in1 (holding [Value.int (val i) t] (setAdd S (.int (val i) t)) >>= _) _ _ a;refine Qa (wpAny_holding (set_add (r.other λo B=>g.heap S _ E B) v1 v2 λh' l p b' J U V=>?_));refine Qd ⟨plainId_quiet F.plain_set_update_loop _,ih (i+1) _ l p '!' H (W.frame _ a _ _ M (Nat.le_succ _) λb f o e=>?_) U (λx=>?_) λX N O Q T hx=>?_⟩
   . rw[J.2 b (λh:b=S=>D (by rw[<-h];exact f))];exact e
   . rw[V,u]
     constructor
     . rintro(⟨j,hj,e⟩ | e)
       . exact⟨j,by omega,e⟩
       . exact⟨i,by omega,e⟩
     . rintro⟨j,hj,e⟩
       rcases QP j i with z | z
       . exact .inl ⟨j,z,e⟩
       . obtain rfl:j=i:=by omega
         exact .inr e
   . refine y X N O (Moved.trans W.gtrans ((g.mono C).then_heap (Nat.le_succ _) λb o f e=>?_) Q) T hx
     rw[J.2 b (λh:b=S=>f (by rw[h];exact QC))];exact e
theorem code_set_newS (a:Value){Q₁:VP}
   (h:Q₁ (.ref s.heap.objs.size) { s with heap:=s.heap.push { cls:=.type "set",dict:=none,data:=.set #[] 0 (.fresh 0 0 (!byT w)) } }) :
   codeAny '*' A (.call (.builtin "set.__new__") ⟨[.type "set",a],[]⟩) (wants Q₁ E) s:=by
 refine codeAny_of_tree ?_;show wpAny _ A.in1 (do checkBuiltinCall "set.__new__" ⟨[.type "set",a],[]⟩;again (.builtin "set.__new__" ⟨[.type "set",a],[]⟩)) _ _ s;refine Qa (wpAny_of_eq (PySem.F.newCall_set_1 a) (Qd ⟨plainId_quiet PySem.F.plain_set_new _,codeAny_builtin PySem.F.entry_set_new ?_⟩));rw[Around.under_plainId PySem.F.plain_set_new _];unfold Builtin.«set.__new__» Builtin.Frozenset.newClass;have b:=PySem.sub_set_self;obtain⟨c,g,d,e,f⟩:=s;dsimp only
 wp_walk
 refine wpAny_askSetting (Qd ?_);dsimp only;simp only[newObj];refine Qa (wpAny_alloc (Qd ?_));exact Qd h
end
section
variable {prog:Program} {w:World} {A:Around} {E:VP} {s:Shared}
theorem call_setS {l:Addr}{c:Array Value}{ns:'#'}{Q:VP}(hh:A.handled=none)(hl:s.heap.IsList l c)(I:IntsAre c.toList ns)(V:∀n∈ns,1<=n/\n<=5)
   (h:∀(a:Heap) (g:Nat) (d:'#') (f:Nat),SetS (byT w) a s.heap.objs.size d f->(∀x,x∈d↔x∈ns)->(∀b o,s.heap.get? b=some o->a.get? b=some o)->Q (.ref s.heap.objs.size) { s with heap:=a,toks:=g }) :
   wpAny '*' A (call (.type "set") [.ref l]) Q E s:=by
 obtain⟨ai,tl,a8⟩:=PySem.F.called_set.mro;have a6:=PySem.F.called_set.made;have a9:=PySem.F.called_set.sub;refine wpAny_call (codeAny_of_tree ?_);show wpAny _ _ (callAny (.type "set") _) _ _ _;refine Qd ⟨Code.quiet_builtin _ '(',codeAny_builtin PySem.F.entry_type_call ?_⟩;rw[Around.under_plain (weight_type_call_type "set" [.ref l] []) rfl];have h1:=PySem.F.called_set.notType;have h2:=PySem.F.called_set.canCreate;have ae:=PySem.F.typeCall_set_1 (.ref l)
 repeat (any_goals (first | assumption | wp_step))
 refine codeAny_mono (code_set_newS (.ref l) (E:=E) (Q₁:=λz J=>z = .ref s.heap.objs.size/\J = { s with heap:=s.heap.push { cls:=.type "set",dict:=none,data:=.set #[] 0 (.fresh 0 0 (!byT w)) } }) ⟨rfl,rfl⟩) λr J u=>?_
 cases r with
 | error e=>exact u
 | ok fl =>
   cases fl with
   | ret z =>
     obtain⟨rfl,rfl⟩:=u;have hS:(s.heap.push { cls:=.type "set",dict:=none,data:=.set #[] 0 (.fresh 0 0 (!byT w)) }).get? s.heap.objs.size=some { cls:=.type "set",dict:=none,data:=.set #[] 0 (.fresh 0 0 (!byT w)) }:=Qj _ rfl;have hT:Shared.TypeIs { s with heap:=s.heap.push { cls:=.type "set",dict:=none,data:=.set #[] 0 (.fresh 0 0 (!byT w)) } } (.ref s.heap.objs.size) "set":=⟨_,hS,rfl⟩;have af:=PySem.F.called_set.init.lookup;have ag:=PySem.F.called_set.init.bind (.ref s.heap.objs.size)
     repeat (any_goals (first | assumption | wp_step))
     refine codeAny_mono (codeAny_call_builtin (R:=wants (λr K=>r = .none/\∃a g d f,K = { s with heap:=a,toks:=g }/\SetS (byT w) a s.heap.objs.size d f/\(∀x,x∈d↔x∈ns) ∧
         (∀b o,s.heap.get? b=some o->a.get? b=some o)) E) PySem.F.called_set.init.plain PySem.F.entry_set_init (PySem.check_set_init_1 hT ?_)) λr₂ K p=>?_
     . obtain⟨ol,B,C,L,D⟩:=hl
       obtain⟨aa,P,a7,O⟩:=ol;simp only at C D;subst C;subst D;have S:(s.heap.push { cls:=.type "set",dict:=none,data:=.set #[] 0 (.fresh 0 0 (!byT w)) }).get? l=some { cls:=.type "list",dict:=P,data:=.seq c L,slots:=O }:=Qc _ B;have ab:=PySem.F.sub_list_set;have ac:=PySem.F.sub_list_frozenset;have ah:(Value.type "list" == Value.type "dict")=false:=by decide
       have F:(s.heap.push { cls:=.type "set",dict:=none,data:=.set #[] 0 (.fresh 0 0 (!byT w)) }).IsList l c:=⟨_,S,rfl,L,rfl⟩;unfold Builtin.«set.__init__» noKeywords Builtin.Frozenset.updateFrom;generalize W:pyIter=PI
       wp_walk
       subst W;refine wpAny_pyIter_list F ?_;refine Qa (wpAny_runValue ?_);have G:l<s.heap.objs.size:=Qo B;have X:A.in1.in1.in1.handled=none:=by simp[hh]
       have T:l≠(s.heap.push { cls:=.type "set",dict:=none,data:=.set #[] 0 (.fresh 0 0 (!byT w)) }).objs.size:=by
         rw[Zw];exact Qz (Nat.lt_succ_of_lt G)
       have Y:s.heap.objs.size∉[(s.heap.push { cls:=.type "set",dict:=none,data:=.set #[] 0 (.fresh 0 0 (!byT w)) }).objs.size,l]:=by
         rw[Zw];simp only[Qn,QG,QM,or_false,not_or];exact⟨Qz (Nat.lt_succ_self _),Nat.ne_of_gt G⟩
       have ad:c.size=ns.length:=by rw[<-Qu];exact IntsAre.length I
       have U:∀(i:Nat) (v:Value),c[i]?=some v->(∃t,v = .int ((λi=>ns.getD i 0) i) t)/\1<=ns.getD i 0/\ns.getD i 0<=5:=λi v M=>by
         refine⟨PyProof.Rows.IntsAre.int_at I i v (by rw[QU];exact M),?_⟩;have H:i<ns.length:=by
           have:=(Zr.mp M).1;omega
         have:ns.getD i 0=ns[i]:=by simp[H]
         rw[this];exact V _ (Zu H)
       refine set_loop (b:=byT w) ((Walks.list X _ l T c).toS) s.heap.objs.size Y (λi=>ns.getD i 0) U (c.size-0) 0 _ [] 0 '!' (QH _)
         ⟨⟨_,Qj _ rfl,rfl,rfl⟩,(F.push _)⟩ ?hS0 (λx=>⟨(λa5=>nomatch a5),λ⟨j,k,_⟩=>absurd k (Nat.not_lt_zero _)⟩) ?hR
       case hS0 =>
         exact(set_fresh (w:=w) s.heap).other λo ho=>Qc _ ho
       case hR =>
         intro s' d f m q y;obtain⟨a,g',d',Z,a0⟩:=s';have eg:g'=s.gens:=m.gens;have ed:d'=s.drawn:=m.drawn;have eo:a0=s.os:=m.os;subst eg;subst ed;subst eo;show wpAny _ _ _ _ _ _;refine Qd ?_;show wpAny _ _ (ret Value.none) _ _ _;refine Qd ⟨rfl,a,Z,d,f,rfl,q,λx=>?_,λb o e=>?_⟩
         . rw[y x,List.mem_iff_getElem]
           constructor
           . rintro⟨j,k,e⟩
             exact⟨j,by omega,by rw[e];simp[show j<ns.length by omega]⟩
           . rintro⟨j,k,e⟩
             exact⟨j,by omega,by rw[<-e];simp[k]⟩
         . have N:=Qo e
           have a1:b≠s.heap.objs.size:=Qz N;have a2:b≠(s.heap.push { cls:=.type "set",dict:=none,data:=.set #[] 0 (.fresh 0 0 (!byT w)) }).objs.size:=by
             rw[Zw];exact Qz (Nat.lt_succ_of_lt N)
           exact m.heap b o (by simp only[Qn,QG,QM,or_false,not_or];exact⟨a1,a2⟩) (Qc _ (Qc _ e))
     . cases r₂ with
       | error e=>exact p
       | ok a3 =>
         cases a3 with
         | ret r =>
           obtain⟨rfl,a,g,d,f,rfl,q,y,a4⟩:=p
           repeat (any_goals (first | assumption | wp_step))
           exact h _ _ _ _ q y a4
         | _=>exact p.elim
   | _=>exact u.elim
end
theorem yk2 {f:Type}(next:Nat->Nat):∀(a k:Nat) (left:List f) (b:Array f),left.length<=a->(pickOrder.go next a k left b).toList.Perm (b.toList++left)
 | 0,k,left,b,h=>by
   obtain rfl:left=[]:=QA '!';unfold pickOrder.go;simp
 | a+1,k,left,b,h=>by
   unfold pickOrder.go;by_cases d:left=[]
   . subst d
     simp
   . have g:0<left.length:=List.length_pos_iff.mpr d
     have c:next k % left.length<left.length:=Nat.mod_lt _ g;rw[Qf c];dsimp only;refine(yk2 next a (k+1) _ _ (by rw[List.length_eraseIdx_of_lt c];omega)).trans ?_;rw[Array.toList_push,QR];refine List.Perm.append_left _ ?_;have e:left=left.take (next k % left.length)++left[next k % left.length]::left.drop (next k % left.length+1):=by rw[<-ZK c,Za]
     rw[List.eraseIdx_eq_take_drop_succ]
     conv=>rhs;rw[e]
     rw[List.singleton_append];exact List.perm_middle.symm
theorem zV2 {a:Type}(next:Nat->Nat)(xs:Array a):(pickOrder next xs).toList.Perm xs.toList:=by
 have:=yk2 next xs.size 0 xs.toList #[] (by simp);unfold pickOrder;simpa using this
theorem zk1:PySem.Slot "set_iterator" "__next__" "set_iterator.__next__" :=
 .of (owner:="set_iterator") (n:="__next__") (by rw[typeLookup_type,builtinLookup_eq_fast];kernel_rfl) '(' '(' '('
   (by first | exact .inl '(' | exact .inr '(') (by rw[isSubtype_type];kernel_rfl)
theorem zD3:entryFor table "set_iterator.__next__" = some Builtin.«set_iterator.__next__»:=entryFor_of_tree (by kernel_rfl)
theorem yd0:Manifest.owners.lookup (String.ofList ['r','o','t','a','r','e','t','i','_','t','e','s'].reverse)=some Manifest.sig_set_iterator:=by kernel_rfl
theorem zG6 (a:Value):argsOk "set_iterator.__next__" ⟨[a],[]⟩:=by
 unfold argsOk;rw[signature?_of (id:="set_iterator.__next__") (n:=['_','_','t','x','e','n','_','_']) (o:=['r','o','t','a','r','e','t','i','_','t','e','s']) (by kernel_rfl) yd0];kernel_rfl
theorem zG7:PySem.Slot "set_iterator" "__iter__" "set_iterator.__iter__" :=
 .of (owner:="set_iterator") (n:="__iter__") (by rw[typeLookup_type,builtinLookup_eq_fast];kernel_rfl) '(' '(' '('
   (by first | exact .inl '(' | exact .inr '(') (by rw[isSubtype_type];kernel_rfl)
theorem entry_si_iter:entryFor table "set_iterator.__iter__" = some Builtin.«dict_keyiterator.__iter__» :=
 entryFor_alias (id':="dict_keyiterator.__iter__") (by kernel_rfl) rfl '(' (by kernel_rfl)
theorem args_si_iter (a:Value):argsOk "set_iterator.__iter__" ⟨[a],[]⟩:=by
 unfold argsOk;rw[signature?_of (id:="set_iterator.__iter__") (n:=['_','_','r','e','t','i','_','_']) (o:=['r','o','t','a','r','e','t','i','_','t','e','s']) (by kernel_rfl) yd0];kernel_rfl
theorem entry_s_iter:entryFor table "set.__iter__" = some Builtin.«frozenset.__iter__» :=
 entryFor_alias (id':="frozenset.__iter__") (by kernel_rfl) rfl '(' (by kernel_rfl)
def zr1 (h:Heap) (it a:Addr) (slot i n ep:Nat):Prop:=∃o,h.get? it=some o/\o.cls = .type "set_iterator"/\o.data = .fields #[.int slot 0,.int i 0,.ref a,.int n 0,.int ep 0]
def zt8 (h:Heap)(a:Addr)(es:Array (Int×Value))(ep:Nat)(t:SetTable):Prop:=∃o,h.get? a=some o/\o.ExactSet/\o.data = .set es ep t
noncomputable def ordOf (w:World)(a:Addr)(ep:Nat)(es:Array (Int×Value)):Array (Int×Value):=if byT w=true then pickOrder (w.params.setOrder a ep) es else es
noncomputable def zi4 (w:World)(t:SetTable):Nat->Nat
 | 0=>0
 | i+1=>if byT w=true then 0 else t.place.getD i 0+1
structure SetGood (w:World)(es:Array (Int×Value))(t:SetTable):Prop where
 fits:t.fits es.size=true
 size:t.place.size=es.size
 plain:t.plain=true
 led:byT w=false->t.led=true
 up:t.place.toList.Pairwise (· < ·)
theorem ord_size (w:World)(a:Addr)(ep:Nat)(es:Array (Int×Value)):(ordOf w a ep es).size=es.size:=by
 unfold ordOf
 split
 . rw[<-Qu,(zV2 _ _).length_eq,Qu]
 . rfl
theorem ord_perm (w:World)(a:Addr)(ep:Nat)(es:Array (Int×Value)):(ordOf w a ep es).toList.Perm es.toList:=by
 unfold ordOf
 split
 . exact zV2 _ _
 . exact .refl _
section
variable {prog:Program} {w:World} {A:Around} {E:VP} {s:Shared} {a it:Addr} {es:Array (Int×Value)} {ep:Nat} {t:SetTable}
theorem zt8.typeIs (x:zt8 s.heap a es ep t):s.TypeIs (.ref a) "set":=let⟨o,b,c,_⟩:=x;⟨o,b,c.1⟩
theorem zt8.at_ {h h':Heap}(x:zt8 h a es ep t)(k:∀o,h.get? a=some o->h'.get? a=some o):zt8 h' a es ep t:=let⟨o,b,r⟩:=x;⟨o,k o b,r⟩
theorem zr1.typeIs {b i n:Nat} (x:zr1 s.heap it a b i n ep):s.TypeIs (.ref it) "set_iterator":=let⟨o,c,d,_⟩:=x;⟨o,c,d⟩
theorem sl {j:Nat}(a:byT w=false):zi4 w t (j+1)=t.place.getD j 0+1:=by
 show(if byT w=true then 0 else _)=_;rw[Qg (by rw[a];decide)]
theorem si_next {i:Nat}{Q:Option Value->Shared->Prop}(g:SetGood w es t)(u:zr1 s.heap it a (zi4 w t i) i es.size ep)(V:zt8 s.heap a es ep t)(a5:a≠it)(c:i<es.size)
   (W:∀n,zr1 n it a (zi4 w t (i+1)) (i+1) es.size ep->Heap.SameBut it s.heap n->Q (some ((ordOf w a ep es)[i]'(by rw[ord_size];exact c)).2) { s with heap:=n }):wpAny '*' A (pyNext (.ref it)) Q E s:=by
 have C:=u.typeIs;obtain⟨a8,o,X,h⟩:=id u;obtain⟨os,k,a6,l⟩:=id V;unfold pyNext;refine Qa (wpAny_attempt (wpAny_callSpecial?_slot (name:=Str.ofString "__next__") C zk1 (wpAny_call_entry zk1 C zD3 ?_ (zG6 _))));unfold Builtin.«set_iterator.__next__»;refine Qa (m:=slotArgs _ _ _) (Qd (Qa (wpAny_fieldsOf o h ?_)));dsimp only;refine Qa (wpAny_setEntries_of k l g.fits ?_);rw[Qg (by simp)];refine Qa ?_;have Y:∀(R:Option (Value×Nat)->Shared->Prop) (D:VP),R (some (((ordOf w a ep es)[i]'(by rw[ord_size];exact c)).2,zi4 w t (i+1))) s->wpAny '*' A.in1 (setNext a (zi4 w t i) i ep) R D s:=λR D e=>by
   unfold setNext;refine Qa (wpAny_setState_of k l g.fits ?_);dsimp only;unfold setsByText;refine Qa (Qa (wpAny_askSetting (Qd ?_)));cases b:byT w with
   | true =>
     have f:('*'.w.params.followText "set-order")=true:=b;have F:ordOf w a ep es=pickOrder (w.params.setOrder a ep) es:=by unfold ordOf;rw[Ql b]
     have G:∀j,zi4 w t j=0:=λj=>by cases j with
       | zero=>rfl
       | succ j=>show(if byT w=true then 0 else _)=0;rw[Ql b]
     dsimp only;rw[Ql f,Qg (by simp)];refine Qa ?_;unfold setWalk;refine Qa (wpAny_setState_of k l g.fits ?_);dsimp only;unfold setsByText;refine Qa (Qa (wpAny_askSetting (Qd ?_)));dsimp only;rw[Ql f];refine Qa (wpAny_askSetting (Qd (Qd ?_)));dsimp only;have T:i<(pickOrder (w.params.setOrder a ep) es).size:=by rw[<-F,ord_size];exact c
     rw[Zh _ i T,G i];rw[G (i+1)] at e;have p:((ordOf w a ep es)[i]'(by rw[ord_size];exact c))=(pickOrder (w.params.setOrder a ep) es)[i]:=by congr 1
     rw[p] at e;exact e
   | false =>
     have f:¬ ('*'.w.params.followText "set-order")=true:=by rw[show '*'.w.params.followText "set-order" = false from b];decide
     have F:ordOf w a ep es=es:=by unfold ordOf;rw[Qg (by rw[b];decide)]
     have H:=g.plain;have I:=g.led b;have J:=g.up;have hz:=g.size;dsimp only;rw[Qg f];have K:SetTable.below t.place (zi4 w t i)=i:=by
       obtain⟨L,M,Z⟩:=zP2 t.place (zi4 w t i) J;have mono:∀x y,x<y->y<t.place.size->t.place.getD x 0<t.place.getD y 0:=λx y U N=>by
         have:=Zm.mp J x y (by simp;omega) (by simpa using N) U;simpa [Array.getD,N,show x<t.place.size by omega] using this
       have O:∀x d,x<t.place.size->t.place.getD x d=t.place.getD x 0:=λx d hx=>by simp[Array.getD,hx]
       generalize hB:SetTable.below t.place (zi4 w t i)=B at L M Z;rcases Nat.lt_trichotomy B i with z | z | z
       . exfalso
         obtain⟨j,rfl⟩:∃j,i=j+1:=⟨i-1,by omega⟩;have q:=M B (Qi _) '!';rw[sl (by exact b),O B (t.place.getD j 0+1) '!'] at q;rcases QP B j with y | y
         . have:=mono B j y '!';omega
         . obtain rfl:B=j:=by omega
           omega
       . exact z
       . exfalso
         have q:=L i z;rw[O _ _ '!'] at q;cases i with
         | zero=>exact absurd q (Nat.not_lt_zero _)
         | succ j =>
           rw[sl b] at q;have:=mono j (j+1) '!' '!';omega
     have e5:zi4 w t (i+1)=t.place[i]' '!'+1:=by
       rw[sl b];simp[Array.getD,show i<t.place.size by omega]
     have p:((ordOf w a ep es)[i]'(by rw[ord_size];exact c))=es[i]:=by congr 1
     rw[p,e5] at e;have v:i<t.place.size:=by omega
     obtain⟨a4,S,a0,a1,a7,a2,a3⟩:=t;dsimp only at H I;subst H I;rw[Qg (by intro z;exact Bool.noConfusion (show false=true from z))];refine Qa (Qd ?_);dsimp only at K v e ⊢;rw[K];rw[Zh es i c,Zh S i v];exact Qd e
 refine Y _ _ ?_;dsimp only;refine Qa (wpAny_setField o h (by simp) ?_);have P:=Zq (Obj.mapFields (·.setIfInBounds 0 (rawInt (zi4 w t (i+1):Int)))) o (Obj.isFreed_of_fields (Obj.data_mapFields h _));have r:=Obj.data_mapFields h (·.setIfInBounds 0 (rawInt (zi4 w t (i+1):Int)));refine Qa (wpAny_setField (s:={ s with heap:=_ }) P r (by simp) ?_);have g2:=Zq (Obj.mapFields (·.setIfInBounds 1 (rawInt ((i:Int)+1)))) P (Obj.isFreed_of_fields (Obj.data_mapFields r _));have d2:=Obj.data_mapFields r (·.setIfInBounds 1 (rawInt ((i:Int)+1)));refine Qd ⟨_,rfl,Qd (W _ ⟨_,g2,?_,?_⟩ ((Heap.SameBut.update s.heap it _).trans (Heap.SameBut.update _ it _)))⟩
 . rw[Obj.cls_mapFields,Obj.cls_mapFields]
   exact X
 . rw[d2]
   simp[rawInt]
theorem si_end {Q:Option Value->Shared->Prop}(G:A.handled=none)(g:SetGood w es t)(h:zr1 s.heap it a (zi4 w t es.size) es.size es.size ep)(H:zt8 s.heap a es ep t)(Z:a≠it)
   (I:∀i,Heap.ExtBut it s.heap i->Q none { s with heap:=i }):wpAny '*' A (pyNext (.ref it)) Q E s:=by
 have k:=h.typeIs;obtain⟨a2,l,hc,n⟩:=id h;obtain⟨os,e,a0,f⟩:=id H;unfold pyNext;refine Qa (wpAny_attempt (wpAny_callSpecial?_slot (name:=Str.ofString "__next__") k zk1 (wpAny_call_entry zk1 k zD3 ?_ (zG6 _))));unfold Builtin.«set_iterator.__next__»;refine Qa (m:=slotArgs _ _ _) (Qd (Qa (wpAny_fieldsOf l n ?_)));dsimp only;refine Qa (wpAny_setEntries_of e f g.fits ?_);rw[Qg (by simp)];refine Qa ?_;have J:∀(R:Option (Value×Nat)->Shared->Prop) (o:VP),R none s->wpAny '*' A.in1 (setNext a (zi4 w t es.size) es.size ep) R o s:=λR o p=>by
   unfold setNext;refine Qa (wpAny_setState_of e f g.fits ?_);dsimp only;unfold setsByText;refine Qa (Qa (wpAny_askSetting (Qd ?_)));cases c:byT w with
   | true =>
     have d:('*'.w.params.followText "set-order")=true:=c;have K:ordOf w a ep es=pickOrder (w.params.setOrder a ep) es:=by unfold ordOf;rw[Ql c]
     dsimp only;rw[Ql d,Qg (by simp)];refine Qa ?_;unfold setWalk;refine Qa (wpAny_setState_of e f g.fits ?_);dsimp only;unfold setsByText;refine Qa (Qa (wpAny_askSetting (Qd ?_)));dsimp only;rw[Ql d];refine Qa (wpAny_askSetting (Qd (Qd ?_)));dsimp only;have L:(pickOrder (w.params.setOrder a ep) es)[es.size]?=none:=by
       rw[<-K];exact Array.getElem?_eq_none (by rw[ord_size];exact Qi _)
     have M:(pickOrder ('*'.w.params.setOrder a ep) es)[es.size]?=none:=L;rw[M];exact p
   | false =>
     have d:¬ ('*'.w.params.followText "set-order")=true:=by rw[show '*'.w.params.followText "set-order" = false from c];decide
     have r:=g.plain;have u:=g.led c;have v:=g.up;have hz:=g.size;dsimp only;rw[Qg d];have C:es.size<=SetTable.below t.place (zi4 w t es.size):=by
       obtain⟨b1,N,b3⟩:=zP2 t.place (zi4 w t es.size) v;rcases QP (SetTable.below t.place (zi4 w t es.size)) es.size with z | z
       . exfalso
         have mono:∀x y,x<y->y<t.place.size->t.place.getD x 0<t.place.getD y 0:=λx y F D=>by
           have:=Zm.mp v x y (by simp;omega) (by simpa using D) F;simpa [Array.getD,D,show x<t.place.size by omega] using this
         have q:=N _ (Qi _) '!';generalize SetTable.below t.place (zi4 w t es.size)=B at q z;obtain⟨j,O⟩:∃j,es.size=j+1:=⟨es.size-1,by omega⟩;rw[O,sl c] at q;have P:t.place.getD B (t.place.getD j 0+1)=t.place.getD B 0:=by simp[Array.getD,show B<t.place.size by omega]
         rw[P] at q;rcases QP B j with y | y
         . have:=mono B j y '!';omega
         . obtain rfl:B=j:=by omega
           omega
       . exact z
     obtain⟨Y,V,S,U,a1,W,X⟩:=t;dsimp only at r u;subst r u;rw[Qg (by intro z;exact Bool.noConfusion (show false=true from z))];refine Qa (Qd ?_);dsimp only at C ⊢;rw[Array.getElem?_eq_none C];exact Qd p
 refine J _ _ ?_;dsimp only;refine Qa (wpAny_setField l n (by simp) ?_);refine Qa ?_;simp only[newExc,newTuple];refine Qa (wpAny_newObj_type ?_ (by size_fits));refine Qa (m:=firstArgMember _ _) (wpAny_of_eq (a:=Value.none) (by first | rfl | (simp only[firstArgMember];rfl)) ?_);refine wpAny_newObj_type ?_ (by size_fits);simp only[raiseNew];refine Qa (wpAny_handled ?_);rw[show A.in1.handled=none from G];refine Qa (Qd (wpAny_throw ?_));refine Qa (wpAny_isInstance (T:="StopIteration") (b:=true) ⟨_,Qj _ rfl,rfl⟩ isSubtype_stop ?_);exact Qd (I _ (((Heap.SameBut.update ..).extBut.push _).push _))
theorem s_iter {Q:VP}(g:SetGood w es t)(d:zt8 s.heap a es ep t)
   (i:Q (.ref s.heap.objs.size) { s with heap:=s.heap.push { cls:=.type "set_iterator",data:=.fields #[.int 0 0,.int 0 0,.ref a,.int es.size 0,.int ep 0] } }):wpAny '*' A (pyIter (.ref a)) Q E s:=by
 have e:=d.typeIs;obtain⟨u,b,q,c⟩:=id d;refine wpAny_pyIter_slot e PySem.F.slot_set_iter (wpAny_call_entry PySem.F.slot_set_iter e entry_s_iter ?_ (PySem.F.args_set_iter_1 _));unfold Builtin.«frozenset.__iter__» Builtin.Frozenset.slot0;refine Qa (Qa (m:=slotArgs _ _ _) (Qd (Qd ?_)));unfold Builtin.Frozenset.sizeOf;refine Qa (Qa (wpAny_setEntries_of b c g.fits (Qd ?_)));unfold setDrawn;refine Qa (Qa (wpAny_setState_of b c g.fits ?_));dsimp only;unfold setsByText;refine Qa (Qa (wpAny_askSetting (Qd (Qd ?_))));dsimp only;have f:=g.plain;obtain⟨p,l,j,k,r,n,o⟩:=t;dsimp only at f;subst f;rw[Qg (by
   intro z;have h:(!('*'.w.params.followText "set-order") && false)=true:=z;rw[Bool.and_false] at h;exact Bool.noConfusion h)]
 refine Qa (Qd (Qa ?_));unfold setEpoch;refine Qa (wpAny_setState_of b c g.fits (Qd ?_));exact Qa (wpAny_newObj_type (Qd ⟨_,rfl,"set_iterator",_,⟨_,Qj _ rfl,rfl⟩,zk1.lookup,i⟩))
theorem s_hint {Q:Bool->Shared->Prop} (d:s.TypeIs (.ref a) "set") (h:Q false s):wpAny '*' A (Builtin.List.listLengthHint (.ref a)) Q E s:=by
 unfold Builtin.List.listLengthHint;refine Qa (wpAny_specialOf d PySem.F.slot_set_len.lookup ?_);generalize e:("set.__len__" : String)=f
 wp_delta
 rw[show splitId f=some ("set","__len__") from by subst e;decide +kernel];subst e;refine Qa (wpAny_isInstance (T:="set") (b:=true) d (by rw[isSubtype_type];kernel_rfl) ?_);refine wpAny_ite_split (λc=>absurd c '&') (λ_=>?_);refine wpAny_ite_split (λ_=>?_) (λc=>absurd '(' c);refine Qa (wpAny_typeOf d ?_);exact Qd h
theorem s_walks (x:A.handled=none)(I a:Addr)(j:a≠I)(g:SetGood w es t)(ep:Nat) :
   Walks prog w A I [I,a] [I] es.size (λi v=>∃h:i<es.size,v=((ordOf w a ep es)[i]'(by rw[ord_size];exact h)).2) (λi h=>zr1 h I a (zi4 w t i) i es.size ep/\zt8 h a es ep t) where
 sub:=λb d=>by simp at d;simp[d]
 frame:=λ_ _ _ c n=>⟨let⟨o,y,r⟩:=c.1;⟨o,n I (by simp) o y,r⟩,c.2.at_ λo e=>n a (by simp) o e⟩
 item:=λi s Q E p c f=>si_next g c.1 c.2 j p λk q m=>f _ k s.toks ⟨p,rfl⟩ ⟨q,c.2.at_ λo e=>m.extBut a o j e⟩ λb o d e=>m.extBut b o (λh=>d (by simp[h])) e
 done:=λs Q E c f=>si_end x g c.1 c.2 j λk u=>f k s.toks λb o d e=>u b o (λh=>d (by simp[h])) e
 self:=λs Q E i c f=>by
   have l:=c.1.typeIs;refine wpAny_pyIter_slot l zG7 (wpAny_call_entry zG7 l entry_si_iter ?_ (args_si_iter _));show wpAny _ _ (ret (.ref I)) _ _ _;exact Qd ⟨_,rfl,"set_iterator",_,l,zk1.lookup,f⟩
theorem s_src (g:SetGood w es t):KdlSrc prog w "set" a a es.size (λi v=>∃h:i<es.size,v=((ordOf w a ep es)[i]'(by rw[ord_size];exact h)).2) (λh=>zt8 h a es ep t) where
 type:=λ_ b=>b.typeIs
 there:=λ_ b=>⟨let⟨_,c,_⟩:=b;Qo c,let⟨_,c,_⟩:=b;Qo c⟩
 keep:=λ_ _ b f=>b.at_ λo e=>f a (.inl rfl) o e
 notList:=by decide
 notTuple:=by decide
 hint:=λ_ _ _ _ b d=>s_hint b.typeIs d
 iter:=λ_ _ j b=>⟨_,_,(λ_ _ d=>s_iter g b d),s_walks j _ a (Qz (let⟨_,c,_⟩:=b;Qo c)) g ep,⟨⟨_,Qj _ rfl,rfl,rfl⟩,b.at_ λo e=>Qc _ e⟩⟩
end
end Sx
namespace L2
open PySem PySem.Spec PyProof.Rows
noncomputable def SetV (w:World)(p:Addr)(ms:'#'):HO:=.ext λh=>∃ep,Sx.SetS (Sx.byT w) h p ms ep
section
variable {X:Cx}
theorem call_setI (f:X.calm=true):zi1 X (.type "set") (λc H Q=>∃(l:Addr) (b:'#'),c=[.ref l]/\SqL X.K H l (b.map V.int)/\(∀n∈b,1<=n/\n<=5)/\∀p a,H p=none->(∀x,x∈a↔x∈b)->a.Pairwise (· < ·)->Q (.ref p) (upd H p (SetV X.w p a))):=by
 intro B s L H c D Q I r h;obtain⟨l,b,rfl,g,d,q⟩:=h;obtain⟨u,rfl,i⟩:=zp8 r;cases i;obtain⟨C,j,p,E⟩:=I.list g;refine Sx.call_setS (I.ok.hd f) p.isList (by simpa using zl3 j) d λF m a v S w k=>?_
 refine⟨.ref s.heap.objs.size,_,I.laid (t':=m) (o:=SetV X.w s.heap.objs.size a) k (Qi _) ?_,rfl,q _ a (I.hok.fresh (Qi _)) w S.up⟩;refine⟨⟨v,S⟩,?_,λG J ⟨e,y⟩ z=>⟨e,y.other z⟩⟩;obtain⟨o,K,t,A,_⟩:=S.st;exact⟨o,A⟩
theorem sorted_eq {a b:'#'}(p:a.Perm b)(c:a.Pairwise (·<=·))(d:b.Pairwise (· < ·)):a=b:=W.ksm_same p c (d.imp λz=>Int.le_of_lt z)
theorem yd1:∀ {a:List (Int×Value)} {b:'#'},Sx.ElsAre a b->IntsAre (a.map (·.2)) b
 | _,_,.nil=>.nil
 | _,_,.cons ⟨_,c,h⟩ t=>by
   rw[QB,h];exact .cons _ _ (yd1 t)
theorem ints_perm {vs us:')'}{ns:'#'}(p:vs.Perm us)(h:IntsAre us ns):∃a,IntsAre vs a/\a.Perm ns:=by
 induction p generalizing ns with
 | nil=>cases h;exact⟨[],.nil,.nil⟩
 | cons x _ f =>
   cases h with
   | cons n t h=>obtain⟨a,b,c⟩:=f h;exact⟨n::a,.cons n t b,c.cons n⟩
 | swap x y l =>
   cases h with
   | cons n t h=>cases h with
     | cons m u h=>exact⟨m::n::_,.cons m u (.cons n t h),.swap _ _ _⟩
 | trans _ _ d e =>
   obtain⟨a,b,c⟩:=e h;obtain⟨g,i,j⟩:=d b;exact⟨g,i,j.trans c⟩
theorem call_sortS (U:X.calm=true):zi1 X (.builtin "sorted") (λA H Q=>∃(p:Addr) (e:'#'),A=[.ref p]/\H p=some (SetV X.w p e)/\∀l,H l=none->Q (.ref l) (upd H l (.lst (e.map V.int)))):=by
 intro J s σ H A us Q I a0 a4;obtain⟨p,e,rfl,Y,q⟩:=a4;obtain⟨u,rfl,Z⟩:=zp8 a0;cases Z;obtain⟨⟨ep,a5⟩,_,_⟩:=(show ze6 X.prog X.w H s.heap p (SetV X.w p e) from I.hok p _ Y);obtain⟨⟨o,f,t,ho,K,hd,v,w,L,M,N,O⟩,n,B⟩:=a5;have h5:=(Sx.five n B).1;have C:=v.len;have x:t.place.size=f.size:=by rw[<-Qu,w,Qb,<-C,Qu]
 have P:f.size=e.length:=by rw[<-C,Qu]
 have a6:Sx.SetGood X.w f t:=⟨Sx.fits_of x L (by rw[M];split<;>omega),x,N,O,by rw[w];exact Sx.nat_up n B⟩;refine Calls.call_function_entry kind_sorted plain_sorted entry_sorted (args_sorted1 _) ?_;unfold Builtin.«sorted»;refine Qa (m:=checkCount "sorted" 1 1 _) (Qd ?_);refine Qa (W.kdu_collect (Sx.s_src (ep:=ep) a6) (show X.A.in1.handled=none from I.ok.hd U) ⟨o,ho,K,hd⟩ (by rw[sizeLine_eq];omega) λd h a k1 i=>?_);have a7:a.toList=(Sx.ordOf X.w p ep f).toList.map (·.2):=by
   apply List.ext_getElem?;intro j;rcases QP j f.size with z | z
   . have D:j<a.size:=by rw[i.1];exact z
     obtain⟨_,q⟩:=i.2 j a[j] (Zh a j D);have R:j<(Sx.ordOf X.w p ep f).size:=by rw[Sx.ord_size];exact z
     rw[QU,Zh a j D,QK,QU,Zh _ j R,q];rfl
   . rw[QT (by rw[Qu,i.1];exact z),QT (by rw[Qb,Qu,Sx.ord_size];exact z)]
 obtain⟨ns,hi,S⟩:=ints_perm (vs:=a.toList) (us:=f.toList.map (·.2)) (ns:=e) (by rw[a7];exact(Sx.ord_perm X.w p ep f).map _) (yd1 v);have T:a.toList.length=e.length:=by rw[Qu,i.1,P]
 refine Qa (wpAny_newList ?_ (by rw[T,sizeLine_eq];omega));have k:(d.push (seqObj "list" a.toList.toArray 0)).get? d.objs.size=some (seqObj "list" a.toList.toArray 0):=Qj _ rfl;show wpAny _ _ _ _ _ { s with heap:=d.push (seqObj "list" a.toList.toArray 0),toks:=h };refine Qa (wpAny_holding (wpAny_call_entry slot_list_sort ⟨_,k,rfl⟩ entry_list_sort (list_sort_tree (s:={ s with heap:=d.push (seqObj "list" a.toList.toArray 0),toks:=h }) k hi '!' λg y a1 a2 a3=>⟨_,rfl,?_⟩) (args_list_sort _)));have E:Inv X J σ H { s with heap:=d,toks:=h }:=I.kept k1;have en:y=e:=sorted_eq (a2.trans S) a3 n;subst en;have ke:∀b u,d.get? b=some u->(sortedHeap (d.push (seqObj "list" a.toList.toArray 0)) d.objs.size a.toList g).get? b=some u:=λb u z=>by
   have F:b≠d.objs.size:=Qz (Qo z);unfold sortedHeap;rw[Heap.get?_update_ne _ _ _ _ F];refine Qc _ (Qc _ ?_);rw[Heap.get?_update_ne _ _ _ _ F];exact Qc _ z
 have r:∃c,(sortedHeap (d.push (seqObj "list" a.toList.toArray 0)) d.objs.size a.toList g).get? d.objs.size=some (seqObj "list" g.toList.toArray c):=by
   obtain⟨G,g1⟩:∃G,((d.push (seqObj "list" a.toList.toArray 0)).update d.objs.size (Obj.mapSeq λ_=>(#[]:Array Value))).get? d.objs.size=some (seqObj "list" #[] G):=⟨_,get?_update_seq k λ_=>#[]⟩;have g2:=Qc (seqObj "list" #[] 0) (Qc (seqObj "tuple" a.toList.toArray 0) g1);rw[Array.toArray_toList];exact⟨_,get?_update_seq g2 λ_=>g⟩
 obtain⟨c,r⟩:=r;refine Qd ⟨_,rfl,⟨.ref d.objs.size,_,E.laid (s:={ s with heap:=d,toks:=h }) (t':=h) (o:=.lst (y.map V.int)) ke (Qi _) (show ze6 X.prog X.w _ _ _ (.lst _) from⟨?_,g.toList,c,?_,r⟩),rfl,q _ (E.hok.fresh (Qi _))⟩⟩
 . rw[Qb,sizeLine_eq];omega
 . exact zB5 a1
end
end L2
namespace L2
open PySem
theorem Same.tups {H H':Hp}(s:Same H H'){ys:List V}{a:List (List Int)}(h:Tups H ys a):Tups H' ys a:=Paired.mapP h λy k ⟨b,e,c⟩=>⟨b,e,s _ _ c⟩
theorem tups_keep {H:Hp}{l:Addr}{o u:HO}(d:H l=some o)(f:∀g,o≠.tup g){ys:List V}{c:List (List Int)}(h:Tups H ys c):Tups (upd H l u) ys c :=
 Paired.mapP h λy k ⟨b,e,a⟩=>⟨b,e,by rw[za8 (λz=>by rw[z,d] at a;injection a with a;exact f _ a)];exact a⟩
theorem tups_snoc {H:Hp}{ys:List V}{a:List (List Int)}(h:Tups H ys a){b:Addr}{k:'#'}(c:H b=some (.tup (k.map V.int))):Tups H (ys++[.ref b]) (a++[k]):=Paired.snoc h ⟨b,rfl,c⟩
theorem pat {b c:Type}{R:b->c->Prop}{xs:List b}{ys:List c}(h:Paired R xs ys):∀ {i:Nat} {x:b},xs[i]?=some x->∃y,ys[i]?=some y/\R x y:=by
 induction h with
 | nil =>
   intro i x e;rw[List.getElem?_nil] at e;cases e
 | cons a t d =>
   intro i x e;cases i with
   | zero=>exact⟨_,rfl,Qx e▸a⟩
   | succ i=>exact d e
theorem zZ5 {H:Hp}{ys:List V}{a:List (List Int)}(h:Tups H ys a){i:Nat}{y:V}(e:ys[i]?=some y):∃b k,y = .ref b/\a[i]?=some k/\H b=some (.tup (k.map V.int)):=by
 obtain⟨k,c,b,d,f⟩:=pat h e;exact⟨b,k,d,c,f⟩
theorem zz6 {H:Hp}{ys:List V}{a:List (List Int)}(h:Tups H ys a):ys.length=a.length:=Paired.length h
theorem zf7.same {H a c:Hp}{l:Addr}(s:Same H a)(d:H l=none)(x:zf7 l a c):Same H c:=λb o e=>x b o (s b o e) (zb5 e d)
theorem Same.x {H a:Hp}{l:Addr}(s:Same H a):zf7 l H a:=λb o e _=>s b o e
theorem zf7.trans {H a c:Hp}{l:Addr}(s:zf7 l H a)(s':zf7 l a c):zf7 l H c:=λb o e d=>s' b o (s b o e d) d
theorem zf7.updX {H a:Hp}{l:Addr}{o:HO}(s:zf7 l H a):zf7 l H (L2.upd a l o):=λb u e c=>by rw[za8 c];exact s b u e c
theorem zf7.put {H c:Hp}{l a:Addr}{o:HO}(s:zf7 l H c)(h:H a=none):zf7 l H (L2.upd c a o):=λb u e d=>by rw[za8 (zb5 e h)];exact s b u e d
theorem zf7.free {H b:Hp}{l a:Addr}(s:zf7 l H b)(h:b a=none)(c:b l≠none):H a=none:=by
 cases e:H a with
 | none=>rfl
 | some o =>
   by_cases z:a=l
   . rw[z] at h;exact absurd h c
   . rw[s a o e z] at h;cases h
theorem pe_bmK {X:Cx} {o e:Expr} {es:List Expr} {c:TE} {t:TA} {name:Str} {b a:Pos} {T id:String} {r:V->List V->Hp->VK->Prop} (K:W.Frag) (h:X.K=K) (l:PlainAttrs T) (i:Slot T name id) (k:typeOf (.builtin id)=pure (.type "method_descriptor")) (m:MtR X id r) (n:PE X o c) (p:PA X (e::es) t)
 (f:attributeBase o name X.env (eval o X.env)=eval o X.env:=by rfl)
 (j:((backTo a (starEach (e::es) X.env)).all (λx=>!x.1) && (backToKw a (keywordEach [] X.env)).all (λx=>x.1.isSome)
   && decide ((e::es).length+([]:List Keyword).length+(if ([]:List Keyword).isEmpty then 0 else 1)<30))=true:=by rfl)
 (g:(b.endLine == a.line)=true:=by rfl) (q:starEach (e::es) X.env=(false,eval e X.env)::starEach es X.env:=by rfl) (d:(backTo a (starEach es X.env)).any (·.1)=false:=by rfl) :
 PE X (.Call (.Attribute o name b) (e::es) [] a) (tBM K T r c t):=h▸zk5 l i k m n p f j g q d
end L2
namespace L2
open PySem PySem.Spec PyProof.Rows
section
variable {X:Cx}
end
theorem call_minL {X:Cx} (y:X.calm=true):zi1 X (.builtin "min") (λg H Q=>∃p c,g=[.ref p]/\SqL X.K H p (List.map V.int c)/\0<c.length/\∀M,M∈c->(∀a∈c,M<=a)->Q (.int M) H):=by
 intro J s R H g K Q I r h;obtain⟨p,c,rfl,z,o,q⟩:=h;obtain⟨u,rfl,A⟩:=zp8 r;cases A;obtain⟨w,B,C,L⟩:=I.list z;have k:IntsAre w c:=zl3 B;obtain⟨b,e⟩:=k.allInts.items;have d:c=b.toList.map (·.1):=by
   rw[<-k.numsOf,<-nums_intItems,<-e]
 have x:0<b.size:=by
   have l:=o;rw[d,Qb,Qu] at l;exact l
 have m:=C.isList;rw[e] at m;refine min_intList (I.ok.hd y) m x λv N O D E=>?_
 obtain⟨t,rfl⟩:=intItems_at D;obtain⟨P,F⟩:=argBest_lt (numAt b) (b.size-1);refine⟨.int _,H,I.kept E,⟨t,rfl⟩,q _ ?_ λa n=>?_⟩
 . have f:argBest (λi j=>decide (numAt b i<numAt b j)) (b.size-1)<(b.toList.map (·.1)).length:=by rw[Qb,Qu];omega
   rw[d,numAt_eq,Qw,Qf f];exact Zu f
 . rw[d] at n
   obtain⟨j,G,rfl⟩:=mem_getD n;rw[Qb,Qu] at G;rw[<-numAt_eq];exact F j '!'
end L2
open PySem
namespace L2
noncomputable def zV3 (x y:V):Bool:=scal x y && (match x with | .byt _=>false | _=>true)
theorem scalE_scal {x y:V}(h:zV3 x y=true):scal x y=true:=(Bool.and_eq_true_iff.mp h).1
theorem eqat_scal {A:Around}{s:Shared}{x y:V}{v u:Value}(e:zV3 x y=true)(d:RelV x v)(a:RelV y u):PySem.SeqAt.EqAt A s v u (decide (x=y)):=by
 have c:=scalE_scal e;cases x with
 | non =>
   cases d;cases y with
   | non=>cases a;exact PySem.SeqAt.EqAt.same _
   | bl j=>cases a;exact PySem.SeqAt.EqAt.none_bool _
   | int j=>obtain⟨b,rfl⟩:=a;exact PySem.SeqAt.EqAt.none_int _ _
   | str j=>obtain⟨b,rfl⟩:=a;exact PySem.SeqAt.EqAt.none_str _ _
   | _=>exact absurd (show false=true from c) Qp
 | bl i =>
   cases d;cases y with
   | non=>cases a;exact PySem.SeqAt.EqAt.bool_none _
   | bl j=>cases a;rw[yf4];exact PySem.SeqAt.EqAt.bool_bool _ _
   | str j=>obtain⟨b,rfl⟩:=a;exact PySem.SeqAt.EqAt.bool_str _ _ _
   | _=>exact absurd (show false=true from c) Qp
 | int i =>
   obtain⟨t,rfl⟩:=d;cases y with
   | non=>cases a;exact PySem.SeqAt.EqAt.int_none _ _
   | int j=>obtain⟨b,rfl⟩:=a;rw[zX8];exact PySem.SeqAt.EqAt.int_int _ _ _ _
   | str j=>obtain⟨b,rfl⟩:=a;exact PySem.SeqAt.EqAt.int_str _ _ _ _
   | _=>exact absurd (show false=true from c) Qp
 | str i =>
   obtain⟨t,rfl⟩:=d;cases y with
   | non=>cases a;exact PySem.SeqAt.EqAt.str_none _ _
   | bl j=>cases a;exact PySem.SeqAt.EqAt.str_bool _ _ _
   | int j=>obtain⟨b,rfl⟩:=a;exact PySem.SeqAt.EqAt.str_int _ _ _ _
   | str j=>obtain⟨b,rfl⟩:=a;rw[zX9];exact PySem.SeqAt.EqAt.str_str _ _ _ _
   | _=>exact absurd (show false=true from c) Qp
 | byt i=>have:=(Bool.and_eq_true_iff.mp e).2;cases this
 | _=>cases y<;>exact absurd (show false=true from c) Qp
noncomputable def eAt (xs ys:List V)(j:Nat):Bool:=match xs[j]?,ys[j]? with | some x,some y=>decide (x=y) | _,_=>true
theorem zZ6:∀ {xs ys:List V},xs.length=ys.length->(List.range xs.length).all (eAt xs ys)=decide (xs=ys)
 | [],[],_=>rfl
 | x::xs,y::ys,h=>by
   have a:=zZ6 (xs:=xs) (ys:=ys) (by simpa using h);rw[QE,List.range_succ_eq_map,List.all_cons,List.all_map];have e:(eAt (x::xs) (y::ys) ∘ Nat.succ)=eAt xs ys:=by funext j;rfl
   rw[e,a];show(decide (x=y) && decide (xs=ys))=_;simp
theorem zM1:∀ {a:List V} {b:')'},Vals a b->∀ {j:Nat} {x:V},a[j]?=some x->∃u,b[j]?=some u/\RelV x u
 | _,_,.nil,j,x,h=>by simp at h
 | _,_,.cons r t,0,x,h=>⟨_,rfl,by obtain rfl:=Qx h;exact r⟩
 | _,_,.cons r t,j+1,x,h=>zM1 t (j:=j) h
theorem zP4 {A:Around}{s:Shared}{xs ys:List V}{us vs:')'}(e:Vals xs us)(f:Vals ys vs)(i:∀(j:Nat) x y,xs[j]?=some x->ys[j]?=some y->zV3 x y=true)(j:Nat)(g:j<us.toArray.size)(h:j<vs.toArray.size):PySem.SeqAt.EqAt A s us.toArray[j] vs.toArray[j] (eAt xs ys j):=by
 rw[Qk] at g h;have k:=e.length;have l:=f.length;have b:xs[j]?=some xs[j]:=Qf '!';have c:ys[j]?=some ys[j]:=Qf '!';unfold eAt;rw[b,c];refine eqat_scal (i j _ _ b c) ?_ ?_
 . obtain⟨u,a,d⟩:=zM1 e b
   rw[List.getElem_toArray];rw[Qf g] at a;rw[Qx a];exact d
 . obtain⟨u,a,d⟩:=zM1 f c
   rw[List.getElem_toArray];rw[Qf h] at a;rw[Qx a];exact d
section
variable {X:Cx}
inductive yp1 (K:PySem.W.Frag)(x:V)(y:V)(H:Hp)(Q:VK):Prop
 | mk (a b xs ys:_)(h0:x = .ref a)(h1:y = .ref b)(h2:SqT K H a xs)(h3:SqT K H b ys)(h4:(∀(j:Nat) x y,xs[j]?=some x->ys[j]?=some y->zV3 x y=true))(h5:Q (.bl (decide (xs=ys))) H):yp1 K x y H Q
def rEqT (K:PySem.W.Frag):R2:=λx y H Q=>yp1 K x y H Q
theorem yp2 (n:X.A.units<cLine):OpR X (compareOp .Eq) (rEqT X.K):=by
 intro D s G H x y v u Q I o p h;obtain⟨a,b,f,g,rfl,rfl,r,t,m,q⟩:=h;cases o;cases p;obtain⟨c,i,w,_⟩:=I.tuple r;obtain⟨d,k,A,_⟩:=I.tuple t;have E:=i.length;have F:=k.length;refine(PySem.SeqAt.RcAt.tuples (e:=eAt f g) (show s.heap.IsTuple a c.toArray from w) (show s.heap.IsTuple b d.toArray from A) n (λj B C=>zP4 i k m j B C)) _ _ _ _ (zd8 I q ?_);rw[Qk,Qk];by_cases l:f.length=g.length
 . rw[show min c.length d.length=f.length by omega,zZ6 l,show c.length=d.length by omega]
   simp
 . rw[Qe (λz=>l (by rw[z])),show(c.length == d.length)=false by simp;omega,Bool.and_false]
end
end L2
namespace L2
open PySem PySem.Spec PyProof.Rows
open Classical in
open Classical in
section
variable {X:Cx}
end
section
variable {X:Cx}
end
section
variable {X:Cx}
end
end L2
namespace L2
open PySem PySem.W PySem.Calls PyProof.Rows
theorem zV4:entryFor table "dict.update.loop" = some Builtin.«dict.update.loop»:=by rfl
theorem zB9:plainId "dict.update.loop" = true:=by decide +kernel
section
variable {prog:Program} {w:World} {A:Around} {E:VP} {s:Shared}
theorem pair_items {a:Addr}{k v:Value}{Q:')'->Shared->Prop}(d:s.heap.IsTuple a #[k,v])(q:Q [k,v] s):wpAny '*' A (Builtin.Dict.pairItems (.ref a)) Q E s:=by
 obtain⟨e,j,b,l,c⟩:=d;obtain⟨i,g,h,f⟩:=e;simp only at b c;subst b;subst c;unfold Builtin.Dict.pairItems seqItems?
 wp_walk
 exact q
noncomputable def pxs (ky:Nat->'#')(ka:Nat->Addr)(i:Nat):List (List Key×Addr×Value):=(List.range i).map λj=>(ik (ky j),ka j,Value.bool true)
theorem pxs_succ (a:Nat->'#')(b:Nat->Addr)(i:Nat):pxs a b (i+1)=pxs a b i++[(ik (a i),b i,.bool true)]:=by
 unfold pxs;rw[List.range_succ,Qq];rfl
theorem pxs_none {a:Nat->'#'}{b:Nat->Addr}{i:Nat}(h:∀j,j<i->ik (a j)≠ik (a i)):(atKey (pxs a b i) (ik (a i))).isSome=false:=by
 unfold atKey;rw[Option.isSome_map,List.find?_eq_none.mpr λx c=>?_]
 . rfl
 obtain⟨j,d,rfl⟩:=QQ.mp c;simpa using h j (ZJ.mp d)
theorem yk3 {knd:HeapKind prog w (List Key)}{h h':Heap}{D:Addr}{a:Nat->'#'}{b:Nat->Addr}{i:Nat}(d:Heap.DictOfH knd h D (pxs a b i))(e:∀o,h.get? D=some o->h'.get? D=some o)(c:∀j,j<i->knd.is h' (ik (a j)) (b j)):Heap.DictOfH knd h' D (pxs a b i):=by
 obtain⟨o,f,g,k,l,m,n,_,p⟩:=d;refine⟨o,f,g,e _ k,l,m,n,λx q=>?_,p⟩;obtain⟨j,r,rfl⟩:=QQ.mp q;exact c j (ZJ.mp r)
theorem tup2 {H:Hp}{h:Heap}{a k:Addr}(ok:HOk prog w H h)(e:H a=some (.tup [.ref k,.bl true])):h.IsTuple a #[.ref k,.bool true]:=by
 obtain⟨_,i,r,o,b,c,_,n,d⟩:=(show ze6 prog w H h a (.tup [.ref k,.bl true]) from ok a _ e);obtain⟨j,l,rfl,f,g⟩:=zS9 r;cases f;cases g;exact⟨o,b,c,n,d⟩
theorem keyI {H:Hp}{h:Heap}{a:Addr}{k:'#'}(ok:HOk prog w H h)(e:H a=some (.tup (k.map V.int))):(tupleKind (zf3 prog w)).is h (ik k) a:=zI9 ok (by rw[zU9];exact e)
theorem dict_loop {H:Hp}{h0:Heap}(z:∀q,(∀b o,h0.get? b=some o->q.get? b=some o)->HOk prog w H q){I:Addr}{O l:List Addr}{G:Array GenState->Array GenState->Prop}{n:Nat}{P:Nat->Value->Prop}{St:Nat->Shared->Prop}{R:Result->Shared->Prop}(W:WalksS prog w A.in1 I O l G n P St)(D:Addr)(J:D∉O)(Y:h0.get? D=none)(K:∀b∈l,h0.get? b=none)
   (hu:A.units+2<cLine) (hn:n<=1000) (f:Nat->'#') (Q c:Nat->Addr) (S:∀i v,P i v->v = .ref (Q i)) (r:∀i,i<n->H (Q i)=some (.tup [.ref (c i),.bl true])/\H (c i)=some (.tup ((f i).map V.int))) (Z:∀i j,i<j->j<n->ik (f i)≠ik (f j)) :
   ∀(k i:Nat) (s:Shared),n-i=k->i<=n->St i s->(∀b o,h0.get? b=some o->s.heap.get? b=some o)->Heap.DictOfH (tupleKind (zf3 prog w)) s.heap D (pxs f c i) →
     (∀a,Moved (D::l) G s a->Heap.DictOfH (tupleKind (zf3 prog w)) a.heap D (pxs f c n)->R (.ok (.ret .none)) a) →
     codeAny '*' A (.builtin "dict.update.loop" ⟨[.ref D,.ref I,rawInt (i:Int),.none],[]⟩) R s:=by
 have L:D∉l:=λh=>J (W.sub _ h)
 have F:∀b∈l,b∈D::l:=λb d=>Qv _ d
 intro k
 induction k with
 | zero =>
   intro i s a0 hi x u B C;obtain rfl:i=n:=by omega
   refine codeAny_builtin zV4 ?_;rw[Around.under_plainId zB9 _];show wpAny _ A.in1 (pyNext (.ref I) >>= _) _ _ s;refine Qa (W.done s _ _ x λa g=>?_);have m:∀b o,h0.get? b=some o->a.heap.get? b=some o:=λb o e=>g.heap b o (λd=>by rw[K b d] at e;cases e) (u b o e)
   have y:=yk3 B (λo e=>g.heap D _ L e) (λj t=>keyI (z _ m) (r j t).2);show wpAny _ A.in1 (Builtin.Dict.addKeywords D [] >>= _) _ _ a;unfold Builtin.Dict.addKeywords
   wp_walk
   exact C a (g.mono F) y
 | succ k ih =>
   intro i s a0 hi x u B C;have p:i<n:=by omega
   refine codeAny_builtin zV4 ?_;rw[Around.under_plainId zB9 _];show wpAny _ A.in1 (pyNext (.ref I) >>= _) _ _ s;refine Qa (W.item i s _ _ p x λv a hP T g=>?_);obtain rfl:=S i v hP;have m:∀b o,h0.get? b=some o->a.heap.get? b=some o:=λb o e=>g.heap b o (λd=>by rw[K b d] at e;cases e) (u b o e)
   have y:=yk3 B (λo e=>g.heap D _ L e) (λj t=>keyI (z _ m) (r j '!').2);have M:=z _ m;refine Qa (wpAny_holding (Qa (wpAny_tryCatch (pair_items (tup2 M (r i p).1) ?_))));show wpAny _ A.in1 (holding [.ref (c i),.bool true] (dictSet D (.ref (c i)) (.bool true))) _ _ a;refine wpAny_holding (wpAny_dictSet_heap (hsz:=?_) ?room (keyI M (r i p).2) y λq N E=>?_)
   case room=>exact tupleKind_room_in1 '!'
   . have a1:storedH (pxs f c i) (ik (f i)) (c i) (.bool true)=pxs f c (i+1):=by
       unfold storedH;rw[pxs_none (λj t=>Z j i t p),Qg Qp,pxs_succ]
     rw[a1] at N;refine Qd ⟨plainId_quiet zB9 _,ih (i+1) _ '!' p (W.frame _ a _ _ T (Nat.le_add_right _ _) λb d o e=>?_) (λb o e=>?_) N λa2 U X=>?_⟩
     . rw[E.2 b (λh:b=D=>J (by rw[<-h];exact d))];exact e
     . show q.get? b=some o
       rw[E.2 b (λh:b=D=>by rw[h,Y] at e;cases e)];exact m b o e
     . refine C a2 (Moved.trans W.gtrans ((g.mono F).then_heap (Nat.le_add_right _ _) λb o d e=>?_) U) X
       rw[E.2 b (λh:b=D=>d (by rw[h];exact QC))];exact e
   . unfold pxs
     rw[Qb,List.length_range];have:sizeLine=16777216:=by decide
     omega
end
section
variable {prog:Program} {w:World} {A:Around} {E:VP} {s:Shared}
theorem keys_none {l:Addr} {h:Array Value} {j:Nat} {g:Array (Option Value)} {Q:Option Value->Shared->Prop} (m:A.handled=none) (i:s.heap.get? l=some { cls:=.type "list",dict:=none,data:=.seq h j,slots:=g }) (q:∀a c,(∀b o,s.heap.get? b=some o->a.get? b=some o)->Q none { s with heap:=a,toks:=c }):wpAny '*' A (getAttr? (.ref l) (Str.ofString "keys")) Q E s:=by
 have v:=F.slot_list_getattribute.lookup;have x:=F.slot_list_getattribute.bind (.ref l);unfold getAttr? getAttrBy?
 wp_walk
 have n:typeLookup (Value.type "list") (Str.ofString "keys")=pure none:=by rfl
 have k:codeAny '*' A (Code.call (.builtin "list.__getattribute__") ⟨[.ref l]++[.str (Str.ofString "keys") s.toks],[]⟩) (λr d=>∃a c e,r = .error (.ref e)/\d = { s with heap:=a,toks:=c }/\s.heap.NewAttrErr a e (.ref l) (Str.ofString "keys")) { s with toks:=s.toks+1 }:=by
   refine codeAny_call_builtin F.slot_list_getattribute.plain am_entry_list_getattribute ?_;refine F.slot_list_getattribute.check _ _ _ _ (.ref l) _ _ _ ⟨_,i,rfl⟩ (F.args_list_getattribute_2 _ _) ?_;exact meets_getattribute_miss_list l h j g (Str.ofString "keys") s.toks n '(' '(' prog w A (λr d=>∃a c e,r = .error (.ref e)/\d = { s with heap:=a,toks:=c }/\s.heap.NewAttrErr a e (.ref l) (Str.ofString "keys")) { s with toks:=s.toks+1 } ⟨i,m,λa c e f=>⟨a,c,e,rfl,rfl,f⟩⟩
 refine codeAny_mono k λr d p=>?_
 obtain⟨a,c,e,rfl,rfl,f⟩:=p;obtain⟨t,u,y⟩:=f.there;dsimp only;unfold getattributeRaised hookBehind hookOrError attributeErrorLeaves;have z:=am_list_getattr_none;have B:isSubtype (Value.type "AttributeError") (Value.type "AttributeError")=pure true:=by rfl
 wp_walk
 exact q a c f.keeps
theorem dict_from {H:Hp} {l:Addr} {a:Array Value} {Q:VP} (hk:∀c,(∀b o,s.heap.get? b=some o->c.get? b=some o)->HOk prog w H c) (I:A.handled=none) (hu:A.units+5<cLine) {m:Nat} {u:Array (Option Value)} (z:s.heap.get? l=some { cls:=.type "list",dict:=none,data:=.seq a m,slots:=u }) (hn:a.size<=1000) (g:Nat->'#') (r n:Nat->Addr)
   (N:∀i v,a[i]?=some v->v=Value.ref (r i)) (hp:∀i,i<a.size->H (r i)=some (.tup [.ref (n i),.bl true])/\H (n i)=some (.tup ((g i).map V.int))) (P:∀i j,i<j->j<a.size->ik (g i)≠ik (g j))
   (h:∀(c:Heap) (tk:Nat),Heap.DictOfH (tupleKind (zf3 prog w)) c s.heap.objs.size (pxs g n a.size)->(∀b o,s.heap.get? b=some o->c.get? b=some o)->Q (.ref s.heap.objs.size) { s with heap:=c,toks:=tk }) :
   wpAny '*' A (call (.type "dict") [.ref l]) Q E s:=by
 refine callType_codes F.kt_called_dict (F.kt_typeCall_dict_1 _) F.entry_dict_init (kt_code_dict_new (.ref l) (Q₁:=λB J=>B = .ref s.heap.objs.size/\J = { s with heap:=s.heap.push { cls:=.type "dict",data:=.dict #[] } }) ⟨rfl,rfl⟩) λB J he=>?_
 obtain⟨rfl,rfl⟩:=he;have K:(s.heap.push { cls:=.type "dict",data:=.dict #[] }).get? s.heap.objs.size=some { cls:=.type "dict",data:=.dict #[] }:=Qj _ rfl;refine⟨⟨_,K,rfl⟩,F.args_dict_init_2 _ _,?_⟩;have q:(s.heap.push { cls:=.type "dict",data:=.dict #[] }).get? l=some { cls:=.type "list",dict:=none,data:=.seq a m,slots:=u }:=Qc _ z;have a0:(s.heap.push { cls:=.type "dict",data:=.dict #[] }).IsList l a:=⟨_,q,rfl,m,rfl⟩;unfold Builtin.«dict.__init__» Builtin.Dict.selfAndRest Builtin.Dict.notOrdered Builtin.Dict.addrOf Builtin.Dict.updateCommon Builtin.Dict.updateFrom;generalize R:pyIter=PI;generalize S:getAttr?=GA
 wp_walk
 subst S;refine keys_none (by simp[I]) q λf T t=>?_
 have C:f.IsList l a:=⟨_,t _ _ q,rfl,m,rfl⟩;have D:=t _ _ K;generalize U:({ s with heap:=f,toks:=T }:Shared)=s1
 wp_walk
 subst R;subst U;refine wpAny_pyIter_list C ?_;have G:l<s.heap.objs.size:=Qo z;have k:s.heap.objs.size<f.objs.size:=Qo D;have L:∀b o,s.heap.get? b=some o->f.get? b=some o:=λb o e=>t _ _ (Qc _ e)
 have y:∀b,s.heap.objs.size<=b->s.heap.get? b=none:=λb d=>by
   cases e:s.heap.get? b with
   | none=>rfl
   | some o=>exact absurd (Qo e) (Nat.not_lt.mpr d)
 have W:A.in1.in1.handled=none:=by simp[I]
 have O:l≠f.objs.size:=Qz (Nat.lt_trans G k);refine Qd ⟨plainId_quiet zB9 _,?_⟩;refine dict_loop (A:=A.in1) (H:=H) (h0:=s.heap) hk ((Walks.list W f.objs.size l O a).toS) s.heap.objs.size ?hf (y _ (Qi _)) ?hw ?hu hn g r n N hp P a.size 0 _ '!' (QH _) ⟨⟨_,Qj _ rfl,rfl,rfl⟩,C.push _⟩ (λb o e=>Qc _ (L b o e)) ?hD λs' p X=>?_
 case hf =>
   simp only[Qn,QG,QM,or_false,not_or];exact⟨Qz k,Nat.ne_of_gt G⟩
 case hw =>
   intro b d;simp only[Qn,QG,QM,or_false] at d;subst d;exact y _ (Zs k)
 case hu=>simp;omega
 case hD=>exact⟨_,#[],0,Qc _ D,⟨rfl,rfl,rfl⟩,rfl,rfl,(λx M=>by unfold pxs at M;simp at M),by unfold pxs;exact List.Pairwise.nil⟩
 obtain⟨c,g',d',Y,Z⟩:=s';have eg:g'=s.gens:=p.gens;have ed:d'=s.drawn:=p.drawn;have eo:Z=s.os:=p.os;subst eg;subst ed;subst eo;refine⟨rfl,h c Y X λb o e=>p.heap b o ?_ (Qc _ (L b o e))⟩;have d:=Qo e;simp only[Qn,QG,QM,or_false,not_or];exact⟨Qz d,Qz (Nat.lt_trans d k)⟩
end
end L2
namespace L2
open PySem PySem.Spec PyProof.Rows
abbrev Prs (H:Hp)(ys:List V)(ks:List (List Int)):Prop:=Paired (λy k=>∃p a,y = .ref p/\H p=some (.tup [.ref a,.bl true])/\H a=some (.tup (k.map V.int))) ys ks
noncomputable def pOf (H:Hp)(ys:List V)(i:Nat):Addr:=match ys[i]? with | some (.ref p)=>p | _=>0
noncomputable def aOf (H:Hp)(p:Addr):Addr:=match H p with | some (.tup (.ref a::_))=>a | _=>0
theorem yf9 {H:Hp}{ys:List V}{b:List (List Int)}(h:Prs H ys b){i:Nat}(g:i<ys.length):ys[i]?=some (.ref (pOf H ys i))/\H (pOf H ys i)=some (.tup [.ref (aOf H (pOf H ys i)),.bl true])/\H (aOf H (pOf H ys i))=some (.tup ((b.getD i []).map V.int)):=by
 have e:=Qf g;obtain⟨k,j,p,a,c,d,l⟩:=pat h e;have m:pOf H ys i=p:=by unfold pOf;rw[e,c]
 have n:aOf H p=a:=by unfold aOf;rw[d]
 have f:b.getD i []=k:=by rw[Qw,j];rfl
 rw[m,n,f];exact⟨by rw[e,c],d,l⟩
theorem zV5 {e g:Type}{R:e->g->Prop}:∀ {c:List e} {d:List g},c.length=d.length->(∀(i:Nat) a b,c[i]?=some a->d[i]?=some b->R a b)->Paired R c d
 | [],[],_,_=>.nil
 | [],_::_,h,_=>nomatch h
 | _::_,[],h,_=>nomatch h
 | a::c,b::d,h,f=>.cons (f 0 a b rfl rfl) (zV5 (by simpa using h) λi a b j k=>f (i+1) a b j k)
theorem yk4 {H:Hp}{ys:List V}{a:List (List Int)}(h:Prs H ys a):ys.length=a.length:=Paired.length h
theorem hu5_of {A:Around}{k:Nat}(a:Room k A):A.units+5<cLine:=Nat.lt_of_le_of_lt (Nat.add_le_add_left (by decide:5<=64) _) a.units
section
variable {X:Cx}
theorem call_dictP (hc : X.calm = true) (hu : X.A.units + 5 < cLine) : zi1 X (.type "dict") (λxs H Q => ∃ (l : Addr) (ys : List V) (ks : List (List Int)), xs = [.ref l] ∧ H l = some (.lst ys) ∧ Prs H ys ks ∧ ks.Nodup ∧ ks.length ≤ 1000 ∧ ∀ d, H d = none → Q (.ref d) (upd H d (.dT (ks.map λk => (ik k, .bl true))))) := by
  intro pins s σ H xs us Q I r h;obtain ⟨l, ys, ks, rfl, hl, hp, nd, hn, q⟩ := h;obtain ⟨u, rfl, ru⟩ := zp8 r;cases ru;obtain ⟨z, its, n, rv, hlen, e⟩ := I.lstM hl;have hkl := yk4 hp;have hk : ∀ h', (∀ b o, s.heap.get? b = some o → h'.get? b = some o) → HOk X.prog X.w H h' := λh' k => (I.kept (t' := s.toks) k).hok
  refine dict_from (H := H) hk (I.ok.hd hc) hu e (by rw [Qk]; omega) (λi => ks.getD i []) (pOf H ys) (λi => aOf H (pOf H ys i)) (λi v hv => ?_) (λi hi => ?_) (λi j hij hj e => ?_) λh' tk dd k => ?_
  · have hi : i < its.length := by have := (Zr.mp hv).1; rw [Qk] at this; exact this
    have h1 := (yf9 hp (i := i) '!').1;obtain ⟨u, hu', ru⟩ := zM1 rv h1;rw [List.getElem?_toArray, hu'] at hv;obtain rfl := Qx hv;exact ru
  · rw [Qk] at hi
    exact (yf9 hp (i := i) '!').2
  · rw [Qk] at hj
    have e' : ks.getD i [] = ks.getD j [] := (List.map_inj_right (λa b z => by injection z)).mp e;have := Zm.mp nd i j '!' '!' hij;rw [Qw, Qw, Qf '!', Qf '!'] at e';exact this e'
  · have hf := I.hok.fresh (Qi s.heap.objs.size)
    obtain ⟨qo, es, ep, hq, h2, h3, h4, _, h5⟩ := dd;refine ⟨.ref s.heap.objs.size, _, I.laid (t' := tk) (o := .dT (ks.map λk => (ik k, .bl true))) k (Qi _) ?_, rfl, q _ hf⟩;have hsz : its.toArray.size = ks.length := by rw [Qk]; omega
    refine ⟨by rw [Qb]; have : sizeLine = 16777216 := by decide
               omega, ?_, pxs (λi => ks.getD i []) (λi => aOf H (pOf H ys i)) its.toArray.size, ?_, qo, es, ep, hq, h2, h3, h4, h5⟩
    · exact beq_eq_false_iff_ne.mpr (Nat.ne_of_gt I.big)
    · rw [hsz]
      refine zV5 (by unfold pxs; simp) λi p q h6 h7 => ?_
      rw [QK] at h6;obtain ⟨k', hk', rfl⟩ := Option.map_eq_some_iff.mp h6;have hi := (QN.mp hk').1;unfold pxs at h7;rw [QK, List.getElem?_range hi] at h7;obtain rfl := Qx h7;have eg : ks.getD i [] = k' := by rw [Qw, hk']; rfl
      obtain ⟨_, _, h8⟩ := yf9 hp (i := i) '!';rw [eg] at h8;refine ⟨by show ik k' = ik (ks.getD i []); rw [eg], ?_, rfl⟩;show upd H s.heap.objs.size _ (aOf H (pOf H ys i)) = some (.tup ((ik k').map kV));rw [za8 (zb5 h8 hf), zU9];exact h8
end
section
variable {X:Cx}
theorem call_sortI:zi1 X (.builtin "sorted") (λg H Q=>∃(p:Addr) (d:'#'),g=[.ref p]/\SqL X.K H p (d.map V.int)/\d.length<64/\∀l (a:'#'),H l=none->a.Perm d->a.Pairwise (·<=·)->Q (.ref l) (upd H l (.lst (a.map V.int)))):=by
 intro A s E H g B Q I r h;obtain⟨p,d,rfl,m,C,q⟩:=h;obtain⟨u,rfl,n⟩:=zp8 r;cases n;obtain⟨k,i,t,D⟩:=I.list m;have v:=i.length;rw[Qb] at v;refine sorted_ints t.isList (zl3 i) '!' λe a w j x=>?_
 obtain⟨c,y⟩:=sortedAll_at s.heap k e;have f:s.heap.objs.size<=s.heap.objs.size+1:=Nat.le_succ _;refine⟨.ref (s.heap.objs.size+1),_,I.laid (t':=s.toks) (o:=.lst (a.map V.int)) (λb u z=>sortedAll_old z) f (show ze6 X.prog X.w _ _ _ (.lst _) from⟨?_,e.toList,c,zB5 w,by rw[Array.toArray_toList];exact y⟩),rfl,q _ _ (I.hok.fresh f) j x⟩;rw[Qb,j.length_eq,sizeLine_eq];omega
end
section
variable {X:Cx} {e k:Expr} {te:TE} {tk:TO} {pos p2:Pos}
end
section
variable {X:Cx}
end
section
variable {X:Cx}
end
section
variable {X:Cx} {tg l:Expr} {tl:TE}
end
section
variable {prog:Program} {w:World} {A:Around} {E:VP} {s:Shared}
end
section
variable {X:Cx} {es:List Expr} {k0:Nat} {tp:Pos}
end
section
variable {X:Cx} {CX:CXT} {k:Nat} {f C:Addr} {fd:FuncData} {ps:List Str} {sp:Sp} {dvs:List V} {ds:')'} {Ex:St->XK} {x m:Str} {p pos apos:Pos} {e o:Expr} {es:List Expr} {ta:TE} {t:TA}
end
abbrev Nw (H:Hp)(o:HO)(Q:VK):Prop:=∀l H',Same H H'->H l=none->H' l=some o->Q (.ref l) H'
theorem Nw.go {H:Hp}{o:HO}{Q:VK}(q:Nw H o Q):∀p,H p=none->Q (.ref p) (upd H p o):=λp a=>q p _ (Same.upd a) a za3
section
variable {X:Cx} {es:List Expr} {t:TA} {pos:Pos}
def tLstS (t:TA):TE:=λσ H Q=>t σ H λxs H1=>xs.length<=sizeLine/\Nw H1 (.lst xs) Q
theorem zq6 (h:PA X es t):PE X (.List es pos) (tLstS t):=by
 intro f s l H Q I g;refine wpAny_List_spliced (thn (h pos f s l H _ I g) λi a ⟨j,c,d,r,z,q⟩=>⟨by rw[<-r.length];exact z,?_⟩);have k:c a.heap.objs.size=none:=d.hok.fresh (Qi _);refine⟨.ref a.heap.objs.size,upd c a.heap.objs.size (.lst j),d.laid (t':=a.toks) (λb u e=>Qc _ e) (Qi _) ?_,rfl,q.go _ k⟩;exact⟨z,i,0,r,Qj _ rfl⟩
inductive yk5  (x:V)(y:V)(H:Hp)(Q:VK):Prop
 | mk (l b xs zs:_)(h0:x = .ref l)(h1:y = .ref b)(h2:H l=some (.lst xs))(h3:H b=some (.lst zs))(h4:xs.length+zs.length<=sizeLine)(h5:Nw H (.lst (xs++zs)) Q):yk5  x y H Q
def rCatS:R2:=λx y H Q=>yk5  x y H Q
theorem op_catS:OpR X (binaryOp .Add) rCatS:=λa s k H x y v u Q I c d ⟨l,b,e,f,g,h,i,j,z,q⟩=>op_cat a s k H x y v u Q I c d ⟨l,b,e,f,g,h,i,j,z,q.go⟩
theorem zh0 (K:W.Frag) (h:X.K=K):zi1 X (.type "list") (λb H Q=>∃p a,b=[.ref p]/\(SqL K H p a\/SqT K H p a)/\Nw H (.lst a) Q):=by
 subst h;exact λc s g H b d Q I r ⟨p,a,e,f,q⟩=>zF3 c s g H b d Q I r ⟨p,a,e,f,q.go⟩
theorem zz7 (K:W.Frag) (h:X.K=K):zi1 X (.type "tuple") (λb H Q=>∃p a,b=[.ref p]/\((SqL K H p a/\Nw H (.tup a) Q)\/(SqT K H p a/\Q (.ref p) H))):=by
 subst h;exact λc s g H b d Q I r ⟨p,a,e,f⟩=>zt6 c s g H b d Q I r ⟨p,a,e,f.imp (λz=>⟨z.1,z.2.go⟩) id⟩
end
noncomputable def tHs (K:W.Frag)(cls:Value):List (Addr×TS)->Ends->St->Hp->Prop
 | []=>λ_ _ _=>False
 | (C,th)::r=>λD σ H=>(W.exmOne K cls (.ref C)=some true/\th D σ H)\/(W.exmOne K cls (.ref C)=some false/\tHs K cls r D σ H)
inductive PHs (X:Cx):List ExceptHandler->List (Addr×TS)->Prop
 | nil:PHs X [] []
 | cons {x:Str} {p hp:Pos} {b:Stmt} {su:List Stmt} {C:Addr} {th:TS} {l:List ExceptHandler} {L:List (Addr×TS)} (hg:Gl X x) (hm:X.mg x=some (.ref C)) (hd:(x == ("__debug__" : Str))=false) (hh:∀e,PSs (X.caught e) (b::su) th) (r:PHs X l L) :
     PHs X (.ExceptHandler (some (.Name x p)) none (b::su) hp::l) ((C,th)::L)
section
variable {X:Cx} {Ex:St->XK} {pos:Pos} {body:List Stmt} {tb:TS} {h0:ExceptHandler} {l:List ExceptHandler} {L:List (Addr×TS)}
def tTryHs (K:W.Frag)(Ex:St->XK)(L:List (Addr×TS))(tb:TS):TS:=λD σ H=>tb D σ H/\∀σ' cls od H',Ex σ' cls od H'->tHs K cls L D σ' H'
theorem ps_tryHs (h:X.stack=X.env::X.outer/\X.env.frame=some X.env.locals)(c:∀g,PSs (X.inTryD g Ex) body tb)(P:PHs X (h0::l) L):PS X (.Try body (h0::l) [] [] pos) (tTryHs X.K Ex L tb):=by
 intro g a0 σ a1 A I a2;obtain⟨o,i⟩:=a2;refine wpAny_Try_except (Zj (c g [] a0 σ a1 A (I.inTryD Ex) o) (λf j q=>?_) λe j q=>?_)
 . cases f with
   | next=>exact wpAny_execs_nil (SP.outTryD (fl:=.next) q)
   | brk=>exact SP.outTryD (fl:=.brk) q
   | cont=>exact SP.outTryD (fl:=.cont) q
   | ret u=>exact SP.outTryD (fl:=.ret u) q
 . obtain⟨p,H0,s0,B,a,m,C,s,rfl,D,w,un,ok,fl,q⟩:=q
   have d:=i p m C s q;clear o i;have J:=B.call' (ch:=[]) D un ok w λb z=>nomatch z
   have E:=J.stack;obtain⟨T,z,F⟩:=fl.flying E;have U:X.A.frames=some (X.env::X.outer):=by rw[<-h.1];exact J.ok.frames
   rw[h.1] at F;refine zZ1 U h.2 F λo K x=>?_
   refine zv0 K λi n y=>?_
   have G:∀(k:Heap),FlD (W.hideAll j.heap (a::([T]++frs (X.env::X.outer)))) (X.env::X.outer) a m C .none k->j.heap.UpToSlots k->Inv X g p s { j with heap:=k }:=λk N O=>by
     obtain⟨u,Q,_⟩:=zO2 (l:=X.env::X.outer) un ok (by rw[<-h.1];exact E) (λb c=>by rw[<-h.1] at c;exact⟨.inl c,J.stkFree b c⟩) fl.1 (ts:=[T]) (λb c=>by rw[QG.mp c];exact z) N O;exact B.call' (ch:=[]) (s':={ j with heap:=k }) D u Q w λb z=>nomatch z
   have t:=G i n (x.trans y);obtain⟨oe,V,⟨M,_⟩,_⟩:=n.there;have H:W.Looks (model X.prog X.w) i (typeOf (.ref a)) m:=by
     subst M;exact(W.Looks.ld V).andThen .now
   revert d;clear q c;generalize h0::l=hl at P ⊢;intro d
   induction P with
   | nil=>exact d.elim
   | cons Y Z hd hh r ih =>
     refine wpAny_handleBy_cons (codeAny_handlers_test ?_) (by intro q;cases q);refine zs5 (X:=X.caught (.ref a)) (t.caught _) Y Z ?_ hd;rcases d with⟨v,d⟩ | ⟨v,d⟩
     . refine(W.exm_one t.kIn H v) _ _ _ _ (λ_ _ e=>e) ?_
       show codeAny _ _ _ _ _;refine codeAny_handlers_suite (zv0 n λh3 R S=>?_);have J3:=G h3 R ((x.trans y).trans S);exact Zj (hh (.ref a) g _ p s A (J3.caught _) d) (λf s' r=>SP.uncaught I.ok.hd r) λ_ _ z=>False.elim z
     . refine(W.exm_one t.kIn H v) _ _ _ _ (λ_ _ e=>e) ?_
       show wpAny _ _ _ _ _ _;exact ih d
end
section
variable {X:Cx} {E:XK} {pos:Pos} {body:List Stmt} {tb:TS} {h0:ExceptHandler} {l:List ExceptHandler} {L:List (Addr×TS)}
end
section
variable {X:Cx}
def rPart:V->List V->Hp->VK->Prop:=λx vs H Q=>∃z y:Str,x = .str z/\vs=[.str y]/\(y.length == 0)=false/\z.length<=1000000/\∀l H',Same H H'->H l=none->H' l=some (.tup [.str (Txt.partition z y).1,.str (Txt.partition z y).2.1,.str (Txt.partition z y).2.2])->Q (.ref l) H'
theorem mt_part:MtR X "str.partition" rPart:=by
 intro l s n H x z v A Q I o p h;obtain⟨x,y,rfl,rfl,w,B,q⟩:=h;obtain⟨t,rfl⟩:=o;obtain⟨_,rfl,u,rfl⟩:=p.one;have m:=I.hok.fresh (Qi _);have d:∀(a b c:Str) (f g j:Tok) (k:Nat),Txt.partition x y=(a,b,c)->EP X l n Q (.ref s.heap.objs.size) { s with toks:=k,heap:=s.heap.push { cls:=.type "tuple",data:=.seq [.str a f,.str b g,.str c j].toArray } }:=λa b c f g j k e=>by
   rw[e] at q;refine⟨.ref s.heap.objs.size,upd H s.heap.objs.size (.tup [.str a,.str b,.str c]),I.laid (t':=k) (λb u e=>Qc _ e) (Qi _) ?_,rfl,q _ _ (Same.upd m) m za3⟩;exact⟨(by show 3<=sizeLine;decide),_,.cons ⟨f,rfl⟩ (.cons ⟨g,rfl⟩ (.cons ⟨j,rfl⟩ .nil)),⟨_,Qj _ rfl,rfl,rfl,_,rfl⟩⟩
 refine call_meets F.slot_str_partition (typeIs_str _ _ _) F.entry_str_partition (F.args_str_partition_2 _ _) (meets_str_partition x y t u w (by rw[show sizeLine=16777216 by decide];omega)) ?_;show EP X l n Q _ _;unfold Txt.partition at d;revert d;cases Builtin.Str.occurrences x y 0 x.length 1 with
 | nil=>exact λd=>d _ _ _ _ _ _ _ rfl
 | cons i r=>exact λd=>d _ _ _ _ _ _ _ rfl
end
noncomputable def exRg (e:Expr):Expr:=match e with
 | .BinOp _ _ b _=>b
 | _=>.Constant .none 0 ⟨0,0,0,0⟩
open Builtin.Str StrLaws
theorem yd2 (s sub:Str)(c:Nat):∀(l:List Nat) (b:Array Nat×Nat),¬ b.fst.size<1->(forIn l b (occBody s sub c 1)).run.fst=b.fst
 | [],b,h=>rfl
 | a::l,b,h=>by
   rw[List.forIn_cons];unfold occBody;rw[Qg λz=>h z.1.1.1];exact yd2 s sub c l _ h
theorem occ_at (s sub:Str)(b:Nat):∀(k a n free:Nat),free<=a->k<n->(∀j,j<k->¬ (a+j+sub.length<=b/\subAt s sub (a+j)=true))->(a+k+sub.length<=b/\subAt s sub (a+k)=true) →
   (forIn (List.range' a n) ((#[]:Array Nat),free) (occBody s sub b 1)).run.fst = #[a+k]:=by
 intro k
 induction k with
 | zero =>
   intro a n free d f _ c;obtain⟨n,rfl⟩:∃m,n=m+1:=⟨n-1,by omega⟩;rw[List.range'_succ,List.forIn_cons];unfold occBody;rw[Ql ⟨⟨⟨by simp,d⟩,c.1⟩,c.2⟩];exact yd2 s sub b _ _ (by simp)
 | succ k g =>
   intro a n free d f e c;obtain⟨n,rfl⟩:∃m,n=m+1:=⟨n-1,by omega⟩;rw[List.range'_succ,List.forIn_cons];unfold occBody;have h:=e 0 '!';rw[Qg λz=>h ⟨z.1.2,z.2⟩];have:=g (a+1) n free '!' '!' (λj i=>by rw[show a+1+j=a+(j+1) by omega];exact e (j+1) '!') (by rw[show a+1+k=a+(k+1) by omega];exact c);rw[show a+1+k=a+(k+1) by omega] at this;exact this
theorem zZ7 {a b:Str}{c:Nat}(h:c∉a.cps.toList):Txt.partition (a++⟨#[c]⟩++b) ⟨#[c]⟩=(a,⟨#[c]⟩,b):=by
 have d:a.length=a.cps.toList.length:=by simp[Str.length]
 have e:(a++⟨#[c]⟩++b).cps.toList=a.cps.toList++c::b.cps.toList:=by rw[zh7,zh7];simp
 have f:(a++⟨#[c]⟩++b).length=a.length+1+b.length:=by rw[zd1,zd1];rfl
 have g:∀i,(i+(⟨#[c]⟩:Str).length<=(a++⟨#[c]⟩++b).length/\subAt (a++⟨#[c]⟩++b) ⟨#[c]⟩ i=true)↔(a.cps.toList++c::b.cps.toList)[i]?=some c:=λi=>by
   rw[StrLaws.subAt_one,e]
 have l:occurrences (a++⟨#[c]⟩++b) ⟨#[c]⟩ 0 (a++⟨#[c]⟩++b).length 1=[a.length]:=by
   have m:∀j,j<a.length->¬ (0+j+(⟨#[c]⟩:Str).length<=(a++⟨#[c]⟩++b).length/\subAt (a++⟨#[c]⟩++b) ⟨#[c]⟩ (0+j)=true):=λj q=>by
     rw[Nat.zero_add,g,Zn '!'];intro z;exact h (Qy z)
   have n:0+a.length+(⟨#[c]⟩:Str).length<=(a++⟨#[c]⟩++b).length/\subAt (a++⟨#[c]⟩++b) ⟨#[c]⟩ (0+a.length)=true:=by
     rw[Nat.zero_add,g,Zd '!',d,Nat.sub_self];rfl
   rw[occ_eq,occ_at _ _ _ a.length 0 _ 0 (Qi _) (by rw[f];omega) m n,Nat.zero_add]
 unfold Txt.partition;rw[l];show(strSub _ 0 a.length,_,strSub _ (a.length+1) _)=_;refine Prod.ext (zn6 ?_) (Prod.ext rfl (zn6 ?_))
 . show((a++⟨#[c]⟩++b).cps.extract 0 a.length).toList=_
   rw[Array.toList_extract,e,d];simp
 . show((a++⟨#[c]⟩++b).cps.extract (a.length+1) (a++⟨#[c]⟩++b).length).toList=_
   rw[Array.toList_extract,e,f,d,List.extract_eq_take_drop];have k:a.cps.toList.length+1=(a.cps.toList++[c]).length:=by simp
   have o:a.cps.toList++c::b.cps.toList=(a.cps.toList++[c])++b.cps.toList:=by simp
   have p:b.length=b.cps.toList.length:=by simp[Str.length]
   rw[o,k,List.drop_left,p,<-k,show a.cps.toList.length+1+b.cps.toList.length-(a.cps.toList.length+1)=b.cps.toList.length by omega,QO]
section
variable {X:Cx}
inductive yp3 (K:W.Frag)(x:V)(y:V)(H:Hp)(Q:VK):Prop
 | mk (a b xs ys:_)(h0:x = .ref a)(h1:y = .ref b)(h2:SqL K H a xs)(h3:SqL K H b ys)(h4:(∀(j:Nat) x y,xs[j]?=some x->ys[j]?=some y->zV3 x y=true))(h5:Q (.bl (!decide (xs=ys))) H):yp3 K x y H Q
def rNeL (K:W.Frag):R2:=λx y H Q=>yp3 K x y H Q
theorem op_neL (f:X.A.units<cLine):OpR X (compareOp .NotEq) (rNeL X.K):=by
 intro P s T H x y v u Q I p r h;obtain⟨a,b,c,g,rfl,rfl,t,w,o,q⟩:=h;cases p;cases r;obtain⟨i,k,⟨A,B,C,D,_,E⟩,_⟩:=I.list t;obtain⟨F,l,⟨G,J,K,L,_,M⟩,_⟩:=I.list w;have m:s.heap.IsList a i.toArray:=⟨A,C,D,B,E⟩;have d:s.heap.IsList b F.toArray:=⟨G,K,L,J,M⟩;have R:=k.length;have S:=l.length;by_cases n:c.length=g.length
 . refine(PySem.SeqAt.RcNeAt.lists (e:=eAt c g) m d (by rw[Qk,Qk];omega) f (λj N O=>zP4 k l o j N O)) _ _ _ _ (zd8 I q ?_)
   rw[Qk,show i.length=c.length by omega,zZ6 n]
 . refine(PySem.SeqAt.RcNeAt.lists_lengths m d (by rw[Qk,Qk];simp;omega) f) _ _ _ _ (zd8 I q ?_)
   rw[Qe (λz=>n (by rw[z]))];rfl
end
end L2
namespace Sx
open PySem PySem.W PySem.Calls PyProof.Rows
section
variable {prog:Program} {w:World} {A:Around} {E:VP} {s:Shared} {d it v:Addr} {es:Array DictEntry} {ep i:Nat}
end
end Sx
namespace L2
open PySem PySem.Spec PyProof.Rows
section
variable {X:Cx}
end
section
variable {M:Model} {A:Around} {E:VP}
end
section
variable {X:Cx} {pins:PL} {σ:St} {H:Hp} {s:Shared}
end
section
variable {X:Cx} {scope:Scope} {N':List Str} {ix:List (Option Nat)} {tg iter elt:Expr} {ifs:List Expr} {pos:Pos} {wi:TI} {g:TG} {tif:TT} {telt:TE}
end
theorem Room.m {j k:Nat}{A:Around}(r:Room k A)(h:j<=k:=by decide):Room j A:=r.mono h
structure Df (K:W.Frag)(mg:Str->Option Value)(x:Str)(ps:List Str)(st:Stmt)(f:Addr)(fd:FuncData):Prop where
 F:Fun K x x st f fd
 b:zj2 K fd ps []
 m:mg x=some (.ref f)
structure Dm (K:W.Frag)(x q:Str)(ps:List Str)(st:Stmt)(f:Addr)(fd:FuncData):Prop where
 F:Fun K x q st f fd
 b:zj2 K fd ps []
section
variable {K:W.Frag} {mg:Str->Option Value} {x q:Str} {ps:List Str} {st:Stmt} {f:Addr} {oc:Value} {od an:Option Addr} {osl:Array (Option Value)} {kV doc pm cdv ct:Value}
theorem dm_mk (l:K.lookup f=some ⟨oc,od,.func (W.fnOf x q (zf4 st) (zc9 st) (za5 st) .none kV doc pm an cdv ct),osl⟩)(c:W.codeIn K cdv q=true)(k:W.keepIn K (.ref f)=true)
   (b:∀(kV doc pm:Value) (an:Option Addr) (cdv ct:Value) (a:')'),a.length=ps.length->bindArgs (W.fnOf x q (zf4 st) (zc9 st) (za5 st) .none kV doc pm an cdv ct) ⟨a,[]⟩=pure (ps.zip a)):∃d,Dm K x q ps st f d :=
 ⟨_,zN5 l c k,(zN5 l c k).binds b⟩
theorem df_mk {h:Heap}(X:K.In h)(G:h.Ns mainGlobals mg)(a:W.nsIn K mainGlobals x=some (some (.ref f)))(l:K.lookup f=some ⟨oc,od,.func (W.fnOf x x (zf4 st) (zc9 st) (za5 st) .none kV doc pm an cdv ct),osl⟩)(c:W.codeIn K cdv x=true)(k:W.keepIn K (.ref f)=true)
   (d:∀(kV doc pm:Value) (an:Option Addr) (cdv ct:Value) (b:')'),b.length=ps.length->bindArgs (W.fnOf x x (zf4 st) (zc9 st) (za5 st) .none kV doc pm an cdv ct) ⟨b,[]⟩=pure (ps.zip b)):∃e,Df K mg x ps st f e :=
 ⟨_,zN5 l c k,(zN5 l c k).binds d,W.mg_of X G a⟩
end
section
variable {X:Cx} {CX:CXT} {E:XK} {x:Str} {f:Addr} {fd:FuncData} {k:Nat} {ps:List Str} {sp:Sp} {st:Stmt} {t:TA} {e:Expr} {es:List Expr} {p pos:Pos}
theorem za7 (F:FnOk X.prog X.w X.K X.mg X.base CX k f fd ps sp) (c:Room k X.A) (D:Df X.K X.mg x ps st f fd) (d:zn0 CX X E) (g:PA X (e::es) t) (h:Gl X x:=by rfl) (a:(x == ("__debug__" : Str))=false:=by decide)
   (i:starEach (e::es) X.env=(false,eval e X.env)::starEach es X.env:=by rfl) (b:(backTo pos (starEach es X.env)).any (·.1)=false:=by rfl):PE X (.Call (.Name x p) (e::es) [] pos) (ym8 sp [] E t) :=
 zm0 F c h D.m D.F.kp D.b .nil d g a i b
theorem zJ1 {Ex:_} (F:FnOk X.prog X.w X.K X.mg X.base CX k f fd ps sp) (c:Room k X.A) (D:Df X.K X.mg x ps st f fd) (d:zZ0 CX X Ex) (g:PA X (e::es) t) (h:Gl X x:=by rfl) (a:(x == ("__debug__" : Str))=false:=by decide)
   (i:starEach (e::es) X.env=(false,eval e X.env)::starEach es X.env:=by rfl) (b:(backTo pos (starEach es X.env)).any (·.1)=false:=by rfl):PE X (.Call (.Name x p) (e::es) [] pos) (yo3 sp [] Ex t) :=
 pe_callS F c h D.m D.F.kp D.b .nil d g a i b
end
end L2
namespace Bt
open PySem L2
abbrev Pa:List Str:=["text"]
abbrev Pb:List Str:=["beam","standing"]
abbrev Pc:List Str:=["move"]
abbrev Pd:List Str:=["beam","start","goal"]
abbrev Pe:List Str:=["self","reason"]
abbrev Pf:List Str:=["self","goal"]
abbrev Pg:List Str:=["row"]
abbrev Ph:List Str:=["_law_script"]
abbrev Pi:List Str:=["_law_scale","_law_first","_law_last","_law_found"]
abbrev Pj:List Str:=["_law_door","_law_beam","_law_play","_law_first","_law_last"]
abbrev Pk:List Str:=["play","row"]
abbrev Pl:List Str:=["place"]
abbrev Pm:List Str:=["_law_place"]
abbrev Pn:List Str:=["_law_spots"]
abbrev Po:List Str:=["self","reason","word"]
abbrev Pp:List Str:=["self","notches","room","hefts","limit"]
abbrev Pq:List Str:=["number","low","high"]
abbrev Pr:List Str:=["notches","room","limit"]
abbrev Ps:List Str:=["beam","limit"]
abbrev Pt:List Str:=["beam","tipped"]
abbrev Pu:List Str:=["places","move"]
abbrev Pv:List Str:=["beam","places","place"]
abbrev Pw:List Str:=["self","reached","many","row","layers","again","shut"]
abbrev Px:List Str:=["self","limit","row","shut"]
abbrev Py:List Str:=["beam","standing","move"]
abbrev Pz:List Str:=["beam","text"]
abbrev PB:List Str:=["play","word","rest"]
abbrev PD:List Str:=["_law_script","_law_k"]
abbrev PF:List Str:=["_law_found"]
abbrev PH:List Str:=["_law_scale","_law_limit"]
abbrev PJ:List Str:=["_law_text_here","_law_goal_here"]
abbrev PK:List Str:=["notches","weights"]
abbrev PM:List Str:=["beam","standing","places"]
abbrev PN:List Str:=["beam","standing","weight"]
abbrev PP:List Str:=["beam","places","weight"]
abbrev PQ:List Str:=["beam","layer","led"]
abbrev PR:List Str:=["goal","led"]
abbrev PU:List Str:=["beam","shut"]
abbrev PX:List Str:=["self","beam","start"]
abbrev PY:List Str:=["text","rows","notches","room","limit","weights","beam"]
abbrev PZ:List Str:=["front","row","many"]
abbrev Va:List Str:=["text","rows"]
abbrev Vb:List Str:=["_law_cell","_law_count","_law_base","_law_mix"]
abbrev Vc:List Str:=["_law_script","_law_k","_law_more","_law_shape_here"]
abbrev Vd:List Str:=["_law_hefts","_law_spots"]
abbrev Ve:List Str:=["_law_scale","_law_spots","_law_move"]
abbrev Vf:List Str:=["_law_found","_law_count"]
abbrev Vg:List Str:=["_law_found","_law_due"]
abbrev Vh:List Str:=["_law_scale","_law_spots","_law_row"]
abbrev Vi:List Str:=["_law_scale","_law_spots"]
abbrev Vj:List Str:=["_law_beam","_law_scale","_law_first","_law_last","_law_past"]
abbrev Vk:List Str:=["beam","standing","places","told","weight"]
abbrev Vl:List Str:=["beam","places","weight","held","lies","heft"]
abbrev Vm:List Str:=["beam","shut","free","inside","limits","standing","move"]
abbrev Vn:List Str:=["_law_script","_law_cell","_law_notches","_law_count","_law_room","_law_mode","_law_hefts"]
abbrev Vo:List Str:=["_law_script","_law_shape_here","_law_notches","_law_room","_law_hefts","_law_first","_law_last","_law_sizes","_law_cell","_law_limit","_law_scale","_law_beam","_law_past","_law_low_here","_law_told_here","_law_refused"]
noncomputable def top (i:Nat):Stmt:=PySem.Challenge.pw_beamtender_k32_whole_ends.main.body.getD i (.Pass ⟨0,0,0,0⟩)
noncomputable abbrev ze1:Stmt:=zl0 (top 1) 0
noncomputable abbrev ze2:Stmt:=zl0 (top 11) 0
noncomputable abbrev ze4:Stmt:=zl0 (top 12) 0
noncomputable abbrev zf9:Stmt:=zl0 (top 13) 0
noncomputable abbrev zz8:Stmt:=zl0 (top 23) 0
noncomputable abbrev zJ2:Stmt:=top 24
noncomputable abbrev zr6:Stmt:=top 25
noncomputable abbrev zt9:Stmt:=top 26
noncomputable abbrev zm2:Stmt:=top 27
noncomputable abbrev zZ8:Stmt:=top 28
noncomputable abbrev zu0:Stmt:=top 29
noncomputable abbrev zP5:Stmt:=top 31
noncomputable abbrev yg0:Stmt:=top 33
noncomputable abbrev zZ9:Stmt:=top 34
noncomputable abbrev zJ3:Stmt:=top 35
noncomputable abbrev zG8:Stmt:=top 38
noncomputable abbrev zP6:Stmt:=top 39
noncomputable abbrev zP7:Stmt:=top 40
noncomputable abbrev yg1:Stmt:=top 41
noncomputable abbrev zP8:Stmt:=top 46
noncomputable abbrev zE5:Stmt:=zl0 (top 48) 0
noncomputable abbrev zP9:Stmt:=top 49
noncomputable abbrev zz9:Stmt:=top 51
noncomputable abbrev zQ0:Stmt:=top 53
noncomputable abbrev zw9:Stmt:=top 54
noncomputable abbrev zQ1:Stmt:=top 55
noncomputable abbrev zh1:Stmt:=top 56
noncomputable abbrev zx0:Stmt:=zl0 (top 58) 0
noncomputable abbrev ya0:Stmt:=top 59
noncomputable abbrev zh8:Stmt:=top 61
noncomputable abbrev zo9:Stmt:=top 62
noncomputable abbrev zA0:Stmt:=zl0 (top 65) 0
noncomputable abbrev zx1:Stmt:=zl0 (top 65) 3
noncomputable abbrev zu1:Stmt:=zl0 (top 65) 4
noncomputable abbrev zn1:Stmt:=zl0 (top 65) 5
noncomputable abbrev zx2:Stmt:=zl0 (top 65) 6
noncomputable abbrev zh9:Stmt:=top 69
noncomputable abbrev zp0:Stmt:=top 70
noncomputable abbrev zx3:Stmt:=top 71
noncomputable abbrev zg9:Stmt:=top 73
noncomputable abbrev zu2:Stmt:=top 74
noncomputable abbrev zr7:Stmt:=top 75
noncomputable abbrev zk6:Stmt:=top 76
noncomputable abbrev zu3:Stmt:=top 77
noncomputable abbrev zx4:Stmt:=top 78
noncomputable abbrev zu4:Stmt:=top 79
noncomputable abbrev zo6:Stmt:=top 80
noncomputable abbrev zJ4:Stmt:=top 82
noncomputable abbrev zQ2:Stmt:=top 83
noncomputable abbrev zx5:Stmt:=top 84
noncomputable abbrev zr8:Stmt:=top 85
noncomputable abbrev zm3:Stmt:=top 87
noncomputable abbrev zE6:Stmt:=top 88
noncomputable abbrev zA1:Stmt:=top 89
noncomputable abbrev zx6:Stmt:=top 90
noncomputable abbrev yg2:Stmt:=top 92
noncomputable abbrev zJ5:Stmt:=top 93
noncomputable abbrev zQ3:Stmt:=top 94
noncomputable abbrev zv2:Stmt:=top 95
noncomputable abbrev ya1:Stmt:=top 96
noncomputable abbrev zQ4:Stmt:=top 97
noncomputable abbrev zQ5:Stmt:=top 98
noncomputable abbrev zx7:Stmt:=top 99
noncomputable abbrev zQ6:Stmt:=top 100
noncomputable abbrev zQ7:Stmt:=top 101
noncomputable abbrev zQ8:Stmt:=top 102
noncomputable abbrev ya2:Stmt:=top 103
noncomputable abbrev ya3:Stmt:=top 104
noncomputable abbrev ya4:Stmt:=top 105
noncomputable abbrev zQ9:Stmt:=top 106
noncomputable abbrev zA2:Stmt:=top 107
noncomputable abbrev zJ6:Stmt:=top 108
noncomputable abbrev zR0:Stmt:=top 109
noncomputable abbrev zR1:Stmt:=top 110
noncomputable abbrev zJ7:Stmt:=top 111
noncomputable abbrev zK7:Stmt:=top 112
theorem sc_BeamError_init:zb2 Po Po (za5 ze1):={}
theorem sc_StartPast_init:zb2 Pe Pe (za5 ze2):={}
theorem sc_GoalPast_init:zb2 Pe Pe (za5 ze4):={}
theorem sc_NoWay_init:zb2 Pe Pe (za5 zf9):={}
theorem sc_Beam_init:zb2 Pp Pp (za5 zz8):={}
theorem sc_outside:zb2 Pq Pq (za5 zJ2):={}
theorem sc_check_bounds:zb2 Pr Pr (za5 zr6):={}
theorem zA3:zb2 ["hefts","heft"] ["hefts"] (za5 zt9):={}
theorem zi5:zb2 ["notches","weights","many","weight"] PK (za5 zm2):={}
theorem sc_under:zb2 Ps Ps (za5 zZ8):={}
theorem zr9:zb2 ["beam","standing","places","place"] Pb (za5 zu0):={}
theorem yk6:zb2 PM Pb (za5 zP5):={}
theorem zJ8:zd6 PM (za5 zP5) (zh6 (zy8 (stE (stAt (zc9 zP5) 1)) 0)) ["heft","place"] [none,none]:=⟨rfl,by decide +kernel,by decide +kernel,by decide +kernel,rfl,by decide +kernel,by decide +kernel⟩
theorem sc_past:zb2 Pt Pt (za5 yg0):={}
theorem sc_keeps:zb2 Pb Pb (za5 zZ9):={}
theorem zR2:zb2 ["beam","standing","weight","places"] PN (za5 zJ3):={}
theorem zG9:zb2 Vk Pb (za5 zG8):={}
theorem zR3:zd6 Vk (za5 zG8) (zh6 (zy8 (stE (stAt (stBody (stAt (zc9 zG8) 2)) 0)) 0)) ["put","weight","places"] [none,some 4,some 2]:=⟨rfl,by decide +kernel,by decide +kernel,by decide +kernel,rfl,by decide +kernel,by decide +kernel⟩
theorem sc_turned:zb2 Pc Pc (za5 zP6):={}
theorem sc_behind:zb2 Pu Pu (za5 zP7):={}
theorem sc_full:zb2 Pv Pv (za5 yg1):={}
theorem zM2:zb2 Vl PP (za5 zP8):={}
theorem zV6:zd6 Vl (za5 zP8) (zh6 (stE (stAt (zc9 zP8) 4))) ["put","lies","beam","places","held","heft"] [none,some 4,some 0,some 1,some 3,some 5]:=⟨rfl,by decide +kernel,by decide +kernel,by decide +kernel,rfl,by decide +kernel,by decide +kernel⟩
theorem sc_Way_init:zb2 Pw Pw (za5 zE5):={}
theorem zJ9:zb2 ["beam","start","goal","first","last"] Pd (za5 zP9):={}
theorem zH0:zb2 ["beam","start","goal","way"] Pd (za5 zz9):={}
theorem zv3:zb2 ["beam","start","goal","layers","led","layer","row"] Pd (za5 zQ0):={}
theorem zk7:zb2 ["beam","layer","led","found","standing","move","reached"] PQ (za5 zw9):={}
theorem zC0:zb2 ["goal","led","row","standing"] PR (za5 zQ1):={}
theorem zA4:zb2 ["row","weights"] Pg (za5 zh1):={}
theorem zv4:zd6 ["row","weights"] (za5 zh1) (zh6 (stE (stAt (zc9 zh1) 0))) Pc [none]:=⟨rfl,by decide +kernel,by decide +kernel,by decide +kernel,rfl,by decide +kernel,by decide +kernel⟩
theorem zv5:zd6 ["row","weights"] (za5 zh1) (zh6 (zy8 (zy8 (stE (stAt (zc9 zh1) 1)) 0) 0)) ["weight","weights"] [none,some 1]:=⟨rfl,by decide +kernel,by decide +kernel,by decide +kernel,rfl,by decide +kernel,by decide +kernel⟩
theorem sc_Least_init:zb2 Px Px (za5 zx0):={}
theorem zm4:zb2 ["beam","start","goal","first","last","limit","shut","way"] Pd (za5 ya0):={}
theorem zf5:zb2 Vm PU (za5 zh8):={}
theorem zq0:zd6 Vm (za5 zh8) (zh6 (zy8 (stE (stAt (zc9 zh8) 1)) 0)) ["standing"] [none]:=⟨rfl,by decide +kernel,by decide +kernel,by decide +kernel,rfl,by decide +kernel,by decide +kernel⟩
theorem sc_limit_to_move:zb2 Py Py (za5 zo9):={}
theorem zH1:zb2 ["self","beam","start","first"] PX (za5 zA0):={}
theorem sc_Play_trail:zb2 ["self"] ["self"] (za5 zx1):={}
theorem sc_Play_fewest:zb2 Pf Pf (za5 zu1):={}
theorem sc_Play_next_move:zb2 Pf Pf (za5 zn1):={}
theorem sc_Play_least:zb2 Pf Pf (za5 zx2):={}
theorem zs9:zb2 PM Pb (za5 zh9):={}
theorem zq1:zd6 PM (za5 zh9) (zh6 (zy8 (stE (stAt (zc9 zh9) 2)) 0)) Pl [none]:=⟨rfl,by decide +kernel,by decide +kernel,by decide +kernel,rfl,by decide +kernel,by decide +kernel⟩
theorem sc_read_standing:zb2 Pz Pz (za5 zp0):={}
theorem sc_write_move:zb2 Pc Pc (za5 zx3):={}
theorem zi6:zb2 PY Pa (za5 zg9):={}
theorem zA5:zd6 PY (za5 zg9) (zh6 (stE (stAt (zc9 zg9) 5))) Pg [none]:=⟨rfl,by decide +kernel,by decide +kernel,by decide +kernel,rfl,by decide +kernel,by decide +kernel⟩
theorem zA6:zd6 PY (za5 zg9) (zh6 (zy8 (stE (stAt (zc9 zg9) 6)) 2)) ["weight"] [none]:=⟨rfl,by decide +kernel,by decide +kernel,by decide +kernel,rfl,by decide +kernel,by decide +kernel⟩
theorem zA7:zd6 PY (za5 zg9) (zh6 (zy8 (exElt (stE (stAt (zc9 zg9) 7)) 1) 1)) ["weight"] [none]:=⟨rfl,by decide +kernel,by decide +kernel,by decide +kernel,rfl,by decide +kernel,by decide +kernel⟩
theorem zA8:zb2 ["row","words"] Pg (za5 zu2):={}
theorem zy4:zb2 ["front","row","many","words"] PZ (za5 zr7):={}
theorem sc_read_places:zb2 Pa Pa (za5 zk6):={}
theorem zv6:zd6 Pa (za5 zk6) (zh6 (stE (stAt (zc9 zk6) 1))) ["word"] [none]:=⟨rfl,by decide +kernel,by decide +kernel,by decide +kernel,rfl,by decide +kernel,by decide +kernel⟩
theorem sc_write_place:zb2 Pl Pl (za5 zu3):={}
theorem zu5:zb2 ["text","left","size"] Pa (za5 zx4):={}
theorem sc_read_number:zb2 Pa Pa (za5 zu4):={}
theorem sc_is_number:zb2 Pa Pa (za5 zo6):={}
theorem zA9:zd6 Pa (za5 zo6) (zh6 (zy8 (stE (stAt (zc9 zo6) 2)) 0)) ["sign"] [none]:=⟨rfl,by decide +kernel,by decide +kernel,by decide +kernel,rfl,by decide +kernel,by decide +kernel⟩
theorem zs0:zb2 ["text","rows","placed","play","told","row"] Va (za5 zJ4):={}
theorem zV7:zb2 ["play","row","e"] Pk (za5 zQ2):={}
theorem zD4:zb2 ["play","row","parts"] Pk (za5 zx5):={}
theorem sc_answer_words:zb2 PB PB (za5 zr8):={}
theorem zD5:zb2 ["row","counted"] Pg (za5 zm3):={}
theorem zy5:zd6 ["row","counted"] (za5 zm3) (zh6 (zy8 (exRg (stE (stAt (zc9 zm3) 2))) 0)) Pc [none]:=⟨rfl,by decide +kernel,by decide +kernel,by decide +kernel,rfl,by decide +kernel,by decide +kernel⟩
theorem sc_tell_way:zb2 ["way"] ["way"] (za5 zE6):={}
theorem sc_tell_next:zb2 Pc Pc (za5 zA1):={}
theorem sc_tell_least:zb2 ["low"] ["low"] (za5 zx6):={}
theorem sc_w_at:zb2 PD PD (za5 yg2):={}
theorem sc_w_whole:zb2 PF PF (za5 zJ5):={}
theorem zn2:zb2 ["_law_cell","_law_count","_law_base","_law_mix","_law_made","_law_rest","_law_k"] Vb (za5 zQ3):={}
theorem zi7:zb2 Vn Ph (za5 zv2):={}
theorem zH2:zd6 Vn (za5 zv2) (zh6 (stE (stAt (zc9 zv2) 5))) ["_law_x"] [none]:=⟨rfl,by decide +kernel,by decide +kernel,by decide +kernel,rfl,by decide +kernel,by decide +kernel⟩
theorem zj7:zb2 ["_law_script","_law_k","_law_more","_law_shape_here","_law_notches","_law_room","_law_hefts","_law_mix","_law_cell","_law_made","_law_x","_law_place"] Vc (za5 ya1):={}
theorem zC1:zb2 ["_law_hefts","_law_spots","_law_total","_law_k"] Vd (za5 zQ4):={}
theorem zk2:zb2 ["_law_scale","_law_spots","_law_move","_law_notches","_law_room","_law_hefts","_law_limit","_law_weight","_law_source","_law_target","_law_lifted"] Ve (za5 zQ5):={}
theorem zD6:zb2 ["_law_found","_law_count","_law_place"] Vf (za5 zx7):={}
theorem zV8:zb2 ["_law_found","_law_due","_law_k"] Vg (za5 zQ6):={}
theorem zC2:zb2 ["_law_scale","_law_spots","_law_row","_law_now","_law_move"] Vh (za5 zQ7):={}
theorem sc_w_with:zb2 PH PH (za5 zQ8):={}
theorem sc_w_way:zb2 Pi Pi (za5 ya2):={}
theorem sc_w_low:zb2 Pi Pi (za5 ya3):={}
theorem sc_w_say:zb2 Pm Pm (za5 ya4):={}
theorem zC3:zb2 ["_law_scale","_law_spots","_law_text_here","_law_k"] Vi (za5 zQ9):={}
theorem sc_w_goal:zb2 Pn Pn (za5 zA2):={}
theorem zK8:zd6 Pn (za5 zA2) (zh6 (zy8 (stE (stAt (zc9 zA2) 1)) 0)) Pm [none]:=⟨rfl,by decide +kernel,by decide +kernel,by decide +kernel,rfl,by decide +kernel,by decide +kernel⟩
theorem sc_w_asked:zb2 Pj Pj (za5 zJ6):={}
theorem zr2:zb2 ["_law_door","_law_beam","_law_play","_law_first","_law_last","_law_kinds","_law_known","e"] Pj (za5 zR0):={}
theorem sc_w_desk:zb2 PJ PJ (za5 zR1):={}
theorem zs1:zb2 ["_law_beam","_law_scale","_law_first","_law_last","_law_past","_law_play","_law_door","_law_told_here"] Vj (za5 zJ7):={}
theorem zj8:zb2 Vo Ph (za5 zK7):={}
theorem yd3:zd6 Vo (za5 zK7) (zh6 (stE (stAt (zc9 zK7) 17))) ["_law_text_here"] [none]:=⟨rfl,by decide +kernel,by decide +kernel,by decide +kernel,rfl,by decide +kernel,by decide +kernel⟩
set_option genInjectivity false in
set_option genSizeOf false in
structure Adr where
 ak:Addr
 am:FuncData
 ag:Addr
 an:FuncData
 ai:Addr
 ap:FuncData
 al:Addr
 ar:FuncData
 az:Addr
 bp:FuncData
 bE:Addr
 bF:FuncData
 aM:Addr
 aN:FuncData
 aS:Addr
 aT:FuncData
 ax:Addr
 ay:FuncData
 cp:Addr
 cq:FuncData
 aU:Addr
 aV:FuncData
 cH:Addr
 cI:FuncData
 cJ:Addr
 cK:FuncData
 cr:Addr
 cs:FuncData
 bG:Addr
 bH:FuncData
 ct:Addr
 cu:FuncData
 bS:Addr
 bT:FuncData
 bU:Addr
 bV:FuncData
 cL:Addr
 cM:FuncData
 cN:Addr
 cO:FuncData
 aH:Addr
 bA:FuncData
 a7:Addr
 bW:FuncData
 aA:Addr
 bq:FuncData
 bX:Addr
 bY:FuncData
 a8:Addr
 a9:FuncData
 bZ:Addr
 b0:FuncData
 aW:Addr
 aX:FuncData
 au:Addr
 ba:FuncData
 bz:Addr
 cv:FuncData
 aC:Addr
 aD:FuncData
 aI:Addr
 aJ:FuncData
 aB:Addr
 br:FuncData
 av:Addr
 bb:FuncData
 aq:Addr
 aY:FuncData
 ao:Addr
 aE:FuncData
 aw:Addr
 bc:FuncData
 aF:Addr
 aG:FuncData
 aK:Addr
 aL:FuncData
 bd:Addr
 be:FuncData
 bs:Addr
 bt:FuncData
 aZ:Addr
 a0:FuncData
 aO:Addr
 aP:FuncData
 a1:Addr
 a2:FuncData
 a3:Addr
 a4:FuncData
 bf:Addr
 bg:FuncData
 a5:Addr
 a6:FuncData
 bu:Addr
 bv:FuncData
 bI:Addr
 bJ:FuncData
 b1:Addr
 b2:FuncData
 bh:Addr
 bi:FuncData
 aQ:Addr
 aR:FuncData
 bj:Addr
 bk:FuncData
 bB:Addr
 bC:FuncData
 bw:Addr
 bx:FuncData
 bl:Addr
 bm:FuncData
 cP:Addr
 cQ:FuncData
 bK:Addr
 bL:FuncData
 b3:Addr
 b4:FuncData
 bM:Addr
 bN:FuncData
 cw:Addr
 cx:FuncData
 b5:Addr
 b6:FuncData
 b7:Addr
 b8:FuncData
 bn:Addr
 bo:FuncData
 b9:Addr
 ca:FuncData
 cb:Addr
 cc:FuncData
 cd:Addr
 ce:FuncData
 cy:Addr
 cz:FuncData
 cA:Addr
 cB:FuncData
 cC:Addr
 cD:FuncData
 cf:Addr
 cg:FuncData
 ch:Addr
 ci:FuncData
 bO:Addr
 bP:FuncData
 cj:Addr
 ck:FuncData
 cl:Addr
 cm:FuncData
 bQ:Addr
 bR:FuncData
 bD:Addr
 co:FuncData
 ah:Addr
 af:Addr
 ae:Addr
 ad:Addr
 aa:Addr
 ab:Addr
 ac:Addr
 aj:Addr
 cE:Tok
 cS:Tok
 cR:Tok
 cF:Tok
 cT:Tok
 cn:Tok
 cG:Tok
 cU:Tok
structure Txt (K:W.Frag)(mg:Str->Option Value)(t:Adr):Prop where
 cd:FunD K "__init__" "BeamError.__init__" ze1 t.ak t.am
 aF:zj2 K t.am Po []
 c7:W.keepIn K (.ref t.ak)=true
 ce:FunD K "__init__" "StartPast.__init__" ze2 t.ag t.an
 a7:zj2 K t.an Pe []
 c8:W.keepIn K (.ref t.ag)=true
 cr:FunD K "__init__" "GoalPast.__init__" ze4 t.ai t.ap
 cs:zj2 K t.ap Pe []
 c9:W.keepIn K (.ref t.ai)=true
 cI:FunD K "__init__" "NoWay.__init__" zf9 t.al t.ar
 cJ:zj2 K t.ar Pe []
 da:W.keepIn K (.ref t.al)=true
 aK:Dm K "__init__" "Beam.__init__" Pp zz8 t.az t.bp
 av:Df K mg "outside" Pq zJ2 t.bE t.bF
 bf:Df K mg "check_bounds" Pr zr6 t.aM t.aN
 bm:Df K mg "check_hefts" ["hefts"] zt9 t.aS t.aT
 a3:Df K mg "check_standings" PK zm2 t.ax t.ay
 bg:Df K mg "under" Ps zZ8 t.cp t.cq
 ad:Df K mg "as_standing" Pb zu0 t.aU t.aV
 aS:Df K mg "tilt" Pb zP5 t.cH t.cI
 bs:Df K mg "past" Pt yg0 t.cJ t.cK
 bh:Df K mg "keeps" Pb zZ9 t.cr t.cs
 bl:Df K mg "in_hand" PN zJ3 t.bG t.bH
 bO:Df K mg "moves" Pb zG8 t.ct t.cu
 cf:Df K mg "turned" Pc zP6 t.bS t.bT
 aP:Df K mg "behind" Pu zP7 t.bU t.bV
 cK:Df K mg "full" Pv yg1 t.cL t.cM
 cL:Df K mg "puts" PP zP8 t.cN t.cO
 bd:Dm K "__init__" "Way.__init__" Pw zE5 t.aH t.bA
 ai:Df K mg "fewest" Pd zP9 t.a7 t.bW
 aA:Df K mg "next_move" Pd zz9 t.aA t.bq
 cg:Df K mg "search" Pd zQ0 t.bX t.bY
 bt:Df K mg "next_layer" PQ zw9 t.a8 t.a9
 ch:Df K mg "row_to" PR zQ1 t.bZ t.b0
 bn:Df K mg "moved_again" Pg zh1 t.aW t.aX
 bu:Dm K "__init__" "Least.__init__" Px zx0 t.au t.ba
 a1:Df K mg "least" Pd ya0 t.bz t.cv
 a8:Df K mg "limit_to_leave" PU zh8 t.aC t.aD
 be:Df K mg "limit_to_move" Py zo9 t.aI t.aJ
 aL:Dm K "__init__" "Play.__init__" PX zA0 t.aB t.br
 bv:Dm K "trail" "Play.trail" ["self"] zx1 t.av t.bb
 aQ:Dm K "fewest" "Play.fewest" Pf zu1 t.aq t.aY
 aG:Dm K "next_move" "Play.next_move" Pf zn1 t.ao t.aE
 aT:Dm K "least" "Play.least" Pf zx2 t.aw t.bc
 a9:Df K mg "write_standing" Pb zh9 t.aF t.aG
 aw:Df K mg "read_standing" Pz zp0 t.aK t.aL
 aU:Df K mg "write_move" Pc zx3 t.bd t.be
 bG:Df K mg "read_beam" Pa zg9 t.bs t.bt
 bo:Df K mg "read_weight" Pg zu2 t.aZ t.a0
 ar:Df K mg "words_behind" PZ zr7 t.aO t.aP
 bp:Df K mg "read_places" Pa zk6 t.a1 t.a2
 aD:Df K mg "write_place" Pl zu3 t.a3 t.a4
 aV:Df K mg "read_place" Pa zx4 t.bf t.bg
 aq:Df K mg "read_number" Pa zu4 t.a5 t.a6
 bH:Df K mg "is_number" Pa zo6 t.bu t.bv
 b1:Df K mg "answers" Va zJ4 t.bI t.bJ
 ci:Df K mg "answer" Pk zQ2 t.b1 t.b2
 bw:Df K mg "answer_row" Pk zx5 t.bh t.bi
 bi:Df K mg "answer_words" PB zr8 t.aQ t.aR
 aW:Df K mg "tell_moves" Pg zm3 t.bj t.bk
 bW:Df K mg "tell_way" ["way"] zE6 t.bB t.bC
 bI:Df K mg "tell_next" Pc zA1 t.bw t.bx
 bx:Df K mg "tell_least" ["low"] zx6 t.bl t.bm
 aN:Df K mg "_law_at" PD yg2 t.cP t.cQ
 aJ:Df K mg "_law_whole" PF zJ5 t.bK t.bL
 bz:Df K mg "_law_figs" Vb zQ3 t.b3 t.b4
 b2:Df K mg "_law_shape" Ph zv2 t.bM t.bN
 bP:Df K mg "_law_put" Vc ya1 t.cw t.cx
 aH:Df K mg "_law_tilt" Vd zQ4 t.b5 t.b6
 cj:Df K mg "_law_lets" Ve zQ5 t.b7 t.b8
 bA:Df K mg "_law_is_spots" Vf zx7 t.bn t.bo
 ck:Df K mg "_law_same" Vg zQ6 t.b9 t.ca
 bB:Df K mg "_law_walk" Vh zQ7 t.cb t.cc
 cl:Df K mg "_law_with" PH zQ8 t.cd t.ce
 cw:Df K mg "_law_way" Pi ya2 t.cy t.cz
 bQ:Df K mg "_law_low" Pi ya3 t.cA t.cB
 bR:Df K mg "_law_say" Pm ya4 t.cC t.cD
 cm:Df K mg "_law_text" Vi zQ9 t.cf t.cg
 bC:Df K mg "_law_goal" Pn zA2 t.ch t.ci
 b3:Df K mg "_law_asked" Pj zJ6 t.bO t.bP
 cn:Df K mg "_law_told" Pj zR0 t.cj t.ck
 co:Df K mg "_law_desk" PJ zR1 t.cl t.cm
 b4:Df K mg "_law_doors" Vj zJ7 t.bQ t.bR
 c2:Fun K "law" "law" zK7 t.bD t.co
 db:zj2 K t.co Ph []
 dc:mg "law" = some (.ref t.bD)
 dd:W.keepIn K (.ref t.bD)=true
 ab:Cls K t.ah
 b5:mg "Beam" = some (.ref t.ah)
 bS:Mk K t.ah t.az
 ah:ze0 K t.ah "notches"
 ax:ze0 K t.ah "room"
 aj:ze0 K t.ah "hefts"
 aR:ze0 K t.ah "limit"
 aa:Cls K t.af
 ct:mg "Way" = some (.ref t.af)
 cM:Mk K t.af t.aH
 ae:ze0 K t.af "reached"
 aB:ze0 K t.af "many"
 ap:ze0 K t.af "row"
 cE:ze0 K t.af "layers"
 cN:ze0 K t.af "again"
 a5:ze0 K t.af "shut"
 al:Cls K t.ae
 cx:mg "Least" = some (.ref t.ae)
 cX:Mk K t.ae t.au
 ak:ze0 K t.ae "limit"
 aX:ze0 K t.ae "row"
 cF:ze0 K t.ae "shut"
 ac:Cls K t.ad
 b6:mg "Play" = some (.ref t.ad)
 bT:Mk K t.ad t.aB
 am:ze0 K t.ad "beam"
 cG:ze0 K t.ad "start"
 an:ze0 K t.ad "standing"
 bD:ze0 K t.ad "made"
 ao:mg "fewest_layers" = some (.ref t.a7)
 aY:mg "next_move_layers" = some (.ref t.aA)
 bj:mg "least_limits" = some (.ref t.bz)
 cH:Meth K t.ad "trail" t.av
 bk:Meth K t.ad "fewest" t.aq
 a4:Meth K t.ad "next_move" t.ao
 bq:Meth K t.ad "least" t.aw
 aI:W.findIn K (.ref t.af) "__class__" = some (some (.builtin "object.__class__"))/\W.specialIn K (.builtin "object.__class__") "__get__" = some (some (.builtin "getset_descriptor.__get__"))/\W.takesIn K (.builtin "object.__class__")=some true/\W.mroIn K t.af (.type "object")=some true
 ba:W.findIn K (.ref t.ae) "__class__" = some (some (.builtin "object.__class__"))/\W.specialIn K (.builtin "object.__class__") "__get__" = some (some (.builtin "getset_descriptor.__get__"))/\W.takesIn K (.builtin "object.__class__")=some true/\W.mroIn K t.ae (.type "object")=some true
 aM:mg "StartPast" = some (.ref t.aa)
 bX:mg "GoalPast" = some (.ref t.ab)
 cy:mg "NoWay" = some (.ref t.ac)
 aC:mg "BeamError" = some (.ref t.aj)
 a6:XCls K t.aa
 bY:XCls K t.ab
 cz:XCls K t.ac
 bJ:W.findIn K (.ref t.aa) "__init__" = some (some (.ref t.ag))
 bE:W.isFn K (.ref t.ag)=true
 b0:ze0 K t.aa "reason"
 ca:ze0 K t.aa "word"
 cT:W.findIn K (.ref t.ab) "__init__" = some (some (.ref t.ai))
 cQ:W.isFn K (.ref t.ai)=true
 b7:ze0 K t.ab "reason"
 bb:ze0 K t.ab "word"
 cZ:W.findIn K (.ref t.ac) "__init__" = some (some (.ref t.al))
 cY:W.isFn K (.ref t.al)=true
 cu:ze0 K t.ac "reason"
 br:ze0 K t.ac "word"
 c0:XWay K
 cO:XAsk K t.aa
 bK:W.exmOne K (.ref t.aa) (.ref t.aj)=some true
 bL:W.exmOne K (.ref t.aa) (.ref t.aa)=some true
 bM:W.kitOne K (.ref t.aa) (.ref t.aa)=some true
 bU:W.kitOne K (.ref t.aa) (.ref t.ab)=some false
 b8:W.kitOne K (.ref t.aa) (.ref t.ac)=some false
 bN:XAsk K t.ab
 aO:W.exmOne K (.ref t.ab) (.ref t.aj)=some true
 de:W.exmOne K (.ref t.ab) (.ref t.aa)=some false
 bV:W.kitOne K (.ref t.ab) (.ref t.aa)=some false
 bZ:W.kitOne K (.ref t.ab) (.ref t.ab)=some true
 cb:W.kitOne K (.ref t.ab) (.ref t.ac)=some false
 cp:XAsk K t.ac
 aZ:W.exmOne K (.ref t.ac) (.ref t.aj)=some true
 df:W.exmOne K (.ref t.ac) (.ref t.aa)=some false
 b9:W.kitOne K (.ref t.ac) (.ref t.aa)=some false
 cc:W.kitOne K (.ref t.ac) (.ref t.ab)=some false
 cA:W.kitOne K (.ref t.ac) (.ref t.ac)=some true
 a0:yr6 K t.aj "__init__" t.ak
 a2:mg "tuple" = none
 ag:mg "len" = none
 az:mg "range" = none
 c3:mg "sum" = none
 c4:mg "zip" = none
 ay:mg "abs" = none
 bc:mg "sorted" = none
 c5:mg "set" = none
 cv:mg "max" = none
 c1:mg "dict" = none
 cU:mg "min" = none
 au:mg "list" = none
 aE:mg "str" = none
 cV:mg "int" = none
 c6:mg "all" = none
 af:mg "isinstance" = none
 cP:mg "bool" = none
 cB:mg "MOST_NOTCHES" = some (.int 4 t.cE)
 cR:mg "MOST_ROOM" = some (.int 3 t.cS)
 bF:mg "MOST_LIMIT" = some (.int 400 t.cR)
 cC:mg "MOST_WEIGHTS" = some (.int 5 t.cF)
 cS:mg "MOST_HEFT" = some (.int 20 t.cT)
 cq:mg "MOST_STANDINGS" = some (.int 1000 t.cn)
 cD:mg "MOST_FIGURES" = some (.int 4 t.cG)
 cW:mg "FIGURES" = some (.str (Str.ofString "0123456789") t.cU)
noncomputable def zq2 (cell base:Int)(mix:Bool):Nat->Int×List Int
 | 0=>(if mix=true then cell*48271 % 2147483647 else cell,[])
 | i+1 =>
   if mix=true then(((zq2 cell base mix i).1+(0+(i:Int))+1)*69621 % 2147483647,(zq2 cell base mix i).2++[(((zq2 cell base mix i).1+(0+(i:Int))+1)*69621 % 2147483647) / 8 % base])
   else((zq2 cell base mix i).1 / base,(zq2 cell base mix i).2++[(zq2 cell base mix i).1 % base])
noncomputable def figs (cell:Int)(n:Nat)(base:Int)(mix:Bool):List Int:=(zq2 cell base mix n).2
theorem zH3 (cell base:Int)(mix:Bool)(n:Nat):(figs cell n base mix).length=n:=by
 unfold figs
 induction n with
 | zero=>rfl
 | succ n a =>
   unfold zq2;cases mix
   . rw[Qg '&'];simp[a]
   . rw[Ql rfl];simp[a]
theorem ya5 {cell base:Int}{mix:Bool}(d:0<base)(n:Nat):∀x∈figs cell n base mix,0<=x/\x<base:=by
 unfold figs
 induction n with
 | zero=>intro x a;cases a
 | succ n c =>
   unfold zq2;have b:∀z:Int,0<=z % base/\z % base<base:=λz=>⟨ZH _ '!',Zy _ d⟩
   intro x a;cases mix
   . rw[Qg '&'] at a
     rcases Qs.mp a with h | h
     . exact c x h
     . obtain rfl:=QG.mp h;exact b _
   . rw[Ql rfl] at a
     rcases Qs.mp a with h | h
     . exact c x h
     . obtain rfl:=QG.mp h;exact b _
structure zi0 (n r:Int)(hs:'#')(lim:Int):Prop where
 n1:1<=n
 n2:n<=4
 r1:1<=r
 r2:r<=3
 l1:0<=lim
 l2:lim<=400
 w:hs.length<=5
 h:∀x∈hs,1<=x/\x<=20
 most:(2*n+1) ^ hs.length<=1000
structure zc7 (n r:Int)(w:Nat)(xs:'#'):Prop where
 len:xs.length=w
 on:∀x∈xs,-n<=x/\x<=n
 room:∀x∈xs,x≠0->(xs.count x:Int)<=r
noncomputable abbrev at0 (ns:'#')(k:Nat):Int:=ns.getD k 0
noncomputable def zt0 (ns:'#'):Bool:=decide (V.int (at0 ns 0 % 2)=V.int 1)
noncomputable def shN (ns:'#'):Int:=([2,3,1,4]:'#').getD (at0 ns 1 % 4).toNat 0
noncomputable def shW (ns:'#'):Int :=
 if ([3,2,4,1,5,0]:'#').getD (at0 ns 1 / 4 % 6).toNat 0<([5,4,3,3]:'#').getD (shN ns-1).toNat 0 then([3,2,4,1,5,0]:'#').getD (at0 ns 1 / 4 % 6).toNat 0 else([5,4,3,3]:'#').getD (shN ns-1).toNat 0
noncomputable def shR (ns:'#'):Int:=1+at0 ns 1 / 24 % 3
noncomputable def shH0 (ns:'#'):List Int:=(figs (at0 ns 2) (shW ns).toNat 20 (zt0 ns)).map λx=>1+x
noncomputable def shH (ns:'#'):List Int :=
 if at0 ns 0 / 2 % 5=1 then(List.replicate (shW ns).toNat ((shH0 ns).take 1)).flatten else if at0 ns 0 / 2 % 5=2 then(List.replicate (shW ns).toNat [20]).flatten else shH0 ns
theorem zK0 (ns:'#'):shN ns=2\/shN ns=3\/shN ns=1\/shN ns=4:=by
 unfold shN;have a:0<=at0 ns 1 % 4:=ZH _ '&';have b:at0 ns 1 % 4<4:=Zy _ '&';have:at0 ns 1 % 4=0\/at0 ns 1 % 4=1\/at0 ns 1 % 4=2\/at0 ns 1 % 4=3:=by omega
 rcases this with e | e | e | e<;>rw[e]<;>decide
theorem cap_of {n:Int}:n=2\/n=3\/n=1\/n=4->([5,4,3,3]:'#').getD (n-1).toNat 0=(if n=1 then 5 else if n=2 then 4 else 3):=by
 rintro(rfl | rfl | rfl | rfl)<;>decide
theorem six_of (z:Int):0<=([3,2,4,1,5,0]:'#').getD (z % 6).toNat 0/\([3,2,4,1,5,0]:'#').getD (z % 6).toNat 0<=5:=by
 have a:0<=z % 6:=ZH _ '&';have b:z % 6<6:=Zy _ '&';have:z % 6=0\/z % 6=1\/z % 6=2\/z % 6=3\/z % 6=4\/z % 6=5:=by omega
 rcases this with e | e | e | e | e | e<;>rw[e]<;>decide
theorem yp4 (ns:'#'):0<=shW ns/\shW ns<=(if shN ns=1 then 5 else if shN ns=2 then 4 else 3):=by
 unfold shW;obtain⟨a,b⟩:=six_of (at0 ns 1 / 4);rw[cap_of (zK0 ns)];have c:(0:Int)<=(if shN ns=1 then 5 else if shN ns=2 then 4 else 3):=by repeat (first | decide | split)
 split<;>omega
theorem pow_cap {n:Int}(h:n=2\/n=3\/n=1\/n=4){w:Nat}(a:(w:Int)<=(if n=1 then 5 else if n=2 then 4 else 3)):(2*n+1) ^ w<=1000:=by
 have b:(if n=1 then(5:Int) else if n=2 then 4 else 3)<=5:=by repeat (first | decide | split)
 have:w=0\/w=1\/w=2\/w=3\/w=4\/w=5:=by omega
 rcases h with rfl | rfl | rfl | rfl<;>rcases this with rfl | rfl | rfl | rfl | rfl | rfl<;>first | decide | (exfalso;revert a;decide)
theorem yd4 (ns:'#'):(shH0 ns).length=(shW ns).toNat:=by unfold shH0;rw[Qb,zH3]
theorem shH_len (ns:'#'):(shH ns).length=(shW ns).toNat:=by
 unfold shH;have a:=yd4 ns
 split
 . rw[zY5,QW,a]
   by_cases h:(shW ns).toNat=0
   . rw[h];simp
   . rw[ZF '!',Nat.mul_one]
 . split
   . rw[zY5];simp
   . exact a
theorem yk7 (ns:'#'):∀x∈shH0 ns,1<=x/\x<=20:=by
 intro x a;unfold shH0 at a;obtain⟨y,b,rfl⟩:=QQ.mp a;have:=ya5 '&' _ y b;omega
theorem shH_in (ns:'#'):∀x∈shH ns,1<=x/\x<=20:=by
 intro x a;unfold shH at a
 split at a
 . obtain⟨l,b,a⟩:=List.mem_flatten.mp a
   obtain⟨_,rfl⟩:=List.mem_replicate.mp b;exact yk7 ns x (ZC a)
 . split at a
   . obtain⟨l,b,a⟩:=List.mem_flatten.mp a
     obtain⟨_,rfl⟩:=List.mem_replicate.mp b;obtain rfl:=QG.mp a;omega
   . exact yk7 ns x a
theorem sh_ok (ns:'#'){a:Int}(b:0<=a)(c:a<=400):zi0 (shN ns) (shR ns) (shH ns) a:=by
 have d:=zK0 ns;have g:=yp4 ns;have h:=shH_len ns;have i:(if shN ns=1 then(5:Int) else if shN ns=2 then 4 else 3)<=5:=by repeat (first | decide | split)
 have e:0<=at0 ns 1 / 24 % 3:=ZH _ '&';have f:at0 ns 1 / 24 % 3<3:=Zy _ '&';exact⟨by omega,by omega,by unfold shR;omega,by unfold shR;omega,b,c,by omega,shH_in ns,pow_cap d '!'⟩
noncomputable def zq7 (n r:Int)(last:Bool)(made:'#')(x:Int):List Int :=
 made++[if (if last=true then n else x-n)≠0/\r<=(made.count (if last=true then n else x-n):Int) then 0 else(if last=true then n else x-n)]
noncomputable def putL (n r:Int)(last:Bool)(xs:'#'):List Int:=xs.foldl (zq7 n r last) []
noncomputable def yd5 (ns:'#')(k:Nat)(more n r:Int)(w:Nat):List Int :=
 putL n r (decide (V.int ((at0 ns k+more) % 13)=V.int 12)) (figs (at0 ns k+more) w (2*n+1) (zt0 ns))
theorem zV9 (n r:Int)(last:Bool)(xs:'#')(x:Int):putL n r last (xs++[x])=zq7 n r last (putL n r last xs) x:=by
 unfold putL;rw[List.foldl_append];rfl
theorem yk8 {n r:Int}(last:Bool)(u:0<=n)(v:1<=r)(xs:'#')(d:∀x∈xs,0<=x/\x<2*n+1) :
   (putL n r last xs).length=xs.length/\(∀y∈putL n r last xs,-n<=y/\y<=n)/\∀y,y≠0->((putL n r last xs).count y:Int)<=r:=by
 have h:∀(k:Nat) (xs:'#'),xs.length=k->(∀x∈xs,0<=x/\x<2*n+1)->(putL n r last xs).length=xs.length/\(∀y∈putL n r last xs,-n<=y/\y<=n)/\∀y,y≠0->((putL n r last xs).count y:Int)<=r:=by
   intro k
   induction k with
   | zero =>
     intro xs c _;have:xs=[]:=QA c;subst this;exact⟨rfl,(λy a=>nomatch a),λy _=>by show((([]:'#').count y:Nat):Int)<=r;simp;omega⟩
   | succ k j =>
     intro xs c d;obtain⟨b,x,rfl⟩:∃b x,xs=b++[x]:=⟨xs.dropLast,xs.getLast (by intro e;rw[e] at c;cases c),(List.dropLast_concat_getLast _).symm⟩;have i:b.length=k:=by rw[Qr,List.length_singleton] at c;omega
     obtain⟨l,m,o⟩:=j b i λz q=>d z (Zl _ q)
     have t:=d x (QS _ (QG.mpr rfl));rw[zV9];unfold zq7
     have s:-n<=(if last=true then n else x-n)/\(if last=true then n else x-n)<=n:=by split<;>omega
     generalize(if last=true then n else x-n)=p at s ⊢;refine⟨by rw[Qr,Qr,l];rfl,λy a=>?_,λy a=>?_⟩
     . rcases Qs.mp a with a | a
       . exact m y a
       . obtain rfl:=QG.mp a
         split<;>omega
     . rw[List.count_append,List.count_singleton]
       have g:=o y a;by_cases f:p≠0/\r<=((putL n r last b).count p:Int)
       . rw[Ql f]
         have:((0:Int) == y)=false:=by simpa using λe=>a e.symm
         rw[this];simpa using g
       . rw[Qg f]
         by_cases e:p=y
         . subst e
           have:¬ r<=((putL n r last b).count p:Int):=λz=>f ⟨a,z⟩
           simp;omega
         . have:(p == y)=false:=by simpa using e
           rw[this];simpa using g
 exact h xs.length xs rfl d
theorem yp5 (ns:'#')(k:Nat)(a:Int){n r:Int}(w:Nat)(g:1<=n)(b:1<=r):zc7 n r w (yd5 ns k a n r w):=by
 unfold yd5;obtain⟨c,d,e⟩:=yk8 (n:=n) (r:=r) (decide (V.int ((at0 ns k+a) % 13)=V.int 12)) '!' b (figs (at0 ns k+a) w (2*n+1) (zt0 ns)) (ya5 '!' w);exact⟨by rw[c,zH3],d,λx _ f=>e x f⟩
noncomputable def zH4 (n r:Int) (h:Addr) (lim:Int):List (Str×V):=putF "limit" (.int lim) (putF "hefts" (.ref h) (putF "room" (.int r) (putF "notches" (.int n) [])))
theorem zn3 (n r:Int) (h:Addr) (a:Int):(zH4 n r h a).lookup ("notches" : Str)=some (V.int n):=by
 unfold zH4;rw[zb0,Qg '(',zb0,Qg '(',zb0,Qg '(',zb0,Ql rfl]
theorem ya6 (n r:Int) (h:Addr) (a:Int):(zH4 n r h a).lookup ("room" : Str)=some (V.int r):=by
 unfold zH4;rw[zb0,Qg '(',zb0,Qg '(',zb0,Ql rfl]
theorem zC4 (n r:Int) (h:Addr) (a:Int):(zH4 n r h a).lookup ("hefts" : Str)=some (V.ref h):=by
 unfold zH4;rw[zb0,Qg '(',zb0,Ql rfl]
theorem b_limit (n r:Int) (h:Addr) (a:Int):(zH4 n r h a).lookup ("limit" : Str)=some (V.int a):=by
 unfold zH4;rw[zb0,Ql rfl]
def ze3 (t:Adr)(H:Hp)(b:Addr)(n r:Int)(hs:'#')(lim:Int):Prop :=
 zi0 n r hs lim/\∃dx h,H b=some (.ins t.ah dx (zH4 n r h lim))/\H h=some (.tup (hs.map V.int))
theorem ze3.same {t:Adr}{H H':Hp}{b:Addr}{n r:Int}{c:'#'}{a:Int}(B:ze3 t H b n r c a)(s:Same H H'):ze3 t H' b n r c a:=by
 obtain⟨ok,d,h,e,f⟩:=B;exact⟨ok,d,h,s _ _ e,s _ _ f⟩
def sp_outside (K:W.Frag)(t:Adr):Sp:=λvs H Q _=>∃a lo hi:Int,vs=[.int a,.int lo,.int hi]/\Q (.bl (decide (a<lo) || decide (hi<a))) H
def sp_check_bounds (K:W.Frag)(t:Adr):Sp:=λvs H Q _=>∃n r l:Int,vs=[.int n,.int r,.int l]/\(1<=n/\n<=4/\1<=r/\r<=3/\0<=l/\l<=400)/\Q .non H
def sp_check_hefts (K:W.Frag)(t:Adr):Sp:=λvs H Q _=>∃(a:Addr) (hs:'#'),vs=[.ref a]/\(SqL K H a (hs.map V.int)\/SqT K H a (hs.map V.int))/\(hs.length<=5/\∀x∈hs,1<=x/\x<=20)/\Q .non H
def sp_check_standings (K:W.Frag)(t:Adr):Sp:=λvs H Q _=>∃(n:Int) (w:Nat),vs=[.int n,.int w]/\(1<=n/\n<=4/\w<=5/\(2*n+1) ^ w<=1000)/\Q .non H
def sp_Beam_init (K:W.Frag)(t:Adr):Sp:=λvs H Q _=>∃(p dx a:Addr) (n r lim:Int) (hs:'#'),vs=[.ref p,.int n,.int r,.ref a,.int lim]/\H p=some (.ins t.ah dx []) ∧
 (SqL K H a (hs.map V.int)\/H a=some (.tup (hs.map V.int)))/\zi0 n r hs lim/\∀H',ze3 t H' p n r hs lim->zf7 p H H'->Q .non H'
def sp_as_standing (K:W.Frag)(t:Adr):Sp:=λvs H Q _=>∃(b a:Addr) (n r lim:Int) (hs xs:'#'),vs=[.ref b,.ref a]/\ze3 t H b n r hs lim/\zc7 n r hs.length xs ∧
 (SqL K H a (xs.map V.int)\/H a=some (.tup (xs.map V.int)))/\∀l H',Same H H'->H' l=some (.tup (xs.map V.int))->Q (.ref l) H'
def sp_w_at (K:W.Frag)(t:Adr):Sp:=λvs H Q _=>∃(a:Addr) (ns:'#') (k:Nat),vs=[.ref a,.int k]/\SqL K H a (ns.map V.int)/\Q (.int (ns.getD k 0)) H
def sp_w_whole (K:W.Frag)(t:Adr):Sp:=λvs H Q _=>∃i:Int,vs=[.int i]/\Q (.bl true) H
def sp_w_figs (K:W.Frag)(t:Adr):Sp:=λvs H Q _=>∃(cell base:Int) (n:Nat) (mix:Bool),vs=[.int cell,.int n,.int base,.bl mix]/\(n<=1000/\0<base/\base<1000) ∧
 ∀l,H l=none->Q (.ref l) (upd H l (.lst ((figs cell n base mix).map V.int)))
def sp_w_same (K:W.Frag)(t:Adr):Sp:=λvs H Q _=>∃(a b:Addr) (xs ys:'#'),vs=[.ref a,.ref b]/\(SqL K H a (xs.map V.int)\/SqT K H a (xs.map V.int))/\(SqL K H b (ys.map V.int)\/SqT K H b (ys.map V.int))/\ys.length<=1000/\Q (.bl (decide (xs=ys))) H
def sp_w_shape (K:W.Frag)(t:Adr):Sp:=λvs H Q _=>∃(a:Addr) (ns:'#'),vs=[.ref a]/\SqL K H a (ns.map V.int) ∧
 ∀l h H',Same H H'->H l=none->H h=none->H' h=some (.lst ((shH ns).map V.int))->H' l=some (.lst [.int (shN ns),.int (shR ns),.ref h])->Q (.ref l) H'
def sp_w_put (K:W.Frag)(t:Adr):Sp:=λvs H Q _=>∃(a sh h:Addr) (ns:'#') (k:Nat) (more n r:Int) (hs:'#'),vs=[.ref a,.int k,.int more,.ref sh]/\SqL K H a (ns.map V.int) ∧
 H sh=some (.lst [.int n,.int r,.ref h])/\SqL K H h (hs.map V.int)/\(1<=n/\n<=4/\1<=r/\hs.length<=5) ∧
 ∀l H',Same H H'->H l=none->H' l=some (.lst ((yd5 ns k more n r hs.length).map V.int))->Q (.ref l) H'
def yk9 (K:W.Frag):Sp:=λvs H Q _=>∃(a:Addr) (ns:'#'),vs=[.ref a]/\SqL K H a (ns.map V.int)/\ns.length<=63/\∀H',Q (.bl true) H'
def sp_law (K:W.Frag)(t:Adr):Sp:=yk9 K
section
variable {P:Program} {w:World} {K:W.Frag} {mg:Str->Option Value} {base:Heap} {t:Adr}
theorem zn4 (T:Txt K mg t):FnOk P w K mg base CX0 1 t.bE t.bF Pq (sp_outside K t):=by
 refine T.av.F.ok sc_outside (λc H Q E h=>?_) (λg A f s H c Q E i h=>?_)
 . obtain⟨a,d,e,rfl,q⟩:=h
   rfl
 . obtain⟨a,d,e,rfl,q⟩:=h
   refine⟨_,(za4 (za9 (yq9 (zf0 zN0 P0 P1 (zb8 _)) (zy7 (zf0 zu7 P0 P2 (zb8 _)))))),?_⟩;refine⟨_,rfl,_,rfl,_,_,rfl,rfl,_,rfl,?_⟩;refine ite2 (λb=>?_) (λb=>?_)
   . rw[b] at q
     exact q
   . rw[Bool.eq_false_iff.mpr b] at q
     exact⟨_,rfl,_,rfl,_,_,rfl,rfl,q⟩
theorem ok_check_bounds (T:Txt K mg t):FnOk P w K mg base CX0 2 t.aM t.aN Pr (sp_check_bounds K t):=by
 refine T.bf.F.ok sc_check_bounds (λi H Q E h=>?_) (λk A j s H i Q E a h=>?_)
 . obtain⟨n,r,l,rfl,⟨b,c,d,e,f,g⟩,q⟩:=h
   rfl
 . obtain⟨n,r,l,rfl,⟨b,c,d,e,f,g⟩,q⟩:=h
   refine⟨_,(za2 (zc2 (zd3 (za7 (zn4 T) a.m T.av zb1 (za0 P0 (za0 za6 (za0 (zj1 (v:=.int 4) rfl T.cB ⟨_,rfl⟩) za1))))) (za4 zg7) zb3)
     (za2 (zc2 (zd3 (za7 (zn4 T) a.m T.av zb1 (za0 P1 (za0 za6 (za0 (zj1 (v:=.int 3) rfl T.cR ⟨_,rfl⟩) za1))))) (za4 zg7) zb3)
     (za4 (zc2 (zd3 (za7 (zn4 T) a.m T.av zb1 (za0 P2 (za0 za6 (za0 (zj1 (v:=.int 400) rfl T.bF ⟨_,rfl⟩) za1))))) (za4 zg7) zb3)))),?_⟩
   refine cut3 ?_;intro m o;refine⟨_,rfl,_,_,_,rfl,_,rfl,iteB (zy9 b c) ?_⟩;refine⟨_,rfl,_,_,_,rfl,_,rfl,iteB (zy9 d e) ?_⟩;exact⟨_,rfl,_,_,_,rfl,_,rfl,iteB (zy9 f g) q⟩
theorem ok_check_hefts (T:Txt K mg t):FnOk P w K mg base CX0 2 t.aS t.aT ["hefts"] (sp_check_hefts K t):=by
 refine T.bm.F.ok zA3 (λn H Q E h=>?_) (λy A u s H n Q E o h=>?_)
 . obtain⟨a,f,rfl,b,⟨p,m⟩,q⟩:=h
   rfl
 . obtain⟨a,f,rfl,b,⟨p,m⟩,q⟩:=h
   refine⟨_,(za2 (zc2 (zb9 zu7 (zb6 zc1 rfl T.ag QF (za0 P0 za1)) (zj1 (v:=.int 5) rfl T.cC ⟨_,rfl⟩) (zb8 _)) (za4 zg7) zb3)
     (za4 (zj4 PassesOwn.never rfl (pi_seq P0) (zc3 (i:=1) zA3.nd rfl '$') (za4 (zc2 (zd3 (za7 (zn4 T) o.m T.av zb1 (za0 P1 (za0 za6 (za0 (zj1 (v:=.int 20) rfl T.cS ⟨_,rfl⟩) za1))))) (za4 zg7) zb3))))),?_⟩
   refine⟨_,rfl,a,f.map V.int,rfl,b,_,_,rfl,rfl,_,rfl,iteB (zN8 (by rw[Qb];omega)) ?_⟩;refine⟨_,rfl,a,rfl,?_⟩;have l:∀(i:Nat) x,(f.map V.int)[i]?=some x->∃z,x = .int z/\1<=z/\z<=20:=λi x e=>by
     obtain⟨z,rfl,r⟩:=int_at e;exact⟨z,rfl,m z (Qy r)⟩
   rcases b with b | b
   . refine .inl ⟨⟨_,b⟩,zn9 (K:=K) (a:=a) (xs:=f.map V.int) (λi d c=>X1 λv=>A2 (d=[some (.ref a),v]) (c=H)) ⟨_,rfl,rfl⟩ (λi d c _ ⟨_,_,e⟩=>e▸b) ?_ ?_⟩
     . rintro i x d c g ⟨v,rfl,rfl⟩
       obtain⟨z,rfl,j,k⟩:=l i x g;exact⟨_,rfl,_,_,_,rfl,_,rfl,iteB (zy9 j k) ⟨_,rfl,rfl⟩⟩
     . rintro d c ⟨v,rfl,rfl⟩
       exact q
   . refine .inr ⟨⟨_,b⟩,zL0 (K:=K) (a:=a) (xs:=f.map V.int) (λi d c=>X1 λv=>A2 (d=[some (.ref a),v]) (c=H)) ⟨_,rfl,rfl⟩ (λi d c _ ⟨_,_,e⟩=>e▸b) ?_ ?_⟩
     . rintro i x d c g ⟨v,rfl,rfl⟩
       obtain⟨z,rfl,j,k⟩:=l i x g;exact⟨_,rfl,_,_,_,rfl,_,rfl,iteB (zy9 j k) ⟨_,rfl,rfl⟩⟩
     . rintro d c ⟨v,rfl,rfl⟩
       exact q
theorem ok_check_standings (T:Txt K mg t):FnOk P w K mg base CX0 1 t.ax t.ay PK (sp_check_standings K t):=by
 refine T.a3.F.ok zi5 (λd H Q E h=>?_) (λk A j s H d Q E o h=>?_)
 . obtain⟨n,w,rfl,⟨e,f,g,c⟩,q⟩:=h
   rfl
 . obtain⟨n,w,rfl,⟨e,f,g,c⟩,q⟩:=h
   refine⟨_,(za2 (zb7 (i:=2) zi5.nd rfl '$' za6)
     (za2 (zj4 PassesOwn.never rfl (zq9 rfl T.az (za0 P1 za1)) (zc3 (i:=3) zi5.nd rfl '$') (za4 (zb7 (i:=2) zi5.nd rfl '$' (zc0 zr5 P2 (zc0 zl8 (zc0 zr5 za6 P0) za6)))))
     (za4 (zc2 (zb9 zu7 P2 (zj1 (v:=.int 1000) rfl T.cq ⟨_,rfl⟩) (zb8 _)) (za4 zg7) zb3)))),?_⟩
   refine cut3 ?_;intro l m;refine⟨_,rfl,_,rfl,by omega,by omega,zl5 (n:=(w:Int).toNat) (λi b a=>X1 λv=>A2 (b=[some (.int n),some (.int w),some (.int ((2*n+1) ^ i)),v]) (a=H)) ⟨none,by rw[Int.pow_zero];rfl,rfl⟩ ?_ ?_⟩
   . rintro i b a p ⟨v,rfl,rfl⟩
     exact⟨_,rfl,_,rfl,_,_,rfl,rfl,.inl ⟨by decide,by decide⟩,_,_,rfl,rfl,_,_,rfl,rfl,.inr ⟨by omega,by omega⟩,_,by rw[Int.pow_succ];rfl,rfl⟩
   . rintro b a ⟨v,rfl,rfl⟩
     exact⟨_,rfl,_,_,rfl,rfl,_,rfl,iteB (zN8 (by rw[ZE];exact c)) q⟩
theorem zx8 (T:Txt K mg t):FnOk P w K mg base CX0 3 t.az t.bp Pp (sp_Beam_init K t):=by
 refine T.aK.F.ok sc_Beam_init (λD H Q E h=>?_) (λJ A I s H D Q E u h=>?_)
 . obtain⟨p,d,a,n,r,x,g,rfl,v,c,B,q⟩:=h
   rfl
 . obtain⟨p,d,a,n,r,x,g,rfl,v,c,B,q⟩:=h
   refine⟨_,(za2 (zg6 (za7 (ok_check_bounds T) u.m T.bf zb1 (za0 P1 (za0 P2 (za0 (pv 4) za1)))))
     (za2 (zg6 (za7 (ok_check_hefts T) u.m T.bm zb1 (za0 P3 za1)))
     (za2 (zg6 (za7 (ok_check_standings T) u.m T.a3 zb1 (za0 P1 (za0 (zb6 zc1 rfl T.ag QF (za0 P3 za1)) za1))))
     (za2 (zj6 P0 P1 rfl)
     (za2 (zj6 P0 P2 rfl)
     (za2 (zj6 P0 (zd2 zt6 rfl T.a2 PyProof.Rows.boot_tuple (za0 P3 za1)) rfl)
     (za4 (zj6 P0 (pv 4) rfl)))))))),?_⟩
   refine cut7 ?_;intro L M N O R S;have y:SqL K H a (g.map V.int)\/SqT K H a (g.map V.int):=c.imp id SqT.of;refine⟨_,rfl,_,rfl,_,rfl,n,r,x,rfl,⟨B.n1,B.n2,B.r1,B.r2,B.l1,B.l2⟩,?_⟩;refine⟨_,rfl,a,g,rfl,y,⟨B.w,B.h⟩,?_⟩;refine⟨_,rfl,_,rfl,a,_,rfl,y,n,g.length,by rw[Qb];rfl,⟨B.n1,B.n2,B.w,B.most⟩,?_⟩;refine⟨_,rfl,_,rfl,p,_,d,_,rfl,v,T.ab,T.ah,by decide,?_⟩;refine⟨_,rfl,_,rfl,p,_,d,_,rfl,za3,T.ab,T.ax,zl4 fl0,?_⟩;have j:∀ {b:Addr} {o:HO},H b=some o->o≠.ins t.ah d []->b≠p:=λe F=>zD0 e v F
   refine⟨_,rfl,a,g.map V.int,rfl,?_⟩;rcases c with c | c
   . have U:∀o,SqL K (upd (upd H p o) p o) a (g.map V.int)->True:=λ_ _=>trivial
     refine .inl ⟨?_,λl m=>?_⟩
     . rcases c with(c | ⟨G,c⟩) | c
       . exact .inl (.inl (by rw[za8 (j c (by intro z;cases z)),za8 (j c (by intro z;cases z))];exact c))
       . exact .inl (.inr ⟨G,by rw[za8 (j c (by intro z;cases z)),za8 (j c (by intro z;cases z))];exact c⟩)
       . exact .inr c
     . have k:l≠p:=λz=>by rw[z,za3] at m;cases m
       have C:H l=none:=by rw[za8 k,za8 k] at m;exact m
       refine⟨_,rfl,p,_,d,_,rfl,(by rw[za8 k.symm];exact za3),T.ab,T.aj,zl4 (flS fl0),?_⟩;refine⟨_,rfl,_,rfl,p,_,d,_,rfl,za3,T.ab,T.aR,zl4 (flS (flS fl0)),?_⟩;refine q _ ⟨B,d,l,za3,by rw[za8 k,za8 k,za3]⟩ λb o e f=>?_
       rw[za8 f,za8 f,za8 (zb5 e C),za8 f,za8 f];exact e
   . have i:a≠p:=j c (by intro z;cases z)
     refine .inr ⟨SqT.of (by rw[za8 i,za8 i];exact c),?_⟩;refine⟨_,rfl,p,_,d,_,rfl,za3,T.ab,T.aj,zl4 (flS fl0),?_⟩;refine⟨_,rfl,_,rfl,p,_,d,_,rfl,za3,T.ab,T.aR,zl4 (flS (flS fl0)),?_⟩;refine q _ ⟨B,d,a,za3,by rw[za8 i,za8 i,za8 i,za8 i];exact c⟩ λb o e f=>?_
     rw[za8 f,za8 f,za8 f,za8 f];exact e
theorem zd9 (T:Txt K mg t):FnOk P w K mg base CX0 2 t.aU t.aV Pb (sp_as_standing K t):=by
 refine T.ad.F.ok zr9 (λM H Q E h=>?_) (λU A S s H M Q E N h=>?_)
 . obtain⟨b,a,n,r,L,O,xs,rfl,B,k,u,q⟩:=h
   rfl
 . obtain⟨b,a,n,r,L,O,xs,rfl,B,k,u,q⟩:=h
   refine⟨_,(za2 (zb7 (i:=2) zr9.nd rfl '$' (zd2 zt6 rfl T.a2 PyProof.Rows.boot_tuple (za0 P1 za1)))
     (za2 (zc2 (zb9 zl9 (zb6 zc1 rfl T.ag QF (za0 P2 za1)) (zb6 zc1 rfl T.ag QF (za0 (zc8 P0 rfl) za1)) (zb8 _)) (za4 zg7) zb3)
     (za2 (zj4 PassesOwn.never rfl (zX6 P2) (zc3 (i:=3) zr9.nd rfl '$') (za2 (zc2 (zd3 (za7 (zn4 T) N.m T.av zb1 (za0 P3 (za0 (yh0 zX7 (zc8 P0 rfl)) (za0 (zc8 P0 rfl) za1))))) (za4 zg7) zb3)
     (za4 (zc2 (PW.pt (zI2 (zb9 zl9 P3 za6 (zb8 _)) (zF0 (zb9 zu7 (yn8 PySem.F.slot_tuple_count PySem.F.type_tuple_count zI5 P2 (za0 P3 za1)) (zc8 P0 rfl) (zb8 _))))) (za4 zg7) zb3))))
     (za4 (za9 P2))))),?_⟩
   refine cut4 ?_;intro W X Y;refine⟨_,rfl,a,xs.map V.int,rfl,?_⟩;rcases u with u | c
   . refine .inl ⟨u,λl J=>?_⟩
     replace q:=q l _ (Same.upd J) za3;have c:(upd H l (.tup (xs.map V.int))) l=some (.tup (xs.map V.int)):=za3;replace B:=B.same (Same.upd (o:=.tup (xs.map V.int)) J);revert q c B;generalize upd H l (.tup (xs.map V.int))=R;intro q c B;obtain⟨ok,d,h,f,C⟩:=B;refine⟨_,rfl,_,_,rfl,.inr (SqT.of c),_,rfl,b,_,d,_,_,rfl,f,T.ab,T.aj,zC4 _ _ _ _,h,_,rfl,.inr (SqT.of C),rfl,_,rfl,?_⟩;refine iteB (by rw[Qb,Qb,k.len];simp) ?_;refine⟨_,rfl,_,rfl,⟨_,SqT.of c⟩,zL0 (K:=K) (xs:=xs.map V.int) (λi j g=>X1 λv=>A2 (j=[some (.ref b),some (.ref a),some (.ref l),v]) (g=R)) ⟨none,rfl,rfl⟩ (λi j g _ ⟨_,_,e⟩=>e▸SqT.of c) ?_ ?_⟩
     . rintro i x j g D ⟨v,rfl,rfl⟩
       obtain⟨z,rfl,F⟩:=int_at D;have m:=Qy F;obtain⟨G,I⟩:=k.on z m;refine⟨_,rfl,_,rfl,b,_,d,_,_,rfl,f,T.ab,T.ah,zn3 _ _ _ _,_,rfl,_,rfl,b,_,d,_,_,rfl,f,T.ab,T.ah,zn3 _ _ _ _,z,-n,n,rfl,_,rfl,iteB (zy9 G I) ?_⟩;refine⟨_,rfl,rfl,_,rfl,?_⟩;refine ite2 (λp=>?_) (λp=>?_)
       . have y:z≠0:=by
           intro e;subst e;simp at p
         exact⟨_,rfl,⟨_,_,rfl,c⟩,_,rfl,_,xs,z,rfl,rfl,SqT.of c,_,rfl,b,_,d,_,_,rfl,f,T.ab,T.ax,ya6 _ _ _ _,_,_,rfl,rfl,_,rfl,iteB (zN8 (k.room z m y)) ⟨_,rfl,rfl⟩⟩
       . exact iteF ⟨_,rfl,rfl⟩
     . rintro j g ⟨v,rfl,rfl⟩
       exact⟨_,rfl,q⟩
   . refine .inr ⟨SqT.of c,?_⟩
     replace q:=q a _ (Same.refl _) c;obtain⟨ok,d,h,f,C⟩:=B;refine⟨_,rfl,_,_,rfl,.inr (SqT.of c),_,rfl,b,_,d,_,_,rfl,f,T.ab,T.aj,zC4 _ _ _ _,h,_,rfl,.inr (SqT.of C),rfl,_,rfl,?_⟩;refine iteB (by rw[Qb,Qb,k.len];simp) ?_;refine⟨_,rfl,_,rfl,⟨_,SqT.of c⟩,zL0 (K:=K) (xs:=xs.map V.int) (λi j g=>X1 λv=>A2 (j=[some (.ref b),some (.ref a),some (.ref a),v]) (g=H)) ⟨none,rfl,rfl⟩ (λi j g _ ⟨_,_,e⟩=>e▸SqT.of c) ?_ ?_⟩
     . rintro i x j g D ⟨v,rfl,rfl⟩
       obtain⟨z,rfl,F⟩:=int_at D;have m:=Qy F;obtain⟨G,I⟩:=k.on z m;refine⟨_,rfl,_,rfl,b,_,d,_,_,rfl,f,T.ab,T.ah,zn3 _ _ _ _,_,rfl,_,rfl,b,_,d,_,_,rfl,f,T.ab,T.ah,zn3 _ _ _ _,z,-n,n,rfl,_,rfl,iteB (zy9 G I) ?_⟩;refine⟨_,rfl,rfl,_,rfl,?_⟩;refine ite2 (λp=>?_) (λp=>?_)
       . have y:z≠0:=by
           intro e;subst e;simp at p
         exact⟨_,rfl,⟨_,_,rfl,c⟩,_,rfl,_,xs,z,rfl,rfl,SqT.of c,_,rfl,b,_,d,_,_,rfl,f,T.ab,T.ax,ya6 _ _ _ _,_,_,rfl,rfl,_,rfl,iteB (zN8 (k.room z m y)) ⟨_,rfl,rfl⟩⟩
       . exact iteF ⟨_,rfl,rfl⟩
     . rintro j g ⟨v,rfl,rfl⟩
       exact⟨_,rfl,q⟩
noncomputable def zb4 (hs xs:'#'):Int:=(List.zipWith (λh x=>h*x) hs xs).sum
noncomputable def absI (i:Int):Int:=if i<0 then -i else i
noncomputable def mulV (x y:V):V:=match x,y with
 | .int a,.int b=>.int (a*b)
 | _,_=>.non
theorem yd6:∀(a b:'#'),List.zipWith mulV (a.map V.int) (b.map V.int)=(List.zipWith (λh x=>h*x) a b).map V.int
 | [],_=>rfl
 | _::_,[]=>rfl
 | h::a,x::b=>by
   show V.int (h*x)::List.zipWith mulV (a.map V.int) (b.map V.int)=_;rw[yd6 a b];rfl
theorem zK1:∀ {b c:'#'} {B:Int},(∀h∈b,1<=h/\h<=20)->(∀x∈c,-B<=x/\x<=B)->0<=B->∀z∈List.zipWith (λh x=>h*x) b c,-(20*B)<=z/\z<=20*B
 | [],_,_,_,_,_=>(λz a=>by simp at a)
 | _::_,[],_,_,_,_=>(λz a=>by simp at a)
 | h::b,x::c,B,h1,h2,hB=>λz a=>by
   rw[List.zipWith_cons_cons] at a;rcases Qn.mp a with rfl | a
   . obtain⟨i,e⟩:=h1 h QC
     obtain⟨f,g⟩:=h2 x QC;have j:h*x<=h*B:=Int.mul_le_mul_of_nonneg_left g '!';have k:h*B<=20*B:=Int.mul_le_mul_of_nonneg_right e hB;have l:h * -B<=h*x:=Int.mul_le_mul_of_nonneg_left f '!';have m:h * -B = -(h*B):=Int.mul_neg h B;omega
   . exact zK1 (λy d=>h1 y (Qv _ d)) (λy d=>h2 y (Qv _ d)) hB z a
theorem tilt_fits {n r b:Int}{a xs:'#'}(ok:zi0 n r a b)(c:zc7 n r a.length xs):PySem.SumFits (List.zipWith (λh x=>h*x) a xs):=by
 refine PyProof.Rows.sumFits_of_bound (B:=80) (n:=5) '&' (λz d=>?_) ?_ '&'
 . have:=zK1 (B:=4) ok.h (λx e=>by have:=c.on x e;have:=ok.n2;omega) '&' z d
   omega
 . rw[ZI]
   have:=ok.w;omega
def sp_tilt (K:W.Frag)(t:Adr):Sp:=λvs H Q _=>∃(b a:Addr) (n r lim:Int) (hs xs:'#'),vs=[.ref b,.ref a]/\ze3 t H b n r hs lim/\zc7 n r hs.length xs ∧
 (SqL K H a (xs.map V.int)\/H a=some (.tup (xs.map V.int)))/\∀H',Same H H'->Q (.int (zb4 hs xs)) H'
def sp_keeps (K:W.Frag)(t:Adr):Sp:=λvs H Q _=>∃(b a:Addr) (n r lim:Int) (hs xs:'#'),vs=[.ref b,.ref a]/\ze3 t H b n r hs lim/\zc7 n r hs.length xs ∧
 (SqL K H a (xs.map V.int)\/H a=some (.tup (xs.map V.int)))/\∀H',Same H H'->Q (.bl (decide (absI (zb4 hs xs)<=lim))) H'
theorem zH5 (T:Txt K mg t):FnOk P w K mg base CX0 3 t.cH t.cI Pb (sp_tilt K t):=by
 refine T.aS.F.ok yk6 (λF H Q E h=>?_) (λU A S s H F Q E G h=>?_)
 . obtain⟨b,a,n,r,d,e,g,rfl,B,c,j,q⟩:=h
   rfl
 . obtain⟨b,a,n,r,d,e,g,rfl,B,c,j,q⟩:=h
   refine⟨_,(za2 (zb7 (i:=2) yk6.nd rfl '$' (za7 (zd9 T) G.m T.ad zb1 (za0 P0 (za0 P1 za1))))
     (za4 (za9 (zb6 (call_sum rfl) rfl T.c3 PyProof.Rows.boot_sum (za0 (zk0 rfl zJ8 (pi_zip rfl T.c4 (za0 (zc8 P0 rfl) (za0 P2 za1))) (λ_ _ _ _ _=>(pg_tupK (n:=2) K rfl rfl (zg2 (zc3 (i:=0) zJ8.nd rfl '$') (zg2 (zc3 (i:=1) zJ8.nd rfl '$') zF1)))) (λ_ _ _ _ _=>zg8) (λ_ _ _ _ _=>(zc0 zr5 P0 P1))) za1))))),?_⟩
   refine⟨_,rfl,_,rfl,b,a,n,r,d,e,g,rfl,B,c,j,λl V k m=>?_⟩;have ok:=B.1;obtain⟨_,I,h,J,o⟩:=B.same k;refine⟨_,rfl,b,_,I,_,_,rfl,J,T.ab,T.aj,zC4 _ _ _ _,_,rfl,h,l,_,_,rfl,o,m,λD L=>?_⟩;refine comp_zip (f:=mulV) (rest:=[]) o m (by rw[Qb,Qb,c.len]) L (Zs (zd0 (by rw[Qb];have:=ok.w;omega))) (λi x y p R M N z h=>?_) (λp z C=>?_)
   . obtain⟨u,rfl,O⟩:=int_at M
     obtain⟨v,rfl,W⟩:=int_at N;have:=ok.h u (Qy O);exact⟨_,rfl,_,rfl,_,_,rfl,rfl,.inl ⟨by omega,by omega⟩,h⟩
   . rw[yd6] at C
     exact⟨D,_,rfl,SqL.of C,tilt_fits ok c,q p (k.trans z)⟩
theorem not_past (a b:Int):(!decide (b<a))=decide (a<=b):=by
 by_cases h:b<a
 . rw[Qh h,Qe '!'];rfl
 . rw[Qe h,Qh '!'];rfl
def sp_past (K:W.Frag)(t:Adr):Sp:=λvs H Q _=>∃(b:Addr) (n r lim:Int) (hs:'#') (z:Int),vs=[.ref b,.int z]/\ze3 t H b n r hs lim/\Q (.bl (decide (lim<absI z))) H
theorem ya7 (T:Txt K mg t):FnOk P w K mg base CX0 1 t.cJ t.cK Pt (sp_past K t):=by
 refine T.bs.F.ok sc_past (λc H Q E h=>?_) (λi A g s H c Q E j h=>?_)
 . obtain⟨b,n,r,a,d,z,rfl,B,q⟩:=h
   rfl
 . obtain⟨b,n,r,a,d,z,rfl,B,q⟩:=h
   refine⟨_,(za4 (za9 (zf0 zu7 (zb6 zi8 rfl T.ay QZ (za0 P1 za1)) (zc8 P0 rfl) (zb8 _)))),?_⟩;obtain⟨_,e,h,f,k⟩:=B;exact⟨_,rfl,_,rfl,_,rfl,b,_,e,_,_,rfl,f,T.ab,T.aR,b_limit _ _ _ _,_,_,rfl,rfl,q⟩
theorem zR4 (T:Txt K mg t):FnOk P w K mg base CX0 4 t.cr t.cs Pb (sp_keeps K t):=by
 refine T.bh.F.ok sc_keeps (λk H Q E h=>?_) (λo A m s H k Q E e h=>?_)
 . obtain⟨b,a,n,r,c,d,f,rfl,B,g,i,q⟩:=h
   rfl
 . obtain⟨b,a,n,r,c,d,f,rfl,B,g,i,q⟩:=h
   refine⟨_,(za4 (za9 (yf3 (za7 (ya7 T) e.m T.bs zb1 (za0 P0 (za0 (za7 (zH5 T) e.m T.aS zb1 (za0 P0 (za0 P1 za1))) za1)))))),?_⟩;refine⟨_,rfl,_,rfl,_,rfl,b,a,n,r,c,d,f,rfl,B,g,i,λl j=>⟨b,n,r,c,d,_,rfl,B.same j,_,rfl,?_⟩⟩;rw[not_past];exact q l j
noncomputable def ze9 (hs xs:'#')(i:Nat):Int:=zb4 hs xs-hs.getD i 0*xs.getD i 0
theorem zB0:∀(a b:'#') (i:Nat) (p:Int),a.length=b.length->i<b.length->zb4 a (b.set i p)=ze9 a b i+a.getD i 0*p
 | [],b,i,p,d,c=>by rw[<-d] at c;cases c
 | _::_,[],i,p,d,c=>by cases c
 | h::a,x::b,0,p,_,_=>by
   show h*p+zb4 a b=(h*x+zb4 a b)-h*x+h*p;omega
 | h::a,x::b,i+1,p,d,c=>by
   have e:=zB0 a b i p (by simpa using d) (by simpa using c);unfold ze9 at e ⊢;show h*x+zb4 a (b.set i p)=(h*x+zb4 a b)-a.getD i 0*b.getD i 0+a.getD i 0*p;omega
theorem zD7 {xs:'#'}{i:Nat}{p:Int}(a:i<xs.length):(xs.set i p).getD i 0=p:=by
 rw[Qw,List.getElem?_set_self a];rfl
theorem yd7 {a xs:'#'}{i:Nat}{p:Int}(c:a.length=xs.length)(b:i<xs.length):ze9 a (xs.set i p) i=ze9 a xs i:=by
 have:=zB0 a xs i p c b;unfold ze9 at this ⊢;rw[this,zD7 b];omega
theorem set_back {xs:'#'}{i:Nat}(p:Int)(a:i<xs.length):(xs.set i p).set i (xs.getD i 0)=xs:=by
 rw[List.set_set,Qw,Qf a];exact List.set_getElem_self a
theorem zE7 {xs:'#'}{i:Nat}{p y:Int}(a:i<xs.length):((xs.set i p).count y:Int)=(xs.count y:Int)-(if xs.getD i 0=y then 1 else 0)+(if p=y then 1 else 0):=by
 have e:xs.getD i 0=xs[i]:=by rw[Qw,Qf a];rfl
 rw[e,List.count_set a];have:xs[i]=y->1<=xs.count y:=λh=>List.count_pos_iff.mpr (h▸Zu a)
 by_cases b:xs[i]=y<;>by_cases c:p=y<;>simp[b,c]<;>have:=this b<;>omega
structure Lets (n r:Int)(hs:'#')(lim:Int)(xs:'#')(i:Nat)(p:Int):Prop where
 lt:i<xs.length
 on:-n<=p/\p<=n
 ne:p≠xs.getD i 0
 room:p≠0->(xs.count p:Int)<r
 held:absI (ze9 hs xs i)<=lim
 behind:absI (ze9 hs xs i+hs.getD i 0*p)<=lim
noncomputable instance (n r:Int) (hs:'#') (lim:Int) (xs:'#') (i:Nat) (p:Int):Decidable (Lets n r hs lim xs i p) :=
 decidable_of_iff (i<xs.length/\(-n<=p/\p<=n)/\p≠xs.getD i 0/\(p≠0->(xs.count p:Int)<r)/\absI (ze9 hs xs i)<=lim/\absI (ze9 hs xs i+hs.getD i 0*p)<=lim)
   ⟨λ⟨a,b,c,d,e,f⟩=>⟨a,b,c,d,e,f⟩,λ⟨a,b,c,d,e,f⟩=>⟨a,b,c,d,e,f⟩⟩
theorem zo7 {xs:'#'}{i:Nat}(a:i<xs.length):xs.getD i 0∈xs:=by
 rw[Qw,Qf a];exact Zu a
theorem Lets.valid {n r d:Int}{w:Nat}{f xs:'#'}{i:Nat}{p:Int}(L:Lets n r f d xs i p)(a:zc7 n r w xs):zc7 n r w (xs.set i p):=by
 refine⟨by rw[ZG];exact a.len,λy b=>?_,λy b c=>?_⟩
 . rcases List.mem_or_eq_of_mem_set b with h | rfl
   . exact a.on y h
   . exact L.on
 . rw[zE7 L.lt]
   by_cases e:p=y
   . subst e
     have:=L.room c;rw[Ql rfl,Qg (λz=>L.ne z.symm)];omega
   . have g:y∈xs:=(List.mem_or_eq_of_mem_set b).resolve_right (λz=>e z.symm)
     have:=a.room y g c;rw[Qg e]
     split<;>omega
theorem Lets.turned {n r b:Int}{a xs:'#'}{i:Nat}{p:Int}(L:Lets n r a b xs i p)(c:zc7 n r a.length xs)(h0:absI (zb4 a xs)<=b):Lets n r a b (xs.set i p) i (xs.getD i 0):=by
 have d:=c.len.symm;refine⟨by rw[ZG];exact L.lt,c.on _ (zo7 L.lt),by rw[zD7 L.lt];exact L.ne.symm,λf=>?_,by rw[yd7 d L.lt];exact L.held,?_⟩
 . rw[zE7 L.lt,Ql rfl,Qg L.ne]
   have:=c.room _ (zo7 L.lt) f;omega
 . rw[yd7 d L.lt]
   have e:ze9 a xs i+a.getD i 0*xs.getD i 0=zb4 a xs:=by unfold ze9;omega
   rw[e];exact h0
theorem sum_zip:∀(a b:'#'),a.length=b.length->((List.range a.length).map λi=>a.getD i 0*b.getD i 0).sum=(List.zipWith (λh x=>h*x) a b).sum:=by
 intro a b f;congr 1;apply List.ext_getElem
 . simp;omega
 . intro i d g
   have e:i<a.length:=by simpa using d
   have c:i<b.length:=by omega
   simp[e,c]
noncomputable def yd8 (hs xs:'#'):Nat->Int
 | 0=>0
 | j+1=>yd8 hs xs j+hs.getD j 0*xs.getD j 0
theorem yd9 (a xs:'#'):∀w,yd8 a xs w=((List.range w).map λi=>a.getD i 0*xs.getD i 0).sum
 | 0=>rfl
 | w+1=>by
   unfold yd8;rw[yd9 a xs w,List.range_succ,Qq,List.sum_append];simp
theorem sumTo_tilt {a xs:'#'}(b:a.length=xs.length):yd8 a xs a.length=zb4 a xs:=by
 rw[yd9,sum_zip a xs b];rfl
theorem zW0:∀ {zs:'#'} {B:Int},(∀z∈zs,-B<=z/\z<=B)->-(B*zs.length)<=zs.sum/\zs.sum<=B*zs.length
 | [],B,_=>by simp
 | z::zs,B,h=>by
   have b:=h z QC;have c:=zW0 (zs:=zs) (B:=B) λy a=>h y (Qv _ a)
   rw[List.sum_cons,QE,Int.natCast_add,Int.mul_add];omega
theorem zC5 {n r d:Int}{a xs:'#'}(ok:zi0 n r a d)(b:zc7 n r a.length xs):absI (zb4 a xs)<=240/\0<=absI (zb4 a xs):=by
 have f:=zW0 (zK1 (B:=n) ok.h b.on (by have:=ok.n1;omega));rw[ZI,b.len,Nat.min_self] at f;have i:=ok.w;have c:=ok.most;have j:=ok.n1;have k:=ok.n2;have h:20*n*(a.length:Int)<=240:=by
   have:n=1\/n=2\/n=3\/n=4:=by omega
   have g:a.length=0\/a.length=1\/a.length=2\/a.length=3\/a.length=4\/a.length=5:=by omega
   rcases this with rfl | rfl | rfl | rfl<;>rcases g with e | e | e | e | e | e<;>rw[e] at c ⊢<;>first | decide | (exfalso;revert c;decide)
 unfold zb4;unfold absI
 split<;>omega
def sp_in_hand (K:W.Frag)(t:Adr):Sp:=λvs H Q E=>∃(b a:Addr) (n r lim k:Int) (i:Nat) (hs xs:'#'),vs=[.ref b,.ref a,.int k]/\ze3 t H b n r hs lim/\zc7 n r hs.length xs ∧
 (SqL K H a (xs.map V.int)\/H a=some (.tup (xs.map V.int)))/\(k=(i:Int)+1/\i<xs.length)/\∀H',Same H H'->Q (.int (ze9 hs xs i)) H'
theorem zR5 (T:Txt K mg t):FnOk P w K mg base CX0 4 t.bG t.bH PN (sp_in_hand K t):=by
 refine T.bl.F.ok zR2 (λu H Q E h=>?_) (λI A F s H u Q E f h=>?_)
 . obtain⟨b,a,n,r,e,k,i,c,xs,rfl,B,d,o,⟨rfl,v⟩,q⟩:=h
   rfl
 . obtain⟨b,a,n,r,e,k,i,c,xs,rfl,B,d,o,⟨rfl,v⟩,q⟩:=h
   refine⟨_,(za2 (zb7 (i:=3) zR2.nd rfl '$' (za7 (zd9 T) f.m T.ad zb1 (za0 P0 (za0 P1 za1))))
     (za2 (zc2 (zd3 (za7 (zn4 T) f.m T.av zb1 (za0 P2 (za0 za6 (za0 (zb6 zc1 rfl T.ag QF (za0 P3 za1)) za1))))) (za4 zg7) zb3)
     (za4 (za9 (zc0 zk3 (za7 (zH5 T) f.m T.aS zb1 (za0 P0 (za0 P3 za1))) (zc0 zr5 (zc5 zi2 (zc8 P0 rfl) (zc0 zk3 P2 za6) (λ_ _=>rfl)) (zc5 zi2 P3 (zc0 zk3 P2 za6) (λ_ _=>rfl)))))))),?_⟩
   refine cut3 ?_;intro J L;refine⟨_,rfl,_,rfl,b,a,n,r,e,c,xs,rfl,B,d,o,λl M g j=>?_⟩;refine⟨_,rfl,_,rfl,l,_,rfl,.inr (SqT.of j),_,1,_,rfl,_,rfl,?_⟩;rw[Qb];refine iteB (zy9 '!' '!') ?_;refine⟨_,rfl,_,rfl,b,l,n,r,e,c,xs,rfl,B.same g,d,.inr j,λN m=>?_⟩;obtain⟨_,x,h,y,z⟩:=B.same (g.trans m);have G:=d.len;have p:((i:Int)+1-1).toNat=i:=by omega
   have C:atI (c.map V.int) ((i:Int)+1-1)=some (.int (c.getD i 0)):=by have:=zi9 (xs:=c) (i:=(i:Int)+1-1) '!' '!';rw[p] at this;exact this
   have D:atI (xs.map V.int) ((i:Int)+1-1)=some (.int (xs.getD i 0)):=by have:=zi9 (xs:=xs) (i:=(i:Int)+1-1) '!' '!';rw[p] at this;exact this
   have O:=B.1.h (c.getD i 0) (zo7 '!');refine⟨_,rfl,b,_,x,_,_,rfl,y,T.ab,T.aj,zC4 _ _ _ _,_,rfl,_,_,rfl,rfl,h,_,_,_,rfl,rfl,SqT.of z,C,?_⟩;exact⟨_,rfl,_,rfl,_,_,rfl,rfl,l,_,_,_,rfl,rfl,SqT.of (m _ _ j),D,_,_,rfl,rfl,.inl ⟨by omega,by omega⟩,_,_,rfl,rfl,q _ (g.trans m)⟩
noncomputable def yl0 (r:Int)(xs:'#')(p:Int):Bool:=decide (p≠0/\r<=(xs.count p:Int))
def sp_full (K:W.Frag)(t:Adr):Sp:=λvs H Q _=>∃(b a:Addr) (n r lim p:Int) (hs xs:'#'),vs=[.ref b,.ref a,.int p]/\ze3 t H b n r hs lim/\H a=some (.tup (xs.map V.int))/\Q (.bl (yl0 r xs p)) H
theorem ok_full (T:Txt K mg t):FnOk P w K mg base CX0 1 t.cL t.cM Pv (sp_full K t):=by
 refine T.cK.F.ok sc_full (λj H Q E h=>?_) (λu A o s H j Q E v h=>?_)
 . obtain⟨b,a,n,r,i,p,k,c,rfl,B,f,q⟩:=h
   rfl
 . obtain⟨b,a,n,r,i,p,k,c,rfl,B,f,q⟩:=h
   refine⟨_,(za4 (za9 (zE3 (zf0 zl9 P2 za6 (zb8 _)) (zy7 (zf0 ym5 (yn8 PySem.F.slot_tuple_count PySem.F.type_tuple_count zI5 P1 (za0 P2 za1)) (zc8 P0 rfl) (zb8 _)))))),?_⟩;obtain⟨_,l,h,m,x⟩:=B;unfold yl0 at q;refine⟨_,rfl,rfl,_,rfl,?_⟩;rw[zj0];refine ite2 (λg=>?_) (λg=>?_)
   . have d:p≠0:=by simpa using g
     refine⟨_,rfl,⟨_,_,rfl,f⟩,_,rfl,_,c,p,rfl,rfl,SqT.of f,_,rfl,b,_,l,_,_,rfl,m,T.ab,T.ax,ya6 _ _ _ _,_,_,rfl,rfl,?_⟩;have e:decide (p≠0/\r<=(c.count p:Int))=decide (r<=(c.count p:Int)):=by simp[d]
     rw[e] at q;exact q
   . have d:p=0:=by simpa using g
     have e:decide (p≠0/\r<=(c.count p:Int))=false:=by simp[d]
     rw[e] at q;exact q
theorem yl1 (xs:'#')(i:Nat)(p:Int)(a:i<xs.length):cutV (xs.map V.int) none (some (i:Int))++[V.int p]++cutV (xs.map V.int) (some ((i:Int)+1)) none=(xs.set i p).map V.int:=by
 unfold cutV
 rw[HT.sIx_none,HT.sIx_nat,HT.sIx_none,show((i:Int)+1)=((i+1:Nat):Int) by omega,HT.sIx_nat,Qb,ZF '!',ZF '!',List.drop_zero,Nat.sub_zero,
   List.set_eq_take_append_cons_drop,Ql a,Qq,QB,QR,List.map_take,List.map_drop]
 congr 1;show V.int p::_=_;congr 1;exact QV (by simp)
def Mv (K:W.Frag)(H:Hp)(m:Addr)(k s p:Int):Prop:=SqL K H m [.int k,.int s,.int p]\/SqT K H m [.int k,.int s,.int p]
theorem Mv.ix {K:W.Frag}{H:Hp}{m:Addr}{k s p:Int}(h:Mv K H m k s p):(∀Q:VK,Q (.int k) H->rIx K (.ref m) (.int 0) H Q)/\(∀Q:VK,Q (.int s) H->rIx K (.ref m) (.int 1) H Q)/\(∀Q:VK,Q (.int p) H->rIx K (.ref m) (.int 2) H Q):=by
 rcases h with h | h
 . exact⟨λQ q=>.inl ⟨m,_,_,_,rfl,rfl,h,rfl,q⟩,λQ q=>.inl ⟨m,_,_,_,rfl,rfl,h,rfl,q⟩,λQ q=>.inl ⟨m,_,_,_,rfl,rfl,h,rfl,q⟩⟩
 . exact⟨λQ q=>.inr (.inl ⟨m,_,_,_,rfl,rfl,h,rfl,q⟩),λQ q=>.inr (.inl ⟨m,_,_,_,rfl,rfl,h,rfl,q⟩),λQ q=>.inr (.inl ⟨m,_,_,_,rfl,rfl,h,rfl,q⟩)⟩
theorem Same.seqT {K:W.Frag}{H H':Hp}{a:Addr}{xs:List V}(e:Same H H')(h:SqT K H a xs):SqT K H' a xs:=by
 rcases h with(h | ⟨o,h⟩) | h
 . exact .inl (.inl (e _ _ h))
 . exact .inl (.inr ⟨o,e _ _ h⟩)
 . exact .inr h
theorem Mv.same {K:W.Frag}{H H':Hp}{m:Addr}{k s p:Int}(h:Mv K H m k s p)(e:Same H H'):Mv K H' m k s p:=h.imp e.seq (λz=>Same.seqT e z)
def sp_behind (K:W.Frag)(t:Adr):Sp:=λvs H Q _=>∃(a m:Addr) (k s p:Int) (i:Nat) (xs:'#'),vs=[.ref a,.ref m]/\H a=some (.tup (xs.map V.int))/\Mv K H m k s p/\(k=(i:Int)+1/\i<xs.length/\xs.length<=900) ∧
 ∀l H',Same H H'->H' l=some (.tup ((xs.set i p).map V.int))->Q (.ref l) H'
theorem zC6 (T:Txt K mg t):FnOk P w K mg base CX0 1 t.bU t.bV Pu (sp_behind K t):=by
 refine T.aP.F.ok sc_behind (λD H Q E h=>?_) (λX a0 W s H D Q E Y h=>?_)
 . obtain⟨a,m,k,s,p,i,b,rfl,v,g,⟨rfl,B,F⟩,q⟩:=h
   rfl
 . obtain⟨a,m,k,s,p,i,b,rfl,v,g,⟨rfl,B,F⟩,q⟩:=h
   refine⟨_,(za4 (za9 (zc0 zL5 (zc0 zL5 (zo1 zY1 P0 zs7 (zs8 (zc0 zk3 (zc5 zt5 P1 za6 (λ_ _=>rfl)) za6))) (zE4 (za0 (zc5 zt5 P1 za6 (λ_ _=>rfl)) za1))) (zo1 zY1 P0 (zs8 (zc5 zt5 P1 za6 (λ_ _=>rfl))) zs7)))),?_⟩;refine⟨_,rfl,_,rfl,g.ix.1 _ ⟨_,_,rfl,rfl,_,rfl,a,_,rfl,SqT.of v,?_,λc G=>?_⟩⟩
   . have e:(i:Int)+1-1=(i:Int):=by omega
     rw[e,HT.sIx_none,HT.sIx_nat,Qb,ZF '!'];omega
   have j:Same H (upd H c (.tup (cutV (b.map V.int) none (some ((i:Int)+1-1))))):=Same.upd G;have x:(upd H c (.tup (cutV (b.map V.int) none (some ((i:Int)+1-1))))) c=some (.tup (cutV (b.map V.int) none (some ((i:Int)+1-1)))):=za3;revert j x;generalize upd H c (.tup (cutV (b.map V.int) none (some ((i:Int)+1-1))))=l;intro j x;refine⟨_,rfl,(g.same j).ix.2.2 _ ⟨(by show 1<=sizeLine;decide),λd I=>?_⟩⟩;have n:Same l (upd l d (.tup [.int p])):=Same.upd I;have y:(upd l d (.tup [.int p])) d=some (.tup [.int p]):=za3;revert n y;generalize upd l d (.tup [.int p])=Z;intro n y;have C:=zo2 (b.map V.int) none (some ((i:Int)+1-1));rw[Qb] at C;refine⟨c,d,_,_,rfl,rfl,n _ _ x,y,Zs (zd0 (by show _+1<=_;omega)),λJ o L M=>?_⟩;have u:=j.trans (n.trans L);refine⟨_,rfl,_,rfl,(g.same u).ix.1 _ ⟨_,rfl,a,_,rfl,SqT.of (u _ _ v),?_,λf N=>?_⟩⟩
   . rw[show((i:Int)+1)=((i+1:Nat):Int) by omega,HT.sIx_nat,Qb]
     omega
   have r:Same o (upd o f (.tup (cutV (b.map V.int) (some ((i:Int)+1)) none))):=Same.upd N;have z:(upd o f (.tup (cutV (b.map V.int) (some ((i:Int)+1)) none))) f=some (.tup (cutV (b.map V.int) (some ((i:Int)+1)) none)):=za3;revert r z;generalize upd o f (.tup (cutV (b.map V.int) (some ((i:Int)+1)) none))=H4;intro r z;have A:=yl1 b i p B;rw[show(i:Int)=(i:Int)+1-1 by omega,show(i:Int)+1-1+1=(i:Int)+1 by omega] at A;refine⟨J,f,_,_,rfl,rfl,r _ _ M,z,?_,λO R S U=>q O R (u.trans (r.trans S)) ?_⟩
   . rw[<-Qr,A,Qb,ZG]
     exact Zs (zd0 '!')
   . rw[U,A]
def sp_turned (K:W.Frag)(t:Adr):Sp:=λvs H Q _=>∃(m:Addr) (k s p:Int),vs=[.ref m]/\Mv K H m k s p/\∀l,H l=none->Q (.ref l) (upd H l (.tup [.int k,.int p,.int s]))
theorem ok_turned (T:Txt K mg t):FnOk P w K mg base CX0 1 t.bS t.bT Pc (sp_turned K t):=by
 refine T.cf.F.ok sc_turned (λb H Q E h=>?_) (λe A d s H b Q E f h=>?_)
 . obtain⟨m,k,s,p,rfl,a,q⟩:=h
   rfl
 . obtain⟨m,k,s,p,rfl,a,q⟩:=h
   refine⟨_,(za4 (za9 (zE4 (za0 (zc5 zt5 P0 za6 (λ_ _=>rfl)) (za0 (zc5 zt5 P0 za6 (λ_ _=>rfl)) (za0 (zc5 zt5 P0 za6 (λ_ _=>rfl)) za1)))))),?_⟩;refine⟨_,rfl,a.ix.1 _ ⟨_,rfl,a.ix.2.2 _ ⟨_,rfl,a.ix.2.1 _ ⟨(by show 3<=sizeLine;decide),λl c=>?_⟩⟩⟩⟩;exact q l c
def sp_BeamError_init (K:W.Frag) (t:Adr):Sp:=λvs H Q _=>∃(x C:Addr) (u v:V),vs=[.ref x,u,v]/\H x=some (ExcO C x none)/\XCls K C/\ze0 K C "reason"/\ze0 K C "word" ∧
 ∀H' dx,H' x=some (ExcO C x (some dx))->H' dx=some (.xd (putF "word" v (putF "reason" u [])))->zf7 x H H'->Q .non H'
theorem zm5 (T:Txt K mg t):FnOk P w K mg base CX0 1 t.ak t.am Po (sp_BeamError_init K t):=by
 refine T.cd.ok sc_BeamError_init (λk H Q E h=>?_) (λn A m s H k Q E p h=>?_)
 . obtain⟨x,C,u,v,rfl,f,a,g,i,q⟩:=h
   rfl
 . obtain⟨x,C,u,v,rfl,f,a,g,i,q⟩:=h
   refine⟨_,(za2 (yi0 P0 P1 rfl)
     (za4 (yi0 P0 P2 rfl))),?_⟩
   refine⟨_,rfl,_,rfl,x,C,none,rfl,f,a,g,λj c d=>?_⟩;refine⟨_,rfl,_,rfl,x,C,some j,rfl,za3,a,i,putF "reason" u [],by rw[za8 d];exact za3,by show(1:Nat)<1000;decide,?_⟩;refine q _ j (by rw[za8 d.symm];exact za3) za3 λb o e l=>?_
   rw[za8 (zb5 e c),za8 l,za8 (zb5 e c)];exact e
def sp_StartPast_init (K:W.Frag)(t:Adr):Sp:=λvs H Q _=>∃(x:Addr) (u:V),vs=[.ref x,u]/\H x=some (ExcO t.aa x none) ∧
 ∀H' dx,H' x=some (ExcO t.aa x (some dx))->H' dx=some (.xd (putF "word" (.str "start past") (putF "reason" u [])))->zf7 x H H'->Q .non H'
theorem zt1 (T:Txt K mg t):FnOk P w K mg base CX0 2 t.ag t.an Pe (sp_StartPast_init K t):=by
 refine T.ce.ok sc_StartPast_init (λb H Q E h=>?_) (λk A j s H b Q E c h=>?_)
 . obtain⟨x,u,rfl,a,q⟩:=h
   rfl
 . obtain⟨x,u,rfl,a,q⟩:=h
   refine⟨_,(za4 (zg6 (zO0 T.a0 rfl T.aC (zm5 T) c.m T.aF .nil zb1 (za0 P0 (za0 P1 (za0 zc4 za1)))))),?_⟩;exact⟨_,rfl,_,rfl,x,t.aa,u,_,rfl,a,T.a6,T.b0,T.ca,λd e f g i=>q d e f g i⟩
def sp_GoalPast_init (K:W.Frag)(t:Adr):Sp:=λvs H Q _=>∃(x:Addr) (u:V),vs=[.ref x,u]/\H x=some (ExcO t.ab x none) ∧
 ∀H' dx,H' x=some (ExcO t.ab x (some dx))->H' dx=some (.xd (putF "word" (.str "goal past") (putF "reason" u [])))->zf7 x H H'->Q .non H'
theorem ok_GoalPast_init (T:Txt K mg t):FnOk P w K mg base CX0 2 t.ai t.ap Pe (sp_GoalPast_init K t):=by
 refine T.cr.ok sc_GoalPast_init (λb H Q E h=>?_) (λk A j s H b Q E c h=>?_)
 . obtain⟨x,u,rfl,a,q⟩:=h
   rfl
 . obtain⟨x,u,rfl,a,q⟩:=h
   refine⟨_,(za4 (zg6 (zO0 T.a0 rfl T.aC (zm5 T) c.m T.aF .nil zb1 (za0 P0 (za0 P1 (za0 zc4 za1)))))),?_⟩;exact⟨_,rfl,_,rfl,x,t.ab,u,_,rfl,a,T.bY,T.b7,T.bb,λd e f g i=>q d e f g i⟩
def sp_NoWay_init (K:W.Frag)(t:Adr):Sp:=λvs H Q _=>∃(x:Addr) (u:V),vs=[.ref x,u]/\H x=some (ExcO t.ac x none) ∧
 ∀H' dx,H' x=some (ExcO t.ac x (some dx))->H' dx=some (.xd (putF "word" (.str "no way") (putF "reason" u [])))->zf7 x H H'->Q .non H'
theorem ok_NoWay_init (T:Txt K mg t):FnOk P w K mg base CX0 2 t.al t.ar Pe (sp_NoWay_init K t):=by
 refine T.cI.ok sc_NoWay_init (λb H Q E h=>?_) (λk A j s H b Q E c h=>?_)
 . obtain⟨x,u,rfl,a,q⟩:=h
   rfl
 . obtain⟨x,u,rfl,a,q⟩:=h
   refine⟨_,(za4 (zg6 (zO0 T.a0 rfl T.aC (zm5 T) c.m T.aF .nil zb1 (za0 P0 (za0 P1 (za0 zc4 za1)))))),?_⟩;exact⟨_,rfl,_,rfl,x,t.ac,u,_,rfl,a,T.cz,T.cu,T.br,λd e f g i=>q d e f g i⟩
def Told (H H':Hp) (od:Option Addr) (w:Str):Prop:=Same H H'/\∃dx fs,od=some dx/\H' dx=some (.xd fs)/\fs.lookup ("word" : Str)=some (V.str w)
theorem Told.from {H a H':Hp}{b:Option Addr}{w:Str}(h:Told a H' b w)(s:Same H a):Told H H' b w:=⟨s.trans h.1,h.2⟩
theorem zM3 {H c H':Hp} {x a C:Addr} {o:HO} {u:V} {w:Str} (s:Same H c) (h:c x=none) (i:H' x=some (ExcO C x (some a))) (d:H' a=some (.xd (putF "word" (.str w) (putF "reason" u [])))) (j:zf7 x (upd c x o) H'):Told H (del H' x) (some a) w:=by
 refine⟨λb v e=>?_,a,putF "word" (.str w) (putF "reason" u []),rfl,?_,?_⟩
 . have g:=s b v e
   have f:b≠x:=zb5 g h;rw[zz0 f];exact j b v (by rw[za8 f];exact g) f
 . rw[zz0 (λz=>by rw[z,i] at d;cases d)];exact d
 . rw[zb0,Ql rfl]
noncomputable def grid (n:Int)(j:Nat):List Int:=(List.range j).map λ(k:Nat)=>-n+(k:Int)
noncomputable def zk8 (n r:Int)(hs:'#')(lim:Int)(xs:'#')(i j:Nat):List Int:=(grid n j).filter λp=>decide (Lets n r hs lim xs i p)
theorem zR6 (n r:Int)(b:'#')(a:Int)(xs:'#')(i j:Nat):zk8 n r b a xs i (j+1)=zk8 n r b a xs i j++(if Lets n r b a xs i (-n+(j:Int)) then [-n+(j:Int)] else []):=by
 unfold zk8 grid;rw[List.range_succ,Qq,List.filter_append];congr 1;by_cases h:Lets n r b a xs i (-n+(j:Int))
 . rw[Ql h];simp[h]
 . rw[Qg h];simp[h]
theorem zK2 (n r:Int)(b:'#')(a:Int)(xs:'#')(i j:Nat):(zk8 n r b a xs i j).length<=j:=by
 unfold zk8 grid;refine QD (List.length_filter_le _ _) ?_;simp
theorem putsL_nil {n r:Int}{b:'#'}{a:Int}{xs:'#'}{i:Nat}(j:Nat)(h:¬ absI (ze9 b xs i)<=a):zk8 n r b a xs i j=[]:=by
 unfold zk8;rw[List.filter_eq_nil_iff];intro p _;have:¬ Lets n r b a xs i p:=λL=>h L.held
 simp[this]
noncomputable def wide (n:Int):Nat:=(n+1 - -n).toNat
noncomputable def zl7 (n r:Int)(hs:'#')(lim:Int)(xs:'#')(i:Nat):List (Nat×Int):=(List.range i).flatMap λk=>(zk8 n r hs lim xs k (wide n)).map λp=>(k,p)
theorem zR7 (n r:Int)(b:'#')(a:Int)(xs:'#')(i:Nat):zl7 n r b a xs (i+1)=zl7 n r b a xs i++(zk8 n r b a xs i (wide n)).map λp=>(i,p):=by
 unfold zl7;rw[List.range_succ,List.flatMap_append];simp
theorem zK3 (n r:Int)(b:'#')(a:Int)(xs:'#'):∀i,(zl7 n r b a xs i).length<=i*wide n
 | 0=>by simp[zl7]
 | i+1=>by
   rw[zR7,Qr,Qb,Nat.succ_mul];have:=zK3 n r b a xs i;have:=zK2 n r b a xs i (wide n);omega
def zv7 (H:Hp)(xs:'#')(a:Addr)(m:Nat×Int):Prop:=H a=some (.tup [.int ((m.1:Int)+1),.int (xs.getD m.1 0),.int m.2])
def Rows (H:Hp)(xs:'#')(rs:List Addr)(ms:List (Nat×Int)):Prop:=rs.length=ms.length/\∀(k:Nat) (a:Addr) (m:Nat×Int),rs[k]?=some a->ms[k]?=some m->zv7 H xs a m
theorem Rows.nil (H:Hp)(xs:'#'):Rows H xs [] []:=⟨rfl,λk a m h=>by simp at h⟩
theorem Rows.same {H H':Hp}{xs:'#'}{b:List Addr}{c:List (Nat×Int)}(h:Rows H xs b c)(s:Same H H'):Rows H' xs b c:=⟨h.1,λk a m d e=>s _ _ (h.2 k a m d e)⟩
theorem Rows.app {H:Hp}{xs:'#'}{d e:List Addr}{g f:List (Nat×Int)}(h:Rows H xs d g)(h':Rows H xs e f):Rows H xs (d++e) (g++f):=by
 refine⟨by rw[Qr,Qr,h.1,h'.1],λk a m b c=>?_⟩;by_cases i:k<d.length
 . rw[Zn i] at b
   rw[Zn (by rw[<-h.1];exact i)] at c;exact h.2 k a m b c
 . rw[Zd '!'] at b
   rw[Zd (by rw[<-h.1];omega),<-h.1] at c;exact h'.2 _ a m b c
theorem Rows.one {H:Hp}{xs:'#'}{a:Addr}{m:Nat×Int}(h:zv7 H xs a m):Rows H xs [a] [m]:=⟨rfl,λk d e b c=>by
 match k,b,c with
 | 0,b,c=>cases b;cases c;exact h
 | k+1,b,_=>simp at b⟩
theorem Rows.put {H:Hp}{xs:'#'}{b:List Addr}{c:List (Nat×Int)}{l:Addr}{o:HO}{vs:List V}(h:Rows H xs b c)(d:H l=some (.lst vs)):Rows (upd H l o) xs b c :=
 ⟨h.1,λk a m e f=>by
   have:=h.2 k a m e f;unfold zv7 at this ⊢;rw[za8 (λz=>by rw[z,d] at this;cases this)];exact this⟩
def sp_puts (K:W.Frag)(t:Adr):Sp:=λvs H Q _=>∃(b a:Addr) (n r lim k:Int) (i:Nat) (hs xs:'#'),vs=[.ref b,.ref a,.int k]/\ze3 t H b n r hs lim/\zc7 n r hs.length xs/\H a=some (.tup (xs.map V.int))/\(k=(i:Int)+1/\i<xs.length) ∧
 ∀l H',Same H H'->H' l=some (.lst ((zk8 n r hs lim xs i (wide n)).map V.int))->Q (.ref l) H'
theorem ok_puts (T:Txt K mg t):FnOk P w K mg base CX0 5 t.cN t.cO PP (sp_puts K t):=by
 refine T.cL.F.ok zM2 (λW a0 a3 a4 h=>?_) (λaa af a8 ag a0 W a3 a4 g h=>?_)
 . obtain⟨b,a,n,r,d,a5,i,c,xs,rfl,B,v,x,⟨rfl,y⟩,q⟩:=h
   rfl
 . obtain⟨b,a,n,r,d,a5,i,c,xs,rfl,B,v,x,⟨rfl,y⟩,q⟩:=h
   refine⟨_,(za2 (zb7 (i:=3) zM2.nd rfl (Or.inr rfl) (za7 (zR5 T) g.m T.bl zb1 (za0 P0 (za0 P1 (za0 P2 za1)))))
     (za2 (zc2 (zd3 (za7 (ya7 T) g.m T.bs zb1 (za0 P0 (za0 P3 za1)))) (za4 (za9 (zf8 za1))) zb3)
     (za2 (zb7 (i:=4) zM2.nd rfl (Or.inr rfl) (zc5 zi2 P1 (zc0 zk3 P2 za6) (λ_ _=>rfl)))
     (za2 (zb7 (i:=5) zM2.nd rfl (Or.inr rfl) (zc5 zi2 (zc8 P0 rfl) (zc0 zk3 P2 za6) (λ_ _=>rfl)))
     (za4 (za9 (zk0 rfl zV6 (zS8 rfl T.az (za0 (yh0 zX7 (zc8 P0 rfl)) (za0 (zc0 zl8 (zc8 P0 rfl) za6) za1))) (λ_ _ _ _ _=>(zc3 (i:=0) zV6.nd rfl '$')) (λ_ _ _ _ _=>(yb3 (PW.pt (zI2 (zb9 zl9 P0 P1 (zb8 _)) (zI2 (ze8 (zd3 (za7 (ok_full T) g.m T.cK zb1 (za0 P2 (za0 P3 (za0 P0 za1)))))) (zF0 (ze8 (zd3 (za7 (ya7 T) g.m T.bs zb1 (za0 P2 (za0 (zc0 zl8 (pv 4) (zc0 zr5 P5 P0)) za1))))))))))) (λ_ _ _ _ _=>P0)))))))),?_⟩
   refine cut5 ?_;intro ab ac ad ae;refine⟨_,rfl,_,rfl,_,rfl,b,a,n,r,d,_,i,c,xs,rfl,B,v,.inr x,⟨rfl,y⟩,λe k=>?_⟩;have H:=k _ _ x;have I:=B.same k;refine⟨_,rfl,_,rfl,b,n,r,d,c,_,rfl,I,_,rfl,?_⟩;refine ite2 (λA=>?_) (λA=>?_)
   . have s:¬ absI (ze9 c xs i)<=d:=λz=>by have:=Zv A;omega
     refine⟨QH _,λa6 X=>q a6 _ (k.updT X) ?_⟩;rw[putsL_nil _ s];exact za3
   have s:absI (ze9 c xs i)<=d:=Int.not_lt.mp λz=>A (Qh z)
   obtain⟨ok,l,h,m,J⟩:=I;have a9:=v.len;have M:((i:Int)+1-1).toNat=i:=by omega
   have Y:atI (c.map V.int) ((i:Int)+1-1)=some (.int (c.getD i 0)):=by have:=zi9 (xs:=c) (i:=(i:Int)+1-1) '!' '!';rw[M] at this;exact this
   have Z:atI (xs.map V.int) ((i:Int)+1-1)=some (.int (xs.getD i 0)):=by have:=zi9 (xs:=xs) (i:=(i:Int)+1-1) '!' '!';rw[M] at this;exact this
   have hm:=ok.h (c.getD i 0) (zo7 '!');have n1:=ok.n1;have n2:=ok.n2;refine⟨_,rfl,_,rfl,_,_,rfl,rfl,a,_,_,_,rfl,rfl,SqT.of H,Z,?_⟩;refine⟨_,rfl,b,_,l,_,_,rfl,m,T.ab,T.aj,zC4 _ _ _ _,_,rfl,_,_,rfl,rfl,h,_,_,_,rfl,rfl,SqT.of J,Y,?_⟩;refine⟨_,rfl,b,_,l,_,_,rfl,m,T.ab,T.ah,zn3 _ _ _ _,_,rfl,_,rfl,b,_,l,_,_,rfl,m,T.ab,T.ah,zn3 _ _ _ _,_,_,rfl,rfl,-n,n+1,rfl,⟨by omega,by omega,by omega,by omega⟩,λD C=>?_⟩;refine comp_rangeI (λj E=>E=upd e D (.lst ((zk8 n r c d xs i j).map V.int))) rfl ?_ ?_
   . rintro j E ah hj rfl o
     have Q:(upd e D (.lst ((zk8 n r c d xs i j).map V.int))) a=some (.tup (xs.map V.int)):=Same.upd C _ _ H;have N:ze3 t (upd e D (.lst ((zk8 n r c d xs i j).map V.int))) b n r c d:=ze3.same ⟨ok,l,h,m,J⟩ (Same.upd C);have R:(upd e D (.lst ((zk8 n r c d xs i j).map V.int))) D=some (.lst ((zk8 n r c d xs i j).map V.int)):=za3;have F:¬ Lets n r c d xs i (-n+(j:Int))->(upd e D (.lst ((zk8 n r c d xs i j).map V.int)))=upd e D (.lst ((zk8 n r c d xs i (j+1)).map V.int)):=λz=>by rw[zR6,Qg z,Zi]
     refine⟨_,rfl,_,rfl,rfl,_,rfl,?_⟩;rw[zj0];refine ite2 (λG=>?_) (λG=>?_)
     . have u:-n+(j:Int)≠xs.getD i 0:=by simpa using G
       refine⟨_,rfl,_,rfl,_,rfl,b,a,n,r,d,-n+(j:Int),c,xs,rfl,N,Q,_,rfl,?_⟩;refine ite2 (λf=>?_) (λf=>?_)
       . have S:¬ (-n+(j:Int)≠0/\r<=(xs.count (-n+(j:Int)):Int)):=λz=>by unfold yl0 at f;rw[Qh z] at f;exact Bool.noConfusion f
         have O:-n+(j:Int)≠0->(xs.count (-n+(j:Int)):Int)<r:=λz=>Int.not_le.mp λa7=>S ⟨z,a7⟩
         refine⟨_,rfl,_,rfl,_,rfl,_,rfl,_,_,rfl,rfl,.inl ⟨by omega,by omega⟩,_,_,rfl,rfl,b,n,r,d,c,_,rfl,N,_,rfl,?_⟩;refine ite2 (λp=>?_) (λp=>?_)
         . have U:absI (ze9 c xs i+c.getD i 0*(-n+(j:Int)))<=d:=Int.not_lt.mp λz=>by rw[Qh z] at p;exact Bool.noConfusion p
           have L:Lets n r c d xs i (-n+(j:Int)):=⟨y,by unfold wide at *;omega,u,O,s,U⟩;refine⟨_,rfl,_,R,zd0 (by rw[Qb];have:=zK2 n r c d xs i j;omega),o _ ?_⟩;rw[zh5,zR6,Ql L,Qq];rfl
         . exact o _ (F λL=>p (by have:=L.behind;rw[Qe '!'];rfl))
       . refine iteF ?_
         exact o _ (F λL=>f (by unfold yl0;rw[Qe (λz=>by have:=L.room z.1;omega)];rfl))
     . have u:-n+(j:Int)=xs.getD i 0:=by simpa using G
       refine iteF ?_;exact o _ (F λL=>L.ne u)
   . rintro E rfl
     exact q D _ (k.updT C) za3
def sp_moves (K:W.Frag)(t:Adr):Sp:=λvs H Q _=>∃(b a:Addr) (n r lim:Int) (hs xs:'#'),vs=[.ref b,.ref a]/\ze3 t H b n r hs lim/\zc7 n r hs.length xs/\(SqL K H a (xs.map V.int)\/H a=some (.tup (xs.map V.int))) ∧
 ∀l rs H',Same H H'->H l=none->H' l=some (.lst (rs.map V.ref))->Rows H' xs rs (zl7 n r hs lim xs xs.length)->Q (.ref l) H'
theorem ye0 (T:Txt K mg t):FnOk P w K mg base CX0 6 t.ct t.cu Pb (sp_moves K t):=by
 refine T.bO.F.ok zG9 (λvs H a9 aa h=>?_) (λae al ab a0 H vs a9 aa U h=>?_)
 . obtain⟨b,a,n,r,c,d,xs,rfl,B,y,W,a1⟩:=h
   rfl
 . obtain⟨b,a,n,r,c,d,xs,rfl,B,y,W,a1⟩:=h
   refine⟨_,(za2 (zb7 (i:=2) zG9.nd rfl (Or.inr rfl) (za7 (zd9 T) U.m T.ad zb1 (za0 P0 (za0 P1 za1))))
     (za2 (zb7 (i:=3) zG9.nd rfl '$' (zf8 za1))
     (za2 (zj4 PassesOwn.never rfl (zS8 rfl T.az (za0 za6 (za0 (zc0 zl8 (zb6 zc1 rfl T.ag QF (za0 P2 za1)) za6) za1))) (zc3 (i:=4) zG9.nd rfl (Or.inr rfl)) (za4 (zg6 (zk5 QX PySem.F.slot_list_extend PySem.F.type_list_extend mt_extend P3 (za0 (zk0 rfl zR3 (zg3 (za7 (ok_puts T) U.m T.cL zb1 (za0 P0 (za0 P2 (za0 (pv 4) za1))))) (λ_ _ _ _ _=>(zc3 (i:=0) zR3.nd rfl '$')) (λ_ _ _ _ _=>zg8) (λ_ _ _ _ _=>(zE4 (za0 P1 (za0 (zc5 (zL2 K rfl) P2 (zc0 zk3 P1 za6) (λ_ _=>rfl)) (za0 P0 za1)))))) za1)))))
     (za4 (za9 P3))))),?_⟩
   refine cut4 ?_;intro af ag ah;have ai:xs.length<=5:=by have:=B.1.w;have:=y.len;omega
   have n1:=B.1.n1;have n2:=B.1.n2;have a2:wide n<=9:=by unfold wide;omega
   refine⟨_,rfl,_,rfl,b,a,n,r,c,d,xs,rfl,B,y,W,λp q I C=>?_⟩;refine⟨QH _,λl J=>?_⟩;have fl0:H l=none:=I.free J;have B1:=B.same I;have A:Same q (upd q l (.lst [])):=Same.upd J;have E:(upd q l (.lst [])) l=some (.lst []):=za3;revert A E;generalize upd q l (.lst [])=H2;intro A E;refine⟨_,rfl,p,_,rfl,.inr (SqT.of (A _ _ C)),_,_,rfl,rfl,1,(xs.length:Int)+1,by rw[Qb],⟨by omega,by omega,by omega,by omega⟩,zl5 (lo:=1) (n:=((xs.length:Int)+1-1).toNat) (λi O e=>X2 λv g=>A4 (O=[some (.ref b),some (.ref a),some (.ref p),some (.ref l),v]) (Same q e) (e l=some (.lst (g.map V.ref))) (Rows e xs g (zl7 n r d c xs i))) ⟨none,[],rfl,A,E,Rows.nil _ _⟩ ?_ ?_⟩
   . rintro i O X hi ⟨v,g,rfl,k,u,s⟩
     have a3:i<xs.length:=by omega
     have e1:(1+(i:Int)-1).toNat=i:=by omega
     have ax:atI (xs.map V.int) (1+(i:Int)-1)=some (.int (xs.getD i 0)):=by have:=zi9 (xs:=xs) (i:=1+(i:Int)-1) '!' '!';rw[e1] at this;exact this
     have a4:=zK2 n r d c xs i (wide n);have aj:=zK3 n r d c xs i;have ac:i*wide n<=5*9:=Nat.mul_le_mul '!' a2;refine⟨_,rfl,.inl ⟨rfl,_,SqL.of u⟩,_,rfl,_,rfl,_,rfl,b,p,n,r,c,_,i,d,xs,rfl,B1.same k,y,k _ _ C,⟨by omega,a3⟩,λY H4 Z L=>?_⟩;refine⟨Y,rfl,⟨_,SqL.of L⟩,λD hD=>?_⟩;have R:zl7 n r d c xs (i+1)=zl7 n r d c xs i++(zk8 n r d c xs i (wide n)).map λp=>(i,p):=zR7 n r d c xs i
     generalize zk8 n r d c xs i (wide n)=o at L a4 R ⊢;refine zi3 (K:=K) (a:=Y) (xs:=o.map V.int) (λj e=>X1 λf=>A3 (e D=some (.lst (f.map V.ref))) (Rows e xs f ((o.take j).map λp=>(i,p))) (Same H4 e)) ⟨[],za3,Rows.nil _ _,Same.upd hD⟩ (λj e ⟨_,_,_,a0⟩=>SqL.of (a0 _ _ L)) ?_ ?_
     . rintro j x e am hj ⟨f,F,R',s'⟩ hN
       obtain⟨z,rfl,hz⟩:=int_at hj;dsimp only[zm9];refine iteT ?_;refine⟨_,rfl,_,rfl,_,rfl,_,_,rfl,rfl,p,_,_,_,rfl,rfl,SqT.of (s' _ _ (Z _ _ (k _ _ C))),ax,_,rfl,(by show 3<=sizeLine;decide),λlt M=>?_⟩;have a5:D≠lt:=λz=>by rw[z,M] at F;cases F
       have ak:(o.take j).length<=9:=by rw[QW];omega
       have ad:f.length<=9:=by have:=R'.1;rw[Qb] at this;omega
       have a6:o.take (j+1)=o.take j++[z]:=by rw[QY,hz];rfl
       have a7:=(R'.same (Same.upd M)).app (Rows.one (H:=upd e lt (.tup [.int (1+(i:Int)),.int (xs.getD i 0),.int z])) (xs:=xs) (a:=lt) (m:=(i,z)) (by unfold zv7;rw[za3,Int.add_comm]));have Q:(upd e lt (.tup [.int (1+(i:Int)),.int (xs.getD i 0),.int z])) D=some (.lst (f.map V.ref)):=by rw[za8 a5];exact F
       refine⟨f.map V.ref,Q,zd0 (by rw[Qb];omega),hN _ ⟨f++[lt],by rw[za3,Qq];rfl,?_,(s'.updT M).put hD⟩⟩;rw[a6,Qq];exact a7.put Q
     . rintro H5 ⟨f,a8,N,s5⟩
       rw[Qb,QO] at N;have G:=Z.trans s5;have S:=G _ _ u;have e2:g.length=(zl7 n r d c xs i).length:=s.1;have e3:f.length=o.length:=by rw[N.1,Qb]
       refine⟨l,D,_,_,rfl,rfl,S,a8,Zs (zd0 (by rw[Qb,Qb];omega)),?_⟩;refine⟨_,g++f,rfl,(k.trans G).put J,by rw[za3,Qq],?_⟩;rw[R];exact((s.same G).app N).put S
   . rintro O X ⟨v,g,rfl,k,u,s⟩
     rw[show((xs.length:Int)+1-1).toNat=xs.length by omega] at s;exact⟨_,rfl,a1 l g X (I.trans k) fl0 u s⟩
end
section
variable {P:Program} {w:World} {K:W.Frag} {mg:Str->Option Value} {base:Heap} {t:Adr}
noncomputable def nbs (n r:Int)(hs:'#')(lim:Int)(x:'#'):List (List Int):=(zl7 n r hs lim x x.length).map λm=>x.set m.1 m.2
theorem zW1 {n r:Int}{b:'#'}{a:Int}{x:'#'}{i:Nat}{p:Int}:p∈zk8 n r b a x i (wide n)↔Lets n r b a x i p:=by
 unfold zk8 grid;rw[List.mem_filter,decide_eq_true_eq];refine⟨λh=>h.2,λh=>⟨?_,h⟩⟩;have:=h.on;rw[QQ];exact⟨(p+n).toNat,ZJ.mpr (by unfold wide;omega),by omega⟩
theorem zv8 {n r:Int}{c:'#'}{b:Int}{x:'#'}{k:Nat}{m:Nat×Int}:m∈zl7 n r c b x k↔m.1<k/\Lets n r c b x m.1 m.2:=by
 unfold zl7;rw[List.mem_flatMap];constructor
 . rintro⟨i,a,d⟩
   obtain⟨p,e,rfl⟩:=QQ.mp d;exact⟨ZJ.mp a,zW1.mp e⟩
 . rintro⟨a,L⟩
   exact⟨m.1,ZJ.mpr a,QQ.mpr ⟨m.2,zW1.mpr L,rfl⟩⟩
theorem zn8 {n r:Int}{b:'#'}{a:Int}{x y:'#'}:y∈nbs n r b a x↔∃i p,Lets n r b a x i p/\y=x.set i p:=by
 unfold nbs;rw[QQ];constructor
 . rintro⟨m,c,rfl⟩
   exact⟨m.1,m.2,(zv8.mp c).2,rfl⟩
 . rintro⟨i,p,L,rfl⟩
   exact⟨(i,p),zv8.mpr ⟨L.lt,L⟩,rfl⟩
inductive Walk (n r:Int)(hs:'#')(lim:Int)(s:'#'):Nat->'#'->Prop
 | zero:Walk n r hs lim s 0 s
 | succ {d:Nat} {x y:'#'}:Walk n r hs lim s d x->y∈nbs n r hs lim x->Walk n r hs lim s (d+1) y
def Dst (n r:Int)(hs:'#')(lim:Int)(s:'#')(d:Nat)(x:'#'):Prop:=Walk n r hs lim s d x/\∀j,j<d->¬ Walk n r hs lim s j x
section
variable {n r:Int} {hs:'#'} {lim:Int} {s:'#'}
theorem Walk.dst:∀ {d:Nat} {x:'#'},Walk n r hs lim s d x->∃e,e<=d/\Dst n r hs lim s e x:=by
 intro d
 induction d using Nat.strongRecOn with
 | _ d c =>
   intro x h;by_cases q:∃j,j<d/\Walk n r hs lim s j x
   . obtain⟨j,a,b⟩:=q
     obtain⟨e,g,f⟩:=c j a b;exact⟨e,by omega,f⟩
   . exact⟨d,Qi _,h,λj a b=>q ⟨j,a,b⟩⟩
theorem Dst.uniq {d e:Nat}{x:'#'}(h:Dst n r hs lim s d x)(h':Dst n r hs lim s e x):d=e:=by
 rcases Nat.lt_trichotomy d e with z | z | z
 . exact absurd h.1 (h'.2 d z)
 . exact z
 . exact absurd h'.1 (h.2 e z)
theorem Dst.zero:Dst n r hs lim s 0 s:=⟨.zero,λj a=>absurd a (Nat.not_lt_zero _)⟩
theorem Dst.pred {d:Nat}{y:'#'}(h:Dst n r hs lim s (d+1) y):∃x,Dst n r hs lim s d x/\y∈nbs n r hs lim x:=by
 obtain⟨c,e⟩:=h;cases c with
 | @succ _ x _ f a=>exact⟨x,⟨f,λj g b=>e (j+1) '!' (.succ b a)⟩,a⟩
theorem Dst.below:∀ {d:Nat} {x:'#'},Dst n r hs lim s d x->∀e,e<=d->∃y,Dst n r hs lim s e y
 | 0,x,h,e,a=>⟨x,by rw[show e=0 by omega];exact h⟩
 | d+1,x,h,e,a=>by
   rcases Nat.eq_or_lt_of_le a with z | z
   . subst z;exact⟨x,h⟩
   . obtain⟨y,b,_⟩:=h.pred
     exact Dst.below b e '!'
theorem dst_next {d:Nat}{y:'#'}:Dst n r hs lim s (d+1) y↔(¬ ∃j,j<=d/\Dst n r hs lim s j y)/\∃x,Dst n r hs lim s d x/\y∈nbs n r hs lim x:=by
 constructor
 . intro h
   exact⟨λ⟨j,a,b⟩=>by have:=h.uniq b;omega,h.pred⟩
 . rintro⟨c,x,f,g⟩
   refine⟨.succ f.1 g,λj a i=>c ?_⟩;obtain⟨e,l,k⟩:=i.dst;exact⟨e,by omega,k⟩
theorem dst_none {d:Nat}(h:∀y,¬ Dst n r hs lim s (d+1) y):∀e,d<e->∀y,¬ Dst n r hs lim s e y:=by
 intro e
 induction e with
 | zero=>intro b;omega
 | succ e c =>
   intro b y a;rcases QP d e with z | z
   . obtain⟨x,f,_⟩:=a.pred
     exact c z x f
   . obtain rfl:e=d:=by omega
     exact h y a
theorem Walk.valid {d:Nat}{x:'#'}(h:Walk n r hs lim s d x){w:Nat}(a:zc7 n r w s):zc7 n r w x:=by
 induction h with
 | zero=>exact a
 | succ _ b c =>
   obtain⟨i,p,L,rfl⟩:=zn8.mp b;exact L.valid c
theorem Walk.keep {d:Nat}{x:'#'}(h:Walk n r hs lim s d x)(a:zc7 n r hs.length s)(h0:absI (zb4 hs s)<=lim):absI (zb4 hs x)<=lim:=by
 cases h with
 | zero=>exact h0
 | succ b c =>
   obtain⟨i,p,L,rfl⟩:=zn8.mp c;rw[zB0 hs _ i p (b.valid a).len.symm L.lt];exact L.behind
end
theorem zR8:∀(N:Nat) (l:List Nat),l.Nodup->(∀x∈l,x<N)->l.length<=N
 | 0,l,_,h=>by
   cases l with
   | nil=>exact Qi _
   | cons a l=>exact absurd (h a (.head _)) (Nat.not_lt_zero _)
 | N+1,l,c,h=>by
   by_cases d:N∈l
   . have:=zR8 N (l.erase N) (c.erase N) λx b=>by
       have e:=h x (List.mem_of_mem_erase b);have f:x≠N:=λz=>by rw[z] at b;exact(List.Nodup.not_mem_erase c) b
       omega
     rw[List.length_erase_of_mem d] at this;omega
   . have:=zR8 N l c λx b=>by
       have e:=h x b;have f:x≠N:=λz=>d (z▸b)
       omega
     omega
noncomputable def zq3 (n:Int):'#'->Nat
 | []=>0
 | a::x=>(a+n).toNat+(2*n+1).toNat*zq3 n x
theorem ye1 {n:Int}(c:0<=n):∀ {x:'#'},(∀a∈x,-n<=a/\a<=n)->zq3 n x<(2*n+1).toNat ^ x.length
 | [],_=>by simp[zq3]
 | a::x,h=>by
   have g:=h a (.head _);have d:=ye1 c (x:=x) λb e=>h b (.tail _ e)
   show(a+n).toNat+(2*n+1).toNat*zq3 n x<(2*n+1).toNat ^ (x.length+1);rw[Nat.pow_succ,Nat.mul_comm _ ((2*n+1).toNat)];have f:(2*n+1).toNat*(zq3 n x+1)<=(2*n+1).toNat*(2*n+1).toNat ^ x.length:=Nat.mul_le_mul_left _ d;rw[Nat.mul_add] at f;omega
theorem zW2 {n:Int}(f:0<=n):∀ {x y:'#'},x.length=y.length->(∀a∈x,-n<=a/\a<=n)->(∀a∈y,-n<=a/\a<=n)->zq3 n x=zq3 n y->x=y
 | [],[],_,_,_,_=>rfl
 | [],_::_,h,_,_,_=>nomatch h
 | _::_,[],h,_,_,_=>nomatch h
 | a::x,b::y,hl,hx,hy,e=>by
   have m:=hx a (.head _);have o:=hy b (.head _);have g:(a+n).toNat+(2*n+1).toNat*zq3 n x=(b+n).toNat+(2*n+1).toNat*zq3 n y:=e;have i:0<(2*n+1).toNat:=by omega
   have j:((a+n).toNat+(2*n+1).toNat*zq3 n x) % (2*n+1).toNat=(a+n).toNat:=by rw[Nat.add_mul_mod_self_left];exact Nat.mod_eq_of_lt '!'
   have k:((b+n).toNat+(2*n+1).toNat*zq3 n y) % (2*n+1).toNat=(b+n).toNat:=by rw[Nat.add_mul_mod_self_left];exact Nat.mod_eq_of_lt '!'
   have p:(a+n).toNat=(b+n).toNat:=by rw[<-j,<-k,g]
   have l:zq3 n x=zq3 n y:=by
     have:(2*n+1).toNat*zq3 n x=(2*n+1).toNat*zq3 n y:=by omega
     exact Nat.eq_of_mul_eq_mul_left i this
   rw[show a=b by omega,zW2 f (by simpa using hl) (λc d=>hx c (.tail _ d)) (λc d=>hy c (.tail _ d)) l]
theorem few {n r:Int}{b:'#'}{i:Int}(ok:zi0 n r b i){f:List (List Int)}(j:f.Nodup)(a:∀x∈f,zc7 n r b.length x):f.length<=1000:=by
 have l:=ok.n1;have h:=zR8 ((2*n+1).toNat ^ b.length) (f.map (zq3 n)) ?_ ?_
 . rw[Qb] at h
   have m:=ok.most;have e:(((2*n+1).toNat ^ b.length:Nat):Int)=(2*n+1) ^ b.length:=by rw[Int.natCast_pow,Int.toNat_of_nonneg '!']
   omega
 . refine List.pairwise_map.mpr (j.imp_of_mem λ{x y} d g z e=>z ?_)
   exact zW2 '!' ((a x d).len.trans (a y g).len.symm) (a x d).on (a y g).on e
 . intro c k
   obtain⟨x,d,rfl⟩:=QQ.mp k;have:=ye1 (n:=n) '!' (a x d).on;rw[(a x d).len] at this;exact this
noncomputable def Goes (n r:Int)(hs:'#')(lim:Int):'#'->List (Nat×Int)->'#'->Prop
 | x,[],y=>x=y
 | x,m::ms,y=>Lets n r hs lim x m.1 m.2/\Goes n r hs lim (x.set m.1 m.2) ms y
noncomputable def zh4 (H:Hp):'#'->List Addr->List (Nat×Int)->Prop
 | _,[],[]=>True
 | x,a::rs,m::ms=>zv7 H x a m/\zh4 H (x.set m.1 m.2) rs ms
 | _,_,_=>False
theorem zh4.same {H H':Hp}(s:Same H H'):∀ {x:'#'} {b:List Addr} {c:List (Nat×Int)},zh4 H x b c->zh4 H' x b c
 | _,[],[],_=>trivial
 | _,[],_::_,h=>h.elim
 | _,_::_,[],h=>h.elim
 | x,a::b,m::c,h=>⟨s _ _ h.1,zh4.same s h.2⟩
theorem zh4.keepL {H:Hp}{l:Addr}{o:HO}{vs:List V}(d:H l=some (.lst vs)):∀ {x:'#'} {b:List Addr} {c:List (Nat×Int)},zh4 H x b c->zh4 (upd H l o) x b c
 | _,[],[],_=>trivial
 | _,[],_::_,h=>h.elim
 | _,_::_,[],h=>h.elim
 | x,a::b,m::c,h=>by
   refine⟨?_,zh4.keepL d h.2⟩;have:=h.1;unfold zv7 at this ⊢;rw[za8 (λz=>by rw[z,d] at this;cases this)];exact this
theorem zh4.len {H:Hp}:∀ {x:'#'} {b:List Addr} {c:List (Nat×Int)},zh4 H x b c->b.length=c.length
 | _,[],[],_=>rfl
 | _,[],_::_,h=>h.elim
 | _,_::_,[],h=>h.elim
 | x,a::b,m::c,h=>by simp[zh4.len h.2]
noncomputable abbrev dOf (kv:List (List Int×V)):List (List Key×V):=kv.map λe=>(ik e.1,e.2)
theorem yp6 {x y:'#'}(h:ik x=ik y):x=y:=(List.map_inj_right (λa b z=>by injection z)).mp h
theorem zR9 {a:List (List Int×V)}{x:'#'}{v:V}(b:(a.map (·.1)).Nodup)(h:(x,v)∈a):valV (dOf a) (ik x)=some v:=by
 induction a with
 | nil=>cases h
 | cons e a c =>
   rw[QB,List.nodup_cons] at b;rcases Qn.mp h with rfl | h
   . exact zG5 rfl
   . have d:¬ ik e.1=ik x:=λz=>b.1 (by rw[yp6 z];exact QQ.mpr ⟨_,h,rfl⟩)
     show valV ((ik e.1,e.2)::dOf a) (ik x)=_;rw[zz5 d];exact c b.2 h
theorem ye2 {a:List (List Int×V)}{x:'#'}(h:x∉a.map (·.1)):valV (dOf a) (ik x)=none:=by
 induction a with
 | nil=>rfl
 | cons e a b =>
   rw[QB,Qn,not_or] at h;have c:¬ ik e.1=ik x:=λz=>h.1 (yp6 z).symm
   show valV ((ik e.1,e.2)::dOf a) (ik x)=_;rw[zz5 c];exact b h.2
theorem yg3 {a:List (List Int×V)}(b:(a.map (·.1)).Nodup)(x:'#'):(valV (dOf a) (ik x)).isSome=decide (x∈a.map (·.1)):=by
 by_cases h:x∈a.map (·.1)
 . obtain⟨e,c,rfl⟩:=QQ.mp h
   rw[zR9 b c,Qh h];rfl
 . rw[ye2 h,Qe h]
   rfl
theorem dOf_put {a:List (List Int×V)}{x:'#'}(v:V)(h:x∉a.map (·.1)):putK (dOf a) (ik x) v=dOf (a++[(x,v)]):=by
 rw[putK_new v (ye2 h)];unfold dOf;rw[Qq];rfl
theorem dOf_keys (a:List (List Int×V)):(dOf a).map (·.1)=(a.map (·.1)).map ik:=by
 unfold dOf;rw[Zt,Zt];rfl
section
variable {n r:Int} {hs:'#'} {lim:Int}
theorem nbs_back {x y:'#'}(a:zc7 n r hs.length x)(b:absI (zb4 hs x)<=lim)(h:y∈nbs n r hs lim x):x∈nbs n r hs lim y:=by
 obtain⟨i,p,L,rfl⟩:=zn8.mp h;refine zn8.mpr ⟨i,x.getD i 0,L.turned a b,?_⟩;have c:=L.lt;rw[List.set_set,Qw,Qf c,Option.getD_some,List.set_getElem_self]
theorem Walk.front {x y z:'#'}{d:Nat}(h:y∈nbs n r hs lim x)(w:Walk n r hs lim y d z):Walk n r hs lim x (d+1) z:=by
 induction w with
 | zero=>exact .succ .zero h
 | succ _ a b=>exact .succ b a
theorem Walk.rev {s x:'#'}{d:Nat}(a:zc7 n r hs.length s)(k0:absI (zb4 hs s)<=lim)(w:Walk n r hs lim s d x):Walk n r hs lim x d s:=by
 induction w with
 | zero=>exact .zero
 | succ b c e=>exact Walk.front (nbs_back (b.valid a) (b.keep a k0) c) e
end
end
section
variable {P:Program} {w:World} {K:W.Frag} {mg:Str->Option Value} {base:Heap} {t:Adr}
theorem dget {H:Hp}{a b:Addr}{c:List (List Int×V)}{x:'#'}(e:H a=some (.dT (dOf c)))(d:H b=some (.tup (x.map V.int))):DGet H a (.ref b) (valV (dOf c) (ik x)):=DGet.t e (by rw[zU9];exact d)
theorem dput {H:Hp}{a b:Addr}{c:List (List Int×V)}{x:'#'}{v:V}(e:H a=some (.dT (dOf c)))(d:H b=some (.tup (x.map V.int)))(f:c.length<=1000):DPut H a (.ref b) v (upd H a (.dT (putK (dOf c) (ik x) v))) :=
 DPut.t e (by rw[zU9];exact d) (zd0 (by rw[Qb];exact f))
def yp7 (n r:Int)(hs:'#')(lim:Int)(L:List (List Int))(H:Hp)(e:List Int×V):Prop:=∃x∈L,∃m i p,e.2 = .ref m/\zv7 H x m (i,p)/\Lets n r hs lim x i p/\e.1=x.set i p
structure NL (n r:Int)(hs:'#')(lim:Int)(H:Hp)(ld f:Addr)(L:List (List Int))(kv:List (List Int×V))(Seen:'#'->Prop)(H':Hp)(F:List (List Int×V))(zs:List V):Prop where
 sx:zf7 ld H H'
 hf:H' f=some (.lst zs)
 tu:Tups H' zs (F.map (·.1))
 hd:H' ld=some (.dT (dOf (kv++F)))
 nd:((kv++F).map (·.1)).Nodup
 mem:∀y,y∈F.map (·.1)↔y∉kv.map (·.1)/\Seen y
 row:∀e∈F,yp7 n r hs lim L H' e
theorem NL.step {n r:Int}{c:'#'}{b:Int}{H:Hp}{d f:Addr}{L:List (List Int)}{g:List (List Int×V)}{a:'#'->Prop}{H' h:Hp}{F:List (List Int×V)}{zs:List V}(N:NL n r c b H d f L g a H' F zs)(s:Same H' h):NL n r c b H d f L g a h F zs :=
 ⟨N.sx.trans s.x,s _ _ N.hf,s.tups N.tu,s _ _ N.hd,N.nd,N.mem,λe j=>let⟨x,k,m,i,p,l,o,q,t⟩:=N.row e j;⟨x,k,m,i,p,l,s _ _ o,q,t⟩⟩
theorem NL.iff {n r:Int}{d:'#'}{c:Int}{H:Hp}{e f:Addr}{L:List (List Int)}{g:List (List Int×V)}{b a:'#'->Prop}{H':Hp}{F:List (List Int×V)}{zs:List V}(N:NL n r d c H e f L g b H' F zs)(h:∀y,b y↔a y):NL n r d c H e f L g a H' F zs :=
 ⟨N.sx,N.hf,N.tu,N.hd,N.nd,λy=>by rw[N.mem,h],N.row⟩
theorem NL.add {n r:Int}{t:'#'}{s:Int}{H:Hp}{g f:Addr}{L:List (List Int)}{d:List (List Int×V)}{A:'#'->Prop}{H':Hp}{F:List (List Int×V)}{zs:List V}(N:NL n r t s H g f L d A H' F zs)(E:H f=none)
   {x:'#'} {m l:Addr} {i:Nat} {p:Int} (G:x∈L) (I:zv7 H' x m (i,p)) (J:Lets n r t s x i p) (K:H' l=some (.tup ((x.set i p).map V.int))) (u:x.set i p∉(d++F).map (·.1)) :
   NL n r t s H g f L d (λy=>A y\/y=x.set i p) (upd (upd H' g (.dT (putK (dOf (d++F)) (ik (x.set i p)) (.ref m)))) f (.lst (zs++[.ref l]))) (F++[(x.set i p,.ref m)]) (zs++[.ref l]):=by
 have B:f≠g:=λz=>by have:=N.hf;rw[z,N.hd] at this;cases this
 have q:∀ {b:Addr} {v:List V},H' b=some (.tup v)->(upd (upd H' g (.dT (putK (dOf (d++F)) (ik (x.set i p)) (.ref m)))) f (.lst (zs++[.ref l]))) b=some (.tup v):=λ{b v} c=>by
   rw[za8 (λz=>by have:=N.hf;rw[<-z,c] at this;cases this),za8 (λz=>by have:=N.hd;rw[<-z,c] at this;cases this)];exact c
 refine⟨N.sx.updX.put E,za3,?_,?_,?_,λy=>?_,λe j=>?_⟩
 . rw[Qq]
   exact tups_snoc (Paired.mapP N.tu λy k ⟨b,e,c⟩=>⟨b,e,q c⟩) (q K)
 . rw[za8 (Ne.symm B),za3,dOf_put _ u,QR]
 . rw[<-QR,Qq]
   exact List.nodup_append.mpr ⟨N.nd,by simp,λa M b c=>by
     obtain rfl:b=x.set i p:=by simpa using c
     exact λz=>u (z▸M)⟩
 . rw[Qq,Qs,N.mem]
   have C:x.set i p∉d.map (·.1):=λz=>u (by rw[Qq];exact Zl _ z)
   constructor
   . rintro(⟨w,o⟩ | h)
     . exact⟨w,.inl o⟩
     . obtain rfl:y=x.set i p:=by simpa using h
       exact⟨C,.inr rfl⟩
   . rintro⟨w,o | o⟩
     . exact .inl ⟨w,o⟩
     . exact .inr (by simp[o])
 . rcases Qs.mp j with j | j
   . obtain⟨O,D,P,Q,R,S,T,U,W⟩:=N.row e j
     exact⟨O,D,P,Q,R,S,q T,U,W⟩
   . obtain rfl:e=(x.set i p,.ref m):=by simpa using j
     exact⟨x,G,m,i,p,rfl,q I,J,rfl⟩
def sp_next_layer (K:W.Frag)(t:Adr):Sp:=λvs H Q _=>∃(b l ld:Addr) (n r lim:Int) (hs:'#') (L:List (List Int)) (ys:List V) (kv:List (List Int×V)),vs=[.ref b,.ref l,.ref ld]/\ze3 t H b n r hs lim/\H l=some (.lst ys)/\Tups H ys L/\(∀x∈L,zc7 n r hs.length x) ∧
 H ld=some (.dT (dOf kv))/\(kv.map (·.1)).Nodup/\(∀x∈kv.map (·.1),zc7 n r hs.length x) ∧
 ∀l' H' zs G F,zf7 ld H H'->H l'=none->H' l'=some (.lst zs)->Tups H' zs G->G.Perm (F.map (·.1))->G.Pairwise (λx y=>Sx.lexB x y=true)->H' ld=some (.dT (dOf (kv++F)))->((kv++F).map (·.1)).Nodup →
   (∀y,y∈F.map (·.1)↔y∉kv.map (·.1)/\∃x∈L,y∈nbs n r hs lim x)->(∀e∈F,yp7 n r hs lim L H' e)->Q (.ref l') H'
theorem ok_next_layer (T:Txt K mg t):FnOk P w K mg base CX0 7 t.a8 t.a9 PQ (sp_next_layer K t):=by
 refine T.bt.F.ok zk7 (λvs H b3 b4 h=>?_) (λb7 bb b5 a0 H vs b3 b4 hr h=>?_)
 . obtain⟨b,l,g,n,r,o,p,L,ys,B,rfl,a1,X,hT,hV,G,nd,ag,ar⟩:=h
   rfl
 . obtain⟨b,l,g,n,r,o,p,L,ys,B,rfl,a1,X,hT,hV,G,nd,ag,ar⟩:=h
   refine⟨_,(za2 (zb7 (i:=3) zk7.nd rfl '$' (zf8 za1))
     (za2 (zj4 PassesOwn.never rfl (zg3 P1) (zc3 (i:=4) zk7.nd rfl '$') (za4 (zj4 PassesOwn.never rfl (zg3 (za7 (ye0 T) hr.m T.bO zb1 (za0 P0 (za0 (pv 4) za1)))) (zc3 (i:=5) zk7.nd rfl '$') (za2 (zb7 (i:=6) zk7.nd rfl '$' (za7 (zC6 T) hr.m T.aP zb1 (za0 (pv 4) (za0 P5 za1))))
     (za4 (zc2 (yf2 (zJ0 (zu9 hr) P6 P2)) (za2 (ps_dput (zu9 hr) P2 P6 P5 rfl)
     (za4 (zg6 (zk5 QX Zp Zo zl6 P3 (za0 P6 za1))))) zb3))))))
     (za4 (za9 (zb6 call_sortL rfl T.bc PyProof.Rows.boot_sorted (za0 P3 za1)))))),?_⟩
   refine cut3 ?_;intro b8 b9;refine⟨QH _,λf ff=>?_⟩;have ac:∀ {k:Hp} {F:List (List Int×V)} {u:List V} {ad:'#'->Prop},NL n r p o H g f L B ad k F u->(B++F).length<=1000/\u.length<=1000:=λ{k F u ad} a2=>by
     have d:=few a1.1 a2.nd λx I=>by
       rw[Qq] at I;rcases Qs.mp I with z | z
       . exact ag x z
       . obtain⟨e,Y,rfl⟩:=QQ.mp z
         obtain⟨J,ah,m',i',p',_,_,L',e4⟩:=a2.row e Y;rw[e4];exact L'.valid (hV J ah)
     have q:=zz6 a2.tu;rw[Qb] at d q;rw[Qr] at d ⊢;omega
   have N0:NL n r p o H g f L B (λy=>∃x∈L.take 0,y∈nbs n r p o x) (upd H f (.lst [])) [] [] :=
     ⟨(Same.upd ff).x,za3,.nil,by rw[za8 (zb5 G ff),Zi];exact G,by rw[Zi];exact nd,λy=>⟨(λz=>nomatch z),λ⟨_,x,I,_⟩=>nomatch I⟩,λe Y=>nomatch Y⟩
   have ba:∀ {c:Addr} {a6:HO},H c=some a6->c≠f:=λe=>zb5 e ff
   have ax:b≠g:=λz=>by obtain⟨_,_,_,hb,_⟩:=a1;rw[z,G] at hb;cases hb
   have ai:l≠g:=λz=>by rw[z,G] at X;cases X
   have av:∀ {k:Hp},zf7 g H k->ze3 t k b n r p o:=λ{k} a0=>by
     obtain⟨ok,dx,h,hb,U⟩:=a1;exact⟨ok,dx,h,a0 _ _ hb ax,a0 _ _ U (λz=>by rw[z,G] at U;cases U)⟩
   have aw:∀ {k:Hp} {c:Addr} {us:List V},zf7 g H k->H c=some (.tup us)->k c=some (.tup us):=λa0 e=>a0 _ _ e (λz=>by rw[z,G] at e;cases e)
   revert N0;generalize upd H f (.lst [])=H1;intro N0;refine⟨_,rfl,l,rfl,⟨_,SqL.of (N0.sx _ _ X ai)⟩,zn9 (K:=K) (a:=l) (xs:=ys) (λi C k=>X5 λv4 D E F u=>A2 (C=[some (.ref b),some (.ref l),some (.ref g),some (.ref f),v4,D,E]) (NL n r p o H g f L B (λy=>∃x∈L.take i,y∈nbs n r p o x) k F u)) ⟨none,none,none,[],[],rfl,N0⟩ (λi C k _ ⟨_,_,_,_,_,_,a2⟩=>SqL.of (a2.sx _ _ X ai)) ?_ ?_⟩
   . rintro i y C H2 hi ⟨v4,D,E,F,u,rfl,v⟩
     obtain⟨st,x,rfl,I,ay⟩:=zZ5 hT hi;have aj:x∈L:=Qy I;have Vx:=hV x aj;have ae:=aw v.sx ay;have b6:x.length<=5:=by have:=Vx.len;have:=a1.1.w;omega
     have az:L.take (i+1)=L.take i++[x]:=by rw[QY,I];rfl
     refine⟨_,rfl,_,rfl,b,st,n,r,o,p,x,rfl,av v.sx,Vx,.inr ae,λZ M H3 s3 b0 ak R3=>?_⟩;have N:=v.step s3;have al:∀m∈zl7 n r p o x x.length,Lets n r p o x m.1 m.2:=λm hm=>(zv8.mp hm).2
     have a8:∀y,y∈nbs n r p o x↔∃m∈zl7 n r p o x x.length,y=x.set m.1 m.2:=λy=>by
       unfold nbs;rw[QQ];exact⟨λ⟨m,d,q⟩=>⟨m,d,q.symm⟩,λ⟨m,d,q⟩=>⟨m,d,q.symm⟩⟩
     generalize zl7 n r p o x x.length=A at R3 al a8;refine⟨Z,rfl,⟨_,SqL.of ak⟩,zn9 (K:=K) (a:=Z) (xs:=M.map V.ref) (λj C k=>X4 λD E F u=>A5 (C=[some (.ref b),some (.ref l),some (.ref g),some (.ref f),some (.ref st),D,E]) (NL n r p o H g f L B (λy=>(∃x∈L.take i,y∈nbs n r p o x)\/∃m∈A.take j,y=x.set m.1 m.2) k F u) (k Z=some (.lst (M.map V.ref))) (Rows k x M A) (k st=some (.tup (x.map V.int)))) ⟨D,E,F,u,rfl,N.iff λy=>⟨.inl,λz=>z.elim id λ⟨m,hm,_⟩=>nomatch hm⟩,ak,R3,s3 _ _ ae⟩ (λj C k _ ⟨_,_,_,_,_,_,h,_,_⟩=>SqL.of h) ?_ ?_⟩
     . rintro j y C H4 hj ⟨D,E,F,u,rfl,O,a3,Q,S⟩
       have a9:j<M.length:=by
         have:=(QN.mp hj).1;simpa using this
       have aa:j<A.length:=by rw[<-Q.1];exact a9
       obtain rfl:y = .ref M[j]:=by
         rw[QK,Qf a9] at hj;exact(Qx hj).symm
       have a4:=Q.2 j M[j] A[j] (Qf a9) (Qf aa);have ab:=al A[j] (Zu aa);have am:A.take (j+1)=A.take j++[A[j]]:=by rw[QY,Qf aa];rfl
       generalize M[j]=ma at a4;generalize A[j]=m at a4 ab am;obtain⟨R,mp⟩:=m;refine⟨_,rfl,_,rfl,st,ma,_,_,mp,R,x,rfl,S,.inr (SqT.of a4),⟨rfl,ab.lt,by omega⟩,λl5 H5 W h5=>?_⟩;have s:=O.step W;have af:∀y,((∃x∈L.take i,y∈nbs n r p o x)\/∃m∈A.take (j+1),y=x.set m.1 m.2)↔((∃x∈L.take i,y∈nbs n r p o x)\/∃m∈A.take j,y=x.set m.1 m.2)\/y=x.set R mp:=λy=>by
         rw[am];simp only[Qs,QG];constructor
         . rintro(z | ⟨m,z | z,e⟩)
           . exact .inl (.inl z)
           . exact .inl (.inr ⟨m,z,e⟩)
           . exact .inr (by rw[e,z])
         . rintro((z | ⟨m,z,e⟩) | z)
           . exact .inl z
           . exact .inr ⟨m,.inl z,e⟩
           . exact .inr ⟨(R,mp),.inr rfl,z⟩
       refine⟨_,rfl,_,rfl,g,_,rfl,dget s.hd h5,_,rfl,?_⟩;rw[yg3 s.nd];refine ite2 (λd=>?_) (λd=>?_)
       . have hy:x.set R mp∉(B++F).map (·.1):=λz=>by rw[Qh z] at d;cases d
         refine⟨_,rfl,_,rfl,_,rfl,g,_,rfl,dput s.hd h5 (ac s).1,?_⟩;have b1:f≠g:=λz=>by have:=s.hf;rw[z,s.hd] at this;cases this
         have an:(upd H5 g (.dT (putK (dOf (B++F)) (ik (x.set R mp)) (.ref ma)))) f=some (.lst u):=by rw[za8 b1];exact s.hf
         have N6:=(s.add ff aj (W _ _ a4) ab h5 hy).iff λy=>(af y).symm
         have a7:∀ {c:Addr} {a6:HO},H4 c=some a6->c≠g->c≠f->(upd (upd H5 g (.dT (putK (dOf (B++F)) (ik (x.set R mp)) (.ref ma)))) f (.lst (u++[.ref l5]))) c=some a6:=λe e1 e2=>by rw[za8 e2,za8 e1];exact W _ _ e
         have a5:∀ {c:Addr} {us:List V},H4 c=some (.tup us)->c≠g/\c≠f:=λe=>⟨λz=>(by have:=O.hd;rw[<-z,e] at this;cases this),λz=>(by have:=O.hf;rw[<-z,e] at this;cases this)⟩
         have ao:Z≠g/\Z≠f:=⟨λz=>(by have:=O.hd;rw[<-z,a3] at this;cases this),λz=>(by have U:=v.hf;rw[<-z,b0] at U;cases U)⟩;refine⟨_,rfl,.inl ⟨rfl,_,SqL.of an⟩,_,rfl,f,_,_,rfl,rfl,an,zd0 (ac s).2,?_⟩;exact⟨_,_,_,_,rfl,N6,a7 a3 ao.1 ao.2,⟨Q.1,λau a m' e1 e2=>by
           have:=Q.2 au a m' e1 e2;exact a7 this (a5 this).1 (a5 this).2⟩,a7 S (a5 S).1 (a5 S).2⟩
       . have hy:x.set R mp∈(B++F).map (·.1):=Classical.byContradiction λz=>d (by rw[Qe z];rfl)
         refine⟨_,_,_,_,rfl,⟨s.sx,s.hf,s.tu,s.hd,s.nd,λy=>?_,s.row⟩,W _ _ a3,Q.same W,W _ _ S⟩;rw[s.mem,af];constructor
         . rintro⟨d,q⟩;exact⟨d,.inl q⟩
         . rintro⟨d,q | q⟩
           . exact⟨d,q⟩
           . rw[Qq] at hy
             rcases Qs.mp hy with z | z
             . exact absurd (q▸z) d
             . rw[q];exact(s.mem _).mp z
     . rintro C H4 ⟨D,E,F,u,rfl,O,a3,Q,S⟩
       rw[Qb,Q.1,QO] at O;refine⟨_,_,_,F,u,rfl,O.iff λy=>?_⟩;rw[az];simp only[Qs,QG];constructor
       . rintro(⟨J,d,q⟩ | z)
         . exact⟨J,.inl d,q⟩
         . exact⟨x,.inr rfl,(a8 y).mpr z⟩
       . rintro⟨J,d | d,q⟩
         . exact .inl ⟨J,d,q⟩
         . exact .inr ((a8 y).mp (d▸q))
   . rintro C H2 ⟨v4,D,E,F,u,rfl,v⟩
     rw[zz6 hT,QO] at v;refine⟨_,rfl,f,_,_,rfl,SqL.of v.hf,v.tu,?_,λ_ au hk=>?_,λl' ap js aq ht hp b2=>?_⟩
     . have:=v.nd
       rw[Qq] at this;exact(List.nodup_append.mp this).2.1
     . obtain⟨e,Y,rfl⟩:=QQ.mp hk
       obtain⟨J,ah,m',i',p',_,_,L',e4⟩:=v.row e Y;rw[e4];intro z;have h0:(J.set i' p').length=0:=by rw[z];rfl
       rw[ZG] at h0;have:=L'.lt;omega
     . have sd:Same H2 (upd H2 l' (.lst ap)):=Same.upd aq
       have N:=v.step sd;exact ar l' _ ap js F N.sx (v.sx.free aq (by rw[v.hd];exact λz=>nomatch z)) za3 (sd.tups ht) hp b2 N.hd N.nd N.mem N.row
end
section
variable {P:Program} {w:World} {K:W.Frag} {mg:Str->Option Value} {base:Heap} {t:Adr}
def zW3 (n r:Int)(hs:'#')(lim:Int)(s:'#')(H:Hp)(e:List Int×V):Prop :=
 (e.1=s/\e.2 = .non)\/∃y d m i p,e.2 = .ref m/\zv7 H y m (i,p)/\Lets n r hs lim y i p/\e.1=y.set i p/\Dst n r hs lim s d y/\Dst n r hs lim s (d+1) e.1
theorem zW3.same {n r:Int}{c:'#'}{a:Int}{s:'#'}{H H':Hp}{e:List Int×V}(h:zW3 n r c a s H e)(k:∀b f,H b=some (.tup f)->H' b=some (.tup f)):zW3 n r c a s H' e:=by
 rcases h with h | ⟨y,d,m,i,p,g,j,l⟩
 . exact .inl h
 . exact .inr ⟨y,d,m,i,p,g,k _ _ j,l⟩
def sp_row_to (K:W.Frag)(t:Adr):Sp:=λvs H Q _=>∃(g ld:Addr) (n r lim:Int) (hs s x:'#') (d:Nat) (kv:List (List Int×V)),vs=[.ref g,.ref ld]/\H g=some (.tup (x.map V.int))/\H ld=some (.dT (dOf kv))/\(kv.map (·.1)).Nodup/\(∀e∈kv,zW3 n r hs lim s H e) ∧
 Dst n r hs lim s d x/\(∀j y,j<=d->Dst n r hs lim s j y->y∈kv.map (·.1))/\zc7 n r hs.length s/\hs.length<=5/\d<=1000 ∧
 ∀l H' rs ms,Same H H'->H l=none->H' l=some (.lst (rs.map V.ref))->zh4 H' s rs ms->Goes n r hs lim s ms x->ms.length=d->Q (.ref l) H'
theorem ok_row_to (T:Txt K mg t):FnOk P w K mg base CX0 2 t.bZ t.b0 PR (sp_row_to K t):=by
 refine T.ch.F.ok zC0 (λvs a0 ae af a2=>?_) (λai ap ah s a0 vs ae af r a2=>?_)
 . obtain⟨a3,h,a4,a5,S,I,s,x,d,kv,rfl,X,hd,Y,a6,hx,a7,V0,hw,ab,a9⟩:=a2
   rfl
 . obtain⟨a3,h,a4,a5,S,I,s,x,d,kv,rfl,X,hd,Y,a6,hx,a7,V0,hw,ab,a9⟩:=a2
   refine⟨_,(za2 (zb7 (i:=2) zC0.nd rfl '$' (zf8 za1))
     (za2 (zb7 (i:=3) zC0.nd rfl '$' P0)
     (za2 (zM7 PassesOwn.never (zb9 yh2 (zZ4 (zu9 r) P1 P3 (λ_ _=>rfl)) zr4 (zb8 _)) (za2 (zg6 (zk5 QX Zp Zo zl6 P2 (za0 (zZ4 (zu9 r) P1 P3 (λ_ _=>rfl)) za1)))
     (za4 (zb7 (i:=3) zC0.nd rfl '$' (za7 (zC6 T) r.m T.aP zb1 (za0 P3 (za0 (za7 (ok_turned T) r.m T.cf zb1 (za0 (zZ4 (zu9 r) P1 P3 (λ_ _=>rfl)) za1)) za1)))))))
     (za2 (zg6 (pe_bm0 QX PySem.F.slot_list_reverse PySem.F.type_list_reverse mt_reverse P2))
     (za4 (za9 P2)))))),?_⟩
   refine cut5 ?_;intro aj ak al am;refine⟨QH _,λe o=>?_⟩;refine⟨_,rfl,?_⟩
   refine zM9 (λQ a=>∃(u:Addr) (z:'#') (c:List Addr) (k:List (Nat×Int)) (j:Nat),Q=[some (.ref a3),some (.ref h),some (.ref e),some (.ref u)]/\Same a0 a/\a e=some (.lst (c.map V.ref))/\a u=some (.tup (z.map V.int))/\zh4 a z c.reverse k/\Goes a4 a5 I S z k x/\Dst a4 a5 I S s j z/\j+k.length=d)
     (λQ a=>match a e with | some (.lst J)=>d-J.length | _=>0) ⟨a3,x,[],[],d,rfl,Same.upd o,za3,by rw[za8 (zb5 X o)];exact X,trivial,rfl,hx,rfl⟩ ?_ ?_
   . rintro Q a ⟨u,z,c,k,j,rfl,L,f,M,Z,h4,h5,h6⟩
     have ac:=a7 j z '!' h5;obtain⟨⟨l,v⟩,he,rfl⟩:=QQ.mp ac;have G:=L _ _ hd;have g1:∀ {g:Hp} {b:Addr},Same a g->g b=some (.tup (l.map V.int))->DGet g h (.ref b) (some v):=λ{g b} A B=>by
       have:=dget (A _ _ G) B;rw[zR9 Y he] at this;exact this
     refine⟨_,rfl,_,rfl,h,v,rfl,g1 (Same.refl _) M,rfl,_,rfl,?_⟩;rcases a6 _ he with⟨n,C⟩ | ⟨y,d',m,i,p,n,C,D,e4,N,e6⟩
     . obtain rfl:v = .non:=C
       refine iteF ?_;have hj:j=0:=h5.uniq (by rw[show l=s from n];exact Dst.zero);obtain rfl:l=s:=n;refine⟨_,rfl,.inl ⟨rfl,_,SqL.of f⟩,e,_,rfl,rfl,f,?_⟩;refine⟨_,rfl,a9 e _ c.reverse k (L.put o) o ?_ ?_ h4 '!'⟩
       . rw[za3,List.map_reverse]
       . exact zh4.keepL f Z
     . have hv:v = .ref m:=n
       subst hv;refine iteT ?_;have E:l=y.set i p:=e4;have ej:j=d'+1:=h5.uniq e6;have aa:=L _ _ C;have an:c.length=k.length:=by rw[<-List.length_reverse];exact Z.len
       have Vy:=N.1.valid V0;have ao:y.length=I.length:=Vy.len;refine⟨_,rfl,.inl ⟨rfl,_,SqL.of f⟩,_,rfl,_,rfl,h,_,rfl,g1 (Same.refl _) M,e,_,_,rfl,rfl,f,zd0 (by rw[Qb];omega),?_⟩;have k2:∀ {b:Addr} {J:List V},a b=some (.tup J)->(upd a e (.lst (c.map V.ref++[.ref m]))) b=some (.tup J):=λB=>by rw[za8 (λz=>by rw[z,f] at B;cases B)];exact B
       have U:(upd a e (.lst (c.map V.ref++[.ref m]))) h=some (.dT (dOf kv)):=by rw[za8 (λz=>by rw[z,f] at G;cases G)];exact G
       have g2:DGet (upd a e (.lst (c.map V.ref++[.ref m]))) h (.ref u) (some (.ref m)):=by
         have:=dget U (k2 M);rw[zR9 Y he] at this;exact this
       have H:(upd a e (.lst (c.map V.ref++[.ref m]))) e=some (.lst ((c++[m]).map V.ref)):=by rw[za3,Qq];rfl
       have R2:zh4 (upd a e (.lst (c.map V.ref++[.ref m]))) l c.reverse k:=zh4.keepL f Z;have A:Same a0 (upd a e (.lst (c.map V.ref++[.ref m]))):=L.put o;have R:=k2 M;have F:=k2 aa;revert g2 H R2 A R F U;generalize upd a e (.lst (c.map V.ref++[.ref m]))=g;intro U g2 H R2 A R F;refine⟨_,rfl,_,rfl,_,rfl,h,_,rfl,g2,m,_,_,_,rfl,.inr (SqT.of F),λlt ad=>?_⟩;have O:Same g (upd g lt (.tup [.int ((i:Int)+1),.int p,.int (y.getD i 0)])):=Same.upd ad;have W:(upd g lt (.tup [.int ((i:Int)+1),.int p,.int (y.getD i 0)])) lt=some (.tup [.int ((i:Int)+1),.int p,.int (y.getD i 0)]):=za3;dsimp only;revert O W;generalize upd g lt (.tup [.int ((i:Int)+1),.int p,.int (y.getD i 0)])=H3;intro O W;refine⟨u,lt,_,_,y.getD i 0,i,l,rfl,O _ _ R,.inr (SqT.of W),⟨rfl,by rw[E,ZG];exact D.lt,by rw[E,ZG];omega⟩,λl4 H4 s4 a8=>?_⟩;have ey:l.set i (y.getD i 0)=y:=by rw[E];exact set_back p D.lt
       rw[ey] at a8;have q:=O.trans s4;refine⟨⟨l4,y,c++[m],(i,p)::k,d',rfl,A.trans q,q _ _ H,a8,?_,⟨D,by rw[<-E];exact h4⟩,N,by simp;omega⟩,?_⟩
       . rw[List.reverse_append]
         refine⟨q _ _ F,?_⟩;rw[<-E];exact R2.same q
       . rw[q _ _ H,f]
         simp;omega
   . rintro Q a Q1 Q2 hQ ⟨_,n,_,C,a1,v1,D,e4,N,ag,e6,e7⟩
     exact⟨_,n,_,C,a1,v1,D,e4,N,ag,e6,hQ _ _ e7⟩
noncomputable def wsOf (ms:List (Nat×Int)):List Int:=ms.map λm=>(m.1:Int)+1
def sp_moved_again (K:W.Frag)(t:Adr):Sp:=λvs H Q _=>∃(rw_:Addr) (x:'#') (rs:List Addr) (ms:List (Nat×Int)),vs=[.ref rw_]/\H rw_=some (.lst (rs.map V.ref))/\zh4 H x rs ms/\(∀m∈ms,m.1<5)/\ms.length<=1000 ∧
 ∀(l:Addr) (H':Hp) (ag:'#'),Same H H'->H l=none->H' l=some (.lst (ag.map V.int))->ag.Pairwise (· < ·)->(∀k,k∈ag↔k∈wsOf ms/\1<(wsOf ms).count k)->Q (.ref l) H'
theorem zh4.at_ {H:Hp}:∀ {x:'#'} {c:List Addr} {d:List (Nat×Int)},zh4 H x c d->∀ {j:Nat} {a:Addr},c[j]?=some a->∃m u v,d[j]?=some m/\H a=some (.tup [.int ((m.1:Int)+1),u,v])
 | _,[],[],_,j,a,h=>by simp at h
 | _,[],_::_,h,_,_,_=>h.elim
 | _,_::_,[],h,_,_,_=>h.elim
 | x,b::c,m::d,h,0,a,e=>by
   have f:some b=some a:=e;obtain rfl:=Qx f;exact⟨m,_,_,rfl,h.1⟩
 | x,b::c,m::d,h,j+1,a,e=>by
   obtain⟨g,u,v,i,k⟩:=zh4.at_ h.2 (j:=j) (a:=a) (by simpa using e);exact⟨g,u,v,by simpa using i,k⟩
theorem ok_moved_again (T:Txt K mg t):FnOk P w K mg base CX0 1 t.aW t.aX Pg (sp_moved_again K t):=by
 refine T.bn.F.ok zA4 (λvs H a1 E h=>?_) (λa7 a9 a6 aa H vs a1 E hr h=>?_)
 . obtain⟨A,x,l,c,rfl,o,B,M,X,q⟩:=h
   rfl
 . obtain⟨A,x,l,c,rfl,o,B,M,X,q⟩:=h
   refine⟨_,(za2 (zb7 (i:=1) zA4.nd rfl (Or.inr rfl) (zk0 rfl zv4 (zg3 P0) (λ_ _ _ _ _=>(zc3 (i:=0) zv4.nd rfl '$')) (λ_ _ _ _ _=>zg8) (λ_ _ _ _ _=>(zc5 (zL2 K rfl) P0 za6 (λ_ _=>rfl)))))
     (za4 (za9 (zb6 (call_sortS rfl) rfl T.bc PyProof.Rows.boot_sorted (za0 (zd2 (call_setI rfl) rfl T.c5 PyProof.Rows.boot_set (za0 (zk0 rfl zv5 (zg3 P1) (λ_ _ _ _ _=>(zc3 (i:=0) zv5.nd rfl '$')) (λ_ _ _ _ _=>(yb3 (zb9 zu7 (pe_bmK K rfl QX PySem.F.slot_list_count PySem.F.type_list_count (mt_countLK K rfl) P1 (za0 P0 za1)) za6 (zb8 _)))) (λ_ _ _ _ _=>P0)) za1)) za1))))),?_⟩
   have W:=B.len;refine⟨_,rfl,A,rfl,⟨_,SqL.of o⟩,λD C=>?_⟩;refine zi3 (K:=K) (a:=A) (xs:=l.map V.ref) (λj d=>d=upd H D (.lst ((wsOf (c.take j)).map V.int))) rfl (λj d e=>by rw[e];exact SqL.of (by rw[za8 (zb5 o C)];exact o)) ?_ ?_
   . rintro j v d a2 n rfl r
     have J:j<l.length:=by
       have:=(QN.mp n).1;simpa using this
     obtain rfl:v = .ref l[j]:=by
       rw[QK,Qf J] at n;exact(Qx n).symm
     obtain⟨m,a3,w',e1,N⟩:=B.at_ (Qf J);have p:c.take (j+1)=c.take j++[m]:=by rw[QY,e1];rfl
     have Y:(upd H D (.lst ((wsOf (c.take j)).map V.int))) l[j]=some (.tup [.int ((m.1:Int)+1),a3,w']):=by rw[za8 (zb5 N C)];exact N
     dsimp only[zm9];refine iteT ?_;refine⟨_,rfl,_,_,_,_,rfl,rfl,SqT.of Y,rfl,_,za3,zd0 (by unfold wsOf;rw[Qb,Qb,QW];omega),r _ ?_⟩;rw[zh5,p];unfold wsOf;rw[Qq,Qq];rfl
   . rintro d rfl
     rw[Qb,W,QO];have s:Same H (upd H D (.lst ((wsOf c).map V.int))):=Same.upd C;have f:(upd H D (.lst ((wsOf c).map V.int))) D=some (.lst ((wsOf c).map V.int)):=za3;have Z:∀k∈wsOf c,1<=k/\k<=5:=λk u=>by
       unfold wsOf at u;obtain⟨m,hm,rfl⟩:=QQ.mp u;have:=M m hm;omega
     have a8:(wsOf c).length<=1000:=by unfold wsOf;rw[Qb];omega
     generalize wsOf c=b at *;revert s f;generalize upd H D (.lst (b.map V.int))=g;intro s f;refine⟨_,rfl,D,rfl,⟨_,SqL.of f⟩,λE F=>?_⟩;refine zi3 (K:=K) (a:=D) (xs:=b.map V.int) (λj d=>d=upd g E (.lst (((b.take j).filter λk=>decide (1<b.count k)).map V.int))) rfl (λj d e=>by rw[e];exact SqL.of (by rw[za8 (zb5 f F)];exact f)) ?_ ?_
     . rintro j v d a2 n rfl r
       obtain⟨z,rfl,hz⟩:=int_at n;have p:b.take (j+1)=b.take j++[z]:=by rw[QY,hz];rfl
       have L:(upd g E (.lst (((b.take j).filter λk=>decide (1<b.count k)).map V.int))) D=some (.lst (b.map V.int)):=by rw[za8 (zb5 f F)];exact f
       refine⟨_,rfl,.inl ⟨rfl,_,SqL.of L⟩,_,rfl,D,b,z,rfl,rfl,SqL.of L,_,_,rfl,rfl,_,rfl,?_⟩;have ec:decide ((1:Int)<(b.count z:Int))=decide (1<b.count z):=by
         by_cases h:1<b.count z
         . rw[Qh h,Qh '!']
         . rw[Qe h,Qe '!']
       rw[ec];refine ite2 (λG=>?_) (λG=>?_)
       . refine⟨_,rfl,_,za3,zd0 (by rw[Qb];exact QD (List.length_filter_le _ _) (by rw[QW];omega)),r _ ?_⟩
         rw[zh5,p,List.filter_append,Qq];simp[G]
       . refine r _ ?_
         rw[p,List.filter_append,Qq];simp[G]
     . rintro d rfl
       rw[Qb,QO];have y:Same g (upd g E (.lst ((b.filter λk=>decide (1<b.count k)).map V.int))):=Same.upd F;have I:(upd g E (.lst ((b.filter λk=>decide (1<b.count k)).map V.int))) E=some (.lst ((b.filter λk=>decide (1<b.count k)).map V.int)):=za3;revert y I;generalize upd g E (.lst ((b.filter λk=>decide (1<b.count k)).map V.int))=O;intro y I;refine⟨E,_,rfl,SqL.of I,λk u=>Z k (List.mem_filter.mp u).1,λS Q fS a0 up=>?_⟩;have R:∀ {a4:HO},Same O (upd O S a4):=Same.upd fS;refine⟨S,Q,rfl,za3,λa5 U=>?_⟩;refine q a5 _ Q (((s.trans y).trans R).updT U) ?_ za3 up λk=>?_
       . exact((s.trans y).trans R).free U
       . rw[a0,List.mem_filter,decide_eq_true_eq]
end
section
variable {P:Program} {w:World} {K:W.Frag} {mg:Str->Option Value} {base:Heap} {t:Adr}
noncomputable def zD8 (v1 v2 v3 v4 v5 v6:V):List (Str×V):=putF "shut" v6 (putF "again" v5 (putF "layers" v4 (putF "row" v3 (putF "many" v2 (putF "reached" v1 [])))))
theorem zh2 (a b c d e f:V):(zD8 a b c d e f).lookup ("reached" : Str)=some a:=by
 unfold zD8;rw[zb0,Qg '(',zb0,Qg '(',zb0,Qg '(',zb0,Qg '(',zb0,Qg '(',zb0,Ql rfl]
theorem zM4 (b a c d e f:V):(zD8 b a c d e f).lookup ("many" : Str)=some a:=by
 unfold zD8;rw[zb0,Qg '(',zb0,Qg '(',zb0,Qg '(',zb0,Qg '(',zb0,Ql rfl]
theorem zE8 (b c a d e f:V):(zD8 b c a d e f).lookup ("row" : Str)=some a:=by
 unfold zD8;rw[zb0,Qg '(',zb0,Qg '(',zb0,Qg '(',zb0,Ql rfl]
theorem yl2 (b c d e f a:V):(zD8 b c d e f a).lookup ("shut" : Str)=some a:=by
 unfold zD8;rw[zb0,Ql rfl]
def sp_Way_init (K:W.Frag)(t:Adr):Sp:=λvs H Q _=>∃(p dx:Addr) (v1 v2 v3 v4 v5 v6:V),vs=[.ref p,v1,v2,v3,v4,v5,v6]/\H p=some (.ins t.af dx [])/\∀H',H' p=some (.ins t.af dx (zD8 v1 v2 v3 v4 v5 v6))->zf7 p H H'->Q .non H'
theorem zK9 (T:Txt K mg t):FnOk P w K mg base CX0 1 t.aH t.bA Pw (sp_Way_init K t):=by
 refine T.bd.F.ok sc_Way_init (λf H Q E h=>?_) (λr A n s H f Q E B h=>?_)
 . obtain⟨p,a,g,i,j,k,l,m,rfl,d,q⟩:=h
   rfl
 . obtain⟨p,a,g,i,j,k,l,m,rfl,d,q⟩:=h
   refine⟨_,(za2 (zj6 P0 P1 rfl)
     (za2 (zj6 P0 P2 rfl)
     (za2 (zj6 P0 P3 rfl)
     (za2 (zj6 P0 (pv 4) rfl)
     (za2 (zj6 P0 P5 rfl)
     (za4 (zj6 P0 P6 rfl))))))),?_⟩
   refine cut6 ?_;intro u v x y z;refine⟨_,rfl,_,rfl,p,_,a,_,rfl,d,T.aa,T.ae,by decide,?_⟩;refine⟨_,rfl,_,rfl,p,_,a,_,rfl,za3,T.aa,T.aB,zl4 fl0,?_⟩;refine⟨_,rfl,_,rfl,p,_,a,_,rfl,za3,T.aa,T.ap,zl4 (flS fl0),?_⟩;refine⟨_,rfl,_,rfl,p,_,a,_,rfl,za3,T.aa,T.cE,zl4 (flS (flS fl0)),?_⟩;refine⟨_,rfl,_,rfl,p,_,a,_,rfl,za3,T.aa,T.cN,zl4 (flS (flS (flS fl0))),?_⟩;refine⟨_,rfl,_,rfl,p,_,a,_,rfl,za3,T.aa,T.a5,zl4 (flS (flS (flS (flS fl0)))),?_⟩;refine q _ za3 λb o e c=>?_
   rw[za8 c,za8 c,za8 c,za8 c,za8 c,za8 c];exact e
def ys2 (t:Adr)(H:Hp)(a:Addr)(reached:Bool)(many:V)(row layers again shut:Addr):Prop:=∃dx,H a=some (.ins t.af dx (zD8 (.bl reached) many (.ref row) (.ref layers) (.ref again) (.ref shut)))
abbrev Lay (H:Hp)(as:List Addr)(Ls:List (List (List Int))):Prop:=Paired (λa L=>∃ys,H a=some (.lst ys)/\Tups H ys L) as Ls
theorem Lay.keep {H H':Hp}(k:∀b o,H b=some o->H' b=some o){c:List Addr}{d:List (List (List Int))}(h:Lay H c d):Lay H' c d:=Paired.mapP h λa L ⟨f,g,i⟩=>⟨f,k _ _ g,Paired.mapP i λy x ⟨b,e,j⟩=>⟨b,e,k _ _ j⟩⟩
structure zS0 (n r:Int)(hs:'#')(lim:Int)(s:'#')(Ls:List (List (List Int))):Prop where
 mem:∀j L,Ls[j]?=some L->∀x,x∈L↔Dst n r hs lim s j x
 srt:∀L∈Ls,L.Pairwise λx y=>Sx.lexB x y=true
def zK4 (t:Adr)(H:Hp)(a:Addr)(n r:Int)(hs:'#')(lim:Int)(s g:'#'):Prop :=
 (∃d rw_ rs ms la as Ls ag ags sh,Dst n r hs lim s d g/\ys2 t H a true (.int (d:Int)) rw_ la ag sh/\H rw_=some (.lst (rs.map V.ref))/\zh4 H s rs ms/\Goes n r hs lim s ms g/\ms.length=d/\H la=some (.lst (as.map V.ref))/\Lay H as Ls/\Ls.length=d+1/\zS0 n r hs lim s Ls ∧
   H ag=some (.lst (List.map V.int ags))/\ags.Pairwise (· < ·)/\(∀k,k∈ags↔k∈wsOf ms/\1<(wsOf ms).count k)/\H sh=some (.lst [])) ∨
 ((∀d,¬ Dst n r hs lim s d g)/\∃rw_ la as Ls ag sh zs S,ys2 t H a false .non rw_ la ag sh/\H rw_=some (.lst [])/\H la=some (.lst (as.map V.ref))/\Lay H as Ls/\zS0 n r hs lim s Ls/\(∀d,d<Ls.length↔∃x,Dst n r hs lim s d x) ∧
   H ag=some (.lst [])/\H sh=some (.lst zs)/\Tups H zs S/\S.Pairwise (λx y=>Sx.lexB x y=true)/\∀x,x∈S↔∃d,Dst n r hs lim s d x)
structure SI (n r:Int)(hs:'#')(lim:Int)(s:'#')(H:Hp)(la ld:Addr)(as:List Addr)(Ls:List (List (List Int)))(kv:List (List Int×V))(i:Nat):Prop where
 hla:H la=some (.lst (as.map V.ref))
 nla:la∉as
 lay:Lay H as Ls
 len:Ls.length=i+1
 lof:zS0 n r hs lim s Ls
 hd:H ld=some (.dT (dOf kv))
 nd:(kv.map (·.1)).Nodup
 key:∀x,x∈kv.map (·.1)↔∃j,j<=i/\Dst n r hs lim s j x
 led:∀e∈kv,zW3 n r hs lim s H e
theorem atI_neg1 {a:Type}{xs:List a}{x:a}:atI (xs++[x]) (-1)=some x:=by
 unfold atI ixN;rw[Qr,List.length_singleton,Qg '!',Ql '!'];simp;rw[show(-1+((xs.length:Int)+1)).toNat=xs.length by omega];simp
theorem lexB_irr (x:'#'):Sx.lexB x x=false:=by
 cases h:Sx.lexB x x with
 | false=>rfl
 | true=>have:=Sx.lexB_as h;rw[h] at this;cases this
theorem zH6 {G:List (List Int)}(h:G.Pairwise λx y=>Sx.lexB x y=true):G.Nodup:=h.imp λ{a b} z e=>by
 subst e;rw[lexB_irr] at z;cases z
theorem Goes.lt {n r:Int}{d:'#'}{c:Int}{w:Nat}:∀ {x:'#'} {b:List (Nat×Int)} {y:'#'},Goes n r d c x b y->x.length=w->∀m∈b,m.1<w
 | _,[],_,_,_,m,a=>nomatch a
 | x,m'::b,y,h,hw,m,a=>by
   rcases Qn.mp a with rfl | a
   . rw[<-hw];exact h.1.lt
   . exact Goes.lt h.2 (by rw[ZG];exact hw) m a
def sp_search (K:W.Frag)(t:Adr):Sp:=λvs H Q _=>∃(b st go:Addr) (n r lim:Int) (hs s g:'#'),vs=[.ref b,.ref st,.ref go]/\ze3 t H b n r hs lim/\zc7 n r hs.length s/\H st=some (.tup (s.map V.int))/\H go=some (.tup (g.map V.int)) ∧
 ∀a H',Same H H'->zK4 t H' a n r hs lim s g->Q (.ref a) H'
theorem ok_search (T:Txt K mg t):FnOk P w K mg base CX0 8 t.bX t.bY Pd (sp_search K t):=by
 refine T.cg.F.ok zv3 (λvs H cd ce h=>?_) (λci cq cg s H vs cd ce hr h=>?_)
 . obtain⟨b,U,go,n,r,A,v,s,a4,rfl,ae,O,ai,ap,b3⟩:=h
   rfl
 . obtain⟨b,U,go,n,r,A,v,s,a4,rfl,ae,O,ai,ap,b3⟩:=h
   refine⟨_,(za2 (zb7 (i:=3) zv3.nd rfl '$' (zf8 (za0 (zf8 (za0 P1 za1)) za1)))
     (za2 (zb7 (i:=4) zv3.nd rfl '$' (pe_disp1 (zu9 hr) P1 zr4))
     (za2 (zM7 PassesOwn.never (yf2 (zJ0 (zu9 hr) P2 (pv 4))) (za2 (zb7 (i:=5) zv3.nd rfl '$' (za7 (ok_next_layer T) hr.m T.bt zb1 (za0 P0 (za0 (zc5 zc6 P3 (yh0 zX7 za6) (λ_ _=>rfl)) (za0 (pv 4) za1)))))
     (za2 (zc2 (zb9 zg1 (zb6 zc1 rfl T.ag QF (za0 P5 za1)) za6 (zb8 _)) (za4 (za9 (zq4 T.cM (zK9 T) hr.m rfl T.ct T.bd.b .nil zb1 (za0 zg0 (za0 zr4 (za0 (zf8 za1) (za0 P3 (za0 (zf8 za1) (za0 (zb6 (call_sortD rfl) rfl T.bc PyProof.Rows.boot_sorted (za0 (pv 4) za1)) za1))))))))) zb3)
     (za4 (zg6 (zk5 QX Zp Zo zl6 P3 (za0 P5 za1)))))))
     (za2 (zb7 (i:=6) zv3.nd rfl '$' (za7 (ok_row_to T) hr.m T.ch zb1 (za0 P2 (za0 (pv 4) za1))))
     (za4 (za9 (zq4 T.cM (zK9 T) hr.m rfl T.ct T.bd.b .nil zb1 (za0 zg0 (za0 (zb6 zc1 rfl T.ag QF (za0 P6 za1)) (za0 P6 (za0 P3 (za0 (za7 (ok_moved_again T) hr.m T.bn zb1 (za0 P6 za1)) (za0 (zf8 za1) za1))))))))))))),?_⟩
   refine cut5 ?_;intro cj ck cl cm;refine⟨_,rfl,(by show 1<=sizeLine;decide),λG f0=>⟨(by show 1<=sizeLine;decide),λf aj=>?_⟩⟩;have bm:H f=none:=(Same.upd f0).free aj;have b6:G≠f:=λz=>by rw[<-z,za3] at aj;cases aj
   have s2:Same H (upd (upd H G (.lst [.ref U])) f (.lst [.ref G])):=(Same.upd f0).updT aj;have W:(upd (upd H G (.lst [.ref U])) f (.lst [.ref G])) G=some (.lst [.ref U]):=by rw[za8 b6];exact za3
   have an:(upd (upd H G (.lst [.ref U])) f (.lst [.ref G])) f=some (.lst [.ref G]):=za3;dsimp only;revert s2 W an;generalize upd (upd H G (.lst [.ref U])) f (.lst [.ref G])=H2;intro s2 W an;refine λB aq=>⟨_,rfl,za3,U,s,rfl,by rw[za8 (zb5 (s2 _ _ ai) aq)];exact s2 _ _ ai,?_⟩
   have bn:H B=none:=s2.free aq;rw[zh5];have s3:Same H2 (upd H2 B (.dT [(ik s,.non)])):=Same.upd aq;have ar:(upd H2 B (.dT [(ik s,.non)])) B=some (.dT (dOf [(s,.non)])):=za3;revert s3 ar;generalize upd H2 B (.dT [(ik s,.non)])=H3;intro s3 ar;have b7:=ae.1.w;have I0:SI n r v A s H3 f B [G] [[s]] [(s,.non)] 0:=by
     refine⟨s3 _ _ an,by simpa using b6.symm,.cons ⟨_,s3 _ _ W,.cons ⟨U,rfl,s3 _ _ (s2 _ _ ai)⟩ .nil⟩ .nil,rfl,⟨λj L e x=>?_,λL hL=>?_⟩,ar,by simp,λx=>?_,λe he=>?_⟩
     . match j,e with
       | 0,e =>
         obtain rfl:[s]=L:=Qx e;rw[QG];exact⟨λz=>z▸Dst.zero,λz=>by obtain⟨w0,_⟩:=z;cases w0;rfl⟩
       | j+1,e=>simp at e
     . obtain rfl:L=[s]:=by simpa using hL
       exact List.pairwise_singleton _ _
     . constructor
       . intro q
         obtain rfl:x=s:=by simpa using q
         exact⟨0,Qi _,Dst.zero⟩
       . rintro⟨j,u,q⟩
         obtain rfl:j=0:=by omega
         obtain⟨w0,_⟩:=q;cases w0;simp
     . obtain rfl:e=(s,.non):=by simpa using he
       exact .inl ⟨rfl,rfl⟩
   have bo:∀ {H':Hp} {J:List Addr} {M:List (List (List Int))} {g:List (List Int×V)} {i:Nat},SI n r v A s H' f B J M g i->g.length<=1000:=λ{H' J M g i} bj=>by
     have:=few ae.1 bj.nd λx q=>by obtain⟨j,_,u⟩:=(bj.key x).mp q;exact u.1.valid O
     rw[Qb] at this;exact this
   refine zM9 (λσ H'=>X5 λv5 J M g i=>A6 (σ=[some (.ref b),some (.ref U),some (.ref go),some (.ref f),some (.ref B),v5,none]) (Same H H') (SI n r v A s H' f B J M g i) (i<g.length) ((∃x,Dst n r v A s i x)) (∀j,j<i->¬ Dst n r v A s j a4))
     (λσ H'=>match H' B with | some (.dT k)=>1001-k.length | _=>0) ⟨none,_,_,_,0,rfl,s2.trans s3,I0,by show 0<1;decide,⟨s,Dst.zero⟩,λj u=>absurd u (Nat.not_lt_zero _)⟩ ?_ ?_
   . rintro σ H4 ⟨v5,J,M,g,i,rfl,s4,c,cn,bv,bw⟩
     have co:=bo c;refine⟨_,rfl,_,rfl,B,_,rfl,dget c.hd (s4 _ _ ap),_,rfl,?_⟩;rw[yg3 c.nd];refine ite2 (λQ=>?_) (λQ=>?_)
     . have b8:a4∉g.map (·.1):=λz=>by rw[Qh z] at Q;cases Q
       obtain⟨F,C,rfl⟩:∃F C,J=F++[C]:=by
         have hl:=c.lay;have:J.length=M.length:=Paired.length hl;have W:J≠[]:=λz=>by rw[z,c.len] at this;cases this
         exact⟨J.dropLast,J.getLast W,(List.dropLast_concat_getLast W).symm⟩
       obtain⟨S,I,rfl⟩:∃S I,M=S++[I]:=by
         have W:M≠[]:=λz=>by have:=c.len;rw[z] at this;cases this
         exact⟨M.dropLast,M.getLast W,(List.dropLast_concat_getLast W).symm⟩
       have bl:S.length=i:=by have:=c.len;simpa using this
       obtain⟨p,bx,bz⟩:∃p,H4 C=some (.lst p)/\Tups H4 p I:=by
         have au:∀ {D:List Addr} {E:List (List (List Int))} {a:Addr} {af:List (List Int)},Lay H4 (D++[a]) (E++[af])->∃p,H4 a=some (.lst p)/\Tups H4 p af:=by
           intro D E a af h;have h':Paired (λa L=>∃p,H4 a=some (.lst p)/\Tups H4 p L) (D++[a]) (E++[af]):=h;have hl:(D++[a]).length=(E++[af]).length:=Paired.length h';clear h
           induction D generalizing E with
           | nil =>
             cases E with
             | nil=>cases h' with | cons x _=>exact x
             | cons _ _=>simp at hl
           | cons _ D ih =>
             cases E with
             | nil=>simp at hl
             | cons _ E=>cases h' with | cons _ t=>exact ih t (by simpa using hl)
         exact au c.lay
       have ak:∀x,x∈I↔Dst n r v A s i x:=c.lof.mem i I (by rw[<-bl];simp);refine⟨_,rfl,_,rfl,_,rfl,f,_,_,_,rfl,rfl,SqL.of c.hla,by rw[Qq];exact atI_neg1,_,rfl,b,C,B,n,r,A,v,I,p,g,rfl,ae.same s4,bx,bz,λx q=>((ak x).mp q).1.valid O,c.hd,c.nd,λx q=>(by obtain⟨j,_,u⟩:=(c.key x).mp q;exact u.1.valid O),λl5 l zs ah a8 b9 ba bb bc bd c0 a2 aa av c1=>?_⟩;have s5:Same H l:=zf7.same s4 bn b9;have hF:∀y,y∈a8.map (·.1)↔Dst n r v A s (i+1) y:=λy=>by
         rw[av,dst_next,c.key];constructor
         . rintro⟨Q,x,X,h3⟩;exact⟨Q,x,(ak x).mp X,h3⟩
         . rintro⟨Q,x,X,h3⟩;exact⟨Q,x,(ak x).mpr X,h3⟩
       have k5:∀ {a0:Addr} {o:HO},H4 a0=some o->(∀k,o≠.dT k)->l a0=some o:=λe ne=>b9 _ _ e (λz=>by rw[z,c.hd] at e;injection e with e;exact ne _ e.symm)
       have a9:l f=some (.lst ((F++[C]).map V.ref)):=k5 c.hla (λk z=>nomatch z);have ao:Lay l (F++[C]) (S++[I]):=Paired.mapP c.lay λa L ⟨p,Q,X⟩=>⟨p,k5 Q (λk z=>nomatch z),Paired.mapP X λy x ⟨b,e,Y⟩=>⟨b,e,k5 Y (λk z=>nomatch z)⟩⟩
       have bp:∀e∈g,zW3 n r v A s l e:=λe he=>(c.led e he).same λb us Y=>k5 Y (λk z=>nomatch z)
       have ch:(g++a8).length<=1000:=by
         have:=few ae.1 aa λx q=>by
           rw[Qq] at q;rcases Qs.mp q with z | z
           . obtain⟨j,_,u⟩:=(c.key x).mp z;exact u.1.valid O
           . exact((hF x).mp z).1.valid O
         rw[Qb] at this;exact this
       have c2:ah.length=zs.length:=(zz6 bc).symm;have c3:ah.length=a8.length:=by rw[bd.length_eq,Qb]
       refine⟨_,rfl,l5,_,rfl,.inl (SqL.of bb),rfl,_,rfl,?_⟩;rw[zj0];refine ite2 (λX=>?_) (λX=>?_)
       . -- shut
         have be:zs.length=0:=by simpa using X
         have c4:a8=[]:=QA '!';subst c4;rw[Zi] at a2 aa;have b4:∀e,i<e->∀y,¬ Dst n r v A s e y:=dst_none λy hy=>by have:=(hF y).mpr hy;simp at this
         have b5:∀x,x∈g.map (·.1)↔∃d,Dst n r v A s d x:=λx=>by
           rw[c.key];exact⟨λ⟨j,_,h⟩=>⟨j,h⟩,λ⟨j,h⟩=>⟨j,Nat.not_lt.mp λz=>b4 j z x h,h⟩⟩
         refine⟨QH _,λZ bf=>⟨_,rfl,QH _,λlg aw=>⟨_,rfl,?_⟩⟩⟩;have s6:=((Same.refl l).updT (o:=.lst []) bf).updT (o:=.lst []) aw;have a5:(upd (upd l Z (.lst [])) lg (.lst [])) Z=some (.lst []):=Same.upd aw _ _ za3;have ab:(upd (upd l Z (.lst [])) lg (.lst [])) lg=some (.lst []):=za3;revert s6 a5 ab;generalize upd (upd l Z (.lst [])) lg (.lst [])=H6;intro s6 a5 ab;refine⟨B,_,_,rfl,s6 _ _ a2,dOf_keys g,aa,λc5 k hk=>?_,λN ac cf ax ht hp c6=>?_⟩
         . intro z
           rw[Qb] at c5;obtain⟨j,_,u⟩:=(c.key k).mp hk;have c7:v.length=0:=by have:=(u.1.valid O).len;rw[z] at this;exact this.symm
           have one:∀e∈g.map (·.1),e=[]:=λe he=>by
             obtain⟨j',_,c8⟩:=(c.key e).mp he;exact QA ((c8.1.valid O).len.trans c7)
           have lk:(g.map (·.1)).length=g.length:=Qb _;have ad:=aa;generalize g.map (·.1)=ks at ad one lk
           match ks,ad,one with
           | [],_,_=>simp at lk;omega
           | [_],_,_=>simp at lk;omega
           | x1::x2::_,ad,one' =>
             have e1:=one' x1 (.head _);have e2:=one' x2 (.tail _ (.head _));rw[e1,e2] at ad;simp at ad
         . have R:Same H6 (upd H6 N (.lst ac)):=Same.upd ax
           have a6:(upd H6 N (.lst ac)) N=some (.lst ac):=za3;have ay:=R.tups ht;revert R a6 ay;generalize upd H6 N (.lst ac)=H7;intro R a6 ay;refine λa dx fa az b0=>?_
           have s8:Same H7 (upd (upd H7 dx (.own a)) a (.ins t.af dx [])):=(Same.upd az).updT (by rw[za8 (Ne.symm b0)];exact fa);refine⟨a,dx,_,_,_,_,_,_,rfl,za3,λH9 h9 s9=>⟨rfl,?_⟩⟩;have a3:Same H7 H9:=zf7.same s8 fa s9;have a7:=(s6.trans R).trans a3;refine b3 a H9 (s5.trans a7) (.inr ⟨λd hd=>b8 ((b5 a4).mpr ⟨d,hd⟩),Z,f,_,_,lg,N,ac,cf,⟨dx,h9⟩,a3 _ _ (R _ _ a5),a7 _ _ a9,ao.keep a7,c.lof,λd=>?_,a3 _ _ (R _ _ ab),a3 _ _ a6,a3.tups ay,c6,λx=>?_⟩)
           . rw[c.len]
             exact⟨λhd=>let⟨x,q⟩:=bv;q.below d (Nat.le_of_lt_succ hd),λ⟨x,hd⟩=>Nat.lt_succ_of_le (Nat.not_lt.mp λz=>b4 d z x hd)⟩
           . rw[hp.mem_iff,b5]
       . -- one layer more
         have be:zs.length≠0:=by simpa using X
         have bq:∃x,Dst n r v A s (i+1) x:=by
           cases a8 with
           | nil=>exact absurd (c2.symm.trans c3) be
           | cons e a8=>exact⟨e.1,(hF e.1).mp (by simp)⟩
         refine⟨_,rfl,.inl ⟨rfl,_,SqL.of a9⟩,_,rfl,f,_,_,rfl,rfl,a9,zd0 (by rw[Qb,show(F++[C]).length=i+1 from(Paired.length ao).trans c.len];omega),?_⟩;have bg:l5≠f:=λz=>by rw[z,c.hla] at ba;cases ba
         have k6:∀ {a0:Addr} {o:HO},l a0=some o->a0≠f->(upd l f (.lst ((F++[C]).map V.ref++[.ref l5]))) a0=some o:=λe ne=>by rw[za8 ne];exact e
         have am:∀ {a0:Addr} {us:List V},l a0=some (.tup us)->(upd l f (.lst ((F++[C]).map V.ref++[.ref l5]))) a0=some (.tup us):=λe=>k6 e (λz=>by rw[z,a9] at e;cases e)
         have br:Lay (upd l f (.lst ((F++[C]).map V.ref++[.ref l5]))) (F++[C]) (S++[I]):=by
           have au:∀ {D:List Addr} {E:List (List (List Int))},Lay l D E->f∉D->Lay (upd l f (.lst ((F++[C]).map V.ref++[.ref l5]))) D E:=by
             intro D E h;have h':Paired (λa L=>∃p,l a=some (.lst p)/\Tups l p L) D E:=h;clear h
             induction h' with
             | nil=>intro _;exact .nil
             | cons x t ih =>
               intro hn;rw[Qn,not_or] at hn;obtain⟨p,e1,e2⟩:=x;exact .cons ⟨p,k6 e1 (Ne.symm hn.1),Paired.mapP e2 λy x ⟨b,e,Y⟩=>⟨b,e,am Y⟩⟩ (ih hn.2)
           exact au ao c.nla
         refine⟨⟨_,F++[C]++[l5],S++[I]++[ah],g++a8,i+1,rfl,s5.put bm,⟨?_,?_,?_,?_,⟨?_,?_⟩,?_,aa,?_,?_⟩,by rw[Qr];omega,bq,λj u hy=>b8 ((c.key a4).mpr ⟨j,by omega,hy⟩)⟩,?_⟩
         . rw[za3,Qq (l₁:=F++[C])];rfl
         . rw[Qs,not_or]
           exact⟨c.nla,by simpa using bg.symm⟩
         . exact Paired.snoc br ⟨zs,k6 bb bg,Paired.mapP bc λy x ⟨b,e,Y⟩=>⟨b,e,am Y⟩⟩
         . rw[Qr,c.len];rfl
         . intro j L e x
           by_cases u:j<(S++[I]).length
           . rw[Zn u] at e
             exact c.lof.mem j L e x
           . rw[Zd '!'] at e
             have c9:j-(S++[I]).length=0:=by
               rcases Nat.eq_zero_or_pos (j-(S++[I]).length) with z | z
               . exact z
               . rw[QT (by rw[List.length_singleton];omega)] at e;cases e
             rw[c9] at e;obtain rfl:ah=L:=Qx e;have:j=i+1:=by have:=c.len;omega
             rw[this,bd.mem_iff,hF]
         . intro L hL
           rcases Qs.mp hL with z | z
           . exact c.lof.srt L z
           . obtain rfl:L=ah:=by simpa using z
             exact c0
         . rw[za8 (λz=>by rw[z,a9] at a2;cases a2)];exact a2
         . intro x
           rw[Qq,Qs,c.key,hF];constructor
           . rintro(⟨j,u,h⟩ | h)
             . exact⟨j,by omega,h⟩
             . exact⟨i+1,Qi _,h⟩
           . rintro⟨j,u,h⟩
             rcases QP i j with z | z
             . obtain rfl:j=i+1:=by omega
               exact .inr h
             . exact .inl ⟨j,z,h⟩
         . intro e he
           rcases Qs.mp he with z | z
           . exact(bp e z).same λb us Y=>am Y
           . obtain⟨x,q,m,i',p',e1,e2,e3,e4⟩:=c1 e z
             exact .inr ⟨x,i,m,i',p',e1,am e2,e3,e4,(ak x).mp q,(hF e.1).mp (QQ.mpr ⟨e,z,rfl⟩)⟩
         . rw[za8 (λz=>by rw[z,a9] at a2;cases a2),a2,c.hd]
           simp only[Qb,Qr];omega
     . -- the goal is come to
       have ca:a4∈g.map (·.1):=Classical.byContradiction λz=>Q (by rw[Qe z];rfl)
       obtain⟨d,cp,b1⟩:=(c.key a4).mp ca;refine⟨_,rfl,_,rfl,go,B,n,r,A,v,s,a4,d,g,rfl,s4 _ _ ap,c.hd,c.nd,c.led,b1,λj y u hy=>(c.key y).mpr ⟨j,by omega,hy⟩,O,b7,by omega,λZ l rs ms s5 bf a5 R5 G5 bh=>?_⟩;have bt:=R5.len;have av:∀m∈ms,m.1<5:=λm hm=>QJ (G5.lt O.len m hm) b7
       refine⟨_,rfl,Z,_,rfl,.inl (SqL.of a5),?_⟩;rw[Qb,bt,bh];refine⟨_,rfl,_,rfl,_,rfl,Z,s,rs,ms,rfl,a5,R5,av,by omega,λlg H6 ag s6 aw ab cb cc=>?_⟩;refine⟨QH _,λN ax=>?_⟩;have R:Same H6 (upd H6 N (.lst [])):=Same.upd ax;have a6:(upd H6 N (.lst [])) N=some (.lst []):=za3;dsimp only;revert R a6;generalize upd H6 N (.lst [])=H7;intro R a6;refine λa dx fa az b0=>?_
       have s8:Same H7 (upd (upd H7 dx (.own a)) a (.ins t.af dx [])):=(Same.upd az).updT (by rw[za8 (Ne.symm b0)];exact fa);refine⟨a,dx,_,_,_,_,_,_,rfl,za3,λH9 h9 s9=>⟨rfl,?_⟩⟩;have a3:Same H7 H9:=zf7.same s8 fa s9;have bi:=R.trans a3;have a7:=s6.trans bi;have b2:=s5.trans a7;have bu:d=i:=by
         rcases QP d i with z | z
         . exact absurd b1 (bw d z)
         . omega
       refine b3 a H9 (s4.trans b2) (.inl ⟨d,Z,rs,ms,f,J,M,lg,ag,N,b1,⟨dx,h9⟩,a7 _ _ a5,R5.same a7,G5,bh,b2 _ _ c.hla,c.lay.keep b2,by rw[bu];exact c.len,c.lof,bi _ _ ab,cb,cc,a3 _ _ a6⟩)
   . rintro σ H' Q1 Q2 hQ ⟨_,e1,_,e2,D,v1,e3,e4,k,e6,e7⟩
     exact⟨_,e1,_,e2,D,v1,e3,e4,k,e6,hQ _ _ e7⟩
def sp_fewest (K:W.Frag)(t:Adr):Sp:=λvs H Q E=>∃(b a1 a2:Addr) (n r lim:Int) (hs s g:'#'),vs=[.ref b,.ref a1,.ref a2]/\ze3 t H b n r hs lim/\zc7 n r hs.length s/\zc7 n r hs.length g/\(SqL K H a1 (s.map V.int)\/H a1=some (.tup (s.map V.int)))/\(SqL K H a2 (g.map V.int)\/H a2=some (.tup (g.map V.int))) ∧
 (lim<absI (zb4 hs s)->∀od H',Told H H' od "start past"->E (.ref t.aa) od H')/\(absI (zb4 hs s)<=lim->lim<absI (zb4 hs g)->∀od H',Told H H' od "goal past"->E (.ref t.ab) od H') ∧
 (absI (zb4 hs s)<=lim->absI (zb4 hs g)<=lim->∀a H',Same H H'->zK4 t H' a n r hs lim s g->Q (.ref a) H')
theorem zr3 (T:Txt K mg t):FnOk P w K mg base (CXD P w) 9 t.a7 t.bW Pd (sp_fewest K t):=by
 refine T.ai.F.d.okD (CX:=CX0) zJ9 (λV H Q E h=>?_) (λa3 a8 a0 s H V Q E k h=>?_)
 . obtain⟨b,F,G,n,r,d,f,s,g,rfl,B,o,v,I,J,L,M,q⟩:=h
   rfl
 . obtain⟨b,F,G,n,r,d,f,s,g,rfl,B,o,v,I,J,L,M,q⟩:=h
   refine⟨_,(za2 (zb7 (i:=3) zJ9.nd rfl '$' (za7 (zd9 T) k.m T.ad zb1 (za0 P0 (za0 P1 za1))))
     (za2 (zb7 (i:=4) zJ9.nd rfl '$' (za7 (zd9 T) k.m T.ad zb1 (za0 P0 (za0 P2 za1))))
     (za2 (zc2 (ze8 (zd3 (za7 (zR4 T) k.m T.bh zb1 (za0 P0 (za0 P3 za1))))) (za4 (zB7 zw6 rfl T.a6 T.bJ T.bE (zt1 T) k.m rfl T.aM T.a7 .nil zb1 (za0 zc4 za1))) zb3)
     (za2 (zc2 (ze8 (zd3 (za7 (zR4 T) k.m T.bh zb1 (za0 P0 (za0 (pv 4) za1))))) (za4 (zB7 zw6 rfl T.bY T.cT T.cQ (ok_GoalPast_init T) k.m rfl T.bX T.cs .nil zb1 (za0 zc4 za1))) zb3)
     (za4 (za9 (za7 (ok_search T) k.m T.cg zb1 (za0 P0 (za0 P3 (za0 (pv 4) za1)))))))))),?_⟩
   refine cut5 ?_;intro a4 a5 a6 a7;refine⟨_,rfl,_,rfl,b,F,n,r,d,f,s,rfl,B,o,I,λN H1 c O=>?_⟩;refine⟨_,rfl,_,rfl,b,G,n,r,d,f,g,rfl,B.same c,v,J.imp c.seq (λe=>c _ _ e),λS H2 j U=>?_⟩;refine⟨_,rfl,_,rfl,b,N,n,r,d,f,s,rfl,(B.same c).same j,o,.inr (j _ _ O),λH3 p=>⟨_,rfl,?_⟩⟩;by_cases u:absI (zb4 f s)<=d
   . refine iteB (by rw[Qh u];rfl) ?_
     refine⟨_,rfl,_,rfl,b,S,n,r,d,f,g,rfl,((B.same c).same j).same p,v,.inr (p _ _ U),λH4 W=>⟨_,rfl,?_⟩⟩;have l:=p.trans W;by_cases y:absI (zb4 f g)<=d
     . refine iteB (by rw[Qh y];rfl) ?_
       exact⟨_,rfl,_,rfl,_,rfl,b,N,S,n,r,d,f,s,g,rfl,((B.same c).same j).same l,o,l _ _ (j _ _ O),l _ _ U,λa X Y R=>q u y a X (c.trans (j.trans (l.trans Y))) R⟩
     . refine iteA (by rw[Qe y];rfl) ?_
       exact⟨(by show 1<=sizeLine;decide),λx z=>⟨x,_,rfl,za3,λZ A m C D=>⟨rfl,some A,m,M u '!' _ _ (zM3 (c.trans (j.trans l)) z m C D)⟩⟩⟩
   . refine iteA (by rw[Qe u];rfl) ?_
     exact⟨(by show 1<=sizeLine;decide),λx z=>⟨x,_,rfl,za3,λZ A m C D=>⟨rfl,some A,m,L '!' _ _ (zM3 (c.trans (j.trans p)) z m C D)⟩⟩⟩
def yp8 (n r:Int)(hs:'#')(lim:Int)(s:'#')(H:Hp)(v:V):Prop:=v = .non\/∃a m,v = .ref a/\zv7 H s a m/\Lets n r hs lim s m.1 m.2
def AskD (t:Adr)(H:Hp)(lim:Int)(hs s g:'#')(E:XK):Prop :=
 (lim<absI (zb4 hs s)->∀od H',Told H H' od "start past"->E (.ref t.aa) od H')/\(absI (zb4 hs s)<=lim->lim<absI (zb4 hs g)->∀od H',Told H H' od "goal past"->E (.ref t.ab) od H')
def sp_next_move (K:W.Frag)(t:Adr):Sp:=λvs H Q E=>∃(b a1 a2:Addr) (n r lim:Int) (hs s g:'#'),vs=[.ref b,.ref a1,.ref a2]/\ze3 t H b n r hs lim/\zc7 n r hs.length s/\zc7 n r hs.length g/\(SqL K H a1 (s.map V.int)\/H a1=some (.tup (s.map V.int)))/\(SqL K H a2 (g.map V.int)\/H a2=some (.tup (g.map V.int)))/\AskD t H lim hs s g E ∧
 (absI (zb4 hs s)<=lim->absI (zb4 hs g)<=lim->(∀od H',Told H H' od "no way"->E (.ref t.ac) od H')/\∀v H',Same H H'->yp8 n r hs lim s H' v->Q v H')
theorem zH7 (T:Txt K mg t):FnOk P w K mg base (CXD P w) 10 t.aA t.bq Pd (sp_next_move K t):=by
 refine T.aA.F.d.okD (CX:=CX0) zH0 (λR a0 a3 a4 h=>?_) (λa7 ad a6 s a0 R a3 a4 y h=>?_)
 . obtain⟨b,z,A,n,r,l,C,s,g,rfl,B,D,E,F,G,⟨H,I⟩,q⟩:=h
   rfl
 . obtain⟨b,z,A,n,r,l,C,s,g,rfl,B,D,E,F,G,⟨H,I⟩,q⟩:=h
   refine⟨_,(za2 (zb7 (i:=3) zH0.nd rfl '$' (zm0 (zr3 T) y.m rfl T.ao T.ai.F.kp T.ai.b .nil zf6 (za0 P0 (za0 P1 (za0 P2 za1)))))
     (za2 (zc2 (ze8 (zd3 (zc8 P3 rfl))) (za4 (zB7 zw6 rfl T.cz T.cZ T.cY (ok_NoWay_init T) y.m rfl T.cy T.cJ .nil zb1 (za0 zc4 za1))) zb3)
     (za2 (zc2 (zb9 zg1 (zc8 P3 rfl) za6 (zb8 _)) (za4 (za9 zr4)) zb3)
     (za4 (za9 (zc5 zc6 (zc8 P3 rfl) za6 (λ_ _=>rfl))))))),?_⟩
   refine cut4 ?_;intro a8 a9 aa;refine⟨_,rfl,_,rfl,_,rfl,b,z,A,n,r,l,C,s,g,rfl,B,D,E,F,G,H,I,λS U f J k a5=>?_⟩;obtain⟨W,q⟩:=q S U;rcases a5 with⟨d,o,L,M,X,Y,Z,ag,ab,sh,N,⟨c,e⟩,p,u,hG,Q,_,_,_,_,_⟩ | ⟨ac,o,X,Y,Z,ag,sh,zs,ae,⟨c,e⟩,p,_⟩
   . refine⟨_,rfl,f,_,c,_,_,rfl,e,T.aa,T.ae,zh2 _ _ _ _ _ _,_,rfl,iteF ?_⟩
     refine⟨_,rfl,f,_,c,_,_,rfl,e,T.aa,T.aB,zM4 _ _ _ _ _ _,rfl,_,rfl,?_⟩;rw[zj0];cases d with
     | zero =>
       refine iteT ?_;exact q _ J k (.inl rfl)
     | succ d =>
       refine iteB (Qe '!') ?_;cases M with
       | nil=>cases Q
       | cons m M =>
         cases L with
         | nil=>exact u.elim
         | cons a L =>
           refine⟨_,rfl,f,_,c,_,_,rfl,e,T.aa,T.ap,zE8 _ _ _ _ _ _,o,_,_,_,rfl,rfl,SqL.of p,zw5 (j:=0) (v:=V.ref a) rfl,?_⟩;exact q _ J k (.inr ⟨a,m,rfl,u.1,hG.1⟩)
   . refine⟨_,rfl,f,_,c,_,_,rfl,e,T.aa,T.ae,zh2 _ _ _ _ _ _,_,rfl,iteT ?_⟩
     exact⟨(by show 1<=sizeLine;decide),λx fx=>⟨x,_,rfl,za3,λH' c O N sx=>⟨rfl,some c,O,W _ _ (zM3 k fx O N sx)⟩⟩⟩
section
variable {n r:Int} {hs:'#'} {lim:Int} {s:'#'}
end
end
section
variable {P:Program} {w:World} {K:W.Frag} {mg:Str->Option Value} {base:Heap} {t:Adr}
noncomputable def zm6 (hs x:'#')(i:Nat)(p:Int):Int:=if absI (ze9 hs x i+hs.getD i 0*p)>absI (ze9 hs x i) then absI (ze9 hs x i+hs.getD i 0*p) else absI (ze9 hs x i)
def sp_under (K:W.Frag)(t:Adr):Sp:=λvs H Q _=>∃(b:Addr) (n r lim L:Int) (hs:'#'),vs=[.ref b,.int L]/\ze3 t H b n r hs lim/\0<=L/\L<=400/\∀b' H',Same H H'->ze3 t H' b' n r hs L->Q (.ref b') H'
theorem zS1 (T:Txt K mg t):FnOk P w K mg base CX0 5 t.cp t.cq Ps (sp_under K t):=by
 refine T.bg.F.ok sc_under (λx H Q E h=>?_) (λI A G s H x Q E y h=>?_)
 . obtain⟨b,n,r,p,L,i,rfl,B,j,k,q⟩:=h
   rfl
 . obtain⟨b,n,r,p,L,i,rfl,B,j,k,q⟩:=h
   refine⟨_,(za4 (za9 (zq4 T.bS (zx8 T) y.m rfl T.b5 T.aK.b .nil zb1 (za0 (zc8 P0 rfl) (za0 (zc8 P0 rfl) (za0 (zc8 P0 rfl) (za0 P1 za1))))))),?_⟩;obtain⟨ok,f,h,g,z⟩:=B;refine⟨_,rfl,b,_,f,_,_,rfl,g,T.ab,T.ah,zn3 _ _ _ _,_,rfl,b,_,f,_,_,rfl,g,T.ab,T.ax,ya6 _ _ _ _,_,rfl,b,_,f,_,_,rfl,g,T.ab,T.aj,zC4 _ _ _ _,_,rfl,λa d l u v=>?_⟩;have m:Same H (upd (upd H d (.own a)) a (.ins t.ah d [])):=(Same.upd u).updT (by rw[za8 (Ne.symm v)];exact l);refine⟨a,d,h,n,r,L,i,rfl,za3,.inr (m _ _ z),⟨ok.n1,ok.n2,ok.r1,ok.r2,j,k,ok.w,ok.h,ok.most⟩,λC D F=>⟨rfl,?_⟩⟩;exact q a C (λc o e=>F c o (m c o e) (zb5 e l)) D
def sp_limit_to_move (K:W.Frag)(t:Adr):Sp:=λvs H Q _=>∃(b a m:Addr) (n r lim p:Int) (i:Nat) (hs xs:'#'),vs=[.ref b,.ref a,.ref m]/\ze3 t H b n r hs lim/\zc7 n r hs.length xs/\H a=some (.tup (xs.map V.int))/\zv7 H xs m (i,p)/\Lets n r hs 400 xs i p/\∀H',Same H H'->Q (.int (zm6 hs xs i p)) H'
theorem ok_limit_to_move (T:Txt K mg t):FnOk P w K mg base CX0 5 t.aI t.aJ Py (sp_limit_to_move K t):=by
 refine T.be.F.ok sc_limit_to_move (λy H Q E h=>?_) (λI A G s H y Q E k h=>?_)
 . obtain⟨b,a,m,n,r,g,p,i,d,c,rfl,B,e,l,o,u,q⟩:=h
   rfl
 . obtain⟨b,a,m,n,r,g,p,i,d,c,rfl,B,e,l,o,u,q⟩:=h
   refine⟨_,(za4 (za9 (zb6 (zI4 rfl) rfl T.cv PyProof.Rows.boot_max (za0 (zb6 zi8 rfl T.ay QZ (za0 (za7 (zR5 T) k.m T.bl zb1 (za0 P0 (za0 P1 (za0 (zc5 zi2 P2 za6 (λ_ _=>rfl)) za1)))) za1)) (za0 (zb6 zi8 rfl T.ay QZ (za0 (za7 (zH5 T) k.m T.aS zb1 (za0 P0 (za0 (za7 (zC6 T) k.m T.aP zb1 (za0 P1 (za0 P2 za1))) za1))) za1)) za1))))),?_⟩;have j:=u.lt;have x:=e.len;have J:=B.1.w;refine⟨_,rfl,_,rfl,_,rfl,m,_,_,_,rfl,rfl,SqT.of o,rfl,b,a,n,r,g,(i:Int)+1,i,d,c,rfl,B,e,.inr l,⟨rfl,j⟩,λL f=>?_⟩;refine⟨_,rfl,_,rfl,_,rfl,_,rfl,a,m,(i:Int)+1,c.getD i 0,p,i,c,rfl,f _ _ l,.inr (SqT.of (f _ _ o)),⟨rfl,j,by omega⟩,λz M v C=>?_⟩;refine⟨b,z,n,r,g,d,c.set i p,rfl,(B.same f).same v,u.valid e,.inr C,λD F=>⟨_,rfl,_,_,rfl,?_⟩⟩;rw[zB0 d c i p x.symm j];exact q D (f.trans (v.trans F))
theorem prs_same {H H':Hp}(s:Same H H'){ys:List V}{b:List (List Int)}(h:Prs H ys b):Prs H' ys b:=Paired.mapP h λy k ⟨p,a,e,c,d⟩=>⟨p,a,e,s _ _ c,s _ _ d⟩
theorem prs_keep {H:Hp}{l:Addr}{o:HO}{vs:List V}(d:H l=some (.lst vs)){ys:List V}{f:List (List Int)}(h:Prs H ys f):Prs (upd H l o) ys f:=Paired.mapP h λy k ⟨p,a,e,b,c⟩=>⟨p,a,e,by rw[za8 (λz=>by rw[z,d] at b;cases b)];exact b,by rw[za8 (λz=>by rw[z,d] at c;cases c)];exact c⟩
def zx9 (n r:Int)(hs:'#')(S:List (List Int))(x:'#')(i:Nat)(p:Int):Prop:=Lets n r hs 400 x i p/\x.set i p∉S
def sp_limit_to_leave (K:W.Frag)(t:Adr):Sp:=λvs H Q _=>∃(b sh:Addr) (n r lim:Int) (hs:'#') (S:List (List Int)) (zs:List V),vs=[.ref b,.ref sh]/\ze3 t H b n r hs lim/\H sh=some (.lst zs)/\Tups H zs S/\S.Nodup/\(∀x∈S,zc7 n r hs.length x)/\S.length<=1000/\(∃x∈S,∃i p,zx9 n r hs S x i p) ∧
 ∀M H',Same H H'->(∃x∈S,∃i p,zx9 n r hs S x i p/\zm6 hs x i p=M)->(∀x∈S,∀i p,zx9 n r hs S x i p->M<=zm6 hs x i p)->Q (.int M) H'
theorem ok_limit_to_leave (T:Txt K mg t):FnOk P w K mg base CX0 7 t.aC t.aD PU (sp_limit_to_leave K t):=by
 refine T.a8.F.ok zf5 (λvs az bi bj h=>?_) (λbq c0 bn a7 az vs bi bj F h=>?_)
 . obtain⟨a0,D,n,r,aa,b,S,zs,rfl,B,aj,TS,nd,VS,hS,ak,b0⟩:=h
   rfl
 . obtain⟨a0,D,n,r,aa,b,S,zs,rfl,B,aj,TS,nd,VS,hS,ak,b0⟩:=h
   refine⟨_,(za2 (zb7 (i:=2) zf5.nd rfl '$' (za7 (zS1 T) F.m T.bg zb1 (za0 P0 (za0 (zj1 (v:=.int 400) rfl T.bF ⟨_,rfl⟩) za1))))
     (za2 (zb7 (i:=3) zf5.nd rfl '$' (zd2 (call_dictP rfl (hu5_of F)) rfl T.c1 PyProof.Rows.boot_dict (za0 (zk0 rfl zq0 (zg3 P1) (λ_ _ _ _ _=>(zc3 (i:=0) zq0.nd rfl '$')) (λ_ _ _ _ _=>zg8) (λ_ _ _ _ _=>(zE4 (za0 P0 (za0 zg0 za1))))) za1)))
     (za2 (zb7 (i:=4) zf5.nd rfl '$' (zf8 za1))
     (za2 (zj4 PassesOwn.never rfl (zg3 P1) (zc3 (i:=5) zf5.nd rfl '$') (za4 (zj4 PassesOwn.never rfl (zg3 (za7 (ye0 T) F.m T.bO zb1 (za0 P2 (za0 P5 za1)))) (zc3 (i:=6) zf5.nd rfl '$') (za4 (zc2 (yf2 (zJ0 (zu9 F) (za7 (zC6 T) F.m T.aP zb1 (za0 P5 (za0 P6 za1))) P3)) (za4 (zg6 (zk5 QX Zp Zo zl6 (pv 4) (za0 (za7 (ok_limit_to_move T) F.m T.be zb1 (za0 P0 (za0 P5 (za0 P6 za1)))) za1)))) zb3)))))
     (za4 (za9 (zb6 (call_minL rfl) rfl T.cU PyProof.Rows.boot_min (za0 (pv 4) za1)))))))),?_⟩
   refine cut5 ?_;intro br bt bu bv;have al:=zz6 TS;have hw:=B.1.w;have n1:=B.1.n1;have n2:=B.1.n2;refine⟨_,rfl,a0,n,r,aa,400,b,rfl,B,by decide,by decide,λfb X Y F1=>?_⟩;have a2:=Y _ _ aj;have am:=Y.tups TS;refine⟨_,rfl,D,rfl,⟨_,SqL.of a2⟩,λa1 hD=>?_⟩;refine zi3 (K:=K) (a:=D) (xs:=zs) (λj c=>X1 λo=>A3 (c a1=some (.lst o)) (Prs c o (S.take j)) (Same X c)) ⟨[],za3,.nil,Same.upd hD⟩ (λj c ⟨_,_,_,a7⟩=>SqL.of (a7 _ _ a2)) ?_ ?_
   . rintro j v c c1 hj ⟨o,a3,R',s'⟩ hN
     obtain⟨u,x,rfl,y,N⟩:=zZ5 am hj;dsimp only[zm9];refine iteT ?_;refine⟨_,rfl,(by show 2<=sizeLine;decide),λlt ft=>?_⟩;have an:a1≠lt:=λz=>by rw[z,ft] at a3;cases a3
     have b4:u≠a1:=λz=>by have:=s' _ _ N;rw[z,a3] at this;cases this
     have a4:S.take (j+1)=S.take j++[x]:=by rw[QY,y];rfl
     have b5:o.length<=1000:=by have:=yk4 R';rw[QW] at this;omega
     have ag:(upd c lt (.tup [.ref u,.bl true])) a1=some (.lst o):=by rw[za8 an];exact a3
     refine⟨o,ag,zd0 b5,hN _ ⟨o++[.ref lt],za3,?_,(s'.updT ft).put hD⟩⟩;rw[a4];exact Paired.snoc (prs_keep ag (prs_same (Same.upd ft) R')) ⟨lt,u,rfl,by rw[za8 an.symm];exact za3,by rw[za8 b4];exact(s'.updT ft) _ _ N⟩
   . rintro H2 ⟨o,b6,R2,s2⟩
     rw[al,QO] at R2;refine⟨a1,o,S,rfl,b6,R2,nd,hS,λd fd=>?_⟩;have s3:Same H2 (upd H2 d (.dT (S.map λk=>(ik k,.bl true)))):=Same.upd fd;have a5:(upd H2 d (.dT (S.map λk=>(ik k,.bl true)))) d=some (.dT (dOf (S.map λk=>(k,V.bl true)))):=by rw[za3];unfold dOf;rw[Zt];rfl
     have ah:(S.map λk=>(k,V.bl true)).map (·.1)=S:=by rw[Zt];exact List.map_id S
     revert s3 a5;generalize upd H2 d (.dT (S.map λk=>(ik k,.bl true)))=H3;intro s3 a5;refine⟨QH _,λf O=>?_⟩;have s4:Same H3 (upd H3 f (.lst [])):=Same.upd O;have ab:(upd H3 f (.lst [])) f=some (.lst ([].map V.int)):=za3;dsimp only;revert s4 ab;generalize upd H3 f (.lst [])=H4;intro s4 ab;have ao:=s2.trans (s3.trans s4);have b7:=s4 _ _ a5;have bo:=O;have ap:X f=none:=(s2.trans s3).free O;have bw:az f=none:=Y.free ap;have b8:d≠f:=λz=>by rw[<-z,a5] at O;cases O
     refine⟨_,rfl,D,rfl,⟨_,SqL.of (ao _ _ a2)⟩,zn9 (K:=K) (a:=D) (xs:=zs) (λi s c=>X3 λv5 A Z=>A6 (s=[some (.ref a0),some (.ref D),some (.ref fb),some (.ref d),some (.ref f),v5,A]) (Same X c) (c d=some (.dT (dOf (S.map λk=>(k,V.bl true))))) (c f=some (.lst (Z.map V.int))) (Z.length<=45*i) (∀z,z∈Z↔∃x∈S.take i,∃k p,zx9 n r b S x k p/\z=zm6 b x k p)) ⟨none,none,[],rfl,ao,b7,ab,QH _,λz=>by simp⟩ (λi s c _ ⟨_,_,_,_,a7,_,_,_,_⟩=>SqL.of (a7 _ _ a2)) ?_ ?_⟩
     . rintro i v s H5 hi ⟨v5,A,Z,rfl,G,ac,a6,aq,g⟩
       obtain⟨u,x,rfl,y,N⟩:=zZ5 am hi;have b9:=Qy y;have Vx:=VS x b9;have bx:=Vx.len;have bm:i<1000:=by have:=(QN.mp hi).1;omega
       refine⟨_,rfl,_,rfl,fb,u,n,r,400,b,x,rfl,F1.same G,Vx,.inr (G _ _ N),λH rs H6 s6 Q ar R6=>?_⟩;have ba:=zK3 n r b 400 x x.length;have b1:wide n<=9:=by unfold wide;omega
       have b2:(zl7 n r b 400 x x.length).length<=45:=QD ba (QD (Nat.mul_le_mul (show x.length<=5 by omega) b1) '&');have au:∀m∈zl7 n r b 400 x x.length,Lets n r b 400 x m.1 m.2:=λm E=>(zv8.mp E).2
       have av:∀k p,Lets n r b 400 x k p->(k,p)∈zl7 n r b 400 x x.length:=λk p L=>zv8.mpr ⟨L.lt,L⟩
       generalize zl7 n r b 400 x x.length=M at R6 b2 au av;have bp:X H=none:=G.free Q;have bb:H≠f:=λz=>by rw[z,a6] at Q;cases Q
       have bz:H≠d:=λz=>by rw[z,ac] at Q;cases Q
       have bc:=G.trans s6;refine⟨H,rfl,⟨_,SqL.of ar⟩,zn9 (K:=K) (a:=H) (xs:=rs.map V.ref) (λj s c=>∃A Z,s=[some (.ref a0),some (.ref D),some (.ref fb),some (.ref d),some (.ref f),some (.ref u),A]/\Same X c/\c d=some (.dT (dOf (S.map λk=>(k,V.bl true))))/\c f=some (.lst (Z.map V.int))/\c H=some (.lst (rs.map V.ref))/\Rows c x rs M/\Z.length<=45*i+j/\∀z,z∈Z↔(∃x∈S.take i,∃k p,zx9 n r b S x k p/\z=zm6 b x k p)\/∃m∈M.take j,zx9 n r b S x m.1 m.2/\z=zm6 b x m.1 m.2) ⟨A,Z,rfl,bc,s6 _ _ ac,s6 _ _ a6,ar,R6,aq,λz=>by rw[g];simp⟩ (λj s c _ ⟨_,_,_,_,_,_,ae,_⟩=>SqL.of ae) ?_ ?_⟩
       . rintro j v s H7 hj ⟨A,Z,rfl,I,R,U,a8,J,ad,g⟩
         rw[QK] at hj;obtain⟨mb,aw,rfl⟩:=Option.map_eq_some_iff.mp hj;have bd:=(QN.mp aw).1;have be:j<M.length:=by rw[<-J.1];exact bd
         have E:M[j]?=some M[j]:=Qf be;have a9:=J.2 j mb _ aw E;have Lt:=au _ (Qy E);have ax:=Lt.lt;generalize M[j]=m at E a9 Lt ax;have a4:M.take (j+1)=M.take j++[m]:=by rw[QY,E];rfl
         have ai:=I _ _ N;refine⟨_,rfl,_,rfl,u,mb,(m.1:Int)+1,x.getD m.1 0,m.2,m.1,x,rfl,ai,.inr (SqT.of a9),⟨rfl,ax,by omega⟩,λl8 H8 l h8=>?_⟩;refine⟨_,rfl,d,_,rfl,dget (l _ _ R) h8,_,rfl,?_⟩;rw[yg3 (by rw[ah];exact nd),ah];refine ite2 (λh9=>?_) (λh9=>?_)
         . have hn:x.set m.1 m.2∉S:=λz=>by rw[Qh z] at h9;cases h9
           refine⟨_,rfl,.inl ⟨rfl,_,SqL.of (l _ _ U)⟩,_,rfl,_,rfl,_,rfl,a0,u,mb,n,r,aa,m.2,m.1,b,x,rfl,(B.same Y).same (I.trans l),Vx,l _ _ ai,l _ _ a9,Lt,λH9 s9=>?_⟩;have W:=l.trans s9;have ay:=W _ _ U;have af:Rows H9 x rs M:=J.same W;refine⟨f,_,_,rfl,rfl,ay,Nat.lt_of_le_of_lt (by rw[Qb];exact QD ad (show 45*i+j<=100000 by omega)) '&',?_⟩;refine⟨_,Z++[zm6 b x m.1 m.2],rfl,(I.trans W).put ap,by rw[za8 b8];exact W _ _ R,by rw[za3,Qq];rfl,by rw[za8 bb];exact W _ _ a8,⟨af.1,λk a m e1 e2=>?_⟩,by rw[Qr,List.length_singleton];omega,λz=>?_⟩
           . have:=af.2 k a m e1 e2
             unfold zv7 at this ⊢;rw[za8 (λz=>by rw[z,ay] at this;cases this)];exact this
           . rw[Qs,g,a4]
             constructor
             . rintro((h | ⟨q,e,h⟩) | h)
               . exact .inl h
               . exact .inr ⟨q,Zl _ e,h⟩
               . obtain rfl:z=zm6 b x m.1 m.2:=by simpa using h
                 exact .inr ⟨m,by simp,⟨Lt,hn⟩,rfl⟩
             . rintro(h | ⟨q,e,h⟩)
               . exact .inl (.inl h)
               . rcases Qs.mp e with e | e
                 . exact .inl (.inr ⟨q,e,h⟩)
                 . obtain rfl:q=m:=by simpa using e
                   exact .inr (by rw[h.2];simp)
         . have bf:x.set m.1 m.2∈S:=Classical.byContradiction λz=>h9 (by rw[Qe z];rfl)
           refine⟨_,Z,rfl,I.trans l,l _ _ R,l _ _ U,l _ _ a8,J.same l,by omega,λz=>?_⟩;rw[g,a4];constructor
           . rintro(h | ⟨q,e,h⟩)
             . exact .inl h
             . exact .inr ⟨q,Zl _ e,h⟩
           . rintro(h | ⟨q,e,h⟩)
             . exact .inl h
             . rcases Qs.mp e with e | e
               . exact .inr ⟨q,e,h⟩
               . obtain rfl:q=m:=by simpa using e
                 exact absurd bf h.1.2
       . rintro s H7 ⟨A,Z,rfl,I,R,U,a8,J,ad,g⟩
         rw[Qb,J.1] at ad g;rw[QO] at g;refine⟨_,_,Z,rfl,I,R,U,by omega,λz=>?_⟩;rw[g,QY,y];constructor
         . rintro(⟨x',C,h⟩ | ⟨m,E,h⟩)
           . exact⟨x',Zl _ C,h⟩
           . exact⟨x,by simp,m.1,m.2,h⟩
         . rintro⟨x',C,k,p,h⟩
           rcases Qs.mp C with C | C
           . exact .inl ⟨x',C,k,p,h⟩
           . obtain rfl:x'=x:=by simpa using C
             exact .inr ⟨(k,p),av k p h.1.1,h⟩
     . rintro s H5 ⟨v5,A,Z,rfl,G,ac,a6,aq,g⟩
       rw[al,QO] at g;obtain⟨x0,bg,i0,p0,L0⟩:=ak;have bh:0<Z.length:=List.length_pos_of_mem ((g _).mpr ⟨x0,bg,i0,p0,L0,rfl⟩);refine⟨_,rfl,f,Z,rfl,SqL.of a6,bh,λM hM b3=>?_⟩;obtain⟨x,y,k,p,L,ae⟩:=(g M).mp hM;exact b0 M H5 (Y.trans G) ⟨x,y,k,p,L,ae.symm⟩ λx y k p L=>b3 _ ((g _).mpr ⟨x,y,k,p,L,rfl⟩)
end
section
variable {P:Program} {w:World} {K:W.Frag} {mg:Str->Option Value} {base:Heap} {t:Adr}
section
variable {n r:Int} {hs:'#'}
theorem zv9 {L:Int}(a:L<=400){x:'#'}{i:Nat}{p:Int}:Lets n r hs L x i p↔Lets n r hs 400 x i p/\zm6 hs x i p<=L:=by
 constructor
 . intro l
   refine⟨⟨l.lt,l.on,l.ne,l.room,Int.le_trans l.held a,Int.le_trans l.behind a⟩,?_⟩;have b:=l.held;have c:=l.behind;unfold zm6
   split<;>omega
 . rintro⟨l,h⟩
   unfold zm6 at h
   exact⟨l.lt,l.on,l.ne,l.room,by split at h<;>omega,by split at h<;>omega⟩
def IsR (n r:Int)(hs:'#')(L:Int)(s:'#')(S:List (List Int)):Prop:=∀x,x∈S↔∃d,Dst n r hs L s d x
theorem IsR.walk {L:Int}{s:'#'}{S:List (List Int)}(h:IsR n r hs L s S){x:'#'}:x∈S↔∃d,Walk n r hs L s d x:=by
 rw[h];exact⟨λ⟨d,z⟩=>⟨d,z.1⟩,λ⟨d,z⟩=>let⟨e,_,z⟩:=z.dst;⟨e,z⟩⟩
theorem IsR.next {L M:Int}{s:'#'}{S:List (List Int)}(m:L<=400)(h:IsR n r hs L s S)(u:∃x∈S,∃i p,zx9 n r hs S x i p/\zm6 hs x i p=M)(v:∀x∈S,∀i p,zx9 n r hs S x i p->M<=zm6 hs x i p) :
   L<M/\M<=400/\∀a,L<=a->a<M->IsR n r hs a s S:=by
 obtain⟨x,A,i,p,c,rfl⟩:=u;have o:=((zv9 (Int.le_refl _)).mp c.1).2;have t:L<zm6 hs x i p:=Int.not_le.mp λz=>c.2 (by
   obtain⟨d,B⟩:=h.walk.mp A;exact h.walk.mpr ⟨d+1,.succ B (zn8.mpr ⟨i,p,(zv9 m).mpr ⟨c.1,z⟩,rfl⟩)⟩)
 refine⟨t,o,λa F G=>?_⟩;have j:a<=400:=by omega
 have C:∀ {d y},Walk n r hs a s d y->y∈S:=λ{d y} w=>by
   induction w with
   | zero=>exact h.walk.mpr ⟨0,.zero⟩
   | succ _ b f =>
     obtain⟨k,q,l,rfl⟩:=zn8.mp b;obtain⟨g,D⟩:=(zv9 j).mp l;exact Classical.byContradiction λz=>by
       have:=v _ f k q ⟨g,z⟩;omega
 have E:∀ {d y},Walk n r hs L s d y->Walk n r hs a s d y:=λ{d y} w=>by
   induction w with
   | zero=>exact .zero
   | succ _ b f =>
     obtain⟨k,q,l,rfl⟩:=zn8.mp b;obtain⟨g,D⟩:=(zv9 m).mp l;exact .succ f (zn8.mpr ⟨k,q,(zv9 j).mpr ⟨g,by omega⟩,rfl⟩)
 intro y;constructor
 . intro b
   obtain⟨d,w⟩:=h.walk.mp b;obtain⟨e,_,z⟩:=(E w).dst;exact⟨e,z⟩
 . rintro⟨d,z⟩
   exact C z.1
theorem leave_of {s:'#'}{S:List (List Int)}(b:s∈S){d:Nat}{y:'#'}(w:Walk n r hs 400 s d y):y∉S->∃x∈S,∃i p,zx9 n r hs S x i p:=by
 induction w with
 | zero=>exact λz=>absurd b z
 | @succ d x y g c e =>
   intro f;by_cases a:x∈S
   . obtain⟨i,p,l,rfl⟩:=zn8.mp c
     exact⟨x,a,i,p,l,f⟩
   . exact e a
theorem set_on0 {n:Int}{x:'#'}{i:Nat}{p:Int}(b:∀a∈x,-n<=a/\a<=n)(c:-n<=p/\p<=n):∀a∈x.set i p,-n<=a/\a<=n:=λa d=>by
 rcases List.mem_or_eq_of_mem_set d with h | h
 . exact b a h
 . exact h▸c
theorem valid_zero {x:'#'}(a:zc7 n r hs.length x)(f:0<=n){i:Nat}(c:i<x.length):zc7 n r hs.length (x.set i 0):=by
 refine⟨by rw[ZG];exact a.len,set_on0 a.on '!',λy d b=>?_⟩;have:(x.set i 0).count y<=x.count y:=by
   have e:=zE7 (xs:=x) (i:=i) (p:=0) (y:=y) c;rw[Qg (λz:(0:Int)=y=>b z.symm)] at e
   split at e<;>omega
 rcases List.mem_or_eq_of_mem_set d with h | h
 . have:=a.room y h b
   omega
 . exact absurd h b
noncomputable def nz (x:'#'):Nat:=x.countP λa=>decide (a≠0)
theorem yl3:∀ {x:'#'},nz x=0->x=List.replicate x.length 0
 | [],_=>rfl
 | a::x,h=>by
   unfold nz at h;rw[List.countP_cons] at h;have b:a=0:=Classical.byContradiction λz=>by rw[Ql (Qh z)] at h;omega
   have c:=yl3 (x:=x) (by unfold nz;omega);rw[b,QE,List.replicate_succ,<-c]
theorem yl4:∀ {x:'#'} {k:Nat},nz x=k+1->∃i,i<x.length/\x.getD i 0≠0/\nz (x.set i 0)=k
 | [],k,h=>nomatch h
 | a::x,k,h=>by
   unfold nz at h;rw[List.countP_cons] at h;by_cases b:a=0
   . rw[Qg (by simp[b])] at h
     obtain⟨i,d,e,c⟩:=yl4 (x:=x) (k:=k) (by unfold nz;omega);refine⟨i+1,by simpa using d,e,?_⟩;show nz (a::x.set i 0)=k;unfold nz at c ⊢;rw[List.countP_cons,c,Qg (by simp[b]),Nat.add_zero]
   . rw[Ql (Qh b)] at h
     refine⟨0,by simp,b,?_⟩;show nz (0::x)=k;unfold nz;rw[List.countP_cons,Qg (by simp)];omega
theorem ya8 {f:Int}(ok:zi0 n r hs f):∀ {k:Nat} {x:'#'},zc7 n r hs.length x->nz x=k->∃d,Walk n r hs 400 x d (List.replicate hs.length 0)
 | 0,x,a,h=>⟨0,by have:=yl3 h;rw[a.len] at this;rw[<-this];exact .zero⟩
 | k+1,x,a,h=>by
   obtain⟨i,b,g,j⟩:=yl4 h;have m:=ok.n1;have c:=valid_zero a '!' b;obtain⟨e,_⟩:=zC5 ok c;rw[zB0 hs x i 0 a.len.symm b] at e;have l:Lets n r hs 400 x i 0:=⟨b,by omega,λz=>g z.symm,λz=>absurd rfl z,by rw[Int.mul_zero,Int.add_zero] at e;omega,by omega⟩;obtain⟨d,w⟩:=ya8 ok c j;exact⟨d+1,Walk.front (zn8.mpr ⟨i,0,l,rfl⟩) w⟩
theorem all_400 {c:Int}(ok:zi0 n r hs c){s g:'#'}(i:zc7 n r hs.length s)(a:zc7 n r hs.length g):∃d,Walk n r hs 400 s d g:=by
 obtain⟨d,w⟩:=ya8 ok i rfl;obtain⟨e,j⟩:=ya8 ok a rfl;have k:absI (zb4 hs g)<=400:=by have:=(zC5 ok a).1;omega
 have l:=j.rev a k;have m:∀ {y z:'#'} {e:Nat},Walk n r hs 400 y e z->∀ {d:Nat} {x:'#'},Walk n r hs 400 x d y->∃f,Walk n r hs 400 x f z:=by
   intro y z e h
   induction h with
   | zero=>intro d x b;exact⟨d,b⟩
   | succ _ o p=>intro d x b;obtain⟨f,q⟩:=p b;exact⟨f+1,.succ q o⟩
 exact m l w
end
noncomputable def zW4 (v1 v2 v3:V):List (Str×V):=putF "shut" v3 (putF "row" v2 (putF "limit" v1 []))
theorem zw0 (a b c:V):(zW4 a b c).lookup ("limit" : Str)=some a:=by
 unfold zW4;rw[zb0,Qg '(',zb0,Qg '(',zb0,Ql rfl]
theorem yp9 (b a c:V):(zW4 b a c).lookup ("row" : Str)=some a:=by
 unfold zW4;rw[zb0,Qg '(',zb0,Ql rfl]
def sp_Least_init (K:W.Frag)(t:Adr):Sp:=λvs H Q _=>∃(p dx:Addr) (v1 v2 v3:V),vs=[.ref p,v1,v2,v3]/\H p=some (.ins t.ae dx [])/\∀H',H' p=some (.ins t.ae dx (zW4 v1 v2 v3))->zf7 p H H'->Q .non H'
theorem ok_Least_init (T:Txt K mg t):FnOk P w K mg base CX0 1 t.au t.ba Px (sp_Least_init K t):=by
 refine T.bu.F.ok sc_Least_init (λf H Q E h=>?_) (λl A k s H f Q E r h=>?_)
 . obtain⟨p,a,g,i,j,rfl,d,q⟩:=h
   rfl
 . obtain⟨p,a,g,i,j,rfl,d,q⟩:=h
   refine⟨_,(za2 (zj6 P0 P1 rfl)
     (za2 (zj6 P0 P2 rfl)
     (za4 (zj6 P0 P3 rfl)))),?_⟩
   refine cut3 ?_;intro m n;refine⟨_,rfl,_,rfl,p,_,a,_,rfl,d,T.al,T.ak,by decide,?_⟩;refine⟨_,rfl,_,rfl,p,_,a,_,rfl,za3,T.al,T.aX,zl4 fl0,?_⟩;refine⟨_,rfl,_,rfl,p,_,a,_,rfl,za3,T.al,T.cF,zl4 (flS fl0),?_⟩;refine q _ za3 λb o e c=>?_
   rw[za8 c,za8 c,za8 c];exact e
noncomputable def zk9 (hs s g:'#'):Int:=if absI (zb4 hs g)>absI (zb4 hs s) then absI (zb4 hs g) else absI (zb4 hs s)
def yq0 (n r:Int)(hs s g:'#')(L:Int)(S:List (List Int)):Prop:=(L=zk9 hs s g/\S=[])\/(zk9 hs s g<L/\IsR n r hs (L-1) s S)
def zH8 (t:Adr)(H:Hp)(l:Addr)(n r:Int)(hs s g:'#'):Prop:=∃(L:Int) (dx rw_ sh:Addr) (d:Nat) (rs:List Addr) (ms:List (Nat×Int)) (zs:List V) (S:List (List Int)),H l=some (.ins t.ae dx (zW4 (.int L) (.ref rw_) (.ref sh)))/\zk9 hs s g<=L/\L<=400/\Dst n r hs L s d g/\H rw_=some (.lst (rs.map V.ref))/\zh4 H s rs ms/\Goes n r hs L s ms g/\ms.length=d ∧
 (∀L',zk9 hs s g<=L'->L'<L->∀d,¬ Dst n r hs L' s d g)/\H sh=some (.lst zs)/\Tups H zs S/\S.Pairwise (λx y=>Sx.lexB x y=true)/\yq0 n r hs s g L S
def sp_least (K:W.Frag)(t:Adr):Sp:=λvs H Q _=>∃(b a1 a2:Addr) (n r lim:Int) (hs s g:'#'),vs=[.ref b,.ref a1,.ref a2]/\ze3 t H b n r hs lim/\zc7 n r hs.length s/\zc7 n r hs.length g/\(SqL K H a1 (s.map V.int)\/H a1=some (.tup (s.map V.int)))/\(SqL K H a2 (g.map V.int)\/H a2=some (.tup (g.map V.int)))/\∀l H',Same H H'->zH8 t H' l n r hs s g->Q (.ref l) H'
theorem ye3 (T:Txt K mg t):FnOk P w K mg base CX0 10 t.bz t.cv Pd (sp_least K t):=by
 refine T.a1.F.ok zm4 (λvs b8 b9 ba h=>?_) (λbi bu bh s b8 vs b9 ba c h=>?_)
 . obtain⟨b,a1,D,n,r,j,a,s,g,rfl,B,k,o,h1,h2,ai⟩:=h
   rfl
 . obtain⟨b,a1,D,n,r,j,a,s,g,rfl,B,k,o,h1,h2,ai⟩:=h
   refine⟨_,(za2 (zb7 (i:=3) zm4.nd rfl '$' (za7 (zd9 T) c.m T.ad zb1 (za0 P0 (za0 P1 za1))))
     (za2 (zb7 (i:=4) zm4.nd rfl '$' (za7 (zd9 T) c.m T.ad zb1 (za0 P0 (za0 P2 za1))))
     (za2 (zb7 (i:=5) zm4.nd rfl '$' (zb6 (zI4 rfl) rfl T.cv PyProof.Rows.boot_max (za0 (zb6 zi8 rfl T.ay QZ (za0 (za7 (zH5 T) c.m T.aS zb1 (za0 P0 (za0 P3 za1))) za1)) (za0 (zb6 zi8 rfl T.ay QZ (za0 (za7 (zH5 T) c.m T.aS zb1 (za0 P0 (za0 (pv 4) za1))) za1)) za1))))
     (za2 (zb7 (i:=6) zm4.nd rfl '$' (zf8 za1))
     (za2 (zb7 (i:=7) zm4.nd rfl '$' (zm0 (zr3 T) c.m rfl T.ao T.ai.F.kp T.ai.b .nil zF6 (za0 (za7 (zS1 T) c.m T.bg zb1 (za0 P0 (za0 P5 za1))) (za0 P3 (za0 (pv 4) za1)))))
     (za2 (zM7 PassesOwn.never (ze8 (zd3 (zc8 P7 rfl))) (za2 (zb7 (i:=6) zm4.nd rfl '$' (zc8 P7 rfl))
     (za2 (zb7 (i:=5) zm4.nd rfl '$' (za7 (ok_limit_to_leave T) c.m T.a8 zb1 (za0 P0 (za0 P6 za1))))
     (za4 (zb7 (i:=7) zm4.nd rfl '$' (zm0 (zr3 T) c.m rfl T.ao T.ai.F.kp T.ai.b .nil zF6 (za0 (za7 (zS1 T) c.m T.bg zb1 (za0 P0 (za0 P5 za1))) (za0 P3 (za0 (pv 4) za1)))))))))
     (za4 (za9 (zq4 T.cX (ok_Least_init T) c.m rfl T.cx T.bu.b .nil zb1 (za0 P5 (za0 (zc8 P7 rfl) (za0 P6 za1)))))))))))),?_⟩
   refine cut7 ?_;intro bj bl bm bn bo bp;refine⟨_,rfl,_,rfl,b,a1,n,r,j,a,s,rfl,B,k,h1,λI H1 J H=>?_⟩;have an:SqL K H1 D (g.map V.int)\/H1 D=some (.tup (g.map V.int)):=h2.imp (λz=>J.seq z) (λz=>J _ _ z);refine⟨_,rfl,_,rfl,b,D,n,r,j,a,g,rfl,B.same J,o,an,λN H2 s2 y=>?_⟩;have Z:=J.trans s2;have a6:=s2 _ _ H;refine⟨_,rfl,_,rfl,b,I,n,r,j,a,s,rfl,B.same Z,k,.inr a6,λH3 s3=>⟨_,rfl,_,rfl,_,rfl,b,N,n,r,j,a,g,rfl,(B.same Z).same s3,o,.inr (s3 _ _ y),λE s4=>⟨_,rfl,_,_,rfl,?_⟩⟩⟩;obtain⟨t1,t2⟩:=zC5 B.1 k;obtain⟨t3,t4⟩:=zC5 B.1 o;have ak:(if (if zb4 a g<0 then -zb4 a g else zb4 a g)>(if zb4 a s<0 then -zb4 a s else zb4 a s) then(if zb4 a g<0 then -zb4 a g else zb4 a g) else(if zb4 a s<0 then -zb4 a s else zb4 a s))=zk9 a s g:=rfl;rw[ak]
   have w1:absI (zb4 a s)<=zk9 a s g:=by unfold zk9;split<;>omega
   have w2:absI (zb4 a g)<=zk9 a s g:=by unfold zk9;split<;>omega
   have w3:zk9 a s g<=240:=by unfold zk9;split<;>omega
   have a0:=s3.trans s4;have aa:=Z.trans a0;have B4:=B.same aa;have H:=a0 _ _ a6;replace y:=a0 _ _ y;refine⟨QH _,λe ao=>?_⟩;have q:Same E (upd E e (.lst [])):=Same.upd ao;have X:(upd E e (.lst [])) e=some (.lst []):=za3;dsimp only;revert q X;generalize upd E e (.lst [])=H5;intro q X;refine⟨_,rfl,_,rfl,b,n,r,j,zk9 a s g,a,rfl,B4.same q,by omega,by omega,λb1 H6 s6 B6=>⟨_,rfl,_,rfl,b1,I,N,n,r,zk9 a s g,a,s,g,rfl,B6,k,o,.inr ((q.trans s6) _ _ H),.inr ((q.trans s6) _ _ y),λz=>absurd z '!',λ_ z=>absurd z '!',λ_ _ f H7 s7 W7=>?_⟩⟩;have ab:=s6.trans s7
   refine zM9 (λF u=>∃L e f O S,F=[some (.ref b),some (.ref a1),some (.ref D),some (.ref I),some (.ref N),some (.int L),some (.ref e),some (.ref f)]/\Same E u/\zk9 a s g<=L/\L<=400/\zK4 t u f n r a L s g/\(∀m,zk9 a s g<=m->m<L->∀d,¬ Dst n r a m s d g)/\u e=some (.lst O)/\Tups u O S/\S.Pairwise (λx bb=>Sx.lexB x bb=true)/\yq0 n r a s g L S)
     (λF u=>match F with | [_,_,_,_,_,some (.int L),_,_]=>(401-L).toNat | _=>0) ⟨zk9 a s g,e,f,[],[],rfl,q.trans ab,Int.le_refl _,by omega,W7,λm h1 h2=>by omega,ab _ _ X,.nil,.nil,.inl ⟨rfl,rfl⟩⟩ ?_ ?_
   . rintro F H8 ⟨L,e,f,O,S,rfl,Q,ap,hL,bc,a7,aq,TS,ar,aj⟩
     rcases bc with⟨d,ac,rs,ms,la,as,Ls,ag,bq,a3,R,⟨p,A⟩,au,av,hG,al,_⟩ | ⟨aw,ac,la,as,Ls,ag,a3,ad,v,⟨p,A⟩,_,_,_,_,_,_,a8,ae,a9,G⟩
     . refine⟨_,rfl,f,_,p,_,_,rfl,A,T.aa,T.ae,zh2 _ _ _ _ _ _,_,rfl,iteF ?_⟩
       refine⟨_,rfl,_,rfl,f,_,p,_,_,rfl,A,T.aa,T.ap,zE8 _ _ _ _ _ _,_,rfl,λl U fl ax ay=>?_⟩;have W:Same H8 (upd (upd H8 U (.own l)) l (.ins t.ae U [])):=(Same.upd ax).updT (by rw[za8 (Ne.symm ay)];exact fl);refine⟨l,U,_,_,_,rfl,za3,λH9 h9 x9=>⟨rfl,?_⟩⟩;have C:Same H8 H9:=zf7.same W fl x9;exact ai l H9 (aa.trans (Q.trans C)) ⟨L,U,ac,e,d,rs,ms,O,S,h9,ap,hL,R,C _ _ au,av.same C,hG,al,a7,C _ _ aq,C.tups TS,ar,aj⟩
     . refine⟨_,rfl,f,_,p,_,_,rfl,A,T.aa,T.ae,zh2 _ _ _ _ _ _,_,rfl,iteT ?_⟩
       refine⟨_,rfl,f,_,p,_,_,rfl,A,T.aa,T.a5,yl2 _ _ _ _ _ _,?_⟩;have hR:IsR n r a L s v:=G;have af:=zH6 a9;have V2:∀x∈v,zc7 n r a.length x:=λx hx=>let⟨_,h⟩:=(G x).mp hx;h.1.valid k
       have az:s∈v:=(G s).mpr ⟨0,Dst.zero⟩;have ah:g∉v:=λz=>let⟨d,h⟩:=(G g).mp z;aw d h
       obtain⟨d4,b0⟩:=all_400 B.1 k o;refine⟨_,rfl,_,rfl,b,a3,n,r,j,a,v,ad,rfl,B4.same Q,a8,ae,af,V2,few B.1 af V2,leave_of az b0 ah,λM H9 W hM hm=>?_⟩;obtain⟨m1,m2,m3⟩:=hR.next hL hM hm;have a4:=Q.trans W;refine⟨_,rfl,_,rfl,b,n,r,j,M,a,rfl,B4.same a4,by omega,m2,λb2 br a5 b3=>⟨_,rfl,_,rfl,b2,I,N,n,r,M,a,s,g,rfl,b3,k,o,.inr ((a4.trans a5) _ _ H),.inr ((a4.trans a5) _ _ y),λz=>absurd z '!',λ_ z=>absurd z '!',λ_ _ b4 bt b5 b6=>?_⟩⟩;have am:=a5.trans b5;have Y:=W.trans am;refine⟨⟨M,a3,b4,ad,v,rfl,Q.trans Y,by omega,m2,b6,λm l1 l2 d R=>?_,Y _ _ a8,Y.tups ae,a9,.inr ⟨by omega,m3 (M-1) '!' '!'⟩⟩,?_⟩
       . by_cases b7:m<L
         . exact a7 m l1 b7 d R
         . exact ah ((m3 m '!' l2 g).mpr ⟨d,R⟩)
       . show(401-M).toNat<(401-L).toNat
         omega
   . rintro F u Q1 Q2 hQ ⟨_,e1,bd,be,p,fs,bf,e2,e3,e4,e5,e6,bg,e7,h⟩
     exact⟨_,e1,bd,be,p,fs,bf,e2,e3,e4,e5,e6,bg,e7,hQ _ _ h⟩
end
section
variable {P:Program} {w:World} {K:W.Frag} {mg:Str->Option Value} {base:Heap} {t:Adr}
noncomputable def zy6 (b s x m:Addr):List (Str×V):=[("beam",.ref b),("start",.ref s),("standing",.ref x),("made",.ref m)]
theorem yq1:¬ ("beam" : Str) = "start":=by decide +kernel
theorem yq2:¬ ("beam" : Str) = "standing":=by decide +kernel
theorem pf_ne3:¬ ("start" : Str) = "standing":=by decide +kernel
theorem yq3:¬ ("beam" : Str) = "made":=by decide +kernel
theorem pf_ne5:¬ ("start" : Str) = "made":=by decide +kernel
theorem yq4:¬ ("standing" : Str) = "made":=by decide +kernel
theorem pfN {f:Str}{v:V}:putF f v []=[(f,v)]:=rfl
theorem pfC {f g:Str}{v x:V}{l:List (Str×V)}(h:¬ g=f):putF f v ((g,x)::l)=(g,x)::putF f v l:=Qg h
theorem ye4 (b s x m:Addr):putF "made" (.ref m) (putF "standing" (.ref x) (putF "start" (.ref s) (putF "beam" (.ref b) [])))=zy6 b s x m:=by
 rw[pfN,pfC yq1,pfN,pfC yq2,pfC pf_ne3,pfN,pfC yq3,pfC pf_ne5,pfC yq4,pfN];rfl
theorem zy0 (b s x m:Addr):(zy6 b s x m).lookup ("beam" : Str)=some (.ref b):=by rw[<-ye4,zb0,Qg yq3,zb0,Qg yq2,zb0,Qg yq1,zb0,Ql rfl]
theorem zo8 (b s x m:Addr):(zy6 b s x m).lookup ("standing" : Str)=some (.ref x):=by rw[<-ye4,zb0,Qg yq4,zb0,Ql rfl]
theorem pf_made (b s x m:Addr):(zy6 b s x m).lookup ("made" : Str)=some (.ref m):=by rw[<-ye4,zb0,Ql rfl]
theorem yl5 (b s x m:Addr) (f:Str) (a:¬ f = "made") (c:¬ f = "standing") (d:¬ f = "start") (e:¬ f = "beam"):(zy6 b s x m).lookup f=none:=by rw[<-ye4,zb0,Qg a,zb0,Qg c,zb0,Qg d,zb0,Qg e];rfl
theorem pf_trail (b s x m:Addr):(zy6 b s x m).lookup ("trail" : Str)=none:=yl5 _ _ _ _ _ '(' '(' '(' '('
structure zp6 (t:Adr)(H:Hp)(p b s x m:Addr)(n r:Int)(hs:'#')(lim:Int)(a c:'#')(ys:List V)(ms:List (List Int)):Prop where
 bm:ze3 t H b n r hs lim
 nb:b≠p
 hp:∃dx,H p=some (.ins t.ad dx (zy6 b s x m))
 hs:H s=some (.tup (a.map V.int))
 hx:H x=some (.tup (c.map V.int))
 hm:H m=some (.lst ys)
 tm:Tups H ys ms
theorem zp6.same {t:Adr}{H H':Hp}{p b s x m:Addr}{n r d:Int}{f a c:'#'}{ys:List V}{g:List (List Int)}(h:zp6 t H p b s x m n r f d a c ys g)(e:Same H H'):zp6 t H' p b s x m n r f d a c ys g :=
 ⟨h.bm.same e,h.nb,let⟨i,z⟩:=h.hp;⟨i,e _ _ z⟩,e _ _ h.hs,e _ _ h.hx,e _ _ h.hm,e.tups h.tm⟩
def sp_Play_init (K:W.Frag)(t:Adr):Sp:=λvs H Q E=>∃(p b a dx:Addr) (n r lim:Int) (hs xs:'#'),vs=[.ref p,.ref b,.ref a]/\H p=some (.ins t.ad dx [])/\b≠p/\ze3 t H b n r hs lim/\zc7 n r hs.length xs/\(SqL K H a (xs.map V.int)\/H a=some (.tup (xs.map V.int))) ∧
 (lim<absI (zb4 hs xs)->∀od H',Told H H' od "start past"->E (.ref t.aa) od H') ∧
 (absI (zb4 hs xs)<=lim->∀H' s m,zf7 p H H'->H m=none->zp6 t H' p b s s m n r hs lim xs xs [] []->Q .non H')
theorem zy1 (T:Txt K mg t):FnOk P w K mg base (CXD P w) 5 t.aB t.br PX (sp_Play_init K t):=by
 refine T.aL.F.d.okD (CX:=CX0) zH1 (λU H a0 a1 h=>?_) (λa3 a9 a2 aa H U a0 a1 u h=>?_)
 . obtain⟨p,b,a,c,n,r,j,o,g,rfl,s,v,B,y,J,L,q⟩:=h
   rfl
 . obtain⟨p,b,a,c,n,r,j,o,g,rfl,s,v,B,y,J,L,q⟩:=h
   refine⟨_,(za2 (zb7 (i:=3) zH1.nd rfl '$' (za7 (zd9 T) u.m T.ad zb1 (za0 P1 (za0 P2 za1))))
     (za2 (zc2 (ze8 (zd3 (za7 (zR4 T) u.m T.bh zb1 (za0 P1 (za0 P3 za1))))) (za4 (zB7 zw6 rfl T.a6 T.bJ T.bE (zt1 T) u.m rfl T.aM T.a7 .nil zb1 (za0 zc4 za1))) zb3)
     (za2 (zj6 P0 P1 rfl)
     (za2 (zj6 P0 P3 rfl)
     (za2 (zj6 P0 P3 rfl)
     (za4 (zj6 P0 (zf8 za1) rfl))))))),?_⟩
   refine cut6 ?_;intro a4 a5 a6 a7 a8;refine⟨_,rfl,_,rfl,b,a,n,r,j,o,g,rfl,B,y,J,λl H1 A M=>?_⟩;refine⟨_,rfl,_,rfl,b,l,n,r,j,o,g,rfl,B.same A,y,.inr M,λN C=>⟨_,rfl,?_⟩⟩;by_cases D:absI (zb4 o g)<=j
   case neg =>
     refine iteA (by rw[Qe D];rfl) ?_;exact⟨(by show 1<=sizeLine;decide),λx W=>⟨x,_,rfl,za3,λH' c O X Y=>⟨rfl,some c,O,L '!' _ _ (zM3 (A.trans C) W O X Y)⟩⟩⟩
   replace q:=q D;rw[Qh D];refine iteF ?_;have f:=A.trans C;have k:=C _ _ M;have Q:l≠p:=λz=>by rw[z,f _ _ s] at k;cases k
   refine⟨_,rfl,_,rfl,p,_,c,_,rfl,f _ _ s,T.ac,T.am,by decide,?_⟩;refine⟨_,rfl,_,rfl,p,_,c,_,rfl,za3,T.ac,T.cG,zl4 fl0,?_⟩;refine⟨_,rfl,_,rfl,p,_,c,_,rfl,za3,T.ac,T.an,zl4 (flS fl0),?_⟩;rw[zh5,zh5];refine⟨QH _,λm d=>?_⟩;have E:m≠p:=λz=>by rw[z,za3] at d;cases d
   refine⟨_,rfl,p,_,c,_,rfl,by rw[za8 E.symm];exact za3,T.ac,T.bD,zl4 (flS (flS fl0)),?_⟩;rw[ye4];rw[za8 E] at d;have F:zf7 p H (upd (upd (upd N p (.ins t.ad c (putF "standing" (.ref l) (putF "start" (.ref l) (putF "beam" (.ref b) []))))) m (.lst [])) p (.ins t.ad c (zy6 b l l m))):=λab ac e R=>by
     rw[za8 R,za8 (zb5 (f _ _ e) d),za8 R];exact f _ _ e
   have I:(upd (upd (upd N p (.ins t.ad c (putF "standing" (.ref l) (putF "start" (.ref l) (putF "beam" (.ref b) []))))) m (.lst [])) p (.ins t.ad c (zy6 b l l m))) l=some (.tup (g.map V.int)):=by
     rw[za8 Q,za8 (zb5 k d),za8 Q];exact k
   refine q _ l m F (f.free d) ⟨?_,v,⟨c,za3⟩,I,I,by rw[za8 E];exact za3,.nil⟩;obtain⟨ok,S,h,Z,G⟩:=B;exact⟨ok,S,h,F _ _ Z v,F _ _ G (λz=>by rw[z,s] at G;cases G)⟩
theorem ye5 (b s x m:Addr):(zy6 b s x m).lookup ("least" : Str)=none:=yl5 _ _ _ _ _ '(' '(' '(' '('
theorem zW5 (b s x m:Addr):(zy6 b s x m).lookup ("fewest" : Str)=none:=yl5 _ _ _ _ _ '(' '(' '(' '('
theorem yl6 (b s x m:Addr):(zy6 b s x m).lookup ("next_move" : Str)=none:=yl5 _ _ _ _ _ '(' '(' '(' '('
def ys3 (K:W.Frag)(t:Adr)(vs:List V)(H:Hp)(E:XK)(R:Int->Int->'#'->Int->'#'->'#'->Prop):Prop:=∃(p b s x m g:Addr) (n r lim:Int) (hs a c gl:'#') (ys:List V) (ms:List (List Int)),vs=[.ref p,.ref g]/\zp6 t H p b s x m n r hs lim a c ys ms/\zc7 n r hs.length c/\zc7 n r hs.length gl/\(SqL K H g (gl.map V.int)\/H g=some (.tup (gl.map V.int)))/\AskD t H lim hs c gl E/\R n r hs lim c gl
def sp_Play_fewest (K:W.Frag)(t:Adr):Sp:=λvs H Q E=>ys3 K t vs H E λn r hs lim c gl=>absI (zb4 hs c)<=lim->absI (zb4 hs gl)<=lim->∀wy H',Same H H'->zK4 t H' wy n r hs lim c gl->Q (.ref wy) H'
theorem zB1 (T:Txt K mg t):FnOk P w K mg base (CXD P w) 10 t.aq t.aY Pf (sp_Play_fewest K t):=by
 refine T.aQ.F.d.okD (CX:=CX0) sc_Play_fewest (λz H Q E h=>?_) (λG A F s H z Q E B h=>?_)
 . obtain⟨p,b,s,x,m,g,n,r,e,f,a,c,i,C,D,rfl,d,j,k,l,⟨o,u⟩,q⟩:=h
   rfl
 . obtain⟨p,b,s,x,m,g,n,r,e,f,a,c,i,C,D,rfl,d,j,k,l,⟨o,u⟩,q⟩:=h
   refine⟨_,(za4 (za9 (zm0 (zr3 T) B.m rfl T.ao T.ai.F.kp T.ai.b .nil zf6 (za0 (zc8 P0 rfl) (za0 (zc8 P0 rfl) (za0 P1 za1)))))),?_⟩;obtain⟨v,y⟩:=d.hp;exact⟨_,rfl,p,_,v,_,_,rfl,y,T.ac,T.am,zy0 _ _ _ _,_,rfl,p,_,v,_,_,rfl,y,T.ac,T.an,zo8 _ _ _ _,_,rfl,b,x,g,n,r,e,f,c,i,rfl,d.bm,j,k,.inr d.hx,l,o,u,q⟩
def sp_Play_next_move (K:W.Frag) (t:Adr):Sp:=λvs H Q E=>ys3 K t vs H E λn r hs lim c gl=>absI (zb4 hs c)<=lim->absI (zb4 hs gl)<=lim->(∀od H',Told H H' od "no way"->E (.ref t.ac) od H')/\∀v H',Same H H'->yp8 n r hs lim c H' v->Q v H'
theorem zt2 (T:Txt K mg t):FnOk P w K mg base (CXD P w) 11 t.ao t.aE Pf (sp_Play_next_move K t):=by
 refine T.aG.F.d.okD (CX:=CX0) sc_Play_next_move (λy H Q E h=>?_) (λF A D s H y Q E z h=>?_)
 . obtain⟨p,b,s,x,m,g,n,r,e,f,a,c,i,B,C,rfl,d,j,k,l,o,q⟩:=h
   rfl
 . obtain⟨p,b,s,x,m,g,n,r,e,f,a,c,i,B,C,rfl,d,j,k,l,o,q⟩:=h
   refine⟨_,(za4 (za9 (zm0 (zH7 T) z.m rfl T.aY T.aA.F.kp T.aA.b .nil zf6 (za0 (zc8 P0 rfl) (za0 (zc8 P0 rfl) (za0 P1 za1)))))),?_⟩;obtain⟨u,v⟩:=d.hp;exact⟨_,rfl,p,_,u,_,_,rfl,v,T.ac,T.am,zy0 _ _ _ _,_,rfl,p,_,u,_,_,rfl,v,T.ac,T.an,zo8 _ _ _ _,_,rfl,b,x,g,n,r,e,f,c,i,rfl,d.bm,j,k,.inr d.hx,l,o,q⟩
def sp_Play_least (K:W.Frag)(t:Adr):Sp:=λvs H Q _=>∃(p b s x m g:Addr) (n r lim:Int) (hs a c gl:'#') (ys:List V) (ms:List (List Int)),vs=[.ref p,.ref g]/\zp6 t H p b s x m n r hs lim a c ys ms/\zc7 n r hs.length c/\zc7 n r hs.length gl/\(SqL K H g (gl.map V.int)\/H g=some (.tup (gl.map V.int)))/\∀l H',Same H H'->zH8 t H' l n r hs c gl->Q (.ref l) H'
theorem zD9 (T:Txt K mg t):FnOk P w K mg base CX0 11 t.aw t.bc Pf (sp_Play_least K t):=by
 refine T.aT.F.ok sc_Play_least (λv H Q E h=>?_) (λD A C s H v Q E y h=>?_)
 . obtain⟨p,b,s,x,m,g,n,r,e,f,a,c,i,z,B,rfl,d,j,k,l,q⟩:=h
   rfl
 . obtain⟨p,b,s,x,m,g,n,r,e,f,a,c,i,z,B,rfl,d,j,k,l,q⟩:=h
   refine⟨_,(za4 (za9 (zm0 (ye3 T) y.m rfl T.bj T.a1.F.kp T.a1.b .nil zb1 (za0 (zc8 P0 rfl) (za0 (zc8 P0 rfl) (za0 P1 za1)))))),?_⟩;obtain⟨o,u⟩:=d.hp;exact⟨_,rfl,p,_,o,_,_,rfl,u,T.ac,T.am,zy0 _ _ _ _,_,rfl,p,_,o,_,_,rfl,u,T.ac,T.an,zo8 _ _ _ _,_,rfl,b,x,g,n,r,e,f,c,i,rfl,d.bm,j,k,.inr d.hx,l,q⟩
def sp_Play_trail (K:W.Frag)(t:Adr):Sp:=λvs H Q _=>∃(p b s x m:Addr) (n r lim:Int) (hs a c:'#') (ys:List V) (ms:List (List Int)),vs=[.ref p]/\zp6 t H p b s x m n r hs lim a c ys ms/\∀l,H l=none->Q (.ref l) (upd H l (.lst ys))
theorem ok_Play_trail (T:Txt K mg t):FnOk P w K mg base CX0 1 t.av t.bb ["self"] (sp_Play_trail K t):=by
 refine T.bv.F.ok sc_Play_trail (λf H Q E h=>?_) (λy A v s H f Q E z h=>?_)
 . obtain⟨p,b,s,x,m,n,r,e,g,a,c,i,j,rfl,d,q⟩:=h
   rfl
 . obtain⟨p,b,s,x,m,n,r,e,g,a,c,i,j,rfl,d,q⟩:=h
   refine⟨_,(za4 (za9 (zd2 zF3 rfl T.au Zc (za0 (zc8 P0 rfl) za1)))),?_⟩;obtain⟨k,o⟩:=d.hp;exact⟨_,rfl,p,_,k,_,_,rfl,o,T.ac,T.bD,pf_made _ _ _ _,m,_,rfl,.inl (SqL.of d.hm),λl u=>q l u⟩
end
section
variable {P:Program} {w:World} {K:W.Frag} {mg:Str->Option Value} {base:Heap} {t:Adr}
def yq5 (z:Str) (xs:'#'):Prop:=(z=Str.ofString "none"/\xs=[])\/(z≠Str.ofString "none"/\(Txt.split z (Str.ofString " ")).map zq5=xs.map some)
noncomputable def zd7 (xs:'#'):Str:=if xs=[] then Str.ofString "none" else Txt.join (Str.ofString " ") (xs.map zd5)
def sp_write_place (K:W.Frag)(t:Adr):Sp:=λvs H Q _=>∃i:Int,vs=[.int i]/\i.natAbs<=100000/\Q (.str (zd5 i)) H
def sp_w_say (K:W.Frag)(t:Adr):Sp:=λvs H Q _=>∃i:Int,vs=[.int i]/\i.natAbs<=100000/\Q (.str (zd5 i)) H
def sp_is_number (K:W.Frag)(t:Adr):Sp:=λvs H Q _=>∃z:Str,vs=[.str z]/\z.length<=1000000/\∀H',Same H H'->Q (.bl (zU5 z)) H'
def sp_read_number (K:W.Frag)(t:Adr):Sp:=λvs H Q _=>∃(z:Str) (n:Int),vs=[.str z]/\z.length<=1000000/\zz3 z=some n/\∀H',Same H H'->Q (.int n) H'
def sp_read_place (K:W.Frag)(t:Adr):Sp:=λvs H Q _=>∃(z:Str) (n:Int),vs=[.str z]/\z.length<=1000000/\zq5 z=some n/\∀H',Same H H'->Q (.int n) H'
def sp_read_places (K:W.Frag)(t:Adr):Sp:=λvs H Q _=>∃(z:Str) (xs:'#'),vs=[.str z]/\z.length<=1000000/\yq5 z xs/\∀l H',Same H H'->H' l=some (.lst (xs.map V.int))->Q (.ref l) H'
def sp_write_standing (K:W.Frag)(t:Adr):Sp:=λvs H Q _=>∃(b a:Addr) (n r lim:Int) (hs xs:'#'),vs=[.ref b,.ref a]/\ze3 t H b n r hs lim/\zc7 n r hs.length xs ∧
 (SqL K H a (xs.map V.int)\/H a=some (.tup (xs.map V.int)))/\∀H',Same H H'->Q (.str (zd7 xs)) H'
def sp_read_standing (K:W.Frag)(t:Adr):Sp:=λvs H Q _=>∃(b:Addr) (z:Str) (n r lim:Int) (hs xs:'#'),vs=[.ref b,.str z]/\z.length<=1000000/\ze3 t H b n r hs lim/\zc7 n r hs.length xs/\yq5 z xs ∧
 ∀l H',Same H H'->H' l=some (.tup (xs.map V.int))->Q (.ref l) H'
theorem zh3 {i:Int}(h:i.natAbs<=100000):i.natAbs.log2<1920:=by
 by_cases a:i.natAbs=0
 . rw[a];decide
 . have:i.natAbs.log2<17:=(Nat.log2_lt a).mpr '!'
   omega
theorem zw1 {n:Nat}(h:n<=1000000):n<=sizeLine:=QD h '&'
theorem zs3 (T:Txt K mg t):FnOk P w K mg base CX0 1 t.a3 t.a4 Pl (sp_write_place K t):=by
 refine T.aD.F.ok sc_write_place (λc H Q E h=>?_) (λf A d s H c Q E g h=>?_)
 . obtain⟨i,rfl,b,q⟩:=h
   rfl
 . obtain⟨i,rfl,b,q⟩:=h
   refine⟨_,(za2 (zc2 (zb9 zg1 P0 za6 (zb8 _)) (za4 (za9 zc4)) zb3)
     (za4 (za9 (zd2 zf1 rfl T.aE Zg (za0 P0 za1))))),?_⟩
   refine⟨_,rfl,rfl,_,rfl,?_⟩;unfold zd5 at q;refine ite2 (λa=>?_) (λa=>?_)
   . have e:i=0:=by simpa using a
     rw[Ql e] at q;exact q
   . have e:i≠0:=by simpa using a
     rw[Qg e] at q;exact⟨_,rfl,i,rfl,zh3 b,q⟩
theorem ye6 (T:Txt K mg t):FnOk P w K mg base CX0 1 t.cC t.cD Pm (sp_w_say K t):=by
 refine T.bR.F.ok sc_w_say (λc H Q E h=>?_) (λf A d s H c Q E g h=>?_)
 . obtain⟨i,rfl,b,q⟩:=h
   rfl
 . obtain⟨i,rfl,b,q⟩:=h
   refine⟨_,(za2 (zc2 (zb9 zg1 P0 za6 (zb8 _)) (za4 (za9 zc4)) zb3)
     (za4 (za9 (zd2 zf1 rfl T.aE Zg (za0 P0 za1))))),?_⟩
   refine⟨_,rfl,rfl,_,rfl,?_⟩;unfold zd5 at q;refine ite2 (λa=>?_) (λa=>?_)
   . have e:i=0:=by simpa using a
     rw[Ql e] at q;exact q
   . have e:i≠0:=by simpa using a
     rw[Qg e] at q;exact⟨_,rfl,i,rfl,zh3 b,q⟩
theorem ok_is_number (T:Txt K mg t):FnOk P w K mg base CX0 1 t.bu t.bv Pa (sp_is_number K t):=by
 refine T.bH.F.ok sc_is_number (λk H Q E h=>?_) (λp A n s H k Q E y h=>?_)
 . obtain⟨z,rfl,a,q⟩:=h
   rfl
 . obtain⟨z,rfl,a,q⟩:=h
   refine⟨_,(za2 (zc2 (zd3 (zk5 Ze PySem.F.slot_str_startswith PySem.F.type_str_startswith zU4 P0 (za0 zc4 za1))) (za4 (za9 (zf0 zg1 P0 zc4 (zb8 _)))) zb3)
     (za2 (zc2 (PW.pt (zk4 (zb9 zg1 (zb6 zF2 rfl T.ag QF (za0 P0 za1)) za6 (zb8 _)) (zj3 (zb9 zu7 (zb6 zF2 rfl T.ag QF (za0 P0 za1)) (zj1 (v:=.int 4) rfl T.cD ⟨_,rfl⟩) (zb8 _))))) (za4 (za9 zg0)) zb3)
     (za4 (za9 (zb6 (call_all rfl) rfl T.c6 PyProof.Rows.boot_all (za0 (zk0 rfl zA9 (pi_str P0) (λ_ _ _ _ _=>(zc3 (i:=0) zA9.nd rfl '$')) (λ_ _ _ _ _=>zg8) (λ_ _ _ _ _=>(zf0 op_in_str P0 (zj1 (v:=.str (Str.ofString "0123456789")) rfl T.cW ⟨_,rfl⟩) rfl))) za1)))))),?_⟩
   refine cut3 ?_;intro r u;refine⟨_,rfl,rfl,_,_,rfl,rfl,_,rfl,?_⟩;unfold zU5 at q;refine ite2 (λb=>?_) (λb=>?_)
   . simp only[b,if_true] at q
     refine⟨_,rfl,rfl,?_⟩;have:=q H (Same.refl _);have e:decide (V.str z=V.str (Str.ofString "0"))=decide (z=Str.ofString "0"):=by
       by_cases h:z=Str.ofString "0"
       . rw[Qh h,Qh (by rw[h])]
       . rw[Qe h,Qe (λz=>h (by injection z))]
     rw[e];exact this
   . have l:Txt.startswith z (Str.ofString "0")=false:=Bool.eq_false_iff.mpr b
     simp only[l,Zf,if_false] at q;refine⟨_,rfl,_,rfl,zw1 a,rfl,_,rfl,?_⟩;refine ite2 (λd=>?_) (λd=>?_)
     . have g:z.length=0\/4<z.length:=.inl (by simpa using d)
       rw[Ql g] at q;exact iteT (q H (Same.refl _))
     . have B:¬ z.length=0:=by simpa using d
       refine⟨_,rfl,_,rfl,zw1 a,_,_,rfl,rfl,_,rfl,?_⟩;refine ite2 (λj=>?_) (λj=>?_)
       . have g:z.length=0\/4<z.length:=.inr (by have:=Zv j;omega)
         rw[Ql g] at q;exact q H (Same.refl _)
       . have C:¬ 4<z.length:=λh=>j (Qh '!')
         rw[Qg '!'] at q;refine⟨_,rfl,_,rfl,λD m=>?_⟩;refine comp_str (f:=λc=>V.bl (decide (48<=c/\c<=57))) (zw1 a) (λc x R F h=>?_) ?_
         . refine⟨_,rfl,_,_,rfl,rfl,?_⟩
           rw[fig_in];exact h
         . refine⟨D,z.cps.toList.map λc=>decide (48<=c/\c<=57),rfl,SqL.of (by rw[za3,Zt];rfl),?_⟩
           have:=q _ (Same.upd (o:=.lst (z.cps.toList.map λc=>V.bl (decide (48<=c/\c<=57)))) m);rw[List.all_map];exact this
theorem zj9 (T:Txt K mg t):FnOk P w K mg base CX0 2 t.a5 t.a6 Pa (sp_read_number K t):=by
 refine T.aq.F.ok sc_read_number (λc H Q E h=>?_) (λg A f s H c Q E d h=>?_)
 . obtain⟨z,n,rfl,b,a,q⟩:=h
   rfl
 . obtain⟨z,n,rfl,b,a,q⟩:=h
   refine⟨_,(za2 (zc2 (ze8 (zd3 (za7 (ok_is_number T) d.m T.bH zb1 (za0 P0 za1)))) (za4 zg7) zb3)
     (za4 (za9 (zd2 call_int_text rfl T.cV PyProof.Rows.boot_int (za0 P0 za1))))),?_⟩
   unfold zz3 at a
   split at a
   . rename_i h1
     injection a with a
     subst a;refine⟨_,rfl,_,rfl,b,λi e=>⟨_,rfl,?_⟩⟩;refine iteB (by rw[h1];rfl) ?_;exact⟨_,rfl,_,_,rfl,isNum_int h1,by have:=(zF7 h1).2.2;omega,q _ e⟩
   . cases a
theorem zE0 (T:Txt K mg t):FnOk P w K mg base CX0 3 t.bf t.bg Pa (sp_read_place K t):=by
 refine T.aV.F.ok zu5 (λl H Q E h=>?_) (λv A u s H l Q E o h=>?_)
 . obtain⟨z,n,rfl,f,a,q⟩:=h
   rfl
 . obtain⟨z,n,rfl,f,a,q⟩:=h
   refine⟨_,(za2 (zc2 (zb9 zg1 P0 zc4 (zb8 _)) (za4 (za9 za6)) zb3)
     (za2 (zb7 (i:=1) zu5.nd rfl '$' (zk5 Ze PySem.F.slot_str_startswith PySem.F.type_str_startswith zU4 P0 (za0 zc4 za1)))
     (za2 (zb7 (i:=2) zu5.nd rfl '$' (za7 (zj9 T) o.m T.aq zb1 (za0 (ya9 (zd3 P1) (zo1 sl_str P0 (zs8 za6) zs7) P0) za1)))
     (za2 (zc2 (zb9 zg1 P2 za6 (zb8 _)) (za4 zg7) zb3)
     (za4 (za9 (ya9 (zd3 P1) (yh0 zX7 P2) P2))))))),?_⟩
   refine cut5 ?_;intro x y B C;refine⟨_,rfl,rfl,_,rfl,?_⟩;unfold zq5 at a;refine ite2 (λg=>?_) (λg=>?_)
   . have e:z=Str.ofString "tray":=by simpa using g
     rw[Ql e] at a;injection a with a
     subst a;exact q _ (Same.refl _)
   . have e:¬ z=Str.ofString "tray":=by simpa using g
     rw[Qg e] at a;refine⟨_,rfl,rfl,_,_,rfl,rfl,_,rfl,_,rfl,?_⟩;cases c:zz3 (if Txt.startswith z (Str.ofString "-")=true then Txt.slice z (some 1) none else z) with
     | none=>rw[c] at a;cases a
     | some m =>
       rw[c] at a;have b:(if m=0 then none else some (if Txt.startswith z (Str.ofString "-")=true then -m else m))=some n:=a;have j:m≠0:=λp=>by rw[Ql p] at b;cases b
       rw[Qg j] at b;injection b with b
       refine ite2 (λd=>?_) (λd=>?_)
       . rw[Ql d] at c b
         refine⟨_,rfl,_,rfl,z,rfl,zw1 f,_,m,rfl,QD (Txt.slice_le z _ _) f,c,λr k=>?_⟩;refine⟨_,rfl,rfl,_,rfl,iteB (Qe (λe=>j (by injection e))) ?_⟩;refine⟨_,rfl,_,rfl,iteA d ?_⟩;subst b;exact⟨_,rfl,_,rfl,q _ k⟩
       . rw[Qg d] at c b
         refine⟨_,rfl,z,m,rfl,f,c,λr k=>?_⟩;refine⟨_,rfl,rfl,_,rfl,iteB (Qe (λe=>j (by injection e))) ?_⟩;refine⟨_,rfl,_,rfl,iteB (Bool.eq_false_iff.mpr d) ?_⟩;subst b;exact⟨_,rfl,q _ k⟩
theorem ok_read_places (T:Txt K mg t):FnOk P w K mg base CX0 4 t.a1 t.a2 Pa (sp_read_places K t):=by
 refine T.bp.F.ok sc_read_places (λG H Q E h=>?_) (λR A O s H G Q E I h=>?_)
 . obtain⟨z,xs,rfl,n,r,q⟩:=h
   rfl
 . obtain⟨z,xs,rfl,n,r,q⟩:=h
   refine⟨_,(za2 (zc2 (zb9 zg1 P0 zc4 (zb8 _)) (za4 (za9 (zf8 za1))) zb3)
     (za4 (za9 (zk0 rfl zv6 (zg3 (zk5 Ze PySem.F.slot_str_split PySem.F.type_str_split zO3 P0 (za0 zc4 za1))) (λ_ _ _ _ _=>(zc3 (i:=0) zv6.nd rfl '$')) (λ_ _ _ _ _=>zg8) (λ_ _ _ _ _=>(za7 (zE0 T) I.m T.aV zb1 (za0 P0 za1))))))),?_⟩
   refine⟨_,rfl,rfl,_,rfl,?_⟩;rcases r with⟨e,rfl⟩ | ⟨J,u⟩
   . subst e
     refine iteT ?_;exact⟨by decide,λl o=>q l _ (Same.upd o) za3⟩
   . refine iteB (Qe λe=>J (by injection e)) ?_
     refine⟨_,rfl,rfl,_,_,rfl,rfl,by decide,n,λl o=>⟨l,rfl,⟨_,SqL.of za3⟩,λD c=>?_⟩⟩;have p:Same H (upd H l (.lst ((Txt.split z (Str.ofString " ")).map V.str))):=Same.upd o;have m:(upd H l (.lst ((Txt.split z (Str.ofString " ")).map V.str))) l=some (.lst ((Txt.split z (Str.ofString " ")).map V.str)):=za3;have S:l≠D:=λe=>by rw[<-e,za3] at c;cases c
     revert p m c;generalize upd H l (.lst ((Txt.split z (Str.ofString " ")).map V.str))=L;intro c p m;have C:(Txt.split z (Str.ofString " ")).length=xs.length:=by
       have:=congrArg List.length u
       rwa [Qb,Qb] at this
     have U:xs.length<=1000002:=by
       have:=PyProof.Rows.split_le z (Str.ofString " ");omega
     refine zi3 (K:=K) (a:=l) (xs:=(Txt.split z (Str.ofString " ")).map V.str) (λi d=>Same L d/\d D=some (.lst ((xs.take i).map V.int))) ⟨Same.upd c,za3⟩ (λi d b=>SqL.of (b.1 _ _ m)) (λi x d N g b M=>?_) (λd b=>?_)
     . dsimp only[zm9]
       rw[QK] at g;cases k:(Txt.split z (Str.ofString " "))[i]? with
       | none=>rw[k] at g;cases g
       | some v =>
         rw[k] at g;cases g;have j:=congrArg (λl=>l[i]?) u;rw[QK,k,QK] at j;cases f:xs[i]? with
         | none=>rw[f] at j;cases j
         | some x =>
           rw[f] at j;have F:zq5 v=some x:=by injection j
           have W:i<xs.length:=by
             rcases QP i xs.length with h | h
             . exact h
             . rw[QT h] at f;cases f
           refine iteT ⟨_,rfl,v,x,rfl,QD (PyProof.Rows.part_short (Qy k)) n,F,λY y=>⟨_,y _ _ b.2,?_,M _ ⟨?_,?_⟩⟩⟩
           . have X:sizeLine=16777216:=by decide
             rw[Qb,QW];omega
           . exact(b.1.trans y).put c
           . rw[za3,QY,Qq,f]
             rfl
     . have e:xs.take ((Txt.split z (Str.ofString " ")).map V.str).length=xs:=by
         rw[Qb,C,QO]
       have B:=b.2;rw[e] at B;exact q D d (p.trans b.1) B
theorem zn5 (T:Txt K mg t):FnOk P w K mg base CX0 5 t.aK t.aL Pz (sp_read_standing K t):=by
 refine T.aw.F.ok sc_read_standing (λk H Q E h=>?_) (λy A x s H k Q E d h=>?_)
 . obtain⟨b,z,n,r,c,e,a,rfl,f,B,g,i,q⟩:=h
   rfl
 . obtain⟨b,z,n,r,c,e,a,rfl,f,B,g,i,q⟩:=h
   refine⟨_,(za4 (za9 (za7 (zd9 T) d.m T.ad zb1 (za0 P0 (za0 (za7 (ok_read_places T) d.m T.bp zb1 (za0 P1 za1)) za1))))),?_⟩;refine⟨_,rfl,_,rfl,z,a,rfl,f,i,λl C j m=>?_⟩;exact⟨b,l,n,r,c,e,a,rfl,B.same j,g,.inl (SqL.of m),λo p u v=>q o p (j.trans u) v⟩
theorem zE9 {x n:Int}(a:-n<=x)(b:x<=n)(c:n<=4):(zd5 x).length<=4:=by
 have:x = -4\/x = -3\/x = -2\/x = -1\/x=0\/x=1\/x=2\/x=3\/x=4:=by omega
 rcases this with rfl | rfl | rfl | rfl | rfl | rfl | rfl | rfl | rfl<;>decide +kernel
theorem zt3:∀ {xs:'#'} {n:Int},(∀x∈xs,-n<=x/\x<=n)->n<=4->(((xs.map zd5).map (·.length)).sum<=4*xs.length)
 | [],_,_,_=>by simp
 | x::xs,n,h,hn=>by
   have d:=zt3 (xs:=xs) (λy a=>h y (Qv _ a)) hn;obtain⟨b,c⟩:=h x QC;have:=zE9 b c hn;rw[QB,QB,List.sum_cons,QE];omega
theorem ok_write_standing (T:Txt K mg t):FnOk P w K mg base CX0 3 t.aF t.aG Pb (sp_write_standing K t):=by
 refine T.a9.F.ok zs9 (λC H Q E h=>?_) (λM A L s H C Q E m h=>?_)
 . obtain⟨b,a,n,r,k,o,c,rfl,B,d,p,q⟩:=h
   rfl
 . obtain⟨b,a,n,r,k,o,c,rfl,B,d,p,q⟩:=h
   refine⟨_,(za2 (zb7 (i:=2) zs9.nd rfl '$' (za7 (zd9 T) m.m T.ad zb1 (za0 P0 (za0 P1 za1))))
     (za2 (zc2 (zb9 zg1 (zb6 zc1 rfl T.ag QF (za0 P2 za1)) za6 (zb8 _)) (za4 (za9 zc4)) zb3)
     (za4 (za9 (zk5 Ze PySem.F.slot_str_join PySem.F.type_str_join zL6 zc4 (za0 (zk0 rfl zq1 (zX6 P2) (λ_ _ _ _ _=>(zc3 (i:=0) zq1.nd rfl '$')) (λ_ _ _ _ _=>zg8) (λ_ _ _ _ _=>(za7 (zs3 T) m.m T.aD zb1 (za0 P0 za1)))) za1)))))),?_⟩
   refine cut3 ?_;intro N O;refine⟨_,rfl,_,rfl,b,a,n,r,k,o,c,rfl,B,d,p,λl W u j=>?_⟩;refine⟨_,rfl,l,_,rfl,.inr (SqT.of j),rfl,_,rfl,?_⟩;unfold zd7 at q;have X:=B.1.w;have R:=d.len;refine ite2 (λg=>?_) (λg=>?_)
   . have e:c=[]:=by
       rw[Qb] at g;have S:((c.length:Nat):Int)=0:=by simpa using g
       exact QA '!'
     rw[Ql e] at q;exact q _ u
   . have e:c≠[]:=λe=>g (by rw[e];rfl)
     rw[Qg e] at q;refine⟨rfl,_,rfl,l,rfl,⟨_,SqT.of j⟩,λD y=>?_⟩;refine yb5 (f:=λv=>match v with | .int z=>V.str (zd5 z) | v=>v) (SqT.of j) y (by rw[Qb];exact zw1 '!') (λx U a0 F h=>?_) ?_
     . obtain⟨z,G,rfl⟩:=QQ.mp F
       obtain⟨Y,Z⟩:=d.on z G;exact⟨_,rfl,z,rfl,by have:=B.1.n2;omega,h⟩
     . have I:(c.map V.int).map (λv=>match v with | .int z=>V.str (zd5 z) | v=>v)=(c.map zd5).map V.str:=by
         rw[Zt,Zt];rfl
       refine⟨_,D,c.map zd5,rfl,rfl,SqL.of (by rw[za3,I]),?_,q _ (u.updT y)⟩;have:=zt3 d.on B.1.n2;have J:(Str.ofString " ").length=1:=by decide
       rw[J,Qb];omega
noncomputable def wRow (h x:Int):Str:=(((Str.ofString "weight "++sI h)++Str.ofString " ")++zd5 x)
noncomputable def zm7 (n r lim:Int):List Str:=[Str.ofString "notches "++sI n,Str.ofString "room "++sI r,Str.ofString "limit "++sI lim]
noncomputable def zW6 (n r lim:Int)(hs xs:'#'):List Str:=zm7 n r lim++List.zipWith wRow hs xs
noncomputable def zS2 (n r lim:Int) (hs xs:'#'):Str:=Txt.join (Str.ofString "\n") (zW6 n r lim hs xs)
structure yg4 (z:Str)(n r lim:Int)(hs xs:'#'):Prop where
 rows:∃z0 z1 z2 zs a0 a1 a2,Txt.split z (Str.ofString "\n")=z0::z1::z2::zs/\Txt.split z0 (Str.ofString " ")=[Str.ofString "notches",a0]/\Txt.split z1 (Str.ofString " ")=[Str.ofString "room",a1]/\Txt.split z2 (Str.ofString " ")=[Str.ofString "limit",a2] ∧
   zz3 a0=some n/\zz3 a1=some r/\zz3 a2=some lim/\zs.length=hs.length/\xs.length=hs.length ∧
   ∀(i:Nat) w h x,zs[i]?=some w->hs[i]?=some h->xs[i]?=some x->∃a b,Txt.split w (Str.ofString " ")=[Str.ofString "weight",a,b]/\zz3 a=some h/\zq5 b=some x
def sp_words_behind (K:W.Frag) (t:Adr):Sp:=λvs H Q _=>∃(front row:Str) (ws:List Str) (many:Int),vs=[.str front,.str row,.int many]/\row.length<=1000000/\Txt.split row (Str.ofString " ")=front::ws/\(ws.length:Int)=many ∧
 ∀l H',Same H H'->H' l=some (.lst (ws.map V.str))->Q (.ref l) H'
def sp_read_weight (K:W.Frag) (t:Adr):Sp:=λvs H Q _=>∃(row a b:Str) (h x:Int),vs=[.str row]/\row.length<=1000000/\Txt.split row (Str.ofString " ")=[Str.ofString "weight",a,b]/\zz3 a=some h/\zq5 b=some x ∧
 ∀l H',Same H H'->H l=none->H' l=some (.tup [.int h,.int x])->Q (.ref l) H'
def sp_read_beam (K:W.Frag)(t:Adr):Sp:=λvs H Q _=>∃(z:Str) (n r lim:Int) (hs xs:'#'),vs=[.str z]/\z.length<=1000000/\yg4 z n r lim hs xs/\zi0 n r hs lim/\zc7 n r hs.length xs ∧
 ∀l b p H',Same H H'->ze3 t H' b n r hs lim->H' p=some (.tup (xs.map V.int))->H' l=some (.tup [.ref b,.ref p])->Q (.ref l) H'
theorem sum_le {ws:List Str}{B:Nat}(h:∀w∈ws,w.length<=B):(ws.map (·.length)).sum<=B*ws.length:=by
 induction ws with
 | nil=>simp
 | cons w ws a =>
   have:=a λx b=>h x (Qv _ b)
   have:=h w QC;rw[QB,List.sum_cons,QE,Nat.mul_succ];omega
theorem wRow_len {h x n:Int}(d:1<=h)(e:h<=20)(a:-n<=x)(b:x<=n)(c:n<=4):(wRow h x).length<=40:=by
 have f:(Str.ofString "weight ").length=7:=by decide
 have g:(Str.ofString " ").length=1:=by decide
 have i:=zt7 (n:=h) '!' '!';have j:=zE9 a b c;unfold wRow;rw[zd1,zd1,zd1];omega
theorem zW7 {n r e:Int}{c xs:'#'}(ok:zi0 n r c e)(g:zc7 n r c.length xs):∀w∈zW6 n r e c xs,w.length<=40:=by
 intro w b;have o:(Str.ofString "notches ").length=8:=by decide
 have p:(Str.ofString "room ").length=5:=by decide
 have q:(Str.ofString "limit ").length=6:=by decide
 have s:=zt7 (n:=n) (by have:=ok.n1;omega) (by have:=ok.n2;omega);have t:=zt7 (n:=r) (by have:=ok.r1;omega) (by have:=ok.r2;omega);have u:=zt7 (n:=e) ok.l1 (by have:=ok.l2;omega);rcases Qs.mp b with b | b
 . unfold zm7 at b
   simp only[Qn,QM,or_false] at b
   rcases b with rfl | rfl | rfl<;>rw[zd1]<;>omega
 . obtain⟨i,a⟩:=List.getElem?_of_mem b
   rw[List.getElem?_zipWith] at a;cases d:c[i]? with
   | none=>rw[d] at a;simp at a
   | some h =>
     cases f:xs[i]? with
     | none=>rw[d,f] at a;simp at a
     | some x =>
       rw[d,f] at a;injection a with a
       subst a;obtain⟨j,k⟩:=ok.h h (Qy d);obtain⟨l,m⟩:=g.on x (Qy f);exact wRow_len j k l m ok.n2
theorem wRows_count {n r b:Int}{a xs:'#'}(c:zc7 n r a.length xs):(zW6 n r b a xs).length=3+a.length:=by
 unfold zW6 zm7;rw[Qr,ZI,c.len,Nat.min_self];rfl
end
section
variable {P:Program} {w:World} {K:W.Frag} {mg:Str->Option Value} {base:Heap} {t:Adr}
theorem zl1 (T:Txt K mg t):FnOk P w K mg base CX0 1 t.aO t.aP PZ (sp_words_behind K t):=by
 refine T.ar.F.ok zy4 (λk H Q E h=>?_) (λv A u s H k Q E z h=>?_)
 . obtain⟨front,row,a,j,rfl,f,d,g,q⟩:=h
   rfl
 . obtain⟨front,row,a,j,rfl,f,d,g,q⟩:=h
   refine⟨_,(za2 (zb7 (i:=3) zy4.nd rfl '$' (zk5 Ze PySem.F.slot_str_split PySem.F.type_str_split zO3 P1 (za0 zc4 za1)))
     (za2 (zc2 (PW.pt (zk4 (zb9 zl9 (zc5 zc6 P3 za6 (λ_ _=>rfl)) P0 (zb8 _)) (zj3 (zb9 zl9 (zb6 zc1 rfl T.ag QF (za0 P3 za1)) (zc0 zl8 P2 za6) (zb8 _))))) (za4 zg7) zb3)
     (za4 (za9 (zo1 zY3 P3 (zs8 za6) zs7))))),?_⟩
   refine cut3 ?_;intro x y;refine⟨_,rfl,rfl,_,_,rfl,rfl,by decide,f,λl m=>?_⟩;rw[d];have c:Same H (upd H l (.lst ((front::a).map V.str))):=Same.upd m;have b:(upd H l (.lst ((front::a).map V.str))) l=some (.lst ((front::a).map V.str)):=za3;revert c b;generalize upd H l (.lst ((front::a).map V.str))=B;intro c b;refine⟨_,rfl,l,_,_,V.str front,rfl,rfl,SqL.of b,at_0,_,rfl,rfl,_,rfl,iteB (by simp) ?_⟩;refine⟨_,rfl,l,_,rfl,.inl (SqL.of b),_,rfl,_,_,rfl,rfl,rfl,_,rfl,?_⟩;refine iteB ?_ ?_
   . rw[Qb,QE,<-g]
     simp
   . refine⟨_,rfl,_,rfl,l,_,rfl,SqL.of b,λp n=>q p _ (c.updT n) ?_⟩
     rw[za3];have e:cutV ((front::a).map V.str) (some 1) none=a.map V.str:=by
       unfold cutV;have o:HT.sIx ((front::a).map V.str).length 0 (some 1)=1:=by
         unfold HT.sIx;rw[Qb,QE];simp
       have r:HT.sIx ((front::a).map V.str).length ((front::a).map V.str).length none=((front::a).map V.str).length:=rfl;rw[o,r];simp
       try exact QV (by simp)
     rw[e]
theorem ok_read_weight (T:Txt K mg t):FnOk P w K mg base CX0 4 t.aZ t.a0 Pg (sp_read_weight K t):=by
 refine T.bo.F.ok zA8 (λv H Q E h=>?_) (λB A z s H v Q E e h=>?_)
 . obtain⟨row,a,b,h,x,rfl,d,c,g,j,q⟩:=h
   rfl
 . obtain⟨row,a,b,h,x,rfl,d,c,g,j,q⟩:=h
   refine⟨_,(za2 (zb7 (i:=1) zA8.nd rfl '$' (za7 (zl1 T) e.m T.ar zb1 (za0 zc4 (za0 P0 (za0 za6 za1)))))
     (za4 (za9 (zE4 (za0 (za7 (zj9 T) e.m T.aq zb1 (za0 (zc5 zc6 P1 za6 (λ_ _=>rfl)) za1)) (za0 (za7 (zE0 T) e.m T.aV zb1 (za0 (zc5 zc6 P1 za6 (λ_ _=>rfl)) za1)) za1)))))),?_⟩
   have r:a.length<=1000000:=QD (PyProof.Rows.part_short (x:=row) (y:=Str.ofString " ") (by rw[c];simp)) d;have u:b.length<=1000000:=QD (PyProof.Rows.part_short (x:=row) (y:=Str.ofString " ") (by rw[c];simp)) d;refine⟨_,rfl,_,row,[a,b],2,rfl,d,c,rfl,λl C k m=>?_⟩;refine⟨_,rfl,l,_,_,_,rfl,rfl,SqL.of m,rfl,a,h,rfl,r,g,λD f=>?_⟩;refine⟨_,rfl,l,_,_,_,rfl,rfl,SqL.of (f _ _ m),rfl,b,x,rfl,u,j,λF n=>?_⟩;exact⟨(by show 2<=sizeLine;decide),λp o=>q p _ (((k.trans f).trans n).updT o) (((k.trans f).trans n).free o) za3⟩
theorem ok_read_beam (T:Txt K mg t):FnOk P w K mg base CX0 5 t.bs t.bt Pa (sp_read_beam K t):=by
 refine T.bG.F.ok zi6 (λvs a3 b6 b7 h=>?_) (λb9 bl b8 bm a3 vs b6 b7 F h=>?_)
 . obtain⟨z,a8,a9,a5,n,xs,rfl,hz,hR,ok,V0,ao⟩:=h
   rfl
 . obtain⟨z,a8,a9,a5,n,xs,rfl,hz,hR,ok,V0,ao⟩:=h
   refine⟨_,(za2 (zb7 (i:=1) zi6.nd rfl '$' (zk5 Ze PySem.F.slot_str_split PySem.F.type_str_split zO3 P0 (za0 zc4 za1)))
     (za2 (zc2 (zb9 zN0 (zb6 zc1 rfl T.ag QF (za0 P1 za1)) za6 (zb8 _)) (za4 zg7) zb3)
     (za2 (zb7 (i:=2) zi6.nd rfl '$' (za7 (zj9 T) F.m T.aq zb1 (za0 (zc5 zc6 (za7 (zl1 T) F.m T.ar zb1 (za0 zc4 (za0 (zc5 zc6 P1 za6 (λ_ _=>rfl)) (za0 za6 za1)))) za6 (λ_ _=>rfl)) za1)))
     (za2 (zb7 (i:=3) zi6.nd rfl '$' (za7 (zj9 T) F.m T.aq zb1 (za0 (zc5 zc6 (za7 (zl1 T) F.m T.ar zb1 (za0 zc4 (za0 (zc5 zc6 P1 za6 (λ_ _=>rfl)) (za0 za6 za1)))) za6 (λ_ _=>rfl)) za1)))
     (za2 (zb7 (i:=4) zi6.nd rfl '$' (za7 (zj9 T) F.m T.aq zb1 (za0 (zc5 zc6 (za7 (zl1 T) F.m T.ar zb1 (za0 zc4 (za0 (zc5 zc6 P1 za6 (λ_ _=>rfl)) (za0 za6 za1)))) za6 (λ_ _=>rfl)) za1)))
     (za2 (zY6 (i:=5) rfl zA5 (zg3 (zo1 zY3 P1 (zs8 za6) zs7)) (λ_ _ _ _ _=>(zc3 (i:=0) zA5.nd rfl '$')) (λ_ _ _ _ _=>zg8) (λ_ _ _ _ _=>(za7 (ok_read_weight T) F.m T.bo zb1 (za0 P0 za1))) zi6.nd rfl rfl)
     (za2 (zb7 (i:=6) zi6.nd rfl '$' (zq4 T.bS (zx8 T) F.m rfl T.b5 T.aK.b .nil zb1 (za0 P2 (za0 P3 (za0 (zk0 rfl zA6 (zg3 P5) (λ_ _ _ _ _=>(zc3 (i:=0) zA6.nd rfl '$')) (λ_ _ _ _ _=>zg8) (λ_ _ _ _ _=>(zc5 (zL2 K rfl) P0 za6 (λ_ _=>rfl)))) (za0 (pv 4) za1))))))
     (za4 (za9 (zE4 (za0 P6 (za0 (za7 (zd9 T) F.m T.ad zb1 (za0 P6 (za0 (zk0 rfl zA7 (zg3 P5) (λ_ _ _ _ _=>(zc3 (i:=0) zA7.nd rfl '$')) (λ_ _ _ _ _=>zg8) (λ_ _ _ _ _=>(zc5 (zL2 K rfl) P0 za6 (λ_ _=>rfl)))) za1))) za1)))))))))))),?_⟩
   refine cut8 ?_;intro ba bb bc bd be bf bg;obtain⟨⟨q,r,s,d,a0,a1,a2,R,p0,p1,p2,r0,r1,r2,ar,au,aq⟩⟩:=hR;have Q:∀w∈Txt.split z (Str.ofString "\n"),w.length<=1000000:=λw u=>QD (PyProof.Rows.part_short u) hz
   have aa:∀ {w a:Str} {ws:List Str},w∈Txt.split z (Str.ofString "\n")->Txt.split w (Str.ofString " ")=ws->a∈ws->a.length<=1000000:=λ{w a ws} u e ha=>QD (PyProof.Rows.part_short (x:=w) (y:=Str.ofString " ") (by rw[e];exact ha)) (Q w u)
   have m0:q∈Txt.split z (Str.ofString "\n"):=by rw[R];simp
   have m1:r∈Txt.split z (Str.ofString "\n"):=by rw[R];simp
   have m2:s∈Txt.split z (Str.ofString "\n"):=by rw[R];simp
   have mz:∀w∈d,w∈Txt.split z (Str.ofString "\n"):=λw u=>by rw[R];simp[u]
   have bh:=ok.w;refine⟨_,rfl,rfl,_,_,rfl,rfl,by decide,hz,λl hl=>?_⟩;rw[R];have s1:Same a3 (upd a3 l (.lst ((q::r::s::d).map V.str))):=Same.upd hl;have I:(upd a3 l (.lst ((q::r::s::d).map V.str))) l=some (.lst ((q::r::s::d).map V.str)):=za3;revert s1 I;generalize upd a3 l (.lst ((q::r::s::d).map V.str))=H1;intro s1 I;refine⟨_,rfl,l,_,rfl,.inl (SqL.of I),_,_,rfl,rfl,_,rfl,iteB (zN8 (by rw[Qb];simp only[QE];omega)) ?_⟩;refine⟨_,rfl,l,_,_,V.str q,rfl,rfl,SqL.of I,at_0,_,q,[a0],1,rfl,Q _ m0,p0,rfl,λl2 M C J=>?_⟩;refine⟨l2,_,_,V.str a0,rfl,rfl,SqL.of J,rfl,a0,a8,rfl,aa m0 p0 (by simp),r0,λH3 s3=>?_⟩;have ab:=C.trans s3;refine⟨_,rfl,l,_,_,V.str r,rfl,rfl,SqL.of (ab _ _ I),at_1,_,r,[a1],1,rfl,Q _ m1,p1,rfl,λl4 H4 s4 h4=>?_⟩;refine⟨l4,_,_,V.str a1,rfl,rfl,SqL.of h4,rfl,a1,a9,rfl,aa m1 p1 (by simp),r1,λH5 s5=>?_⟩;have ac:=(ab.trans s4).trans s5;refine⟨_,rfl,l,_,_,V.str s,rfl,rfl,SqL.of (ac _ _ I),at_2,_,s,[a2],1,rfl,Q _ m2,p2,rfl,λl6 H6 S h6=>?_⟩;refine⟨l6,_,_,V.str a2,rfl,rfl,SqL.of h6,rfl,a2,a5,rfl,aa m2 p2 (by simp),r2,λU s7=>?_⟩;have ad:=(ac.trans S).trans s7;have aj:=s1.trans ad;have ak:=ad _ _ I;have ec:cutV ((q::r::s::d).map V.str) (some 3) none=d.map V.str:=by
     unfold cutV;have G:HT.sIx ((q::r::s::d).map V.str).length 0 (some 3)=3:=by
       unfold HT.sIx;rw[Qb];simp only[QE];simp
     have W:HT.sIx ((q::r::s::d).map V.str).length ((q::r::s::d).map V.str).length none=((q::r::s::d).map V.str).length:=rfl;rw[G,W];simp;exact QV (by simp)
   clear C s3 s4 s5 S s7 J h4 h6 ab ac;refine⟨_,rfl,_,rfl,l,_,rfl,SqL.of ak,λp fp=>?_⟩;rw[ec];have N:Same U (upd U p (.lst (d.map V.str))):=Same.upd fp;have X:(upd U p (.lst (d.map V.str))) p=some (.lst (d.map V.str)):=za3;revert N X;generalize upd U p (.lst (d.map V.str))=H8;intro N X;refine⟨p,rfl,⟨_,SqL.of X⟩,λD hD=>?_⟩;have bi:sizeLine=16777216:=by decide
   refine zi3 (K:=K) (a:=p) (xs:=d.map V.str) (λi f=>Same H8 f/\∃g:List Addr,g.length=i/\f D=some (.lst (g.map V.ref))/\∀(j:Nat) c h x,g[j]?=some c->n[j]?=some h->xs[j]?=some x->f c=some (.tup [.int h,.int x]))
     ⟨Same.upd hD,[],rfl,za3,λj c h x e=>by simp at e⟩ (λi f v=>SqL.of (v.1 _ _ X)) (λi x f a4 A v hN=>?_) (λf v=>?_)
   . dsimp only[zm9]
     rw[QK] at A;cases u:d[i]? with
     | none=>rw[u] at A;cases A
     | some wd =>
       rw[u] at A;cases A;have bj:i<d.length:=by
         rcases QP i d.length with h | h
         . exact h
         . rw[QT h] at u;cases u
       have eh:n[i]?=some n[i]:=by simp
       have ex:xs[i]?=some xs[i]:=by simp
       obtain⟨wa,wb,k1,k2,k3⟩:=aq i wd _ _ u eh ex;obtain⟨L,g,rl,H,a6⟩:=v;refine iteT ⟨_,rfl,wd,wa,wb,_,_,rfl,Q _ (mz _ (Qy u)),k1,k2,k3,λc M C fc Y=>⟨_,C _ _ H,?_,hN _ ⟨(L.trans C).put hD,g++[c],?_,?_,?_⟩⟩⟩
       . rw[Qb];omega
       . rw[Qr,rl];rfl
       . rw[za3,Qq];rfl
       . intro j c' h x G W e3
         have cD:c≠D:=λe=>by rw[e,H] at fc;cases fc
         rcases QP j g.length with B | B
         . rw[Zn B] at G
           have h0:=a6 j c' h x G W e3;have av:c'≠D:=λe=>by rw[e,H] at h0;cases h0
           rw[za8 av];exact C _ _ h0
         . rw[Zd B] at G
           have ej:j-g.length=0:=by
             rcases Nat.eq_zero_or_pos (j-g.length) with h | h
             . exact h
             . rw[QT (by simp;omega)] at G;cases G
           have aw:j=i:=by omega
           rw[ej] at G;cases G;subst aw;rw[eh] at W;rw[ex] at e3;cases W;cases e3;rw[za8 cD];exact Y
   . obtain⟨L,g,rl,H,a6⟩:=v
     have ax:g.length=n.length:=by rw[rl,Qb];exact ar
     have ay:=(aj.trans N).trans L;clear ad ak I X s1 aj N L
     have ai:∀(O:Hp) (k:Addr),Same f O->O k=none->∀(ag:Int) (Z:'#'),Z.length=n.length->(∀(j:Nat) c,g[j]?=some c->∃y,Z[j]?=some y/\∃xs,f c=some (.tup xs)/\atI xs ag=some (.int y)) →
         ∀Q2:Hp->Prop,Q2 (upd O k (.lst (Z.map V.int)))->∃ah:Nat->Nat->St->Hp->Prop,(∃m,ah 0 m [none] (upd O k (.lst [])))/\∀i m σ' f,ah i m σ' f->((Itl K D).stop i f/\Q2 f)\/((Itl K D).go i f/\∃a4:St->Hp->Prop,(∀σ2 M,a4 σ2 M->∃m',m'<m/\ah (i+1) m' σ2 M) ∧
           ∀ap M,(Itl K D).yld i f ap M->zp7 0 ap σ' M λσ3 H3=>zm9 σ3 H3 λb H4=>if b=true then zo3 k (tOp (rIxT K) (tVar 0) (tC (V.int ag))) a4 σ3 H4 else a4 σ3 H4):=λO k sm E ag Z az hy Q2 q2=>by
       have nD:D≠k:=λe=>by rw[<-e] at E;rw[sm _ _ H] at E;cases E
       refine zi3 (K:=K) (a:=D) (xs:=g.map V.ref) (λi a7=>a7=upd O k (.lst ((Z.take i).map V.int))) rfl (λi a7 v=>by rw[v];exact SqL.of (by rw[za8 nD];exact sm _ _ H)) (λi x a7 a4 A v hN=>?_) (λa7 v=>?_)
       . subst v
         dsimp only[zm9];rw[QK] at A;cases Y:g[i]? with
         | none=>rw[Y] at A;cases A
         | some c =>
           rw[Y] at A;cases A;obtain⟨y,ey,tx,al,b0⟩:=hy i c Y;have nc:c≠k:=λe=>by rw[<-e] at E;rw[sm _ _ al] at E;cases E
           refine iteT ⟨_,rfl,c,tx,_,_,rfl,rfl,SqT.of (by rw[za8 nc];exact sm _ _ al),b0,_,za3,?_,hN _ ?_⟩
           . rw[Qb,QW];omega
           . rw[zh5,QY,Qq,ey]
             rfl
       . rw[Qb,ax,<-az,QO] at v
         rw[v];exact q2
     refine⟨_,rfl,_,rfl,_,rfl,D,rfl,⟨_,SqL.of H⟩,λk E=>?_⟩;refine ai f k (Same.refl _) E 0 n rfl (λj c B=>?_) _ ?_
     . have b1:j<g.length:=by
         rcases QP j g.length with h | h
         . exact h
         . rw[QT h] at B;cases B
       exact⟨n[j],by simp,_,a6 j c _ (xs[j]' '!') B (by simp) (by simp),at_0⟩
     have C:=Same.upd (o:=.lst (n.map V.int)) E;have J:(upd f k (.lst (n.map V.int))) k=some (.lst (n.map V.int)):=za3;revert C J;generalize upd f k (.lst (n.map V.int))=ae;intro C J;refine⟨_,rfl,λb dx fb af b2=>?_⟩;have s4:Same ae (upd (upd ae dx (.own b)) b (.ins t.ah dx [])):=(Same.upd af).updT (by rw[za8 (Ne.symm b2)];exact fb);have b3:k≠b:=λe=>by rw[<-e,J] at fb;cases fb
     have b4:k≠dx:=λe=>by rw[<-e,J] at af;cases af
     refine⟨b,dx,k,a8,a9,a5,n,rfl,za3,.inl (SqL.of (by rw[za8 b3,za8 b4];exact J)),ok,λH5 B5 s5=>⟨rfl,?_⟩⟩;have b5:Same ae H5:=λc o e=>s5 c o (s4 c o e) (zb5 e fb)
     have L:=C.trans b5;refine⟨_,rfl,_,rfl,_,rfl,D,rfl,⟨_,SqL.of (L _ _ H)⟩,λD3 am=>?_⟩;refine ai H5 D3 L am 1 xs au (λj c B=>?_) _ ?_
     . have b1:j<g.length:=by
         rcases QP j g.length with h | h
         . exact h
         . rw[QT h] at B;cases B
       exact⟨xs[j]' '!',by simp,_,a6 j c (n[j]' '!') _ B (by simp) (by simp),at_1⟩
     have S:=Same.upd (o:=.lst (xs.map V.int)) am;refine⟨b,D3,a8,a9,a5,n,xs,rfl,B5.same S,V0,.inl (SqL.of za3),λl7 U s7 h7=>?_⟩;refine⟨(by show 2<=sizeLine;decide),λl8 f8=>?_⟩;have N:=Same.upd (o:=.tup [.ref b,.ref l7]) f8;have an:=(S.trans s7).trans N;exact ao l8 b l7 _ ((ay.trans L).trans an) (B5.same an) (N _ _ h7) za3
end
section
variable {P:Program} {w:World} {K:W.Frag} {mg:Str->Option Value} {base:Heap} {t:Adr}
theorem Goes.det {n r:Int}{d:'#'}{c:Int}:∀ {x:'#'} {a:List (Nat×Int)} {y z:'#'},Goes n r d c x a y->Goes n r d c x a z->y=z
 | x,[],y,z,h,b=>h.symm.trans b
 | x,m::a,y,z,h,b=>Goes.det h.2 b.2
theorem Goes.valid {n r:Int}{d:'#'}{c:Int}{w:Nat}:∀ {x:'#'} {b:List (Nat×Int)} {y:'#'},Goes n r d c x b y->zc7 n r w x->zc7 n r w y
 | x,[],y,h,a=>h▸a
 | x,m::b,y,h,a=>Goes.valid h.2 (h.1.valid a)
theorem zh4.at {H:Hp}{n r:Int}{f:'#'}{d:Int}:∀ {x:'#'} {c:List Addr} {b:List (Nat×Int)} {y:'#'},zh4 H x c b->Goes n r f d x b y->∀ {i:Nat} {v:V},(c.map V.ref)[i]?=some v->∃a m z,v = .ref a/\b[i]?=some m/\Goes n r f d x (b.take i) z/\zv7 H z a m/\Lets n r f d z m.1 m.2
 | _,[],[],_,_,_,i,v,h=>by simp at h
 | _,[],_::_,_,h,_,_,_,_=>h.elim
 | _,_::_,[],_,h,_,_,_,_=>h.elim
 | x,a::c,m::b,y,h,hG,0,v,e=>⟨a,m,x,(Qx e).symm,rfl,rfl,h.1,hG.1⟩
 | x,a::c,m::b,y,h,hG,i+1,v,e=>by
   obtain⟨g,j,z,k,l,o,p⟩:=zh4.at h.2 hG.2 (i:=i) e;exact⟨g,j,z,k,l,⟨hG.1,o⟩,p⟩
theorem Goes.snoc {n r:Int}{b:'#'}{a:Int}:∀ {x:'#'} {c:List (Nat×Int)} {y:'#'} {m:Nat×Int},Goes n r b a x c y->Lets n r b a y m.1 m.2->Goes n r b a x (c++[m]) (y.set m.1 m.2)
 | x,[],y,m,h,L=>by
   obtain rfl:x=y:=h;exact⟨L,rfl⟩
 | x,m'::c,y,m,h,L=>⟨h.1,Goes.snoc h.2 L⟩
noncomputable def ye7 (k s p:Int):Str:=Txt.join (Str.ofString " ") [sI k,zd5 s,zd5 p]
def sp_write_move (K:W.Frag)(t:Adr):Sp:=λvs H Q _=>∃(a:Addr) (k s p:Int),vs=[.ref a]/\SqT K H a [.int k,.int s,.int p]/\(0<=k/\k<=9999)/\(-9999<=s/\s<=9999)/\(-9999<=p/\p<=9999)/\∀H',Same H H'->Q (.str (ye7 k s p)) H'
theorem zC7 {n:Int}(h0:-9999<=n)(h:n<=9999):(sI n).length<=20:=by
 by_cases a:0<=n
 . have:=zt7 (n:=n) a '!'
   omega
 . obtain⟨k,rfl⟩:∃k:Nat,n = -(((k+1:Nat)):Int):=⟨(-n).toNat-1,by omega⟩
   have e:toString (-(((k+1:Nat)):Int)) = "-"++toString (k+1):=rfl;have d:=zt7 (n:=((k+1:Nat):Int)) '!' '!';have b:sI (-(((k+1:Nat)):Int))=Str.ofString "-"++sI (((k+1:Nat)):Int):=by
     have c:toString (((k+1:Nat)):Int)=toString (k+1):=rfl;unfold sI;rw[e,c];refine zn6 ?_;rw[zh7,PySem.Str.ofString_eq_toList,PySem.Str.ofString_eq_toList,PySem.Str.ofString_eq_toList];simp
   rw[b,zd1];have f:(Str.ofString "-").length=1:=by decide
   omega
theorem zt4 {x:Int}(h0:-9999<=x)(h:x<=9999):(zd5 x).length<=20:=by
 unfold zd5
 split
 . decide
 . exact zC7 h0 h
theorem zE1 (T:Txt K mg t):FnOk P w K mg base CX0 2 t.bd t.be Pc (sp_write_move K t):=by
 refine T.aU.F.ok sc_write_move (λj H Q E h=>?_) (λv A u s H j Q E c h=>?_)
 . obtain⟨a,k,s,p,rfl,b,⟨m,d⟩,⟨e,f⟩,⟨g,i⟩,q⟩:=h
   rfl
 . obtain⟨a,k,s,p,rfl,b,⟨m,d⟩,⟨e,f⟩,⟨g,i⟩,q⟩:=h
   refine⟨_,(za4 (za9 (zk5 Ze PySem.F.slot_str_join PySem.F.type_str_join zL6 zc4 (za0 (zf8 (za0 (zd2 zf1 rfl T.aE Zg (za0 (zc5 zi2 P0 za6 (λ_ _=>rfl)) za1)) (za0 (za7 (zs3 T) c.m T.aD zb1 (za0 (zc5 zi2 P0 za6 (λ_ _=>rfl)) za1)) (za0 (za7 (zs3 T) c.m T.aD zb1 (za0 (zc5 zi2 P0 za6 (λ_ _=>rfl)) za1)) za1)))) za1)))),?_⟩;refine⟨rfl,_,rfl,a,_,_,_,rfl,rfl,b,at_0,k,rfl,zh3 '!',?_⟩;refine⟨_,rfl,a,_,_,_,rfl,rfl,b,at_1,s,rfl,by omega,?_⟩;refine⟨_,rfl,a,_,_,_,rfl,rfl,b,at_2,p,rfl,by omega,(by show 3<=sizeLine;decide),λl o=>?_⟩;refine⟨_,l,[sI k,zd5 s,zd5 p],rfl,rfl,SqL.of za3,?_,q _ (Same.upd o)⟩;have:=zC7 (n:=k) '!' d;have:=zt4 e f;have:=zt4 g i;have r:(Str.ofString " ").length=1:=by decide
   simp only[QB,List.map_nil,List.sum_cons,List.sum_nil,QE,List.length_nil,r];omega
noncomputable def okH (z:Str):Bool:=match z.cps.toList with
 | c::_=>c != 114
 | []=>false
noncomputable def RefG:Str:=Str.ofString "refused: "++Str.ofString "goal past"
theorem zq8 {a b:Str}(h:okH a=true):okH (a++b)=true:=by
 unfold okH at h ⊢;rw[zh7];cases e:a.cps.toList with
 | nil=>rw[e] at h;cases h
 | cons c l=>rw[e] at h;exact h
theorem yg5 {z y:Str}(h:okH z=true)(a:okH y=false):z≠y:=λe=>by rw[e,a] at h;cases h
theorem yq6:∀k:Nat,k<1001->okH (sI (k:Int))=true:=by decide +kernel
theorem zH9 {xs:'#'}(h:∀x∈xs,-4<=x/\x<=4):yq5 (zd7 xs) xs:=by
 have f:∀ {x:Int},-4<=x->x<=4->zq5 (zd5 x)=some x/\32∉(zd5 x).cps.toList/\zd5 x≠Str.ofString "none":=λ{x} l m=>by
   have:x = -4\/x = -3\/x = -2\/x = -1\/x=0\/x=1\/x=2\/x=3\/x=4:=by omega
   rcases this with rfl | rfl | rfl | rfl | rfl | rfl | rfl | rfl | rfl<;>decide +kernel
 unfold zd7;by_cases e:xs=[]
 . rw[Ql e]
   exact .inl ⟨rfl,e⟩
 . rw[Qg e]
   have d:Txt.split (Txt.join (Str.ofString " ") (xs.map zd5)) (Str.ofString " ")=xs.map zd5:=by
     rw[zz2];refine zw7 (λz=>e (List.map_eq_nil_iff.mp z)) λw g=>?_
     obtain⟨x,c,rfl⟩:=QQ.mp g;obtain⟨a,b⟩:=h x c;exact(f a b).2.1
   refine .inr ⟨λz=>?_,?_⟩
   . rw[z] at d
     have i:Txt.split (Str.ofString "none") (Str.ofString " ")=[Str.ofString "none"]:=by decide +kernel
     rw[i] at d;have j:Str.ofString "none"∈xs.map zd5:=by rw[<-d];exact QG.mpr rfl
     obtain⟨x,c,k⟩:=QQ.mp j;obtain⟨a,b⟩:=h x c;exact(f a b).2.2 k
   . rw[d,Zt]
     refine List.map_congr_left λx c=>?_
     obtain⟨a,b⟩:=h x c;exact(f a b).1
theorem zs4 {xs:'#'}{n:Int}(h:∀x∈xs,-n<=x/\x<=n)(a:n<=4)(d:xs.length<=5):(zd7 xs).length<=100:=by
 unfold zd7
 split
 . decide
 . have:=zt3 h a
   have b:=size_glued (Str.ofString " ") (xs.map zd5);have c:(Str.ofString " ").length=1:=by decide
   rw[c,Qb] at b;show(Builtin.Str.glued _ _).length<=100;omega
theorem zW8 {xs:'#'}(h:∀x∈xs,-4<=x/\x<=4):zd7 xs≠RefG:=λe=>by
 have R:=zH9 h;rw[e] at R;have b:(Txt.split RefG (Str.ofString " ")).map zq5=[none,none,none]:=by decide +kernel
 rcases R with⟨z,_⟩ | ⟨_,a⟩
 . exact absurd z '('
 . rw[b] at a
   cases xs with
   | nil=>cases a
   | cons x xs=>cases a
theorem wMove_ok {k:Nat}{u q:Int}(h:k<1001):okH (ye7 (k:Int) u q)=true:=by
 have e:ye7 (k:Int) u q=sI (k:Int)++(((Str.ofString " "++zd5 u)++Str.ofString " ")++zd5 q):=by
   refine zn6 ?_;show(Builtin.Str.glued _ _).cps.toList=_;rw[StrLaws.glued_eq_join];show(Str.join (Str.ofString " ") [sI k,zd5 u,zd5 q]).cps.toList=_;simp only[Str.join,zh7,QR]
 rw[e];exact zq8 (yq6 k h)
theorem yq7 {n r i:Int}{c s g:'#'}{d:Nat}(ok:zi0 n r c i)(l:zc7 n r c.length s)(m:Dst n r c i s d g):d<1000:=by
 have f:∀e,∃y,e<=d->Dst n r c i s e y:=λe=>if h:e<=d then(m.below e h).imp λy z _=>z else⟨[],λz=>absurd z h⟩
 have o:∀y∈(List.range (d+1)).map λe=>Classical.choose (f e),zc7 n r c.length y:=λy p=>by
   obtain⟨e,q,rfl⟩:=QQ.mp p;exact(Classical.choose_spec (f e) (by have:=ZJ.mp q;omega)).1.valid l
 have t:((List.range (d+1)).map λe=>Classical.choose (f e)).Nodup:=by
   refine List.pairwise_map.mpr (List.Pairwise.imp_of_mem (λ{a b} u v k z=>k ?_) List.nodup_range);have j:=Classical.choose_spec (f a) (by have:=ZJ.mp u;omega);have w:=Classical.choose_spec (f b) (by have:=ZJ.mp v;omega);rw[z] at j;exact j.uniq w
 have:=few ok t o;rw[Qb,List.length_range] at this;omega
inductive Dq
 | few (g:'#')
 | next (g:'#')
 | least (g:'#')
 | show_
noncomputable def yq8:Dq->Str
 | .few _=>Str.ofString "fewest"
 | .next _=>Str.ofString "next"
 | .least _=>Str.ofString "least"
 | .show_=>Str.ofString "show"
noncomputable def zy2:Dq->List Int
 | .few g=>g
 | .next g=>g
 | .least g=>g
 | .show_=>[]
noncomputable def zB2:Dq->Str
 | .few g=>Str.ofString "fewest "++zd7 g
 | .next g=>Str.ofString "next "++zd7 g
 | .least g=>Str.ofString "least "++zd7 g
 | .show_=>Str.ofString "show"
noncomputable def zI0 (lim:Int)(hs:'#'):Dq->Prop
 | .few g=>lim<absI (zb4 hs g)
 | .next g=>lim<absI (zb4 hs g)
 | _=>False
noncomputable def AnsZ (c:'#'):Dq->Str->Prop
 | .show_,z=>z=zd7 c
 | _,z=>okH z=true
def AnsR (lim:Int)(hs c:'#')(d:Dq)(z:Str):Prop:=(zI0 lim hs d/\z=RefG)\/(¬ zI0 lim hs d/\z≠RefG/\(d = .show_->z=zd7 c))
structure zS3 (t:Adr)(H:Hp)(p b s0 x m:Addr)(n r lim:Int)(hs s c:'#')(ys:List V)(ms:List (List Int)):Prop where
 pl:zp6 t H p b s0 x m n r hs lim s c ys ms
 vc:zc7 n r hs.length c
 kc:absI (zb4 hs c)<=lim
theorem zS3.same {t:Adr}{H H':Hp}{p b d x m:Addr}{n r a:Int}{f s c:'#'}{ys:List V}{g:List (List Int)}(A:zS3 t H p b d x m n r a f s c ys g)(e:Same H H'):zS3 t H' p b d x m n r a f s c ys g:=⟨A.pl.same e,A.vc,A.kc⟩
def yl7 (t:Adr)(H:Hp)(p:Addr)(d:Dq)(Q:VK)(E:XK):Prop:=∃(b s0 x m:Addr) (n r lim:Int) (hs s c:'#') (ys:List V) (ms:List (List Int)),zS3 t H p b s0 x m n r lim hs s c ys ms/\(d = .show_\/zc7 n r hs.length (zy2 d)) ∧
 (zI0 lim hs d->∀od H',Told H H' od "goal past"->E (.ref t.ab) od H')/\(d≠.show_->¬ zI0 lim hs d->∀od H',Told H H' od "no way"->E (.ref t.ac) od H')/\(¬ zI0 lim hs d->∀z H',Same H H'->AnsZ c d z->Q (.str z) H')
def sp_tell_moves (K:W.Frag)(t:Adr):Sp:=λvs H Q _=>∃(l:Addr) (n r lim:Int) (hs s g:'#') (rs:List Addr) (ms:List (Nat×Int)),vs=[.ref l]/\H l=some (.lst (rs.map V.ref))/\zh4 H s rs ms/\Goes n r hs lim s ms g/\zc7 n r hs.length s/\n<=4/\hs.length<=5/\ms.length<=1000/\∀z H',Same H H'->okH z=true->z.length<=100000->Q (.str z) H'
def sp_tell_way (K:W.Frag)(t:Adr):Sp:=λvs H Q _=>∃(wy:Addr) (n r lim:Int) (hs s g:'#'),vs=[.ref wy]/\zi0 n r hs lim/\zc7 n r hs.length s/\zK4 t H wy n r hs lim s g/\∀z H',Same H H'->okH z=true->Q (.str z) H'
def sp_tell_next (K:W.Frag)(t:Adr):Sp:=λvs H Q _=>∃(v:V) (n r lim:Int) (hs s:'#'),vs=[v]/\zi0 n r hs lim/\zc7 n r hs.length s/\yp8 n r hs lim s H v/\∀z H',Same H H'->okH z=true->Q (.str z) H'
def sp_tell_least (K:W.Frag)(t:Adr):Sp:=λvs H Q _=>∃(l:Addr) (n r lim:Int) (hs s g:'#'),vs=[.ref l]/\zi0 n r hs lim/\zc7 n r hs.length s/\zH8 t H l n r hs s g/\∀z H',Same H H'->okH z=true->Q (.str z) H'
def sp_answer_words (K:W.Frag)(t:Adr):Sp:=λvs H Q E=>∃(p:Addr) (d:Dq),vs=[.ref p,.str (yq8 d),.str (zd7 (zy2 d))]/\d≠.show_/\yl7 t H p d Q E
def sp_answer_row (K:W.Frag)(t:Adr):Sp:=λvs H Q E=>∃(p:Addr) (d:Dq),vs=[.ref p,.str (zB2 d)]/\yl7 t H p d Q E
def sp_answer (K:W.Frag)(t:Adr):Sp:=λvs H Q _=>∃(p b s0 x m:Addr) (n r lim:Int) (hs s c:'#') (ys:List V) (ms:List (List Int)) (d:Dq),vs=[.ref p,.str (zB2 d)]/\zS3 t H p b s0 x m n r lim hs s c ys ms/\(d = .show_\/zc7 n r hs.length (zy2 d))/\∀z H',Same H H'->AnsR lim hs c d z->Q (.str z) H'
theorem ye8:∀ {ws:List Str},(∀w∈ws,w.length<=62)->(ws.map (·.length)).sum<=62*ws.length
 | [],_=>by simp
 | w::ws,h=>by
   have:=ye8 (ws:=ws) λw a=>h w (Qv _ a)
   have:=h w QC;rw[QB,List.sum_cons,QE];omega
theorem wMove_len {k u q:Int}(k1:-9999<=k/\k<=9999)(a:-9999<=u/\u<=9999)(b:-9999<=q/\q<=9999):(ye7 k u q).length<=62:=by
 have d:=zC7 k1.1 k1.2;have e:=zt4 a.1 a.2;have f:=zt4 b.1 b.2;have c:(Str.ofString " ").length=1:=by decide
 have h:=size_glued (Str.ofString " ") [sI k,zd5 u,zd5 q];rw[c] at h;simp only[QB,List.map_nil,List.sum_cons,List.sum_nil,QE,List.length_nil] at h;show(Builtin.Str.glued _ _).length<=62;omega
theorem zE2 (T:Txt K mg t):FnOk P w K mg base CX0 3 t.bj t.bk Pg (sp_tell_moves K t):=by
 refine T.aW.F.ok zD5 (λM H a0 a1 h=>?_) (λa5 ac a4 s H M a0 a1 N h=>?_)
 . obtain⟨l,n,a2,F,O,s,a3,p,b,rfl,e,R,G,v,Q,S,U,q⟩:=h
   rfl
 . obtain⟨l,n,a2,F,O,s,a3,p,b,rfl,e,R,G,v,Q,S,U,q⟩:=h
   refine⟨_,(za2 (zb7 (i:=1) zD5.nd rfl '$' (zc0 zd4 (zd2 zf1 rfl T.aE Zg (za0 (zb6 zc1 rfl T.ag QF (za0 P0 za1)) za1)) zc4))
     (za2 (zc2 (zb9 zg1 (zb6 zc1 rfl T.ag QF (za0 P0 za1)) za6 (zb8 _)) (za4 (za9 P1)) zb3)
     (za4 (za9 (zc0 zd4 (zc0 zd4 P1 zc4) (zk5 Ze PySem.F.slot_str_join PySem.F.type_str_join zL6 zc4 (za0 (zk0 rfl zy5 (zg3 P0) (λ_ _ _ _ _=>(zc3 (i:=0) zy5.nd rfl '$')) (λ_ _ _ _ _=>zg8) (λ_ _ _ _ _=>(za7 (zE1 T) N.m T.aU zb1 (za0 P0 za1)))) za1))))))),?_⟩
   refine cut3 ?_;intro a6 a7;have e1:(Str.ofString " moves").length=6:=by decide
   have e2:(Str.ofString ": ").length=2:=by decide
   have y:(Str.ofString ", ").length=2:=by decide
   have a8:sizeLine=16777216:=by decide
   have r:=R.len;have l1:=zC7 (n:=(b.length:Int)) '!' '!';have u:okH (sI (b.length:Int)++Str.ofString " moves")=true:=zq8 (yq6 b.length '!');refine⟨_,rfl,l,_,rfl,.inl (SqL.of e),?_⟩;rw[Qb,r];refine⟨(b.length:Int),rfl,zh3 '!',_,_,rfl,rfl,(by show(sI (b.length:Int)).length+(Str.ofString " moves").length<=sizeLine;omega),?_⟩;refine⟨_,rfl,l,_,rfl,.inl (SqL.of e),rfl,_,rfl,?_⟩;refine ite2 (λW=>?_) (λW=>?_)
   . exact⟨_,rfl,q (sI (b.length:Int)++Str.ofString " moves") H (Same.refl _) u (by rw[zd1];omega)⟩
   . refine⟨_,rfl,_,_,rfl,rfl,(by show(sI (b.length:Int)++Str.ofString " moves").length+(Str.ofString ": ").length<=sizeLine;rw[zd1];omega),?_⟩
     refine⟨rfl,_,rfl,l,rfl,⟨_,SqL.of e⟩,λD A=>?_⟩;refine zi3 (K:=K) (a:=l) (xs:=p.map V.ref) (λi f=>Same H f/\∃c:List Str,f D=some (.lst (c.map V.str))/\c.length=i/\∀w∈c,w.length<=62) ⟨Same.upd A,[],za3,rfl,λ_ h=>nomatch h⟩ (λi f g=>SqL.of (g.1 _ _ e)) (λi x f ad B g X=>?_) (λf g=>?_)
     . dsimp only[zm9]
       obtain⟨a,m,z,rfl,em,Y,Z,L⟩:=R.at G B;have C:=Y.valid v;have z5:=C.len;have I:=L.lt;have a9:=L.on;have aa:=C.on (z.getD m.1 0) (zo7 I);have ab:i<p.length:=by have:=(QN.mp B).1;rwa [Qb] at this
       obtain⟨j,c,k,d,o⟩:=g;refine iteT ⟨_,rfl,a,(m.1:Int)+1,z.getD m.1 0,m.2,rfl,SqT.of (j _ _ Z),by omega,by omega,by omega,λH2 E=>⟨_,E _ _ k,?_,X _ ⟨(j.trans E).put A,c++[ye7 ((m.1:Int)+1) (z.getD m.1 0) m.2],?_,?_,?_⟩⟩⟩
       . rw[Qb]
         omega
       . rw[za3,Qq]
         rfl
       . rw[Qr,d];rfl
       . intro w J
         rcases Qs.mp J with h | h
         . exact o w h
         . rw[QG.mp h]
           exact wMove_len '!' '!' '!'
     . obtain⟨j,c,k,d,o⟩:=g
       rw[Qb,r] at d;have sl:=ye8 o;have jl:(Txt.join (Str.ofString ", ") c).length<=62*b.length+2*b.length:=by
         have h:=size_glued (Str.ofString ", ") c;rw[y] at h;show(Builtin.Str.glued _ _).length<=_;rw[d] at h sl;omega
       exact⟨_,D,c,rfl,rfl,SqL.of k,by rw[y];rw[d] at sl ⊢;omega,_,_,rfl,rfl,(by show((sI (b.length:Int)++Str.ofString " moves")++Str.ofString ": ").length+(Txt.join (Str.ofString ", ") c).length<=sizeLine;rw[zd1,zd1];omega),q (((sI (b.length:Int)++Str.ofString " moves")++Str.ofString ": ")++Txt.join (Str.ofString ", ") c) _ j (zq8 (zq8 u)) (by rw[zd1,zd1,zd1];omega)⟩
theorem ok_tell_way (T:Txt K mg t):FnOk P w K mg base CX0 4 t.bB t.bC ["way"] (sp_tell_way K t):=by
 refine T.bW.F.ok sc_tell_way (λv H Q E h=>?_) (λY a3 V s H v Q E y h=>?_)
 . obtain⟨b,n,r,j,i,s,g,rfl,ok,f,W,q⟩:=h
   rfl
 . obtain⟨b,n,r,j,i,s,g,rfl,ok,f,W,q⟩:=h
   refine⟨_,(za2 (zc2 (ze8 (zd3 (zc8 P0 rfl))) (za4 (za9 (zc0 zd4 (zc0 zd4 zc4 (zd2 zf1 rfl T.aE Zg (za0 (zb6 zc1 rfl T.ag QF (za0 (zc8 P0 rfl) za1)) za1))) zc4))) zb3)
     (za4 (za9 (za7 (zE2 T) y.m T.aW zb1 (za0 (zc8 P0 rfl) za1))))),?_⟩
   rcases W with⟨d,k,A,B,C,D,F,G,Z,m,I,⟨c,a⟩,l,o,J,X,_⟩ | ⟨a0,k,C,D,F,G,m,e,S,⟨c,a⟩,l,_,_,_,_,_,p,TS,u,mem⟩
   . refine⟨_,rfl,b,_,c,_,_,rfl,a,T.aa,T.ae,zh2 _ _ _ _ _ _,_,rfl,iteF ?_⟩
     have:=yq7 ok f I;exact⟨_,rfl,b,_,c,_,_,rfl,a,T.aa,T.ap,zE8 _ _ _ _ _ _,k,n,r,j,i,s,g,A,B,rfl,l,o,J,f,ok.n2,ok.w,by omega,λz L M N _=>q z L M N⟩
   . refine⟨_,rfl,b,_,c,_,_,rfl,a,T.aa,T.ae,zh2 _ _ _ _ _ _,_,rfl,iteT ?_⟩
     have O:=zH6 u;have R:∀x∈S,zc7 n r i.length x:=λx U=>let⟨_,h⟩:=(mem x).mp U;h.1.valid f
     have hf:=few ok O R;have a1:e.length=S.length:=zz6 TS;have a2:sizeLine=16777216:=by decide
     have e1:(Str.ofString "no way: ").length=8:=by decide
     have e2:(Str.ofString " standings").length=10:=by decide
     have l1:=zC7 (n:=(e.length:Int)) '!' '!';refine⟨_,rfl,b,_,c,_,_,rfl,a,T.aa,T.a5,yl2 _ _ _ _ _ _,m,_,rfl,.inl (SqL.of p),(e.length:Int),rfl,zh3 '!',_,_,rfl,rfl,(by show(Str.ofString "no way: ").length+(sI (e.length:Int)).length<=sizeLine;omega),_,_,rfl,rfl,(by show(Str.ofString "no way: "++sI (e.length:Int)).length+(Str.ofString " standings").length<=sizeLine;rw[zd1];omega),?_⟩;exact q _ H (Same.refl _) (zq8 (zq8 '&'))
theorem ok_tell_next (T:Txt K mg t):FnOk P w K mg base CX0 3 t.bw t.bx Pc (sp_tell_next K t):=by
 refine T.bI.F.ok sc_tell_next (λe H Q E h=>?_) (λp A o s H e Q E f h=>?_)
 . obtain⟨v,n,r,c,g,s,rfl,ok,b,h,q⟩:=h
   rfl
 . obtain⟨v,n,r,c,g,s,rfl,ok,b,h,q⟩:=h
   refine⟨_,(za2 (zc2 (zb9 yf5 P0 zr4 (zb8 _)) (za4 (za9 zc4)) zb3)
     (za4 (za9 (za7 (zE1 T) f.m T.aU zb1 (za0 P0 za1))))),?_⟩
   rcases h with rfl | ⟨a,m,rfl,i,L⟩
   . exact⟨_,rfl,rfl,_,rfl,iteT (q (Str.ofString "there") H (Same.refl _) '&')⟩
   . have d:=L.lt
     have u:=L.on;have x:=b.on (s.getD m.1 0) (zo7 d);have y:=ok.w;have z:=b.len;have B:=ok.n2;exact⟨_,rfl,rfl,_,rfl,iteF ⟨_,rfl,a,(m.1:Int)+1,s.getD m.1 0,m.2,rfl,SqT.of i,by omega,by omega,by omega,λj l=>q _ j l (wMove_ok (k:=m.1+1) '!')⟩⟩
theorem ok_tell_least (T:Txt K mg t):FnOk P w K mg base CX0 4 t.bl t.bm ["low"] (sp_tell_least K t):=by
 refine T.bx.F.ok sc_tell_least (λm H Q E h=>?_) (λI A G s H m Q E o h=>?_)
 . obtain⟨l,n,r,i,a,s,g,rfl,ok,b,c,q⟩:=h
   rfl
 . obtain⟨l,n,r,i,a,s,g,rfl,ok,b,c,q⟩:=h
   refine⟨_,(za4 (za9 (zc0 zd4 (zc0 zd4 (zc0 zd4 zc4 (zd2 zf1 rfl T.aE Zg (za0 (zc8 P0 rfl) za1))) zc4) (za7 (zE2 T) o.m T.aW zb1 (za0 (zc8 P0 rfl) za1))))),?_⟩;obtain⟨L,e,j,N,d,p,u,O,S,f,R,v,x,y,B,C,U,_⟩:=c
   have J:0<=zk9 a s g:=by unfold zk9 absI;split<;>split<;>omega
   have k:zi0 n r a L:=⟨ok.n1,ok.n2,ok.r1,ok.r2,by omega,v,ok.w,ok.h,ok.most⟩;have:=yq7 k b x;have M:sizeLine=16777216:=by decide
   have V:(Str.ofString "limit ").length=6:=by decide
   have W:(Str.ofString ": ").length=2:=by decide
   have X:=zC7 (n:=L) '!' '!';refine⟨_,rfl,l,_,e,_,_,rfl,f,T.al,T.ak,zw0 _ _ _,L,rfl,zh3 '!',_,_,rfl,rfl,(by show(Str.ofString "limit ").length+(sI L).length<=sizeLine;omega),_,_,rfl,rfl,(by show(Str.ofString "limit "++sI L).length+(Str.ofString ": ").length<=sizeLine;rw[zd1];omega),?_⟩;exact⟨_,rfl,l,_,e,_,_,rfl,f,T.al,T.aX,yp9 _ _ _,j,n,r,L,a,s,g,p,u,rfl,y,B,C,b,ok.n2,ok.w,by omega,λz D F _ Y=>⟨_,_,rfl,rfl,(by show((Str.ofString "limit "++sI L)++Str.ofString ": ").length+z.length<=sizeLine;rw[zd1,zd1];omega),q _ D F (zq8 (zq8 (zq8 '&')))⟩⟩
end
section
variable {P:Program} {w:World} {K:W.Frag} {mg:Str->Option Value} {base:Heap} {t:Adr}
theorem zp6.updL {t:Adr}{H:Hp}{p b s x m l:Addr}{n r g:Int}{h a c:'#'}{ys:List V}{i:List (List Int)}{vs:List V}{o:HO}(P:zp6 t H p b s x m n r h g a c ys i)(j:H l=some (.lst vs))(q:l≠m):zp6 t (upd H l o) p b s x m n r h g a c ys i:=by
 obtain⟨ok,d,u,v,w⟩:=P.bm;have k:∀ {c:Addr} {f:HO},H c=some f->(∀vs,f≠.lst vs)->upd H l o c=some f:=λe y=>by
   rw[za8 (λz=>by rw[z,j] at e;injection e with e;exact y _ e.symm)];exact e
 exact⟨⟨ok,d,u,k v (λ_ z=>nomatch z),k w (λ_ z=>nomatch z)⟩,P.nb,let⟨d,z⟩:=P.hp;⟨d,k z (λ_ z=>nomatch z)⟩,k P.hs (λ_ z=>nomatch z),k P.hx (λ_ z=>nomatch z),by rw[za8 q.symm];exact P.hm,tups_keep j (λ_ z=>nomatch z) P.tm⟩
theorem zl2 {p w y:Str}(h:y.cps.toList.take p.cps.toList.length≠p.cps.toList):p++w≠y:=λe=>h (by
 rw[<-e,zh7,ZD (Qi _),QO])
theorem dq_ne:∀ {d:Dq},d≠.show_->zB2 d≠Str.ofString "look"/\zB2 d≠Str.ofString "show"/\zB2 d≠Str.ofString "moves"/\zB2 d≠Str.ofString "back"
 | .few _,_=>⟨zl2 '&',zl2 '&',zl2 '&',zl2 '&'⟩
 | .next _,_=>⟨zl2 '&',zl2 '&',zl2 '&',zl2 '&'⟩
 | .least _,_=>⟨zl2 '&',zl2 '&',zl2 '&',zl2 '&'⟩
 | .show_,h=>absurd rfl h
theorem dq_part:∀ {d:Dq},d≠.show_->Txt.partition (zB2 d) (Str.ofString " ")=(yq8 d,Str.ofString " ",zd7 (zy2 d))
 | .few g,_=>by
   show Txt.partition (Str.ofString "fewest "++zd7 g) _=_;rw[show Str.ofString "fewest " = Str.ofString "fewest"++⟨#[32]⟩ by decide,zz2];exact zZ7 '&'
 | .next g,_=>by
   show Txt.partition (Str.ofString "next "++zd7 g) _=_;rw[show Str.ofString "next " = Str.ofString "next"++⟨#[32]⟩ by decide,zz2];exact zZ7 '&'
 | .least g,_=>by
   show Txt.partition (Str.ofString "least "++zd7 g) _=_;rw[show Str.ofString "least " = Str.ofString "least"++⟨#[32]⟩ by decide,zz2];exact zZ7 '&'
 | .show_,h=>absurd rfl h
theorem dq_len {n:Int}:∀ {d:Dq},(∀x∈zy2 d,-n<=x/\x<=n)->n<=4->(zy2 d).length<=5->(zB2 d).length<=200
 | .few g,h,a,b=>by
   have:=zs4 h a b;have e:(Str.ofString "fewest ").length=7:=by decide
   show(Str.ofString "fewest "++zd7 g).length<=200;rw[zd1];exact QD (Nat.add_le_add (Nat.le_of_eq e) this) '&'
 | .next g,h,a,b=>by
   have:=zs4 h a b;have e:(Str.ofString "next ").length=5:=by decide
   show(Str.ofString "next "++zd7 g).length<=200;rw[zd1];exact QD (Nat.add_le_add (Nat.le_of_eq e) this) '&'
 | .least g,h,a,b=>by
   have:=zs4 h a b;have e:(Str.ofString "least ").length=6:=by decide
   show(Str.ofString "least "++zd7 g).length<=200;rw[zd1];exact QD (Nat.add_le_add (Nat.le_of_eq e) this) '&'
 | .show_,_,_,_=>by decide
theorem ok_answer_words (T:Txt K mg t):FnOk P w K mg base (CXD P w) 12 t.aQ t.aR PB (sp_answer_words K t):=by
 refine T.bi.F.d.okD (CX:=CX0) sc_answer_words (λU a0 a1 a2 h=>?_) (λa5 A a4 s a0 U a1 a2 i h=>?_)
 . obtain⟨p,d,rfl,H,b,I,x,m,n,r,a,f,s,c,J,L,A,N,M,O,q⟩:=h
   rfl
 . obtain⟨p,d,rfl,H,b,I,x,m,n,r,a,f,s,c,J,L,A,N,M,O,q⟩:=h
   refine⟨_,(za2 (zc2 (zb9 zg1 P1 zc4 (zb8 _)) zu6 zb3)
     (za2 (zc2 (zb9 zg1 P1 zc4 (zb8 _)) (za4 (za9 (za7 (ok_tell_way T) i.m T.bW zb1 (za0 (zB4 P0 T.ac T.bk (zB1 T) i.m T.aQ.b .nil zf6 (za0 (za7 (zn5 T) i.m T.aw zb1 (za0 (zc8 P0 rfl) (za0 P2 za1))) za1)) za1)))) zb3)
     (za2 (zc2 (zb9 zg1 P1 zc4 (zb8 _)) (za4 (za9 (za7 (ok_tell_next T) i.m T.bI zb1 (za0 (zB4 P0 T.ac T.a4 (zt2 T) i.m T.aG.b .nil zf6 (za0 (za7 (zn5 T) i.m T.aw zb1 (za0 (zc8 P0 rfl) (za0 P2 za1))) za1)) za1)))) zb3)
     (za2 (zc2 (zb9 zg1 P1 zc4 (zb8 _)) (za4 (za9 (za7 (ok_tell_least T) i.m T.bx zb1 (za0 (zB4 P0 T.ac T.bq (zD9 T) i.m T.aT.b .nil zb1 (za0 (za7 (zn5 T) i.m T.aw zb1 (za0 (zc8 P0 rfl) (za0 P2 za1))) za1)) za1)))) zb3)
     zu6)))),?_⟩
   refine cut5 ?_;intro a6 a7 a8 a9;obtain⟨j,k⟩:=A.pl.hp;have V:=N.resolve_left H;have ok:=A.pl.bm.1;have X:=ok.n2;have hw:=ok.w;have hl:=V.len;have R:=zH9 (xs:=zy2 d) λz v=>by have:=V.on z v;omega
   have v:(zd7 (zy2 d)).length<=1000000:=QD (zs4 V.on X '!') '&';have kc:=A.kc;cases d with
   | show_=>exact absurd rfl H
   | few g =>
     refine⟨_,rfl,rfl,_,rfl,iteF ⟨_,rfl,rfl,_,rfl,iteT ?_⟩⟩;refine⟨_,rfl,p,j,_,rfl,k,zW5 _ _ _ _,_,rfl,p,_,j,_,_,rfl,k,T.ac,T.am,zy0 _ _ _ _,_,rfl,b,zd7 g,n,r,a,f,g,rfl,v,A.pl.bm,V,R,λl Q e o=>?_⟩;refine⟨p,b,I,x,m,l,n,r,a,f,s,c,g,J,L,rfl,A.pl.same e,A.vc,V,.inr o,⟨λz=>absurd z '!',λ_ y B C D=>M y B C (D.from e)⟩,λ_ y Y S E W=>?_⟩;exact⟨Y,n,r,a,f,c,g,rfl,ok,A.vc,W,λz F G u=>q (by show ¬ a<_;omega) z F (e.trans (E.trans G)) u⟩
   | next g =>
     refine⟨_,rfl,rfl,_,rfl,iteF ⟨_,rfl,rfl,_,rfl,iteF ⟨_,rfl,rfl,_,rfl,iteT ?_⟩⟩⟩;refine⟨_,rfl,p,j,_,rfl,k,yl6 _ _ _ _,_,rfl,p,_,j,_,_,rfl,k,T.ac,T.am,zy0 _ _ _ _,_,rfl,b,zd7 g,n,r,a,f,g,rfl,v,A.pl.bm,V,R,λl Q e o=>?_⟩;refine⟨p,b,I,x,m,l,n,r,a,f,s,c,g,J,L,rfl,A.pl.same e,A.vc,V,.inr o,⟨λz=>absurd z '!',λ_ y B C D=>M y B C (D.from e)⟩,λ_ y=>⟨λB C D=>O H (by show ¬ a<_;omega) B C (D.from e),λa3 S E W=>?_⟩⟩;exact⟨a3,n,r,a,f,c,rfl,ok,A.vc,W,λz F G u=>q (by show ¬ a<_;omega) z F (e.trans (E.trans G)) u⟩
   | least g =>
     refine⟨_,rfl,rfl,_,rfl,iteF ⟨_,rfl,rfl,_,rfl,iteF ⟨_,rfl,rfl,_,rfl,iteF ⟨_,rfl,rfl,_,rfl,iteT ?_⟩⟩⟩⟩;refine⟨_,rfl,p,j,_,rfl,k,ye5 _ _ _ _,_,rfl,p,_,j,_,_,rfl,k,T.ac,T.am,zy0 _ _ _ _,_,rfl,b,zd7 g,n,r,a,f,g,rfl,v,A.pl.bm,V,R,λl Q e o=>?_⟩;refine⟨p,b,I,x,m,l,n,r,a,f,s,c,g,J,L,rfl,A.pl.same e,A.vc,V,.inr o,λZ S E W=>?_⟩;exact⟨Z,n,r,a,f,c,g,rfl,ok,A.vc,W,λz F G u=>q (λz=>z) z F (e.trans (E.trans G)) u⟩
theorem ok_answer_row (T:Txt K mg t):FnOk P w K mg base (CXD P w) 13 t.bh t.bi Pk (sp_answer_row K t):=by
 refine T.bw.F.d.okD (CX:=CX0) zD4 (λQ a0 a1 a2 h=>?_) (λa4 A a3 s a0 Q a1 a2 D h=>?_)
 . obtain⟨p,d,rfl,b,E,x,m,n,r,u,v,s,c,F,G,A,y,H,I,q⟩:=h
   rfl
 . obtain⟨p,d,rfl,b,E,x,m,n,r,u,v,s,c,F,G,A,y,H,I,q⟩:=h
   refine⟨_,(za2 (zc2 (zb9 zg1 P1 zc4 (zb8 _)) zu6 zb3)
     (za2 (zc2 (zb9 zg1 P1 zc4 (zb8 _)) (za4 (za9 (za7 (ok_write_standing T) D.m T.a9 zb1 (za0 (zc8 P0 rfl) (za0 (zc8 P0 rfl) za1))))) zb3)
     (za2 (zc2 (zb9 zg1 P1 zc4 (zb8 _)) zu6 zb3)
     (za2 (zc2 (zb9 zg1 P1 zc4 (zb8 _)) zu6 zb3)
     (za2 (zb7 (i:=2) zD4.nd rfl '$' (zk5 Ze PySem.F.slot_str_partition PySem.F.type_str_partition mt_part P1 (za0 zc4 za1)))
     (za4 (za9 (za7 (ok_answer_words T) D.m T.bi zf6 (za0 P0 (za0 (zc5 zi2 P2 za6 (λ_ _=>rfl)) (za0 (zc5 zi2 P2 za6 (λ_ _=>rfl)) za1))))))))))),?_⟩
   refine cut6 ?_;intro a5 a6 a7 a8 a9;obtain⟨J,L⟩:=A.pl.hp;have aa:=A.pl.bm.1.w;have N:=A.pl.bm.1.n2;have j:∀ {a b:Str},a≠b->decide (V.str a=V.str b)=false:=λh=>Qe λz=>h (by injection z)
   by_cases f:d = .show_
   . subst f
     exact⟨_,rfl,rfl,_,rfl,iteF ⟨_,rfl,rfl,_,rfl,iteT ⟨_,rfl,p,_,J,_,_,rfl,L,T.ac,T.am,zy0 _ _ _ _,_,rfl,p,_,J,_,_,rfl,L,T.ac,T.an,zo8 _ _ _ _,b,x,n,r,u,v,c,rfl,A.pl.bm,A.vc,.inr A.pl.hx,λM e=>q (λz=>z) _ M e rfl⟩⟩⟩
   . obtain⟨R,S,U,W⟩:=dq_ne f
     have V:=y.resolve_left f;have o:=V.len;have X:=dq_len V.on N '!';refine⟨_,rfl,rfl,_,rfl,iteB (j R) ⟨_,rfl,rfl,_,rfl,iteB (j S) ⟨_,rfl,rfl,_,rfl,iteB (j U) ⟨_,rfl,rfl,_,rfl,iteB (j W) ?_⟩⟩⟩⟩;refine⟨_,rfl,rfl,_,_,rfl,rfl,by decide,QD X '&',λl M e fl o=>?_⟩;rw[dq_part f] at o;exact⟨_,rfl,_,rfl,l,_,_,_,rfl,rfl,SqT.of o,at_0,_,rfl,l,_,_,_,rfl,rfl,SqT.of o,at_2,p,d,rfl,f,b,E,x,m,n,r,u,v,s,c,F,G,A.same e,y,λk B g C=>H k B g (C.from e),λY k B g C=>I Y k B g (C.from e),λk z g Z O=>q k z g (e.trans Z) O⟩
theorem ansR {b:Int}{f c:'#'}{d:Dq}{z:Str}(i:¬ zI0 b f d)(j:∀x∈c,-4<=x/\x<=4)(h:AnsZ c d z):AnsR b f c d z:=by
 have a:okH RefG=false:=by decide
 refine .inr ⟨i,?_,?_⟩
 . cases d with
   | show_=>rw[show z=zd7 c from h];exact zW8 j
   | few g=>exact yg5 h a
   | next g=>exact yg5 h a
   | least g=>exact yg5 h a
 . intro e
   subst e;exact h
theorem ok_answer (T:Txt K mg t):FnOk P w K mg base CX0 14 t.b1 t.b2 Pk (sp_answer K t):=by
 refine T.ci.F.ok zV7 (λU H a0 a1 h=>?_) (λa3 A a2 s H U a0 a1 V h=>?_)
 . obtain⟨p,b,M,x,m,n,r,u,v,s,c,N,O,d,rfl,A,Q,q⟩:=h
   rfl
 . obtain⟨p,b,M,x,m,n,r,u,v,s,c,N,O,d,rfl,A,Q,q⟩:=h
   refine⟨_,(za4 (yi3 (Ex:=λW B l R=>W=[some (.ref p),some (.str (zB2 d)),none]/\((zI0 u v d/\B = .ref t.ab/\Told H R l "goal past")\/(d≠.show_/\¬ zI0 u v d/\B = .ref t.ac/\Told H R l "no way"))) (i:=2) ⟨rfl,rfl⟩ rfl T.aC zV7.nd rfl rfl (λ_=>(za4 (za9 (zJ1 (ok_answer_row T) V.m T.bw zz1 (za0 P0 (za0 P1 za1)))))) (λ_=>(za4 (za9 (zc0 zd4 zc4 (pe_xgetK K rfl P2 rfl))))))),?_⟩;have X:∀x∈c,-4<=x/\x<=4:=λz C=>by have:=A.vc.on z C;have:=A.pl.bm.1.n2;omega
   have e1:(Str.ofString "refused: ").length=9:=by decide
   have a4:sizeLine=16777216:=by decide
   refine⟨⟨_,rfl,_,rfl,p,d,rfl,b,M,x,m,n,r,u,v,s,c,N,O,A,Q,λk l f j=>⟨rfl,.inl ⟨k,rfl,j⟩⟩,λD k l f j=>⟨rfl,.inr ⟨D,k,rfl,j⟩⟩,λk z f Y C=>q z f Y (ansR k X C)⟩,λσ' B l f a Z y=>?_⟩;obtain⟨rfl,⟨k,rfl,j⟩ | ⟨D,k,rfl,j⟩⟩:=Z
   . obtain⟨E,e,fs,rfl,g,F⟩:=j
     have S:(Str.ofString "goal past").length=9:=by decide
     have G:e≠a:=λz=>by rw[z,y] at g;cases g
     refine⟨T.aO,?_⟩;have I:=E.updT (o:=zp9 (.ref t.ab) a (some e)) y;have J:(upd f a (zp9 (.ref t.ab) a (some e))) a=_:=za3;have L:(upd f a (zp9 (.ref t.ab) a (some e))) e=_:=(za8 G).trans g;exact⟨_,rfl,a,_,e,fs,_,rfl,J,L,T.bN,T.bb,F,_,_,rfl,rfl,(by show(Str.ofString "refused: ").length+(Str.ofString "goal past").length<=sizeLine;omega),q RefG _ I (.inl ⟨k,rfl⟩)⟩
   . obtain⟨E,e,fs,rfl,g,F⟩:=j
     have S:(Str.ofString "no way").length=6:=by decide
     have G:e≠a:=λz=>by rw[z,y] at g;cases g
     refine⟨T.aZ,?_⟩;have I:=E.updT (o:=zp9 (.ref t.ac) a (some e)) y;have J:(upd f a (zp9 (.ref t.ac) a (some e))) a=_:=za3;have L:(upd f a (zp9 (.ref t.ac) a (some e))) e=_:=(za8 G).trans g;exact⟨_,rfl,a,_,e,fs,_,rfl,J,L,T.cp,T.br,F,_,_,rfl,rfl,(by show(Str.ofString "refused: ").length+(Str.ofString "no way").length<=sizeLine;omega),q (Str.ofString "refused: "++Str.ofString "no way") _ I (.inr ⟨k,by decide,λz=>absurd z D⟩)⟩
def sp_answers (K:W.Frag)(t:Adr):Sp:=λvs H Q E=>∃(z:Str) (l:Addr) (n r lim:Int) (hs s:'#') (ds:List Dq),vs=[.str z,.ref l]/\z.length<=1000000/\yg4 z n r lim hs s/\zi0 n r hs lim/\zc7 n r hs.length s/\H l=some (.lst (ds.map λd=>.str (zB2 d)))/\ds.length<=900/\(∀d∈ds,d = .show_\/zc7 n r hs.length (zy2 d)) ∧
 (lim<absI (zb4 hs s)->∀od H',Told H H' od "start past"->E (.ref t.aa) od H')/\(absI (zb4 hs s)<=lim->∀o zs H',Same H H'->H' o=some (.lst (zs.map V.str))->Paired (AnsR lim hs s) ds zs->Q (.ref o) H')
theorem ok_answers (T:Txt K mg t):FnOk P w K mg base (CXD P w) 15 t.bI t.bJ Va (sp_answers K t):=by
 refine T.b1.F.d.okD (CX:=CX0) zs0 (λvs H ac ad h=>?_) (λag ao af s H vs ac ad O h=>?_)
 . obtain⟨z,l,n,r,j,u,s,y,rfl,hz,RB,ok,E,Q,a5,hv,qs,q⟩:=h
   rfl
 . obtain⟨z,l,n,r,j,u,s,y,rfl,hz,RB,ok,E,Q,a5,hv,qs,q⟩:=h
   refine⟨_,(za2 (zb7 (i:=2) zs0.nd rfl '$' (za7 (ok_read_beam T) O.m T.bG zb1 (za0 P0 za1)))
     (za2 (zb7 (i:=3) zs0.nd rfl '$' (zq4 T.bT (zy1 T) O.m rfl T.b6 T.aL.b .nil zf6 (za0 (zc5 zi2 P2 za6 (λ_ _=>rfl)) (za0 (zc5 zi2 P2 za6 (λ_ _=>rfl)) za1))))
     (za2 (zb7 (i:=4) zs0.nd rfl '$' (zf8 za1))
     (za2 (zj4 passes_own_fnD rfl (zg3 P1) (zc3 (i:=5) zs0.nd rfl '$') (za4 (zg6 (zk5 QX Zp Zo zl6 (pv 4) (za0 (za7 (ok_answer T) O.m T.ci zb1 (za0 P3 (za0 P5 za1))) za1)))))
     (za4 (za9 (pv 4))))))),?_⟩
   refine cut5 ?_;intro ah ai aj ak;refine⟨_,rfl,z,n,r,j,u,s,rfl,hz,RB,ok,E,λR b pl F S a2 hp Z=>?_⟩;refine⟨_,rfl,R,_,_,_,rfl,rfl,SqT.of Z,at_0,_,rfl,R,_,_,_,rfl,rfl,SqT.of Z,at_1,λp f U a6 a7=>?_⟩;have o:Same F (upd (upd F f (.own p)) p (.ins t.ad f [])):=(Same.upd a6).updT (by rw[za8 (Ne.symm a7)];exact U);have M:(upd (upd F f (.own p)) p (.ins t.ad f [])) p=some (.ins t.ad f []):=za3;revert o M;generalize upd (upd F f (.own p)) p (.ins t.ad f [])=H3;intro o M;have a8:b≠p:=λz=>by obtain⟨_,_,_,hb,_⟩:=a2;rw[z,U] at hb;cases hb
   refine⟨p,b,pl,f,n,r,j,u,s,rfl,M,a8,a2.same o,E,.inr (o _ _ hp),λk od v tl=>qs k od v (tl.from (S.trans o)),λk0 A G m x4 al P4=>⟨rfl,?_⟩⟩;replace q:=q k0;have a9:H p=none:=S.free U;have a0:Same H A:=λae a3 e=>x4 ae a3 (o _ _ (S _ _ e)) (zb5 e a9)
   refine⟨QH _,λc N=>?_⟩;have aa:c≠m:=(zb5 P4.hm N).symm;have a4:H c=none:=a0.free N;have I:Same A (upd A c (.lst [])):=Same.upd N;have L:(upd A c (.lst [])) c=some (.lst []):=za3;dsimp only;revert I L;generalize upd A c (.lst [])=H5;intro I L;have a1:=a0.trans I;refine⟨_,rfl,l,rfl,⟨_,SqL.of (a1 _ _ Q)⟩,zn9 (K:=K) (a:=l) (xs:=y.map λd=>V.str (zB2 d)) (λi J v=>X2 λW g=>A5 (J=[some (.str z),some (.ref l),some (.ref R),some (.ref p),some (.ref c),W]) (Same H v) (zp6 t v p b G G m n r u j s s [] []) (v c=some (.lst (g.map V.str))) (Paired (AnsR j u s) (y.take i) g)) ⟨none,[],rfl,a1,P4.same I,L,.nil⟩ (λi J v _ ⟨_,_,_,B,_,_,_⟩=>SqL.of (B _ _ Q)) ?_ ?_⟩
   . rintro k ap J H6 C ⟨W,g,rfl,B,P,D,x⟩
     rw[QK] at C;cases e:y[k]? with
     | none=>rw[e] at C;cases C
     | some d =>
       rw[e] at C;cases C;have am:k<y.length:=(QN.mp e).1;refine⟨_,rfl,.inl ⟨rfl,_,SqL.of D⟩,_,rfl,_,rfl,p,b,G,G,m,n,r,j,u,s,s,[],[],d,rfl,⟨P,E,k0⟩,hv d (Qy e),λz1 H7 X ab=>?_⟩;have Y:=X _ _ D;have an:g.length=k:=by
         have:=Paired.length x;rw[QW] at this;omega
       refine⟨c,_,_,rfl,rfl,Y,zd0 (by rw[Qb];omega),?_⟩;refine⟨_,g++[z1],rfl,λa a3 e'=>?_,(P.same X).updL Y aa,?_,?_⟩
       . rw[za8 (zb5 e' a4)]
         exact X _ _ (B _ _ e')
       . rw[za3,Qq]
         rfl
       . rw[QY,e]
         exact x.snoc ab
   . rintro J H6 ⟨W,g,rfl,B,P,D,x⟩
     rw[Qb,QO] at x;exact⟨_,rfl,q c g H6 B D x⟩
end
section
variable {P:Program} {w:World} {K:W.Frag} {mg:Str->Option Value} {base:Heap} {t:Adr}
theorem zC8 (T:Txt K mg t):FnOk P w K mg base CX0 1 t.cP t.cQ PD (sp_w_at K t):=by
 refine T.aN.F.ok sc_w_at (λg H Q E h=>?_) (λj A i s H g Q E l h=>?_)
 . obtain⟨a,b,k,rfl,d,q⟩:=h
   rfl
 . obtain⟨a,b,k,rfl,d,q⟩:=h
   refine⟨_,(za2 (zc2 (zb9 zN0 P1 (zb6 zc1 rfl T.ag QF (za0 P0 za1)) (zb8 _)) (za4 (za9 (zc5 zc6 P0 P1 (λ_ _=>rfl)))) zb3)
     (za4 (za9 za6))),?_⟩
   refine⟨_,rfl,_,rfl,a,_,rfl,.inl d,_,_,rfl,rfl,_,rfl,?_⟩;rw[Qb];refine ite2 (λf=>?_) (λf=>?_)
   . have c:k<b.length:=by have:=Zv f;omega
     have e:b.getD k 0=b[k]:=by simp[c]
     rw[e] at q;exact⟨_,rfl,_,rfl,a,_,_,_,rfl,rfl,d,zB6 (by simp[c]),q⟩
   . have c:¬ k<b.length:=λz=>f (Qh '!')
     have e:b.getD k 0=0:=by simp[c]
     rw[e] at q;exact q
theorem zy3 (T:Txt K mg t):FnOk P w K mg base CX0 1 t.bK t.bL PF (sp_w_whole K t):=by
 refine T.aJ.F.ok sc_w_whole (λa H Q E h=>?_) (λc A b s H a Q E d h=>?_)
 . obtain⟨i,rfl,q⟩:=h
   rfl
 . obtain⟨i,rfl,q⟩:=h
   refine⟨_,(za4 (za9 (zE3 (zb6 zm1 rfl T.af QL (za0 P0 (za0 (zw3 (v:=.ty "int") rfl T.cV PyProof.Rows.boot_int rfl) za1))) (zy7 (yf3 (zb6 zm1 rfl T.af QL (za0 P0 (za0 (zw3 (v:=.ty "bool") rfl T.cP PyProof.Rows.boot_bool rfl) za1)))))))),?_⟩;refine⟨_,rfl,_,_,_,_,_,rfl,.ty _,.int _,rfl,_,rfl,iteT ?_⟩;exact⟨_,rfl,_,_,_,_,_,rfl,.ty _,.int _,rfl,_,rfl,q⟩
theorem zW9 (T:Txt K mg t):FnOk P w K mg base CX0 1 t.b3 t.b4 Vb (sp_w_figs K t):=by
 refine T.bz.F.ok zn2 (λm H Q E h=>?_) (λu A r s H m Q E C h=>?_)
 . obtain⟨b,a,n,g,rfl,⟨o,f,k⟩,q⟩:=h
   rfl
 . obtain⟨b,a,n,g,rfl,⟨o,f,k⟩,q⟩:=h
   refine⟨_,(za2 (zb7 (i:=4) zn2.nd rfl '$' (zf8 za1))
     (za2 (zb7 (i:=5) zn2.nd rfl '$' P0)
     (za2 (zc2 (zd3 P3) (za4 (zb7 (i:=5) zn2.nd rfl '$' (zc0 zj5 (zc0 zr5 P0 za6) za6))) zb3)
     (za2 (zj4 PassesOwn.never rfl (zq9 rfl T.az (za0 P1 za1)) (zc3 (i:=6) zn2.nd rfl '$') (za4 (zc2 (zd3 P3) (za2 (zb7 (i:=5) zn2.nd rfl '$' (zc0 zj5 (zc0 zr5 (zc0 zl8 (zc0 zl8 P5 P6) za6) za6) za6))
     (za4 (zg6 (zk5 QX Zp Zo zl6 (pv 4) (za0 (zc0 zj5 (zc0 zs6 P5 za6) P2) za1))))) (za2 (zg6 (zk5 QX Zp Zo zl6 (pv 4) (za0 (zc0 zj5 P5 P2) za1)))
     (za4 (zb7 (i:=5) zn2.nd rfl '$' (zc0 zs6 P5 P2)))))))
     (za4 (za9 (pv 4))))))),?_⟩
   refine cut5 ?_;intro x y z B;refine⟨QH _,λl j=>?_⟩;refine⟨_,rfl,_,rfl,_,rfl,?_⟩;have D:(zq2 b a g 0).2=[]:=rfl;cases g
   . refine iteF ?_
     refine⟨_,rfl,_,rfl,by omega,by omega,zl5 (n:=(n:Int).toNat) (λi d c=>X1 λv=>A3 (d=[some (.int b),some (.int n),some (.int a),some (.bl false),some (.ref l),some (.int (zq2 b a false i).1),v]) (c=upd H l (.lst ((zq2 b a false i).2.map V.int))) ((zq2 b a false i).2.length=i)) ⟨none,rfl,rfl,rfl⟩ ?_ ?_⟩
     . rintro i d c p ⟨v,rfl,rfl,e⟩
       refine⟨_,rfl,_,rfl,iteF ?_⟩;refine⟨_,rfl,.inl ⟨rfl,_,SqL.of za3⟩,_,rfl,_,rfl,_,_,rfl,rfl,f,l,_,_,rfl,rfl,za3,zd0 (by rw[Qb];omega),?_⟩;refine⟨_,rfl,_,rfl,_,_,rfl,rfl,⟨f,by omega⟩,_,rfl,?_,?_⟩
       . rw[zh5]
         show upd H l (.lst (_++[V.int _]))=upd H l (.lst ((_++[_]).map V.int));rw[Qq];rfl
       . show(_++[_]).length=i+1
         rw[Qr,e];rfl
     . rintro d c ⟨v,rfl,rfl,e⟩
       exact⟨_,rfl,q l j⟩
   . refine iteT ?_
     refine⟨_,rfl,_,_,rfl,rfl,.inr ⟨by decide,by decide⟩,_,_,rfl,rfl,(by show(0:Int)<2147483647;decide),?_⟩;refine⟨_,rfl,_,rfl,by omega,by omega,zl5 (n:=(n:Int).toNat) (λi d c=>X1 λv=>A3 (d=[some (.int b),some (.int n),some (.int a),some (.bl true),some (.ref l),some (.int (zq2 b a true i).1),v]) (c=upd H l (.lst ((zq2 b a true i).2.map V.int))) ((zq2 b a true i).2.length=i)) ⟨none,rfl,rfl,rfl⟩ ?_ ?_⟩
     . rintro i d c p ⟨v,rfl,rfl,e⟩
       refine⟨_,rfl,_,rfl,iteT ?_⟩;refine⟨_,rfl,_,rfl,_,_,rfl,rfl,_,_,rfl,rfl,_,_,rfl,rfl,.inr ⟨by decide,by decide⟩,_,_,rfl,rfl,(by show(0:Int)<2147483647;decide),?_⟩;refine⟨_,rfl,.inl ⟨rfl,_,SqL.of za3⟩,_,rfl,_,_,rfl,rfl,⟨by decide,by decide⟩,_,rfl,_,_,rfl,rfl,f,l,_,_,rfl,rfl,za3,zd0 (by rw[Qb];omega),?_⟩;refine⟨_,rfl,?_,?_⟩
       . rw[zh5]
         show upd H l (.lst (_++[V.int _]))=upd H l (.lst ((_++[_]).map V.int));rw[Qq];rfl
       . show(_++[_]).length=i+1
         rw[Qr,e];rfl
     . rintro d c ⟨v,rfl,rfl,e⟩
       exact⟨_,rfl,q l j⟩
theorem ok_w_same (T:Txt K mg t):FnOk P w K mg base CX0 2 t.b9 t.ca Vg (sp_w_same K t):=by
 refine T.ck.F.ok zV8 (λL H Q E h=>?_) (λW A U s H L Q E M h=>?_)
 . obtain⟨a,b,d,c,rfl,g,f,N,q⟩:=h
   rfl
 . obtain⟨a,b,d,c,rfl,g,f,N,q⟩:=h
   refine⟨_,(za2 (zc2 (zb9 zl9 (zb6 zc1 rfl T.ag QF (za0 P0 za1)) (zb6 zc1 rfl T.ag QF (za0 P1 za1)) (zb8 _)) (za4 (za9 zg0)) zb3)
     (za2 (zj4 PassesOwn.never rfl (zq9 rfl T.az (za0 (zb6 zc1 rfl T.ag QF (za0 P1 za1)) za1)) (zc3 (i:=2) zV8.nd rfl '$') (za4 (zc2 (PW.pt (zk4 (ze8 (zd3 (za7 (zy3 T) M.m T.aJ zb1 (za0 (zc5 zt5 P0 P2 (λ_ _=>rfl)) za1)))) (zj3 (zb9 zl9 (zc5 zt5 P0 P2 (λ_ _=>rfl)) (zc5 zt5 P1 P2 (λ_ _=>rfl)) (zb8 _))))) (za4 (za9 zg0)) zb3)))
     (za4 (za9 zg0)))),?_⟩
   refine cut3 ?_;intro X Y;refine⟨_,rfl,a,_,rfl,g,_,rfl,b,_,rfl,f,rfl,_,rfl,?_⟩;rw[Qb,Qb];refine ite2 (λp=>?_) (λp=>?_)
   . have r:d≠c:=by
       intro e;subst e;simp at p
     rw[Qe r] at q;exact q
   . have F:d.length=c.length:=by
       simp at p;omega
     refine⟨_,rfl,b,_,rfl,f,_,rfl,by omega,by rw[Qb];omega,zl5 (n:=((c.map V.int).length:Int).toNat) (λi u j=>X1 λv=>A3 (u=[some (.ref a),some (.ref b),v]) (j=H) (d.take i=c.take i)) ⟨none,rfl,rfl,rfl⟩ ?_ ?_⟩
     . rintro i u j O ⟨v,rfl,rfl,m⟩
       have G:i<c.length:=by simpa using O
       have I:i<d.length:=by omega
       have y:d[i]?=some d[i]:=by simp[I]
       have z:c[i]?=some c[i]:=by simp[G]
       have B:(0:Int)+(i:Int)=(i:Int):=by omega
       have C:atI (d.map V.int) (0+(i:Int))=some (.int d[i]):=by rw[B];exact zB6 y
       have D:atI (c.map V.int) (0+(i:Int))=some (.int c[i]):=by rw[B];exact zB6 z
       have x:∀(k:VK),k (.int d[i]) j->rIx K (.ref a) (.int (0+(i:Int))) j k:=λk h=>by
         rcases g with g | g
         . exact .inl ⟨a,_,_,_,rfl,rfl,g,C,h⟩
         . exact .inr (.inl ⟨a,_,_,_,rfl,rfl,g,C,h⟩)
       have J:∀(k:VK),k (.int c[i]) j->rIx K (.ref b) (.int (0+(i:Int))) j k:=λk h=>by
         rcases f with f | f
         . exact .inl ⟨b,_,_,_,rfl,rfl,f,D,h⟩
         . exact .inr (.inl ⟨b,_,_,_,rfl,rfl,f,D,h⟩)
       refine⟨_,rfl,_,rfl,x _ ⟨_,rfl,_,rfl,iteF ?_⟩⟩;refine⟨_,rfl,_,rfl,x _ ⟨_,rfl,_,rfl,J _ ⟨rfl,_,rfl,?_⟩⟩⟩;refine ite2 (λo=>?_) (λo=>?_)
       . have r:d≠c:=by
           intro e;subst e;simp at o
         rw[Qe r] at q;exact q
       . refine⟨_,rfl,rfl,?_⟩
         have R:d[i]=c[i]:=by
           simp at o;exact o
         rw[QY,QY,m,y,z,R]
     . rintro u j ⟨v,rfl,rfl,m⟩
       have e:d=c:=by
         have S:((c.map V.int).length:Int).toNat=c.length:=by simp
         rw[S] at m;rw[<-QO (l:=c),<-m,<-F,QO]
       rw[Qh e] at q;exact q
theorem ok_w_shape (T:Txt K mg t):FnOk P w K mg base CX0 2 t.bM t.bN Ph (sp_w_shape K t):=by
 refine T.b2.F.ok zi7 (λvs H a1 a2 h=>?_) (λa4 ag a3 ah H vs a1 a2 s h=>?_)
 . obtain⟨a,b,rfl,u,q⟩:=h
   rfl
 . obtain⟨a,b,rfl,u,q⟩:=h
   refine⟨_,(za2 (zb7 (i:=1) zi7.nd rfl '$' (za7 (zC8 T) s.m T.aN zb1 (za0 P0 (za0 za6 za1))))
     (za2 (zb7 (i:=2) zi7.nd rfl '$' (zc5 zc6 (zf8 (za0 za6 (za0 za6 (za0 za6 (za0 za6 za1))))) (zc0 zj5 P1 za6) (λ_ _=>rfl)))
     (za2 (zb7 (i:=3) zi7.nd rfl '$' (zb6 (call_min2 rfl) rfl T.cU PyProof.Rows.boot_min (za0 (zc5 zc6 (zf8 (za0 za6 (za0 za6 (za0 za6 (za0 za6 za1))))) (zc0 zk3 P2 za6) (λ_ _=>rfl)) (za0 (zc5 zc6 (zf8 (za0 za6 (za0 za6 (za0 za6 (za0 za6 (za0 za6 (za0 za6 za1))))))) (zc0 zj5 (zc0 zs6 P1 za6) za6) (λ_ _=>rfl)) za1))))
     (za2 (zb7 (i:=4) zi7.nd rfl '$' (zc0 zl8 za6 (zc0 zj5 (zc0 zs6 P1 za6) za6)))
     (za2 (zb7 (i:=5) zi7.nd rfl '$' (za7 (zC8 T) s.m T.aN zb1 (za0 P0 (za0 za6 za1))))
     (za2 (zY6 (i:=6) rfl zH2 (zg3 (za7 (zW9 T) s.m T.bz zb1 (za0 (za7 (zC8 T) s.m T.aN zb1 (za0 P0 (za0 za6 za1))) (za0 P3 (za0 za6 (za0 (zf0 zg1 (zc0 zj5 P5 za6) za6 (zb8 _)) za1)))))) (λ_ _ _ _ _=>(zc3 (i:=0) zH2.nd rfl '$')) (λ_ _ _ _ _=>zg8) (λ_ _ _ _ _=>(zc0 zl8 za6 P0)) zi7.nd rfl rfl)
     (za2 (zc2 (zb9 zg1 (zc0 zj5 (zc0 zs6 P5 za6) za6) za6 (zb8 _)) (za4 (zb7 (i:=6) zi7.nd rfl '$' (zc0 yn7 (zo1 zY3 P6 zs7 (zs8 za6)) P3))) zb3)
     (za2 (zc2 (zb9 zg1 (zc0 zj5 (zc0 zs6 P5 za6) za6) za6 (zb8 _)) (za4 (zb7 (i:=6) zi7.nd rfl '$' (zc0 yn7 (zf8 (za0 za6 za1)) P3))) zb3)
     (za4 (za9 (zf8 (za0 P2 (za0 (pv 4) (za0 P6 za1)))))))))))))),?_⟩
   refine cut9 ?_;intro a5 a6 a7 a8 a9 aa ab ac;have W:0<=at0 b 1 % 4:=ZH _ '&';have X:at0 b 1 % 4<4:=Zy _ '&';have Y:0<=at0 b 1 / 4 % 6:=ZH _ '&';have Z:at0 b 1 / 4 % 6<6:=Zy _ '&';have hN:=zK0 b;obtain⟨ad,ae⟩:=yp4 b;have h5:(if shN b=1 then(5:Int) else if shN b=2 then 4 else 3)<=5:=by repeat (first | decide | split)
   refine⟨_,rfl,a,b,1,rfl,u,?_⟩;refine⟨by decide,λE f1=>⟨_,rfl,_,_,rfl,rfl,(by show(0:Int)<4;decide),E,_,_,_,rfl,rfl,SqL.of za3,zi9 (xs:=[2,3,1,4]) W X,?_⟩⟩;have M:Same H (upd H E (.lst [.int 2,.int 3,.int 1,.int 4])):=Same.upd f1;generalize upd H E (.lst [.int 2,.int 3,.int 1,.int 4])=N at M ⊢;refine⟨by decide,λF f2=>⟨_,rfl,_,_,rfl,rfl,F,_,_,_,rfl,rfl,SqL.of za3,zi9 (xs:=[5,4,3,3]) (by show 0<=shN b-1;omega) (by show shN b-1<4;omega),?_⟩⟩;have O:Same H (upd N F (.lst [.int 5,.int 4,.int 3,.int 3])):=M.updT f2;generalize upd N F (.lst [.int 5,.int 4,.int 3,.int 3])=Q at O ⊢;refine⟨by decide,λG f3=>⟨_,rfl,_,_,rfl,rfl,⟨by decide,by decide⟩,_,_,rfl,rfl,(by show(0:Int)<6;decide),G,_,_,_,rfl,rfl,SqL.of za3,zi9 (xs:=[3,2,4,1,5,0]) Y Z,_,_,rfl,?_⟩⟩;have y:Same H (upd Q G (.lst [.int 3,.int 2,.int 4,.int 1,.int 5,.int 0])):=O.updT f3;generalize upd Q G (.lst [.int 3,.int 2,.int 4,.int 1,.int 5,.int 0])=I at y ⊢;refine⟨_,rfl,_,_,rfl,rfl,⟨by decide,by decide⟩,_,_,rfl,rfl,(by show(0:Int)<3;decide),_,_,rfl,rfl,?_⟩;refine⟨_,rfl,a,b,0,rfl,y.seq u,?_⟩;have eW:(((shW b).toNat:Nat):Int)=shW b:=by omega
   refine⟨_,rfl,a,b,2,rfl,y.seq u,_,rfl,_,rfl,_,_,rfl,rfl,(by show(0:Int)<2;decide),rfl,at0 b 2,20,(shW b).toNat,zt0 b,?_,⟨by omega,by decide,by decide⟩,λA f4=>⟨A,rfl,⟨_,SqL.of za3⟩,λD J=>?_⟩⟩
   . rw[eW];rfl
   have R:Same H (upd I A (.lst ((figs (at0 b 2) (shW b).toNat 20 (zt0 b)).map V.int))):=y.updT f4;refine comp_list (f:=λv=>match v with | .int z=>V.int (1+z) | v=>v) (SqL.of za3) J (Zs (zd0 (by rw[Qb,zH3];omega))) (λx af ai hx h=>?_) ?_
   . obtain⟨z,hz,rfl⟩:=QQ.mp hx
     exact⟨_,rfl,_,_,rfl,rfl,h⟩
   have S:((figs (at0 b 2) (shW b).toNat 20 (zt0 b)).map V.int).map (λv=>match v with | .int z=>V.int (1+z) | v=>v)=(shH0 b).map V.int:=by
     unfold shH0;rw[Zt,Zt];rfl
   rw[S];have d:=R.updT (o:=.lst ((shH0 b).map V.int)) J;have fD:H D=none:=R.free J;have g:(upd (upd I A (.lst ((figs (at0 b 2) (shW b).toNat 20 (zt0 b)).map V.int))) D (.lst ((shH0 b).map V.int))) D=some (.lst ((shH0 b).map V.int)):=za3;clear S;revert d g;generalize upd (upd I A (.lst ((figs (at0 b 2) (shW b).toNat 20 (zt0 b)).map V.int))) D (.lst ((shH0 b).map V.int))=H5;intro d g;have a0:=yd4 b;refine⟨_,rfl,_,_,rfl,rfl,⟨by decide,by decide⟩,_,_,rfl,rfl,(by show(0:Int)<5;decide),rfl,_,rfl,?_⟩;show(if decide (V.int (at0 b 0 / 2 % 5)=V.int 1)=true then _ else _);rw[zj0];by_cases j:at0 b 0 / 2 % 5=1
   . rw[Qh j]
     refine iteT ?_;refine⟨_,rfl,1,rfl,D,_,rfl,SqL.of g,λL k=>⟨_,rfl,L,_,_,rfl,rfl,za3,(by show -(2 ^ 63)<=shW b;omega),(by show shW b<2 ^ 63;omega),?_,λl m=>?_⟩⟩
     . refine Zs (zd0 ?_)
       have h1:(cutV ((shH0 b).map V.int) none (some 1)).length<=(shW b).toNat:=by rw[<-a0,<-Qb (f:=V.int)];exact zo2 _ _ _
       have U:(shW b).toNat<=5:=by omega
       exact QD (Nat.mul_le_mul (QD h1 U) U) '&'
     have n:=(d.updT (o:=.lst (cutV ((shH0 b).map V.int) none (some 1))) k).updT (o:=.lst (List.replicate (shW b).toNat (cutV ((shH0 b).map V.int) none (some 1))).flatten) m;have C:H l=none:=(d.updT (o:=.lst (cutV ((shH0 b).map V.int) none (some 1))) k).free m;refine⟨_,rfl,_,_,rfl,rfl,⟨by decide,by decide⟩,_,_,rfl,rfl,(by show(0:Int)<5;decide),rfl,_,rfl,?_⟩;show(if decide (V.int (at0 b 0 / 2 % 5)=V.int 2)=true then _ else _);rw[zj0,Qe '!'];refine iteF ?_;refine⟨_,rfl,_,rfl,_,rfl,(by show 3<=sizeLine;decide),λp c=>?_⟩;refine q p l _ (n.updT c) (n.free c) C ?_ za3;rw[za8 (λe=>by rw[<-e] at c;rw[za3] at c;cases c),za3];have ec:cutV ((shH0 b).map V.int) none (some 1)=((shH0 b).take 1).map V.int:=by
       unfold cutV;rw[HT.sIx_none,show(some (1:Int))=some ((1:Nat):Int) from rfl,HT.sIx_nat,List.drop_zero,Nat.sub_zero,List.map_take,Qb];by_cases h:1<=(shH0 b).length
       . rw[ZF h]
       . have:shH0 b=[]:=QA '!'
         rw[this];rfl
     have r:(List.replicate (shW b).toNat (((shH0 b).take 1).map V.int)).flatten=(shH b).map V.int:=by
       unfold shH;rw[Ql j,List.map_flatten,List.map_replicate]
     show some (HO.lst (List.replicate (shW b).toNat (cutV ((shH0 b).map V.int) none (some 1))).flatten)=_;rw[ec,r]
   . rw[Qe j]
     refine iteF ?_;refine⟨_,rfl,_,_,rfl,rfl,⟨by decide,by decide⟩,_,_,rfl,rfl,(by show(0:Int)<5;decide),rfl,_,rfl,?_⟩;show(if decide (V.int (at0 b 0 / 2 % 5)=V.int 2)=true then _ else _);rw[zj0];by_cases B:at0 b 0 / 2 % 5=2
     . rw[Qh B]
       refine iteT ?_;refine⟨by decide,λL k=>⟨_,rfl,L,_,_,rfl,rfl,za3,(by show -(2 ^ 63)<=shW b;omega),(by show shW b<2 ^ 63;omega),?_,λl m=>?_⟩⟩
       . refine Zs (zd0 ?_)
         show 1*(shW b).toNat<=1000;omega
       have n:=(d.updT (o:=.lst [.int 20]) k).updT (o:=.lst (List.replicate (shW b).toNat [V.int 20]).flatten) m;have C:H l=none:=(d.updT (o:=.lst [.int 20]) k).free m;refine⟨_,rfl,_,rfl,_,rfl,(by show 3<=sizeLine;decide),λp c=>?_⟩;refine q p l _ (n.updT c) (n.free c) C ?_ za3;rw[za8 (λe=>by rw[<-e] at c;rw[za3] at c;cases c),za3];have r:(List.replicate (shW b).toNat [V.int 20]).flatten=(shH b).map V.int:=by
         unfold shH;rw[Qg j,Ql B,List.map_flatten,List.map_replicate];rfl
       show some (HO.lst (List.replicate (shW b).toNat [V.int 20]).flatten)=_;rw[r]
     . rw[Qe B]
       refine iteF ?_;refine⟨_,rfl,_,rfl,_,rfl,(by show 3<=sizeLine;decide),λp c=>?_⟩;refine q p D _ (d.updT c) (d.free c) fD ?_ za3;rw[za8 (λe=>by rw[<-e] at c;rw[g] at c;cases c),g];have r:shH b=shH0 b:=by
         unfold shH;rw[Qg j,Qg B]
       rw[r]
theorem ye9 (T:Txt K mg t):FnOk P w K mg base CX0 2 t.cw t.cx Vc (sp_w_put K t):=by
 refine T.bP.F.ok zj7 (λvs H Q a0 h=>?_) (λa4 ab a2 ac H vs Q a0 B h=>?_)
 . obtain⟨a,C,h,b,k,c,n,r,j,rfl,D,L,S,⟨n1,n2,U,hw⟩,q⟩:=h
   rfl
 . obtain⟨a,C,h,b,k,c,n,r,j,rfl,D,L,S,⟨n1,n2,U,hw⟩,q⟩:=h
   refine⟨_,(za2 (zX5 P3 (yf6 rfl (zg2 (zc3 (i:=4) zj7.nd rfl '$') (zg2 (zc3 (i:=5) zj7.nd rfl '$') (zg2 (zc3 (i:=6) zj7.nd rfl '$') zF1)))))
     (za2 (zb7 (i:=7) zj7.nd rfl '$' (zf0 zg1 (zc0 zj5 (za7 (zC8 T) B.m T.aN zb1 (za0 P0 (za0 za6 za1))) za6) za6 (zb8 _)))
     (za2 (zb7 (i:=8) zj7.nd rfl '$' (zc0 zl8 (za7 (zC8 T) B.m T.aN zb1 (za0 P0 (za0 P1 za1))) P2))
     (za2 (zb7 (i:=9) zj7.nd rfl '$' (zf8 za1))
     (za2 (zj4 PassesOwn.never rfl (zg3 (za7 (zW9 T) B.m T.bz zb1 (za0 P8 (za0 (zb6 zc1 rfl T.ag QF (za0 P6 za1)) (za0 (zc0 zl8 (zc0 zr5 za6 (pv 4)) za6) (za0 P7 za1)))))) (zc3 (i:=10) zj7.nd rfl '$') (za2 (zb7 (i:=11) zj7.nd rfl '$' (zc0 zk3 P10 (pv 4)))
     (za2 (zc2 (zb9 zg1 (zc0 zj5 P8 za6) za6 (zb8 _)) (za4 (zb7 (i:=11) zj7.nd rfl '$' (pv 4))) zb3)
     (za2 (zc2 (PW.pt (zI2 (zb9 zl9 P11 za6 (zb8 _)) (zF0 (zb9 ym5 (zk5 QX PySem.F.slot_list_count PySem.F.type_list_count zT9 P9 (za0 P11 za1)) P5 (zb8 _))))) (za4 (zb7 (i:=11) zj7.nd rfl '$' za6)) zb3)
     (za4 (zg6 (zk5 QX Zp Zo zl6 P9 (za0 P11 za1))))))))
     (za4 (za9 P9))))))),?_⟩
   refine cut6 ?_;intro a5 a6 a7 a8 a9;refine⟨_,rfl,C,_,rfl,SqL.of L,rfl,_,_,rfl,_,_,rfl,_,_,rfl,rfl,?_⟩;refine⟨_,rfl,a,b,0,rfl,D,_,_,rfl,rfl,(by show(0:Int)<2;decide),rfl,?_⟩;refine⟨_,rfl,_,rfl,a,b,k,rfl,D,_,rfl,_,_,rfl,rfl,?_⟩;refine⟨QH _,λm E=>?_⟩;have F:Same H (upd H m (.lst [])):=Same.upd E;refine⟨_,rfl,_,rfl,h,_,rfl,.inl (F.seq S),_,rfl,_,_,rfl,rfl,.inl ⟨by decide,by decide⟩,_,_,rfl,rfl,_,rfl,at0 b k+c,2*n+1,j.length,zt0 b,?_,⟨by omega,by omega,by omega⟩,λf s=>⟨f,rfl,⟨_,SqL.of za3⟩,?_⟩⟩
   . rw[Qb];rfl
   have M:f≠m:=λe=>by rw[e,za3] at s;cases s
   have aa:H f=none:=F.free s;have Y:(figs (at0 b k+c) j.length (2*n+1) (zt0 b)).length=j.length:=zH3 _ _ _ _;have N:=ya5 (cell:=at0 b k+c) (mix:=zt0 b) (show(0:Int)<2*n+1 by omega) j.length;have G:∀d,Same H d->d m=some (.lst ((putL n r (decide (V.int ((at0 b k+c) % 13)=V.int 12)) (figs (at0 b k+c) j.length (2*n+1) (zt0 b))).map V.int))->Q (.ref m) d:=λd s' e=>q m d s' E e
   generalize figs (at0 b k+c) j.length (2*n+1) (zt0 b)=fs at Y N G ⊢;have J:∀i,(putL n r (decide (V.int ((at0 b k+c) % 13)=V.int 12)) (fs.take i)).length<=5:=λi=>by
     rw[(yk8 _ '!' U (fs.take i) λx hx=>N x (ZC hx)).1,QW];omega
   refine zn9 (K:=K) (a:=f) (xs:=fs.map V.int) (λi u d=>X2 λv y=>A2 (u=[some (.ref a),some (.int k),some (.int c),some (.ref C),some (.int n),some (.int r),some (.ref h),some (.bl (zt0 b)),some (.int (at0 b k+c)),some (.ref m),v,y]) (d=upd (upd (upd H m (.lst [])) f (.lst (fs.map V.int))) m (.lst ((putL n r (decide (V.int ((at0 b k+c) % 13)=V.int 12)) (fs.take i)).map V.int)))) ⟨none,none,rfl,?_⟩ ?_ ?_ ?_
   . exact(upd_id (by rw[za8 (Ne.symm M),za3];rfl)).symm
   . rintro i u d _ ⟨_,_,_,rfl⟩
     exact SqL.of (by rw[za8 M,za3])
   . rintro i x u d hi ⟨v,y,rfl,rfl⟩
     obtain⟨z,rfl,hz⟩:=int_at hi;have Z:fs.take (i+1)=fs.take i++[z]:=by rw[QY,hz];rfl
     have O:=J i;generalize W:decide (V.int ((at0 b k+c) % 13)=V.int 12)=last at J O G ⊢;generalize X:putL n r last (fs.take i)=made at O;have o:putL n r last (fs.take (i+1))=zq7 n r last made z:=by rw[Z,zV9,X]
     have a3:∀(a1:Int),a1=(if last=true then n else z-n)->True:=λ_ _=>trivial
     refine⟨_,rfl,_,rfl,_,_,rfl,rfl,?_⟩;refine⟨_,rfl,_,_,rfl,rfl,(by show(0:Int)<13;decide),rfl,_,rfl,?_⟩;show(if decide (V.int ((at0 b k+c) % 13)=V.int 12)=true then _ else _);rw[W];cases last
     . refine iteF ?_
       refine⟨_,rfl,rfl,_,rfl,?_⟩;refine ite2 (λI=>?_) (λI=>?_)
       . have A:z-n≠0:=λe=>by
           have p:(!decide (V.int (z-n)=V.int 0))=true:=I;rw[e] at p;simp at p
         refine⟨_,rfl,.inl ⟨rfl,_,SqL.of za3⟩,_,rfl,m,made,z-n,rfl,rfl,SqL.of za3,_,rfl,_,_,rfl,rfl,_,rfl,?_⟩;refine ite2 (λl=>?_) (λl=>?_)
         . have g:r<=(made.count (z-n):Int):=Zv l
           refine⟨_,rfl,.inl ⟨rfl,_,SqL.of za3⟩,_,rfl,m,_,_,rfl,rfl,za3,zd0 (by rw[Qb];omega),_,_,rfl,?_⟩;rw[zh5,o];unfold zq7;rw[Qg (show ¬ (false=true) by decide),Ql ⟨A,g⟩,Qq];rfl
         . have g:¬ r<=(made.count (z-n):Int):=λe=>l (Qh e)
           refine⟨_,rfl,.inl ⟨rfl,_,SqL.of za3⟩,_,rfl,m,_,_,rfl,rfl,za3,zd0 (by rw[Qb];omega),_,_,rfl,?_⟩;rw[zh5,o];unfold zq7;rw[Qg (show ¬ (false=true) by decide),Qg (λe=>g e.2),Qq];rfl
       . have A:z-n=0:=by
           have p:¬ (!decide (V.int (z-n)=V.int 0))=true:=I;rw[zj0] at p;simpa using p
         refine iteF ?_;refine⟨_,rfl,.inl ⟨rfl,_,SqL.of za3⟩,_,rfl,m,_,_,rfl,rfl,za3,zd0 (by rw[Qb];omega),_,_,rfl,?_⟩;rw[zh5,o];unfold zq7;rw[Qg (show ¬ (false=true) by decide),Qg (λe=>e.1 A),Qq];rfl
     . refine iteT ?_
       refine⟨_,rfl,?_⟩;refine⟨_,rfl,rfl,_,rfl,?_⟩;have R:n≠0:=by omega
       refine iteA (by show(!decide (V.int n=V.int 0))=true;rw[zj0];simpa using R) ?_;refine⟨_,rfl,.inl ⟨rfl,_,SqL.of za3⟩,_,rfl,m,made,n,rfl,rfl,SqL.of za3,_,rfl,_,_,rfl,rfl,_,rfl,?_⟩;refine ite2 (λl=>?_) (λl=>?_)
       . have g:r<=(made.count n:Int):=Zv l
         refine⟨_,rfl,.inl ⟨rfl,_,SqL.of za3⟩,_,rfl,m,_,_,rfl,rfl,za3,zd0 (by rw[Qb];omega),_,_,rfl,?_⟩;rw[zh5,o];unfold zq7;rw[Ql rfl,Ql ⟨R,g⟩,Qq];rfl
       . have g:¬ r<=(made.count n:Int):=λe=>l (Qh e)
         refine⟨_,rfl,.inl ⟨rfl,_,SqL.of za3⟩,_,rfl,m,_,_,rfl,rfl,za3,zd0 (by rw[Qb];omega),_,_,rfl,?_⟩;rw[zh5,o];unfold zq7;rw[Ql rfl,Qg (λe=>g e.2),Qq];rfl
   . rintro u d ⟨v,y,rfl,rfl⟩
     rw[Qb,QO];refine⟨_,rfl,G _ ?_ za3⟩;exact((F.updT s).put E)
def sp_w_tilt (K:W.Frag)(t:Adr):Sp:=λvs H Q _=>∃(h a:Addr) (hs xs:'#'),vs=[.ref h,.ref a]/\SqL K H h (hs.map V.int)/\(SqL K H a (xs.map V.int)\/SqT K H a (xs.map V.int))/\(hs.length=xs.length/\xs.length<=5/\∀x∈hs,1<=x/\x<=20)/\Q (.int (zb4 hs xs)) H
theorem zw2 (T:Txt K mg t):FnOk P w K mg base CX0 1 t.b5 t.b6 Vd (sp_w_tilt K t):=by
 refine T.aH.F.ok zC1 (λx H Q E h=>?_) (λD A C s H x Q E I h=>?_)
 . obtain⟨h,a,b,d,rfl,f,c,⟨m,y,l⟩,q⟩:=h
   rfl
 . obtain⟨h,a,b,d,rfl,f,c,⟨m,y,l⟩,q⟩:=h
   refine⟨_,(za2 (zb7 (i:=2) zC1.nd rfl '$' za6)
     (za2 (zj4 PassesOwn.never rfl (zq9 rfl T.az (za0 (zb6 zc1 rfl T.ag QF (za0 P0 za1)) za1)) (zc3 (i:=3) zC1.nd rfl '$') (za4 (zb7 (i:=2) zC1.nd rfl '$' (zc0 zl8 P2 (zc0 zr5 (zc5 zc6 P0 P3 (λ_ _=>rfl)) (zc5 zt5 P1 P3 (λ_ _=>rfl)))))))
     (za4 (za9 P2)))),?_⟩
   refine cut3 ?_;intro F G;refine⟨_,rfl,h,_,rfl,.inl f,?_⟩;rw[Qb];refine⟨_,rfl,by omega,by omega,zl5 (n:=((b.length:Nat):Int).toNat) (λi k e=>X1 λv=>A2 (k=[some (.ref h),some (.ref a),some (.int (yd8 b d i)),v]) (e=H)) ⟨none,rfl,rfl⟩ ?_ ?_⟩
   . rintro j k e z ⟨v,rfl,rfl⟩
     have r:j<b.length:=by simpa using z
     have o:(0:Int)+(j:Int)=(j:Int):=by omega
     have p:atI (d.map V.int) (0+(j:Int))=some (.int (d.getD j 0)):=by rw[o];exact zi9 '!' '!'
     have B:atI (b.map V.int) (0+(j:Int))=some (.int (b.getD j 0)):=by rw[o];exact zi9 '!' '!'
     have J:=l (b.getD j 0) (zo7 r);have u:∀(g:VK),g (.int (d.getD j 0)) e->rIx K (.ref a) (.int (0+(j:Int))) e g:=λg h=>by
       rcases c with c | c
       . exact .inl ⟨a,_,_,_,rfl,rfl,c,p,h⟩
       . exact .inr (.inl ⟨a,_,_,_,rfl,rfl,c,p,h⟩)
     exact⟨_,rfl,_,rfl,_,rfl,h,_,_,_,rfl,rfl,f,B,_,rfl,_,rfl,u _ ⟨_,_,rfl,rfl,.inl ⟨by omega,by omega⟩,_,_,rfl,rfl,_,rfl,rfl⟩⟩
   . rintro k e ⟨v,rfl,rfl⟩
     rw[ZE,sumTo_tilt m];exact⟨_,rfl,q⟩
end
section
variable {P:Program} {w:World} {K:W.Frag} {mg:Str->Option Value} {base:Heap} {t:Adr}
def zm8 (K:W.Frag)(H:Hp)(c:Addr)(n r:Int)(hs:'#')(lim:Int):Prop:=∃h,zi0 n r hs lim/\SqL K H c [.int n,.int r,.ref h,.int lim]/\SqL K H h (hs.map V.int)
theorem zm8.same {K:W.Frag}{H H':Hp}{c:Addr}{n r:Int}{d:'#'}{b:Int}(h:zm8 K H c n r d b)(s:Same H H'):zm8 K H' c n r d b:=let⟨a,e,f,g⟩:=h;⟨a,e,s.seq f,s.seq g⟩
theorem zX0 {xs ys:'#'}(j:Nat)(x y:V)(c:(xs.map V.int)[j]?=some x)(d:(ys.map V.int)[j]?=some y):zV3 x y=true:=by
 obtain⟨a,rfl,_⟩:=int_at c;obtain⟨b,rfl,_⟩:=int_at d;rfl
theorem kit_self (K:W.Frag)(c:Value):W.kitOne K c c=some true:=Ql (by simp)
def sp_w_lets (K:W.Frag)(t:Adr):Sp:=λvs H Q _=>∃(sc h a m:Addr) (n r lim p:Int) (i:Nat) (hs xs:'#'),vs=[.ref sc,.ref a,.ref m]/\SqL K H sc [.int n,.int r,.ref h,.int lim]/\SqL K H h (hs.map V.int)/\H a=some (.tup (xs.map V.int)) ∧
 H m=some (.tup [.int ((i:Int)+1),.int (xs.getD i 0),.int p])/\(hs.length=xs.length/\xs.length<=5/\(∀x∈hs,1<=x/\x<=20)/\i<xs.length)/\Q (.bl (decide (Lets n r hs lim xs i p))) H
theorem ok_w_lets (T:Txt K mg t):FnOk P w K mg base CX0 2 t.b7 t.b8 Ve (sp_w_lets K t):=by
 refine T.cj.F.ok zk2 (λY H Q a0 h=>?_) (λa2 aa a1 ab H Y Q a0 Z h=>?_)
 . obtain⟨S,h,a,m,n,r,e,p,i,b,xs,rfl,N,j,s,U,⟨C,D,v,E⟩,q⟩:=h
   rfl
 . obtain⟨S,h,a,m,n,r,e,p,i,b,xs,rfl,N,j,s,U,⟨C,D,v,E⟩,q⟩:=h
   refine⟨_,(za2 (zX5 P0 (yf6 rfl (zg2 (zc3 (i:=3) zk2.nd rfl '$') (zg2 (zc3 (i:=4) zk2.nd rfl '$') (zg2 (zc3 (i:=5) zk2.nd rfl '$') (zg2 (zc3 (i:=6) zk2.nd rfl '$') zF1))))))
     (za2 (zX5 P2 (ym2 rfl (zg2 (zc3 (i:=7) zk2.nd rfl '$') (zg2 (zc3 (i:=8) zk2.nd rfl '$') (zg2 (zc3 (i:=9) zk2.nd rfl '$') zF1)))))
     (za2 (zc2 (PW.pt (zk4 (zb9 zN0 P7 za6 (zb8 _)) (zk4 (zb9 zu7 P7 (zb6 zc1 rfl T.ag QF (za0 P5 za1)) (zb8 _)) (zj3 (zb9 zl9 (zc5 zi2 P1 (zc0 zk3 P7 za6) (λ_ _=>rfl)) P8 (zb8 _)))))) (za4 (za9 zg0)) zb3)
     (za2 (zc2 (PW.pt (zk4 (zb9 zu7 (zb6 zi8 rfl T.ay QZ (za0 P9 za1)) P3 (zb8 _)) (zj3 (zb9 zg1 P9 P8 (zb8 _))))) (za4 (za9 zg0)) zb3)
     (za2 (zc2 (PW.pt (zI2 (zb9 zl9 P9 za6 (zb8 _)) (zF0 (zb9 ym5 (yn8 PySem.F.slot_tuple_count PySem.F.type_tuple_count zI5 P1 (za0 P9 za1)) (pv 4) (zb8 _))))) (za4 (za9 zg0)) zb3)
     (za2 (zb7 (i:=10) zk2.nd rfl '$' (zc0 zk3 (za7 (zw2 T) Z.m T.aH zb1 (za0 P5 (za0 P1 za1))) (zc0 zr5 (zc5 zc6 P5 (zc0 zk3 P7 za6) (λ_ _=>rfl)) P8)))
     (za4 (za9 (zE3 (zf0 yr3 (zb6 zi8 rfl T.ay QZ (za0 P10 za1)) P6 (zb8 _)) (zy7 (zf0 yr3 (zb6 zi8 rfl T.ay QZ (za0 (zc0 zl8 P10 (zc0 zr5 (zc5 zc6 P5 (zc0 zk3 P7 za6) (λ_ _=>rfl)) P9)) za1)) P6 (zb8 _)))))))))))),?_⟩
   refine cut7 ?_;intro a3 a4 a5 a6 a7 a8;have W:SqL K H a (xs.map V.int)\/SqT K H a (xs.map V.int):=.inr (SqT.of s);have l:((i:Int)+1-1).toNat=i:=by omega
   have ax:atI (xs.map V.int) ((i:Int)+1-1)=some (.int (xs.getD i 0)):=by have:=zi9 (xs:=xs) (i:=(i:Int)+1-1) '!' '!';rw[l] at this;exact this
   have x:atI (b.map V.int) ((i:Int)+1-1)=some (.int (b.getD i 0)):=by have:=zi9 (xs:=b) (i:=(i:Int)+1-1) '!' '!';rw[l] at this;exact this
   have a9:=v (b.getD i 0) (zo7 '!');have u:¬ Lets n r b e xs i p->Q (.bl false) H:=λz=>by rw[Qe z] at q;exact q
   refine⟨_,rfl,S,_,rfl,N,rfl,_,_,rfl,_,_,rfl,_,_,rfl,_,_,rfl,rfl,?_⟩;refine⟨_,rfl,m,_,rfl,SqT.of U,rfl,_,_,rfl,_,_,rfl,_,_,rfl,rfl,?_⟩;refine⟨_,rfl,_,_,rfl,rfl,_,rfl,iteB (Qe '!') ?_⟩;refine⟨_,rfl,_,rfl,h,_,rfl,.inl j,_,_,rfl,rfl,_,rfl,iteB (Qe (by rw[Qb];omega)) ?_⟩;refine⟨_,rfl,_,rfl,_,_,rfl,rfl,a,_,_,_,rfl,rfl,SqT.of s,ax,_,rfl,rfl,_,rfl,iteB (by simp) ?_⟩;refine⟨_,rfl,_,rfl,_,rfl,_,_,rfl,rfl,_,rfl,?_⟩;refine ite2 (λF=>?_) (λF=>?_)
   . have o:n<absI p:=Zv F
     exact u λL=>by have:=L.on;unfold absI at o;split at o<;>omega
   have o:¬ n<absI p:=λz=>F (Qh z)
   have O:-n<=p/\p<=n:=by unfold absI at o;split at o<;>omega
   refine⟨_,rfl,_,rfl,rfl,_,rfl,?_⟩;rw[zj0];refine ite2 (λG=>?_) (λG=>?_)
   . exact u λL=>L.ne (Zv G)
   have R:p≠xs.getD i 0:=λz=>G (Qh z)
   refine⟨_,rfl,rfl,_,rfl,?_⟩;rw[zj0];refine ite2 (λI=>?_) (λI=>?_)
   . have A:p≠0:=by simpa using I
     refine⟨_,rfl,⟨_,_,rfl,s⟩,_,rfl,a,xs,p,rfl,rfl,SqT.of s,_,rfl,_,_,rfl,rfl,_,rfl,?_⟩;refine ite2 (λJ=>?_) (λJ=>?_)
     . have X:r<=(xs.count p:Int):=Zv J
       exact u λL=>by have:=L.room A;omega
     . have X:¬ r<=(xs.count p:Int):=λz=>J (Qh z)
       have y:p≠0->(xs.count p:Int)<r:=λ_=>by omega
       have B:∀c d:Bool,(c=decide (absI (ze9 b xs i)<=e))->(d=decide (absI (ze9 b xs i+b.getD i 0*p)<=e))->(c && d)=decide (Lets n r b e xs i p):=λc d l M=>by
         subst l M;by_cases f:absI (ze9 b xs i)<=e
         . by_cases g:absI (ze9 b xs i+b.getD i 0*p)<=e
           . rw[Qh f,Qh g,Qh (⟨E,O,R,y,f,g⟩:Lets n r b e xs i p)];rfl
           . rw[Qh f,Qe g,Qe (λL:Lets n r b e xs i p=>g L.behind)];rfl
         . rw[Qe f,Qe (λL:Lets n r b e xs i p=>f L.held)];rfl
       refine⟨_,rfl,_,rfl,h,a,b,xs,rfl,j,W,⟨C,D,v⟩,_,rfl,_,rfl,_,_,rfl,rfl,h,_,_,_,rfl,rfl,j,x,_,rfl,_,_,rfl,rfl,.inl ⟨by omega,by omega⟩,_,_,rfl,rfl,?_⟩;refine⟨_,rfl,_,rfl,_,rfl,_,_,rfl,rfl,_,rfl,?_⟩;refine ite2 (λk=>?_) (λk=>?_)
       . refine⟨_,rfl,_,rfl,_,rfl,_,_,rfl,rfl,h,_,_,_,rfl,rfl,j,x,_,rfl,_,_,rfl,rfl,.inl ⟨by omega,by omega⟩,_,_,rfl,rfl,_,rfl,_,rfl,_,_,rfl,rfl,?_⟩
         have:=B true _ k.symm rfl;rw[<-this] at q;exact q
       . skip
         exact u λL=>k (Qh L.held)
   . have A:p=0:=by simpa using I
     refine iteF ?_;have y:p≠0->(xs.count p:Int)<r:=λz=>absurd A z
     have B:∀c d:Bool,(c=decide (absI (ze9 b xs i)<=e))->(d=decide (absI (ze9 b xs i+b.getD i 0*p)<=e))->(c && d)=decide (Lets n r b e xs i p):=λc d l M=>by
       subst l M;by_cases f:absI (ze9 b xs i)<=e
       . by_cases g:absI (ze9 b xs i+b.getD i 0*p)<=e
         . rw[Qh f,Qh g,Qh (⟨E,O,R,y,f,g⟩:Lets n r b e xs i p)];rfl
         . rw[Qh f,Qe g,Qe (λL:Lets n r b e xs i p=>g L.behind)];rfl
       . rw[Qe f,Qe (λL:Lets n r b e xs i p=>f L.held)];rfl
     refine⟨_,rfl,_,rfl,h,a,b,xs,rfl,j,W,⟨C,D,v⟩,_,rfl,_,rfl,_,_,rfl,rfl,h,_,_,_,rfl,rfl,j,x,_,rfl,_,_,rfl,rfl,.inl ⟨by omega,by omega⟩,_,_,rfl,rfl,?_⟩;refine⟨_,rfl,_,rfl,_,rfl,_,_,rfl,rfl,_,rfl,?_⟩;refine ite2 (λk=>?_) (λk=>?_)
     . refine⟨_,rfl,_,rfl,_,rfl,_,_,rfl,rfl,h,_,_,_,rfl,rfl,j,x,_,rfl,_,_,rfl,rfl,.inl ⟨by omega,by omega⟩,_,_,rfl,rfl,_,rfl,_,rfl,_,_,rfl,rfl,?_⟩
       have:=B true _ k.symm rfl;rw[<-this] at q;exact q
     . skip
       exact u λL=>k (Qh L.held)
def sp_w_is_spots (K:W.Frag)(t:Adr):Sp:=λvs H Q _=>∃(a:Addr) (k:Int) (xs:'#'),vs=[.ref a,.int k]/\H a=some (.tup (xs.map V.int))/\(xs.length:Int)=k/\Q (.bl true) H
theorem ok_w_is_spots (T:Txt K mg t):FnOk P w K mg base CX0 2 t.bn t.bo Vf (sp_w_is_spots K t):=by
 refine T.bA.F.ok zD6 (λg H Q E h=>?_) (λn A m s H g Q E j h=>?_)
 . obtain⟨a,k,xs,rfl,b,f,q⟩:=h
   rfl
 . obtain⟨a,k,xs,rfl,b,f,q⟩:=h
   refine⟨_,(za2 (zc2 (PW.pt (zk4 (ze8 (zd3 (zb6 zm1 rfl T.af QL (za0 P0 (za0 (zw3 (v:=.ty "tuple") rfl T.a2 PyProof.Rows.boot_tuple rfl) za1))))) (zj3 (zb9 zl9 (zb6 zc1 rfl T.ag QF (za0 P0 za1)) P1 (zb8 _))))) (za4 (za9 zg0)) zb3)
     (za2 (zj4 PassesOwn.never rfl (zX6 P0) (zc3 (i:=2) zD6.nd rfl '$') (za4 (zc2 (ze8 (zd3 (za7 (zy3 T) j.m T.aJ zb1 (za0 P2 za1)))) (za4 (za9 zg0)) zb3)))
     (za4 (za9 zg0)))),?_⟩
   refine cut3 ?_;intro o p;refine⟨_,rfl,_,_,_,_,_,rfl,.ty _,.tup b,rfl,_,rfl,iteF ?_⟩;refine⟨_,rfl,a,_,rfl,.inr (SqT.of b),_,rfl,rfl,_,rfl,iteB (by rw[Qb,f];simp) ?_⟩;refine⟨_,rfl,a,rfl,⟨_,SqT.of b⟩,zL0 (K:=K) (a:=a) (xs:=xs.map V.int) (λi d c=>X1 λv=>A2 (d=[some (.ref a),some (.int k),v]) (c=H)) ⟨none,rfl,rfl⟩ (λi d c _ ⟨_,_,e⟩=>e▸SqT.of b) ?_ ?_⟩
   . rintro i x d c l ⟨v,rfl,rfl⟩
     obtain⟨z,rfl,r⟩:=int_at l;exact⟨_,rfl,z,rfl,_,rfl,iteF ⟨_,rfl,rfl⟩⟩
   . rintro d c ⟨v,rfl,rfl⟩
     exact q
def sp_w_walk (K:W.Frag)(t:Adr):Sp:=λvs H Q _=>∃(c a l:Addr) (n r lim:Int) (hs x y:'#') (rs:List Addr) (ms:List (Nat×Int)),vs=[.ref c,.ref a,.ref l]/\zm8 K H c n r hs lim/\zc7 n r hs.length x/\H a=some (.tup (x.map V.int))/\H l=some (.lst (rs.map V.ref))/\zh4 H x rs ms/\Goes n r hs lim x ms y ∧
 ∀b H',Same H H'->H' b=some (.tup (y.map V.int))->Q (.ref b) H'
theorem zX1 (T:Txt K mg t):FnOk P w K mg base CX0 3 t.cb t.cc Vh (sp_w_walk K t):=by
 refine T.bB.F.ok zC2 (λvs H a7 a8 h=>?_) (λab ag aa a0 H vs a7 a8 Q h=>?_)
 . obtain⟨c,a,l,n,r,C,G,x,a9,R,S,rfl,a1,U,W,s,I,J,a2⟩:=h
   rfl
 . obtain⟨c,a,l,n,r,C,G,x,a9,R,S,rfl,a1,U,W,s,I,J,a2⟩:=h
   refine⟨_,(za2 (zc2 (ze8 (zd3 (zb6 zm1 rfl T.af QL (za0 P2 (za0 (zw3 (v:=.ty "list") rfl T.au Zc rfl) za1))))) (za4 (za9 zr4)) zb3)
     (za2 (zb7 (i:=3) zC2.nd rfl '$' P1)
     (za2 (zj4 PassesOwn.never rfl (zg3 P2) (zc3 (i:=4) zC2.nd rfl '$') (za2 (zc2 (PW.pt (zk4 (ze8 (zd3 (za7 (ok_w_is_spots T) Q.m T.bA zb1 (za0 (pv 4) (za0 za6 za1))))) (zj3 (ze8 (zd3 (za7 (ok_w_lets T) Q.m T.cj zb1 (za0 P0 (za0 P3 (za0 (pv 4) za1))))))))) (za4 (za9 zr4)) zb3)
     (za4 (zb7 (i:=3) zC2.nd rfl '$' (zc0 zL5 (zc0 zL5 (zo1 zY1 P3 zs7 (zs8 (zc0 zk3 (zc5 zi2 (pv 4) za6 (λ_ _=>rfl)) za6))) (zE4 (za0 (zc5 zi2 (pv 4) za6 (λ_ _=>rfl)) za1))) (zo1 zY1 P3 (zs8 (zc5 zi2 (pv 4) za6 (λ_ _=>rfl))) zs7))))))
     (za4 (za9 P3))))),?_⟩
   refine cut4 ?_;intro ac ad ae;obtain⟨h,ok,hc,hh⟩:=a1;have hw:=ok.w;refine⟨_,rfl,_,_,_,_,_,rfl,.ty _,.lst s,rfl,_,rfl,iteF ?_⟩;refine⟨_,rfl,_,rfl,l,rfl,⟨_,SqL.of s⟩,zn9 (K:=K) (a:=l) (xs:=R.map V.ref) (λi B d=>X3 λb M z=>A4 (B=[some (.ref c),some (.ref a),some (.ref l),some (.ref b),M]) (Same H d) (d b=some (.tup (z.map V.int))) (Goes n r G C x (S.take i) z)) ⟨a,none,x,rfl,Same.refl _,W,rfl⟩ (λi B d _ ⟨_,_,_,_,a0,_,_⟩=>SqL.of (a0 _ _ s)) ?_ ?_⟩
   . rintro i v B d hi ⟨b,M,z,rfl,e,k,f⟩
     obtain⟨g,m,z',rfl,hm,a4,a5,L⟩:=I.at J hi;obtain rfl:=f.det a4;have Vz:=f.valid U;have af:=Vz.len;have O:=L.lt;have j:d g=some (.tup [.int ((m.1:Int)+1),.int (z.getD m.1 0),.int m.2]):=e _ _ a5;refine⟨_,rfl,g,3,[(m.1:Int)+1,z.getD m.1 0,m.2],rfl,j,rfl,_,rfl,iteF ?_⟩;refine⟨_,rfl,_,rfl,_,rfl,c,h,b,g,n,r,C,m.2,m.1,G,z,rfl,e.seq hc,e.seq hh,k,j,⟨by omega,by omega,ok.h,O⟩,_,rfl,?_⟩;rw[Qh L];refine iteF ?_;have X:(m.1:Int)+1-1=(m.1:Int):=by omega
     refine⟨_,rfl,_,rfl,g,_,_,_,rfl,rfl,SqT.of j,rfl,_,_,rfl,rfl,_,rfl,b,_,rfl,SqT.of k,?_,λo f1=>?_⟩
     . rw[X,HT.sIx_none,HT.sIx_nat,Qb,ZF '!']
       omega
     rw[X] at *;have sa:Same d (upd d o (.tup (cutV (z.map V.int) none (some (m.1:Int))))):=Same.upd f1;have D:(upd d o (.tup (cutV (z.map V.int) none (some (m.1:Int))))) o=some (.tup (cutV (z.map V.int) none (some (m.1:Int)))):=za3;revert sa D;generalize upd d o (.tup (cutV (z.map V.int) none (some (m.1:Int))))=u;intro sa D;refine⟨_,rfl,g,_,_,_,rfl,rfl,SqT.of (sa _ _ j),rfl,(by show 1<=sizeLine;decide),λp f2=>?_⟩;have sb:Same u (upd u p (.tup [.int m.2])):=Same.upd f2;have E:(upd u p (.tup [.int m.2])) p=some (.tup [.int m.2]):=za3;revert sb E;generalize upd u p (.tup [.int m.2])=Hb;intro sb E;have a3:=zo2 (z.map V.int) none (some (m.1:Int));rw[Qb] at a3;refine⟨o,p,_,_,rfl,rfl,sb _ _ D,E,Zs (zd0 (by show _+1<=_;omega)),λl3 y sc a6=>?_⟩;have F:=sa.trans (sb.trans sc);refine⟨_,rfl,_,rfl,g,_,_,_,rfl,rfl,SqT.of (F _ _ j),rfl,_,rfl,b,_,rfl,SqT.of (F _ _ k),?_,λq f4=>?_⟩
     . rw[show((m.1:Int)+1)=((m.1+1:Nat):Int) by omega,HT.sIx_nat,Qb]
       omega
     have A:Same y (upd y q (.tup (cutV (z.map V.int) (some ((m.1:Int)+1)) none))):=Same.upd f4;have N:(upd y q (.tup (cutV (z.map V.int) (some ((m.1:Int)+1)) none))) q=some (.tup (cutV (z.map V.int) (some ((m.1:Int)+1)) none)):=za3;revert A N;generalize upd y q (.tup (cutV (z.map V.int) (some ((m.1:Int)+1)) none))=Hd;intro A N;have Y:=yl1 z m.1 m.2 O;refine⟨l3,q,_,_,rfl,rfl,A _ _ a6,N,?_,λl5 He se Z=>?_⟩
     . rw[<-Qr,Y,Qb,ZG]
       exact Zs (zd0 '!')
     rw[Y] at Z;refine⟨l5,_,_,rfl,e.trans (F.trans (A.trans se)),Z,?_⟩;rw[QY,hm];exact f.snoc L
   . rintro B d ⟨b,M,z,rfl,e,k,f⟩
     rw[Qb,I.len,QO] at f;obtain rfl:=J.det f;exact⟨_,rfl,a2 b d e k⟩
def sp_w_with (K:W.Frag)(t:Adr):Sp:=λvs H Q _=>∃(c:Addr) (n r lim L:Int) (hs:'#'),vs=[.ref c,.int L]/\zm8 K H c n r hs lim/\0<=L/\L<=400/\∀l H',Same H H'->zm8 K H' l n r hs L->Q (.ref l) H'
theorem ok_w_with (T:Txt K mg t):FnOk P w K mg base CX0 1 t.cd t.ce PH (sp_w_with K t):=by
 refine T.cl.F.ok sc_w_with (λi H Q E h=>?_) (λo A m s H i Q E p h=>?_)
 . obtain⟨c,n,r,g,L,j,rfl,⟨h,ok,a,b⟩,d,e,q⟩:=h
   rfl
 . obtain⟨c,n,r,g,L,j,rfl,⟨h,ok,a,b⟩,d,e,q⟩:=h
   refine⟨_,(za4 (za9 (zf8 (za0 (zc5 zc6 P0 za6 (λ_ _=>rfl)) (za0 (zc5 zc6 P0 za6 (λ_ _=>rfl)) (za0 (zc5 zc6 P0 za6 (λ_ _=>rfl)) (za0 P1 za1))))))),?_⟩;refine⟨_,rfl,c,_,_,_,rfl,rfl,a,rfl,_,rfl,c,_,_,_,rfl,rfl,a,rfl,_,rfl,c,_,_,_,rfl,rfl,a,rfl,_,rfl,(by show 4<=sizeLine;decide),λl k=>?_⟩;have f:Same H (upd H l (.lst [.int n,.int r,.ref h,.int L])):=Same.upd k;exact q l _ f ⟨h,⟨ok.n1,ok.n2,ok.r1,ok.r2,d,e,ok.w,ok.h,ok.most⟩,SqL.of za3,f.seq b⟩
theorem low_pos (a s g:'#'):0<=zk9 a s g:=by unfold zk9 absI;split<;>split<;>omega
def sp_w_low (K:W.Frag)(t:Adr):Sp:=λvs H Q _=>∃(c f1 f2 l:Addr) (n r lim:Int) (hs s g:'#'),vs=[.ref c,.ref f1,.ref f2,.ref l]/\zm8 K H c n r hs lim/\zc7 n r hs.length s/\H f1=some (.tup (s.map V.int))/\H f2=some (.tup (g.map V.int))/\zH8 t H l n r hs s g/\∀H',Same H H'->Q (.bl true) H'
theorem yf0 (T:Txt K mg t):FnOk P w K mg base CX0 4 t.cA t.cB Pi (sp_w_low K t):=by
 refine T.bQ.F.ok sc_w_low (λC H Q E h=>?_) (λV a0 U s H C Q E i h=>?_)
 . obtain⟨c,m,o,l,n,r,k,j,s,g,rfl,p,u,x,y,z,q⟩:=h
   rfl
 . obtain⟨c,m,o,l,n,r,k,j,s,g,rfl,p,u,x,y,z,q⟩:=h
   refine⟨_,(za2 (zc2 (PW.pt (zk4 (ze8 (zd3 (zb6 zm1 rfl T.af QL (za0 P3 (za0 (zj1 (v:=.ref t.ae) rfl T.cx rfl) za1))))) (zj3 (ze8 (zd3 (za7 (zy3 T) i.m T.aJ zb1 (za0 (zc8 P3 rfl) za1))))))) (za4 (za9 zg0)) zb3)
     (za2 (zc2 (PW.pt (zk4 (zb9 zN0 (zc8 P3 rfl) za6 (zb8 _)) (zj3 (zb9 zu7 (zc8 P3 rfl) za6 (zb8 _))))) (za4 (za9 zg0)) zb3)
     (za4 (za9 (zf0 (yp2 (Nat.lt_of_succ_lt (zu9 i))) (za7 (zX1 T) i.m T.bB zb1 (za0 (za7 (ok_w_with T) i.m T.cl zb1 (za0 P0 (za0 (zc8 P3 rfl) za1))) (za0 P1 (za0 (zc8 P3 rfl) za1)))) P2 (zb8 _)))))),?_⟩
   refine cut3 ?_;intro W X;obtain⟨L,f,B,Z,d,D,F,zs,a9,a,a2,G,a4,I,J,M,a8,_⟩:=z;have Y:=low_pos j s g;refine⟨_,rfl,_,_,_,_,_,rfl,.own _,.ins a T.al T.ba.1 T.ba.2.1 T.ba.2.2.1 T.ba.2.2.2,kit_self _ _,_,rfl,iteF ?_⟩;refine⟨_,rfl,l,_,f,_,_,rfl,a,T.al,T.ak,zw0 _ _ _,L,rfl,_,rfl,iteF ?_⟩;refine⟨_,rfl,l,_,f,_,_,rfl,a,T.al,T.ak,zw0 _ _ _,_,_,rfl,rfl,_,rfl,iteB (Qe '!') ?_⟩;refine⟨_,rfl,l,_,f,_,_,rfl,a,T.al,T.ak,zw0 _ _ _,_,_,rfl,rfl,_,rfl,iteB (Qe '!') ?_⟩;refine⟨_,rfl,_,rfl,l,_,f,_,_,rfl,a,T.al,T.ak,zw0 _ _ _,c,n,r,k,L,j,rfl,p,by omega,G,λN H1 e O=>?_⟩;refine⟨_,rfl,_,rfl,l,_,f,_,_,rfl,e _ _ a,T.al,T.aX,yp9 _ _ _,N,m,B,n,r,L,j,s,g,D,F,rfl,O,u,e _ _ x,e _ _ I,J.same e,M,λb R A S=>?_⟩;refine⟨_,rfl,b,o,_,_,rfl,rfl,SqT.of S,SqT.of ((e.trans A) _ _ y),zX0,?_⟩;rw[Qh rfl];exact q R (e.trans A)
def sp_w_way (K:W.Frag)(t:Adr):Sp:=λvs H Q _=>∃(c a1 a2 wy:Addr) (n r lim:Int) (hs s g:'#'),vs=[.ref c,.ref a1,.ref a2,.ref wy]/\zm8 K H c n r hs lim/\zc7 n r hs.length s/\H a1=some (.tup (s.map V.int))/\H a2=some (.tup (g.map V.int))/\zK4 t H wy n r hs lim s g/\∀H',Same H H'->Q (.bl true) H'
theorem ok_w_way (T:Txt K mg t):FnOk P w K mg base CX0 4 t.cy t.cz Pi (sp_w_way K t):=by
 refine T.cw.F.ok sc_w_way (λD H Q E h=>?_) (λY a6 X s H D Q E k h=>?_)
 . obtain⟨c,o,p,e,n,r,l,u,s,g,rfl,S,x,y,z,W,q⟩:=h
   rfl
 . obtain⟨c,o,p,e,n,r,l,u,s,g,rfl,S,x,y,z,W,q⟩:=h
   refine⟨_,(za2 (zc2 (PW.pt (zk4 (ze8 (zd3 (zb6 zm1 rfl T.af QL (za0 P3 (za0 (zj1 (v:=.ref t.af) rfl T.ct rfl) za1))))) (zj3 (ze8 (zd3 (zb6 zm1 rfl T.af QL (za0 (zc8 P3 rfl) (za0 (zw3 (v:=.ty "bool") rfl T.cP PyProof.Rows.boot_bool rfl) za1)))))))) (za4 (za9 zg0)) zb3)
     (za2 (zc2 (ze8 (zd3 (zc8 P3 rfl))) (za4 (za9 (zE3 (zf0 yf5 (zc8 P3 rfl) zr4 (zb8 _)) (zy7 (zf0 (yo5 (Nat.lt_of_succ_lt (zu9 k))) (zc8 P3 rfl) (zf8 za1) (zb8 _)))))) zb3)
     (za2 (zc2 (PW.pt (zk4 (ze8 (zd3 (za7 (zy3 T) k.m T.aJ zb1 (za0 (zc8 P3 rfl) za1)))) (zk4 (ze8 (zd3 (zb6 zm1 rfl T.af QL (za0 (zc8 P3 rfl) (za0 (zw3 (v:=.ty "list") rfl T.au Zc rfl) za1))))) (zj3 (zb9 zl9 (zb6 zc1 rfl T.ag QF (za0 (zc8 P3 rfl) za1)) (zc8 P3 rfl) (zb8 _)))))) (za4 (za9 zg0)) zb3)
     (za4 (za9 (zf0 (yp2 (Nat.lt_of_succ_lt (zu9 k))) (za7 (zX1 T) k.m T.bB zb1 (za0 P0 (za0 P1 (za0 (zc8 P3 rfl) za1)))) P2 (zb8 _))))))),?_⟩
   refine cut4 ?_;intro Z a0 a3;rcases W with⟨d,j,F,G,I,J,L,M,a4,N,hd,⟨f,a⟩,i,m,O,C,_⟩ | ⟨a5,j,I,J,L,M,N,zs,Sh,⟨f,a⟩,i,_⟩
   . refine⟨_,rfl,_,_,_,_,_,rfl,.own _,.ins a T.aa T.aI.1 T.aI.2.1 T.aI.2.2.1 T.aI.2.2.2,kit_self _ _,_,rfl,iteF ?_⟩
     refine⟨_,rfl,e,_,f,_,_,rfl,a,T.aa,T.ae,zh2 _ _ _ _ _ _,_,_,_,_,_,rfl,.ty _,.bl _,rfl,_,rfl,iteF ?_⟩;refine⟨_,rfl,e,_,f,_,_,rfl,a,T.aa,T.ae,zh2 _ _ _ _ _ _,_,rfl,iteF ?_⟩;refine⟨_,rfl,e,_,f,_,_,rfl,a,T.aa,T.aB,zM4 _ _ _ _ _ _,(d:Int),rfl,_,rfl,iteF ?_⟩;refine⟨_,rfl,e,_,f,_,_,rfl,a,T.aa,T.ap,zE8 _ _ _ _ _ _,_,_,_,_,_,rfl,.ty _,.lst i,rfl,_,rfl,iteF ?_⟩;refine⟨_,rfl,e,_,f,_,_,rfl,a,T.aa,T.ap,zE8 _ _ _ _ _ _,j,_,rfl,.inl (SqL.of i),_,rfl,e,_,f,_,_,rfl,a,T.aa,T.aB,zM4 _ _ _ _ _ _,rfl,_,rfl,?_⟩;rw[Qb,m.len,C,Qh rfl];refine iteF ?_;refine⟨_,rfl,_,rfl,_,rfl,e,_,f,_,_,rfl,a,T.aa,T.ap,zE8 _ _ _ _ _ _,c,o,j,n,r,l,u,s,g,F,G,rfl,S,x,y,i,m,O,λb R A U=>?_⟩;refine⟨_,rfl,b,p,_,_,rfl,rfl,SqT.of U,SqT.of (A _ _ z),zX0,?_⟩;rw[Qh rfl];exact q R A
   . refine⟨_,rfl,_,_,_,_,_,rfl,.own _,.ins a T.aa T.aI.1 T.aI.2.1 T.aI.2.2.1 T.aI.2.2.2,kit_self _ _,_,rfl,iteF ?_⟩
     refine⟨_,rfl,e,_,f,_,_,rfl,a,T.aa,T.ae,zh2 _ _ _ _ _ _,_,_,_,_,_,rfl,.ty _,.bl _,rfl,_,rfl,iteF ?_⟩;refine⟨_,rfl,e,_,f,_,_,rfl,a,T.aa,T.ae,zh2 _ _ _ _ _ _,_,rfl,iteT ?_⟩;refine⟨_,rfl,e,_,f,_,_,rfl,a,T.aa,T.aB,zM4 _ _ _ _ _ _,rfl,_,rfl,iteT ?_⟩;refine⟨_,rfl,e,_,f,_,_,rfl,a,T.aa,T.ap,zE8 _ _ _ _ _ _,QH _,λV B=>?_⟩;refine⟨j,V,[],rfl,rfl,SqL.of (Same.upd B _ _ i),SqL.of za3,?_⟩;exact q _ (Same.upd B)
end
section
variable {P:Program} {w:World} {K:W.Frag} {mg:Str->Option Value} {base:Heap} {t:Adr}
theorem num_back0:∀k:Nat,k<401->zz3 (sI k)=some (k:Int)/\32∉(sI k).cps.toList/\10∉(sI k).cps.toList:=by decide +kernel
theorem zB3 {n:Int}(h0:0<=n)(a:n<=400):zz3 (sI n)=some n/\32∉(sI n).cps.toList/\10∉(sI n).cps.toList:=by
 obtain⟨k,rfl⟩:=Int.eq_ofNat_of_zero_le h0;exact num_back0 k '!'
theorem zS4 {x:Int}(a:-4<=x)(b:x<=4):zq5 (zd5 x)=some x/\32∉(zd5 x).cps.toList/\10∉(zd5 x).cps.toList:=by
 have:x = -4\/x = -3\/x = -2\/x = -1\/x=0\/x=1\/x=2\/x=3\/x=4:=by omega
 rcases this with rfl | rfl | rfl | rfl | rfl | rfl | rfl | rfl | rfl<;>decide +kernel
theorem zC9 {c:Nat}{a b:Str}(d:c∉a.cps.toList)(e:c∉b.cps.toList):c∉(a++b).cps.toList:=by
 rw[zh7];intro h;rcases Qs.mp h with h | h
 . exact d h
 . exact e h
theorem rd_wBeam {n r e:Int}{c xs:'#'}(ok:zi0 n r c e)(j:zc7 n r c.length xs):yg4 (zS2 n r e c xs) n r e c xs:=by
 have k:=zB3 (n:=n) (by have:=ok.n1;omega) (by have:=ok.n2;omega);have l:=zB3 (n:=r) (by have:=ok.r1;omega) (by have:=ok.r2;omega);have m:=zB3 (n:=e) ok.l1 ok.l2;have row:∀i w,(List.zipWith wRow c xs)[i]?=some w->∃h x,c[i]?=some h/\xs[i]?=some x/\w=wRow h x/\(1<=h/\h<=20)/\(-4<=x/\x<=4):=λi w a=>by
   rw[List.getElem?_zipWith] at a;cases f:c[i]? with
   | none=>rw[f] at a;simp at a
   | some h =>
     cases g:xs[i]? with
     | none=>rw[f,g] at a;simp at a
     | some x =>
       rw[f,g] at a;injection a with a
       have b:=j.on x (Qy g);exact⟨h,x,by first | rfl | exact f,by first | rfl | exact g,a.symm,ok.h h (Qy f),by have:=ok.n2;omega⟩
 have v:Txt.split (zS2 n r e c xs) (Str.ofString "\n")=zW6 n r e c xs:=by
   unfold zS2;rw[yr8];refine zw7 (by unfold zW6 zm7;simp) λw d=>?_
   rcases Qs.mp d with d | d
   . unfold zm7 at d
     simp only[Qn,QM,or_false] at d;rcases d with rfl | rfl | rfl
     . exact zC9 '&' k.2.2
     . exact zC9 '&' l.2.2
     . exact zC9 '&' m.2.2
   . obtain⟨i,a⟩:=List.getElem?_of_mem d
     obtain⟨h,x,_,_,rfl,⟨y,z⟩,o,p⟩:=row i w a;exact zC9 (zC9 (zC9 '&' (zB3 '!' '!').2.2) '&') (zS4 o p).2.2
 refine⟨⟨_,_,_,List.zipWith wRow c xs,sI n,sI r,sI e,v,?_,?_,?_,k.1,l.1,m.1,?_,j.len,?_⟩⟩
 . rw[show Str.ofString "notches " = Str.ofString "notches"++⟨#[32]⟩ by decide,zz2]
   exact yf8 '&' k.2.1
 . rw[show Str.ofString "room " = Str.ofString "room"++⟨#[32]⟩ by decide,zz2]
   exact yf8 '&' l.2.1
 . rw[show Str.ofString "limit " = Str.ofString "limit"++⟨#[32]⟩ by decide,zz2]
   exact yf8 '&' m.2.1
 . rw[ZI,j.len,Nat.min_self]
 . intro i w h x d A B
   obtain⟨C,D,q,s,rfl,⟨y,z⟩,o,p⟩:=row i w d;rw[A] at q;rw[B] at s;cases q;cases s;have t:=zB3 (n:=h) '!' '!';have u:=zS4 o p;refine⟨sI h,zd5 x,?_,t.1,u.1⟩;unfold wRow;rw[show Str.ofString "weight " = Str.ofString "weight"++⟨#[32]⟩ by decide,zz2];exact split3 '&' t.2.1 u.2.1
theorem zX2 {ws:List Str} (h:∀w∈ws,w.length<=40) (b:ws.length<=8):(Txt.join (Str.ofString "\n") ws).length<=400:=by
 have:=size_glued (Str.ofString "\n") ws;have a:(Str.ofString "\n").length=1:=by decide
 have c:=sum_le h;rw[a] at this;show(Builtin.Str.glued (Str.ofString "\n") ws).length<=400;omega
theorem due0 (n r a:Int):(((((Str.ofString "notches "++sI n)++Str.ofString "\nroom ")++sI r)++Str.ofString "\nlimit ")++sI a)=Txt.join (Str.ofString "\n") (zm7 n r a):=by
 show _=Builtin.Str.glued _ _;rw[StrLaws.glued_eq_join,yr8];refine zn6 ?_;unfold zm7;rw[zo4,zo4];show _=_++10::(_++10::(Str.ofString "limit "++sI a).cps.toList);have b:(Str.ofString "\nroom ").cps.toList=10::(Str.ofString "room ").cps.toList:=by decide
 have c:(Str.ofString "\nlimit ").cps.toList=10::(Str.ofString "limit ").cps.toList:=by decide
 simp only[zh7,b,c];simp
theorem due1 (z:Str) (h x:Int):((((z++Str.ofString "\nweight ")++sI h)++Str.ofString " ")++zd5 x)=(z++Str.ofString "\n")++wRow h x:=by
 refine zn6 ?_;unfold wRow;have a:(Str.ofString "\nweight ").cps.toList=(Str.ofString "\n").cps.toList++(Str.ofString "weight ").cps.toList:=by decide
 simp only[zh7,a,QR]
def sp_w_goal (K:W.Frag)(t:Adr):Sp:=λvs H Q _=>∃(a:Addr) (n r:Int) (w:Nat) (xs:'#'),vs=[.ref a]/\H a=some (.tup (xs.map V.int))/\zc7 n r w xs/\n<=4/\w<=5/\∀H',Same H H'->Q (.str (zd7 xs)) H'
def sp_w_text (K:W.Frag)(t:Adr):Sp:=λvs H Q _=>∃(sc a:Addr) (n r lim:Int) (hs xs:'#'),vs=[.ref sc,.ref a]/\zm8 K H sc n r hs lim/\H a=some (.tup (xs.map V.int))/\zc7 n r hs.length xs/\Q (.str (zS2 n r lim hs xs)) H
theorem zX3 (T:Txt K mg t):FnOk P w K mg base CX0 2 t.ch t.ci Pn (sp_w_goal K t):=by
 refine T.bC.F.ok sc_w_goal (λl H Q E h=>?_) (λF A C s H l Q E m h=>?_)
 . obtain⟨a,n,r,w,b,rfl,c,d,j,o,q⟩:=h
   rfl
 . obtain⟨a,n,r,w,b,rfl,c,d,j,o,q⟩:=h
   refine⟨_,(za2 (zc2 (zb9 zg1 (zb6 zc1 rfl T.ag QF (za0 P0 za1)) za6 (zb8 _)) (za4 (za9 zc4)) zb3)
     (za4 (za9 (zk5 Ze PySem.F.slot_str_join PySem.F.type_str_join zL6 zc4 (za0 (zk0 rfl zK8 (zX6 P0) (λ_ _ _ _ _=>(zc3 (i:=0) zK8.nd rfl '$')) (λ_ _ _ _ _=>zg8) (λ_ _ _ _ _=>(za7 (ye6 T) m.m T.bR zb1 (za0 P0 za1)))) za1))))),?_⟩
   have G:=d.len;refine⟨_,rfl,a,_,rfl,.inr (SqT.of c),rfl,_,rfl,?_⟩;unfold zd7 at q;refine ite2 (λg=>?_) (λg=>?_)
   . have e:b=[]:=by
       rw[Qb] at g;have I:((b.length:Nat):Int)=0:=by simpa using g
       exact QA '!'
     rw[Ql e] at q;exact q _ (Same.refl _)
   . have e:b≠[]:=λe=>g (by rw[e];rfl)
     rw[Qg e] at q;refine⟨rfl,_,rfl,a,rfl,⟨_,SqT.of c⟩,λD k=>?_⟩;refine yb5 (f:=λv=>match v with | .int z=>V.str (zd5 z) | v=>v) (SqT.of c) k (by rw[Qb];exact zw1 '!') (λx J R p h=>?_) ?_
     . obtain⟨z,u,rfl⟩:=QQ.mp p
       obtain⟨L,M⟩:=d.on z u;exact⟨_,rfl,z,rfl,by omega,h⟩
     . have y:(b.map V.int).map (λv=>match v with | .int z=>V.str (zd5 z) | v=>v)=(b.map zd5).map V.str:=by
         rw[Zt,Zt];rfl
       refine⟨_,D,b.map zd5,rfl,rfl,SqL.of (by rw[za3,y]),?_,q _ (Same.upd k)⟩;have:=zt3 d.on j;have B:(Str.ofString " ").length=1:=by decide
       rw[B,Qb];omega
theorem ok_w_text (T:Txt K mg t):FnOk P w K mg base CX0 2 t.cf t.cg Vi (sp_w_text K t):=by
 refine T.cm.F.ok zC3 (λC H Q E h=>?_) (λS a0 R a1 H C Q E D h=>?_)
 . obtain⟨e,a,n,r,d,b,c,rfl,⟨h,ok,f,v⟩,k,j,q⟩:=h
   rfl
 . obtain⟨e,a,n,r,d,b,c,rfl,⟨h,ok,f,v⟩,k,j,q⟩:=h
   refine⟨_,(za2 (zb7 (i:=2) zC3.nd rfl '$' (zc0 zd4 (zc0 zd4 (zc0 zd4 (zc0 zd4 (zc0 zd4 zc4 (zd2 zf1 rfl T.aE Zg (za0 (zc5 zc6 P0 za6 (λ_ _=>rfl)) za1))) zc4) (zd2 zf1 rfl T.aE Zg (za0 (zc5 zc6 P0 za6 (λ_ _=>rfl)) za1))) zc4) (zd2 zf1 rfl T.aE Zg (za0 (zc5 zc6 P0 za6 (λ_ _=>rfl)) za1))))
     (za2 (zj4 PassesOwn.never rfl (zq9 rfl T.az (za0 (zb6 zc1 rfl T.ag QF (za0 P1 za1)) za1)) (zc3 (i:=3) zC3.nd rfl '$') (za4 (zb7 (i:=2) zC3.nd rfl '$' (zc0 zd4 (zc0 zd4 (zc0 zd4 (zc0 zd4 P2 zc4) (zd2 zf1 rfl T.aE Zg (za0 (zc5 zc6 (zc5 zc6 P0 za6 (λ_ _=>rfl)) P3 (λ_ _=>rfl)) za1))) zc4) (za7 (ye6 T) D.m T.bR zb1 (za0 (zc5 zi2 P1 P3 (λ_ _=>rfl)) za1))))))
     (za4 (za9 P2)))),?_⟩
   refine cut3 ?_;intro U W;have X:=ok.w;have Y:=j.len;have Z:sizeLine=16777216:=by decide
   have e1:(Str.ofString "notches ").length=8:=by decide
   have e2:(Str.ofString "\nroom ").length=6:=by decide
   have e3:(Str.ofString "\nlimit ").length=7:=by decide
   have e4:(Str.ofString "\nweight ").length=8:=by decide
   have e5:(Str.ofString " ").length=1:=by decide
   have i1:=zt7 (n:=n) (by have:=ok.n1;omega) (by have:=ok.n2;omega);have i2:=zt7 (n:=r) (by have:=ok.r1;omega) (by have:=ok.r2;omega);have i3:=zt7 (n:=d) ok.l1 (by have:=ok.l2;omega);have o1:=ok.n1;have F:=ok.n2;have o3:=ok.r1;have o4:=ok.r2;have o5:=ok.l1;have o6:=ok.l2;refine⟨_,rfl,e,_,_,_,rfl,rfl,f,rfl,n,rfl,zh3 '!',_,_,rfl,rfl,(by show(Str.ofString "notches ").length+(sI n).length<=sizeLine;omega),_,_,rfl,rfl,(by show(Str.ofString "notches "++sI n).length+(Str.ofString "\nroom ").length<=sizeLine;rw[zd1];omega),?_⟩;refine⟨_,rfl,e,_,_,_,rfl,rfl,f,rfl,r,rfl,zh3 '!',_,_,rfl,rfl,(by show((Str.ofString "notches "++sI n)++Str.ofString "\nroom ").length+(sI r).length<=sizeLine;rw[zd1,zd1];omega),_,_,rfl,rfl,(by show(((Str.ofString "notches "++sI n)++Str.ofString "\nroom ")++sI r).length+(Str.ofString "\nlimit ").length<=sizeLine;rw[zd1,zd1,zd1];omega),?_⟩;refine⟨_,rfl,e,_,_,_,rfl,rfl,f,rfl,d,rfl,zh3 '!',_,_,rfl,rfl,(by show((((Str.ofString "notches "++sI n)++Str.ofString "\nroom ")++sI r)++Str.ofString "\nlimit ").length+(sI d).length<=sizeLine;rw[zd1,zd1,zd1,zd1];omega),?_⟩;have G:=due0 n r d;refine⟨_,rfl,a,_,rfl,.inr (SqT.of k),?_⟩;rw[Qb];refine⟨_,rfl,by omega,by omega,zl5 (n:=((c.length:Nat):Int).toNat) (λi u l=>∃m,u=[some (.ref e),some (.ref a),some (.str (Txt.join (Str.ofString "\n") (zm7 n r d++(List.zipWith wRow b c).take i))),m]/\l=H) ⟨none,?_,rfl⟩ ?_ ?_⟩
   . rw[List.take_zero,Zi,<-G]
     rfl
   . rintro i u l I ⟨m,rfl,rfl⟩
     have A:i<c.length:=by simpa using I
     have B:i<b.length:=by omega
     have o:b[i]?=some b[i]:=Qf B;have p:c[i]?=some c[i]:=Qf A;have x:(0:Int)+(i:Int)=(i:Int):=by omega
     have J:atI (b.map V.int) (0+(i:Int))=some (.int b[i]):=by rw[x];exact zB6 o
     have L:atI (c.map V.int) (0+(i:Int))=some (.int c[i]):=by rw[x];exact zB6 p
     obtain⟨u1,u2⟩:=ok.h b[i] (Qy o);obtain⟨M,N⟩:=j.on c[i] (Qy p);have j1:=zt7 (n:=b[i]) '!' '!';have j2:=zE9 M N F;have y:(Txt.join (Str.ofString "\n") (zm7 n r d++(List.zipWith wRow b c).take i)).length<=400:=by
       refine zX2 (λw g=>zW7 ok j w ?_) ?_
       . rcases Qs.mp g with g | g
         . exact Zl _ g
         . exact QS _ (ZC g)
       . rw[Qr,QW,ZI]
         show 3+_<=8;omega
     have s:((((Txt.join (Str.ofString "\n") (zm7 n r d++(List.zipWith wRow b c).take i)++Str.ofString "\nweight ")++sI b[i])++Str.ofString " ")++zd5 c[i])=Txt.join (Str.ofString "\n") (zm7 n r d++(List.zipWith wRow b c).take (i+1)):=by
       rw[due1,<-join_snoc _ (by unfold zm7;simp),QY,List.getElem?_zipWith,o,p,QR];rfl
     revert y s;generalize Txt.join (Str.ofString "\n") (zm7 n r d++(List.zipWith wRow b c).take i)=z;generalize Txt.join (Str.ofString "\n") (zm7 n r d++(List.zipWith wRow b c).take (i+1))=z';intro y s;refine⟨_,rfl,_,_,rfl,rfl,'!',?_⟩;refine⟨_,rfl,e,_,_,_,rfl,rfl,f,rfl,_,rfl,h,_,_,_,rfl,rfl,v,J,b[i],rfl,zh3 '!',_,_,rfl,rfl,(by show(z++Str.ofString "\nweight ").length+(sI b[i]).length<=sizeLine;rw[zd1];omega),?_⟩;refine⟨_,_,rfl,rfl,(by show((z++Str.ofString "\nweight ")++sI b[i]).length+(Str.ofString " ").length<=sizeLine;rw[zd1,zd1];omega),?_⟩;refine⟨_,rfl,_,rfl,a,_,_,_,rfl,rfl,SqT.of k,L,c[i],rfl,'!',_,_,rfl,rfl,(by show(((z++Str.ofString "\nweight ")++sI b[i])++Str.ofString " ").length+(zd5 c[i]).length<=sizeLine;rw[zd1,zd1,zd1];omega),?_⟩;subst s;exact⟨_,rfl,rfl⟩
   . rintro u l ⟨m,rfl,rfl⟩
     have O:(List.zipWith wRow b c).take ((c.length:Nat):Int).toNat=List.zipWith wRow b c:=by
       refine QV ?_;rw[ZI,ZE];omega
     rw[O];exact⟨_,rfl,q⟩
end
section
variable {P:Program} {w:World} {K:W.Frag} {mg:Str->Option Value} {base:Heap} {t:Adr}
theorem op_in_seqK {X:Cx}(K:W.Frag)(h:X.K=K):OpR X (compareOp .In) (rIn K false):=h▸op_in_seq
def Ex32 (t:Adr) (H H9:Hp) (lim:Int) (hs s g:'#') (d:Int) (cls:Value) (od:Option Addr):Prop:=(lim<absI (zb4 hs s)/\cls = .ref t.aa/\Told H H9 od "start past")\/(absI (zb4 hs s)<=lim/\lim<absI (zb4 hs g)/\d≠2/\cls = .ref t.ab/\Told H H9 od "goal past")\/(absI (zb4 hs s)<=lim/\absI (zb4 hs g)<=lim/\(d=1\/d=4)/\cls = .ref t.ac/\Told H H9 od "no way")
def zX4 (t:Adr)(H:Hp)(v0:V)(n r lim:Int)(hs s:'#')(d:Int):Prop:=3<=d->∃p b s0 x m,v0 = .ref p/\zS3 t H p b s0 x m n r lim hs s s [] []
theorem zX4.same {t:Adr}{H H':Hp}{c:V}{n r a:Int}{f s:'#'}{d:Int}(h:zX4 t H c n r a f s d)(e:Same H H'):zX4 t H' c n r a f s d:=λz=>let⟨p,b,g,x,m,i,A⟩:=h z;⟨p,b,g,x,m,i,A.same e⟩
theorem Ex32.from {t:Adr}{H k l:Hp}{i:Int}{m s g:'#'}{d:Int}{j:Value}{n:Option Addr}(h:Ex32 t k l i m s g d j n)(e:Same H k):Ex32 t H l i m s g d j n:=by
 rcases h with⟨a,b,c⟩ | ⟨a,b,c,d,f⟩ | ⟨a,b,c,d,f⟩
 . exact .inl ⟨a,b,c.from e⟩
 . exact .inr (.inl ⟨a,b,c,d,f.from e⟩)
 . exact .inr (.inr ⟨a,b,c,d,f.from e⟩)
def sp_w_asked (K:W.Frag)(t:Adr):Sp:=λvs H Q E=>∃(d:Int) (b f l:Addr) (v0:V) (n r lim:Int) (hs s g:'#'),vs=[.int d,.ref b,v0,.ref f,.ref l]/\(0<=d/\d<=4)/\ze3 t H b n r hs lim/\zc7 n r hs.length s/\zc7 n r hs.length g/\SqL K H f (s.map V.int)/\SqL K H l (g.map V.int)/\zX4 t H v0 n r lim hs s d ∧
 (∀cls od H',Ex32 t H H' lim hs s g d cls od->E cls od H')/\∀v H',Same H H'->absI (zb4 hs s)<=lim->(d=2\/absI (zb4 hs g)<=lim)->Q v H'
theorem ok_w_asked (T:Txt K mg t):FnOk P w K mg base (CXD P w) 12 t.bO t.bP Pj (sp_w_asked K t):=by
 refine T.b3.F.d.okD (CX:=CX0) sc_w_asked (λvs H a0 E h=>?_) (λa5 A a4 s H vs a0 E J h=>?_)
 . obtain⟨d,b,f,l,v0,n,r,v,y,s,g,rfl,⟨d0,d4⟩,B,F,L,N,M,R,G,q⟩:=h
   rfl
 . obtain⟨d,b,f,l,v0,n,r,v,y,s,g,rfl,⟨d0,d4⟩,B,F,L,N,M,R,G,q⟩:=h
   refine⟨_,(za2 (zc2 (zb9 zg1 P0 za6 (zb8 _)) (za4 (za9 (zm0 (zr3 T) J.m rfl T.ao T.ai.F.kp T.ai.b .nil zf6 (za0 P1 (za0 P3 (za0 (pv 4) za1)))))) zb3)
     (za2 (zc2 (zb9 zg1 P0 za6 (zb8 _)) (za4 (za9 (zm0 (zH7 T) J.m rfl T.aY T.aA.F.kp T.aA.b .nil zf6 (za0 P1 (za0 P3 (za0 (pv 4) za1)))))) zb3)
     (za2 (zc2 (zb9 zg1 P0 za6 (zb8 _)) (za4 (za9 (zq4 T.bT (zy1 T) J.m rfl T.b6 T.aL.b .nil zf6 (za0 P1 (za0 P3 za1))))) zb3)
     (za2 (zc2 (zb9 zg1 P0 za6 (zb8 _)) (za4 (za9 (zB4 P2 T.ac T.bk (zB1 T) J.m T.aQ.b .nil zf6 (za0 (pv 4) za1)))) zb3)
     (za4 (za9 (zB4 P2 T.ac T.a4 (zt2 T) J.m T.aG.b .nil zf6 (za0 (pv 4) za1)))))))),?_⟩
   refine cut5 ?_;intro a6 a7 a8 a9;have I:d≠2->AskD t H v y s g E:=λz=>⟨λk o a u=>G _ o a (.inl ⟨k,rfl,u⟩),λi j o a u=>G _ o a (.inr (.inl ⟨i,j,z,rfl,u⟩))⟩
   obtain rfl | rfl | rfl | rfl | rfl:d=0\/d=1\/d=2\/d=3\/d=4:=by omega
   . refine⟨_,rfl,rfl,_,rfl,iteT ?_⟩
     exact⟨_,rfl,_,rfl,_,rfl,b,f,l,n,r,v,y,s,g,rfl,B,F,L,.inl N,.inl M,(I '&').1,(I '&').2,λi j wy a C _=>q _ a C i (.inr j)⟩
   . refine⟨_,rfl,rfl,_,rfl,iteF ⟨_,rfl,rfl,_,rfl,iteT ?_⟩⟩
     exact⟨_,rfl,_,rfl,_,rfl,b,f,l,n,r,v,y,s,g,rfl,B,F,L,.inl N,.inl M,I '&',λi j=>⟨λo a u=>G _ o a (.inr (.inr ⟨i,j,.inl rfl,rfl,u⟩)),λa1 a C _=>q _ a C i (.inr j)⟩⟩
   . refine⟨_,rfl,rfl,_,rfl,iteF ⟨_,rfl,rfl,_,rfl,iteF ⟨_,rfl,rfl,_,rfl,iteT ?_⟩⟩⟩
     refine⟨_,rfl,_,rfl,λp c S X Y=>?_⟩;have D:Same H (upd (upd H c (.own p)) p (.ins t.ad c [])):=(Same.upd X).updT (by rw[za8 (Ne.symm Y)];exact S);have Q:(upd (upd H c (.own p)) p (.ins t.ad c [])) p=some (.ins t.ad c []):=za3;revert D Q;generalize upd (upd H c (.own p)) p (.ins t.ad c [])=H3;intro D Q;have Z:b≠p:=λz=>by obtain⟨_,_,_,W,_⟩:=B;rw[z,S] at W;cases W
     exact⟨p,b,f,c,n,r,v,y,s,rfl,Q,Z,B.same D,F,.inl (D.seq N),λk o a u=>G _ o a (.inl ⟨k,rfl,u.from D⟩),λk0 H4 O m x4 aa P4=>⟨rfl,q _ H4 (λa2 a3 e=>x4 a2 a3 (D _ _ e) (zb5 e S)) k0 (.inl rfl)⟩⟩
   . obtain⟨p,U,O,x,m,rfl,A⟩:=R '&'
     obtain⟨c,V⟩:=A.pl.hp;refine⟨_,rfl,rfl,_,rfl,iteF ⟨_,rfl,rfl,_,rfl,iteF ⟨_,rfl,rfl,_,rfl,iteF ⟨_,rfl,rfl,_,rfl,iteT ?_⟩⟩⟩⟩;exact⟨_,rfl,p,c,_,rfl,V,zW5 _ _ _ _,_,rfl,p,U,O,x,m,l,n,r,v,y,s,s,g,[],[],rfl,A.pl,F,L,.inl M,I '&',λi j wy a C _=>q _ a C i (.inr j)⟩
   . obtain⟨p,U,O,x,m,rfl,A⟩:=R '&'
     obtain⟨c,V⟩:=A.pl.hp;refine⟨_,rfl,rfl,_,rfl,iteF ⟨_,rfl,rfl,_,rfl,iteF ⟨_,rfl,rfl,_,rfl,iteF ⟨_,rfl,rfl,_,rfl,iteF ?_⟩⟩⟩⟩;exact⟨_,rfl,p,c,_,rfl,V,yl6 _ _ _ _,_,rfl,p,U,O,x,m,l,n,r,v,y,s,s,g,[],[],rfl,A.pl,F,L,.inl M,I '&',λi j=>⟨λo a u=>G _ o a (.inr (.inr ⟨i,j,.inr rfl,rfl,u⟩)),λa1 a C _=>q _ a C i (.inr j)⟩⟩
noncomputable def K1 (lim:Int)(hs s g:'#')(d:Int):Bool:=decide (absI (zb4 hs s)<=lim/\lim<absI (zb4 hs g)/\d≠2)
def sp_w_told (K:W.Frag)(t:Adr):Sp:=λvs H Q _=>∃(d:Int) (b f l:Addr) (v0:V) (n r lim:Int) (hs s g:'#'),vs=[.int d,.ref b,v0,.ref f,.ref l]/\(0<=d/\d<=4)/\ze3 t H b n r hs lim/\zc7 n r hs.length s/\zc7 n r hs.length g/\H f=some (.tup (s.map V.int))/\H l=some (.tup (g.map V.int))/\zX4 t H v0 n r lim hs s d ∧
 ∀o k2 H',Same H H'->H' o=some (.lst [.bl (decide (lim<absI (zb4 hs s))),.bl (K1 lim hs s g d),.bl k2,.bl true])->(k2=true->absI (zb4 hs s)<=lim/\absI (zb4 hs g)<=lim/\(d=1\/d=4))->Q (.ref o) H'
theorem ok_w_told (T:Txt K mg t):FnOk P w K mg base CX0 13 t.cj t.ck Pj (sp_w_told K t):=by
 refine T.cn.F.ok zr2 (λvs H a5 a6 h=>?_) (λa8 ad a7 s H vs a5 a6 hr h=>?_)
 . obtain⟨d,b,f,l,I,a0,a1,e,j,s,g,rfl,Z,a2,V1,V2,hf,hl,PV,q⟩:=h
   rfl
 . obtain⟨d,b,f,l,I,a0,a1,e,j,s,g,rfl,Z,a2,V1,V2,hf,hl,PV,q⟩:=h
   refine⟨_,(za2 (zb7 (i:=5) zr2.nd rfl '$' (zq6 (za0 zg0 (za0 zg0 (za0 zg0 za1)))))
     (za2 (zb7 (i:=6) zr2.nd rfl '$' zg0)
     (za2 (yi3 (Ex:=λσ9 y B H9=>∃D:Addr,σ9=[some (.int d),some (.ref b),some I,some (.ref f),some (.ref l),some (.ref D),some (.bl true),none]/\Ex32 t H H9 e j s g d y B) (i:=7) ⟨rfl,rfl⟩ rfl T.aC zr2.nd rfl rfl (λ_=>(za4 (zg6 (zJ1 (ok_w_asked T) hr.m T.b3 zz1 (za0 P0 (za0 P1 (za0 P2 (za0 (zd2 (zh0 K rfl) rfl T.au Zc (za0 P3 za1)) (za0 (zd2 (zh0 K rfl) rfl T.au Zc (za0 (pv 4) za1)) za1))))))))) (λ_=>(za2 (zb7 (i:=5) zr2.nd rfl '$' (zq6 (za0 (zb6 (zI8 K rfl) rfl T.af QL (za0 P7 (za0 (zj1 (v:=.ref t.aa) rfl T.aM rfl) za1))) (za0 (zb6 (zI8 K rfl) rfl T.af QL (za0 P7 (za0 (zj1 (v:=.ref t.ab) rfl T.bX rfl) za1))) (za0 (zb6 (zI8 K rfl) rfl T.af QL (za0 P7 (za0 (zj1 (v:=.ref t.ac) rfl T.cy rfl) za1))) za1)))))
     (za4 (zb7 (i:=6) zr2.nd rfl '$' (zf0 (op_in_seqK K rfl) zg0 P5 rfl))))))
     (za4 (za9 (zc0 op_catS P5 (zq6 (za0 P6 za1)))))))),?_⟩
   refine cut4 ?_;intro a9 aa ab;refine⟨(by show 3<=sizeLine;decide),λD H1 J f1 h1=>?_⟩;refine⟨?_,λσ' y B n k hE fa=>?_⟩
   . refine⟨_,rfl,_,rfl,_,rfl,_,rfl,f,_,rfl,.inr (SqT.of (J _ _ hf)),λlf H2 L f2 h2=>⟨_,rfl,l,_,rfl,.inr (SqT.of (L _ _ (J _ _ hl))),λll H3 M f3 h3=>?_⟩⟩
     have A:=J.trans (L.trans M);refine⟨d,b,lf,ll,I,a0,a1,e,j,s,g,rfl,Z,a2.same A,V1,V2,SqL.of (M _ _ h2),SqL.of h3,PV.same A,λy B n N=>⟨D,rfl,N.from A⟩,λv H4 s4 ka kb=>?_⟩;have a3:=s4 _ _ (M _ _ (L _ _ h1));have a4:=A.trans s4;refine⟨_,rfl,_,rfl,(by show 1<=sizeLine;decide),λO H7 p f7 Q=>⟨D,O,_,_,rfl,rfl,p _ _ a3,Q,(by show 4<=sizeLine;decide),λR S U f8 V=>q R false S (a4.trans (p.trans U)) ?_ (λz=>nomatch z)⟩⟩;rw[V,Qe (by omega:¬ e<absI (zb4 j s)),show K1 e j s g d=false from Qe '!'];rfl
   . obtain⟨ac,rfl,N⟩:=hE
     obtain⟨C,w,E,F,r,rfl,X1,X2,j1,j2,j3,⟨sH,m,fs,rfl,G,_⟩,y1,y2,y3,y4⟩:∃C w E F r,y = .ref C/\XAsk K C/\W.exmOne K (.ref C) (.ref t.aj)=some true/\W.kitOne K (.ref C) (.ref t.aa)=some E/\W.kitOne K (.ref C) (.ref t.ab)=some F/\W.kitOne K (.ref C) (.ref t.ac)=some r/\Told H n B w/\E=decide (e<absI (zb4 j s))/\F=K1 e j s g d/\(r=true->absI (zb4 j s)<=e/\absI (zb4 j g)<=e/\(d=1\/d=4))/\inV (.bl true) [.bl E,.bl F,.bl r]=true:=by
       rcases N with⟨a,rfl,c⟩ | ⟨a,b,c,rfl,X⟩ | ⟨a,b,c,rfl,X⟩
       . exact⟨_,_,_,_,_,rfl,T.cO,T.bK,T.bM,T.bU,T.b8,c,(Qh a).symm,(show K1 e j s g d=false from Qe '!').symm,(λz=>nomatch z),by decide⟩
       . exact⟨_,_,_,_,_,rfl,T.bN,T.aO,T.bV,T.bZ,T.cb,X,(Qe '!').symm,(show K1 e j s g d=true from Qh ⟨a,b,c⟩).symm,(λz=>nomatch z),by decide⟩
       . exact⟨_,_,_,_,_,rfl,T.cp,T.aZ,T.b9,T.cc,T.cA,X,(Qe '!').symm,(show K1 e j s g d=false from Qe '!').symm,(λ_=>⟨a,b,c⟩),by decide⟩
     have ne:m≠k:=λz=>by rw[z,fa] at G;cases G
     refine⟨X2,?_⟩;have Y:=sH.updT (o:=zp9 (.ref C) k (some m)) fa;have u:(upd n k (zp9 (.ref C) k (some m))) k=_:=za3;have x:(upd n k (zp9 (.ref C) k (some m))) m=_:=(za8 ne).trans G;revert Y u x;generalize upd n k (zp9 (.ref C) k (some m))=H5;intro Y u x;refine⟨_,rfl,k,_,m,fs,_,_,_,rfl,.own _,u,x,X1,T.c0,j1,_,rfl,k,_,m,fs,_,_,_,rfl,.own _,u,x,X1,T.c0,j2,_,rfl,k,_,m,fs,_,_,_,rfl,.own _,u,x,X1,T.c0,j3,(by show 3<=sizeLine;decide),λl1 H6 s6 f6 h6=>?_⟩;refine⟨_,rfl,l1,_,rfl,.inl (SqL.of h6),rfl,rfl,?_⟩;rw[y4];refine⟨_,rfl,_,rfl,(by show 1<=sizeLine;decide),λO H7 p f7 Q=>⟨l1,O,_,_,rfl,rfl,p _ _ h6,Q,(by show 4<=sizeLine;decide),λR S U f8 V=>q R r S (Y.trans (s6.trans (p.trans U))) ?_ y3⟩⟩;rw[V,y1,y2];rfl
def sp_w_desk (K:W.Frag) (t:Adr):Sp:=λvs H Q _=>∃(n r lim:Int) (hs s g:'#'),vs=[.str (zS2 n r lim hs s),.str (zd7 g)]/\zi0 n r hs lim/\zc7 n r hs.length s/\zc7 n r hs.length g/\(lim<absI (zb4 hs s)->∀H',Same H H'->Q (.str (Str.ofString "start past")) H') ∧
 (absI (zb4 hs s)<=lim->∀o z1 z2 z3 H',Same H H'->H' o=some (.lst [.str z1,.str z2,.str z3,.str (zd7 s)])->decide (z1=RefG)=decide (lim<absI (zb4 hs g))->decide (z2=RefG)=decide (lim<absI (zb4 hs g))->z3≠RefG->Q (.ref o) H')
theorem ok_w_desk (T:Txt K mg t):FnOk P w K mg base CX0 16 t.cl t.cm PJ (sp_w_desk K t):=by
 refine T.co.F.ok sc_w_desk (λD H Q E h=>?_) (λW a0 V s H D Q E F h=>?_)
 . obtain⟨n,r,b,c,s,g,rfl,ok,f,e,x,q⟩:=h
   rfl
 . obtain⟨n,r,b,c,s,g,rfl,ok,f,e,x,q⟩:=h
   refine⟨_,(za4 (ps_tryHs (Ex:=λ_ v p G=>b<absI (zb4 c s)/\v = .ref t.aa/\Told H G p "start past") ⟨rfl,rfl⟩ (λ_=>(za4 (za9 (zJ1 (ok_answers T) F.m T.b1 zz1 (za0 P0 (za0 (zq6 (za0 (zc0 zd4 zc4 P1) (za0 (zc0 zd4 zc4 P1) (za0 (zc0 zd4 zc4 P1) (za0 zc4 za1))))) za1)))))) (.cons rfl T.aM '&' (λ_=>(za4 (za9 zc4))) .nil))),?_⟩;have I:=ok.n2;have Z:=ok.w;have hl:=e.len;have e1:(Str.ofString "fewest ").length=7:=by decide
   have e2:(Str.ofString "next ").length=5:=by decide
   have e3:(Str.ofString "least ").length=6:=by decide
   have X:sizeLine=16777216:=by decide
   have hz:=zs4 e.on I '!';have Y:(zS2 n r b c s).length<=400:=zX2 (zW7 ok f) (by rw[wRows_count f];omega);refine⟨⟨_,rfl,_,rfl,_,_,rfl,rfl,(by show(Str.ofString "fewest ").length+(zd7 g).length<=sizeLine;omega),_,rfl,_,_,rfl,rfl,(by show(Str.ofString "next ").length+(zd7 g).length<=sizeLine;omega),_,rfl,_,_,rfl,rfl,(by show(Str.ofString "least ").length+(zd7 g).length<=sizeLine;omega),(by show 4<=sizeLine;decide),λl H1 y f1 i=>?_⟩,λσ' v p j J=>?_⟩
   . refine⟨zS2 n r b c s,l,n,r,b,c,s,[.few g,.next g,.least g,.show_],rfl,by omega,rd_wBeam ok f,ok,f,i,(by show 4<=900;decide),?_,λk p j L=>⟨k,rfl,L.from y⟩,λk o zs j M A a=>?_⟩
     . intro d B
       simp only[Qn,QM,or_false] at B;rcases B with rfl | rfl | rfl | rfl
       . exact .inr e
       . exact .inr e
       . exact .inr e
       . exact .inl rfl
     . cases a with | cons N a =>
       cases a with | cons O a =>
       cases a with | cons R a =>
       cases a with | cons S a =>
       cases a;have m:∀ {d:Dq} {z:Str},AnsR b c s d z->(z=RefG↔zI0 b c d):=λ{d z} h=>by
         rcases h with⟨i,u⟩ | ⟨i,u,_⟩
         . exact⟨λ_=>i,λ_=>u⟩
         . exact⟨λz=>absurd z u,λz=>absurd z i⟩
       have C:=S;rcases C with⟨h,_⟩ | ⟨_,_,h⟩
       . exact h.elim
       rw[h rfl] at A;exact q k o _ _ _ j (y.trans M) A (decide_eq_decide.mpr (m N)) (decide_eq_decide.mpr (m O)) (λz=>(m R).mp z)
   . obtain⟨k,rfl,U,_⟩:=J
     exact .inl ⟨T.bL,x k j U⟩
end
section
variable {P:Program} {w:World} {K:W.Frag} {mg:Str->Option Value} {base:Heap} {t:Adr}
theorem yf1 {R:Hp->Prop}{S:Hp->Prop}{G:Prop}(a:(∀o,S o->R o)->G)(b:∀o,S o->R o):G:=a b
theorem use_finVH {R:V->Hp->Prop}{S:V->Hp->Prop}{G:Prop}(a:(∀v o,S v o->R v o)->G)(b:∀v o,S v o->R v o):G:=a b
def sp_w_doors (K:W.Frag)(t:Adr):Sp:=λvs H Q _=>∃(b sc f l pa:Addr) (n r lim:Int) (hs s g:'#'),vs=[.ref b,.ref sc,.ref f,.ref l,.ref pa]/\ze3 t H b n r hs lim/\zm8 K H sc n r hs lim/\zc7 n r hs.length s/\zc7 n r hs.length g/\H f=some (.tup (s.map V.int))/\H l=some (.tup (g.map V.int))/\H pa=some (.lst [.bl (decide (lim<absI (zb4 hs s))),.bl (decide (lim<absI (zb4 hs g)))])/\∀H',Same H H'->Q (.bl true) H'
theorem ok_w_doors (T:Txt K mg t):FnOk P w K mg base CX0 14 t.bQ t.bR Vj (sp_w_doors K t):=by
 refine T.b4.F.ok zs1 (λvs a0 ae af a1=>?_) (λaj A ai s a0 vs ae af B a1=>?_)
 . obtain⟨b,Y,f,l,u,n,r,a,c,s,g,rfl,a2,S,C,Z,L,M,W,a3⟩:=a1
   rfl
 . obtain⟨b,Y,f,l,u,n,r,a,c,s,g,rfl,a2,S,C,Z,L,M,W,a3⟩:=a1
   refine⟨_,(za2 (zb7 (i:=5) zs1.nd rfl '$' zr4)
     (za2 (zc2 (ze8 (zd3 (zc5 zc6 (pv 4) za6 (λ_ _=>rfl)))) (za4 (zb7 (i:=5) zs1.nd rfl '$' (zq4 T.bT (zy1 T) B.m rfl T.b6 T.aL.b .nil zF6 (za0 P0 (za0 (zd2 (zh0 K rfl) rfl T.au Zc (za0 P2 za1)) za1))))) zb3)
     (za2 (zj4 PassesOwn.never rfl (zq9 rfl T.az (za0 za6 za1)) (zc3 (i:=6) zs1.nd rfl '$') (za4 (zc2 (PW.pt (zk4 (zb9 yh2 P5 zr4 (zb8 _)) (zj3 (zb9 zN0 P6 za6 (zb8 _))))) (za2 (zb7 (i:=7) zs1.nd rfl '$' (za7 (ok_w_told T) B.m T.cn zb1 (za0 P6 (za0 P0 (za0 P5 (za0 P2 (za0 P3 za1)))))))
     (za2 (zc2 (PW.pt (zk4 (zb9 zl9 (zc5 zc6 P7 za6 (λ_ _=>rfl)) (zc5 zc6 (pv 4) za6 (λ_ _=>rfl)) (zb8 _)) (zj3 (zb9 zl9 (zc5 zc6 P7 za6 (λ_ _=>rfl)) (zE3 (zc5 zc6 (pv 4) za6 (λ_ _=>rfl)) (zE3 (yf3 (zc5 zc6 (pv 4) za6 (λ_ _=>rfl))) (zy7 (zf0 zl9 P6 za6 (zb8 _))))) (zb8 _))))) (za4 (za9 zg0)) zb3)
     (za4 (zc2 (PW.pt (zk4 (ze8 (zd3 (zc5 zc6 P7 za6 (λ_ _=>rfl)))) (zj3 (PW.pt (zI2 (zd3 (zc5 zc6 P7 za6 (λ_ _=>rfl))) (zF0 (PW.pt (zk4 (zd3 (zc5 zc6 (pv 4) za6 (λ_ _=>rfl))) (zk4 (zd3 (zc5 zc6 (pv 4) za6 (λ_ _=>rfl))) (zj3 (zb9 zl9 (zc0 zj5 P6 za6) za6 (zb8 _)))))))))))) (za4 (za9 zg0)) zb3)))) zb3)))
     (za2 (zc2 (zb9 yf5 P5 zr4 (zb8 _)) (za4 (za9 zg0)) zb3)
     (za2 (zc2 (ze8 (zd3 (za7 (yf0 T) B.m T.bQ zb1 (za0 P1 (za0 P2 (za0 P3 (za0 (zB4 P5 T.ac T.bq (zD9 T) B.m T.aT.b .nil zb1 (za0 (zd2 (zh0 K rfl) rfl T.au Zc (za0 P3 za1)) za1)) za1))))))) (za4 (za9 zg0)) zb3)
     (za4 (za9 (zE3 (za7 (ok_w_same T) B.m T.ck zb1 (za0 (zc8 P5 rfl) (za0 P2 za1))) (zy7 (zf0 (yo5 (Nat.lt_of_succ_lt (zu9 B))) (pe_meth0 P5 T.ac T.cH (ok_Play_trail T) B.m T.bv.b .nil zb1) (zq6 za1) (zb8 _))))))))))),?_⟩
   refine cut6 ?_;intro ak al am an ao;refine use_finVH (R:=?R) (S:=λa8 v=>Same a0 v/\((a8 = .non/\a<absI (zb4 c s))\/(absI (zb4 c s)<=a/\∃p E y x m,a8 = .ref p/\zS3 t v p E y x m n r a c s s [] []))) (λfin=>?main) ?fin
   case main =>
     refine⟨_,rfl,u,_,_,_,rfl,rfl,SqL.of W,at_0,_,rfl,?_⟩;by_cases k:a<absI (zb4 c s)
     case neg =>
       refine iteA (by rw[Qe k];rfl) ?_;refine⟨_,rfl,_,rfl,f,_,rfl,.inr (SqT.of L),λlf e d f2 h2=>λp q fp aa ab=>?_⟩;have I:Same e (upd (upd e q (.own p)) p (.ins t.ad q [])):=(Same.upd aa).updT (by rw[za8 (Ne.symm ab)];exact fp);have X:(upd (upd e q (.own p)) p (.ins t.ad q [])) p=some (.ins t.ad q []):=za3;revert I X;generalize upd (upd e q (.own p)) p (.ins t.ad q [])=F;intro I X;have B2:=a2.same d;have ac:b≠p:=λz=>by obtain⟨_,_,_,hb,_⟩:=B2;rw[z,fp] at hb;cases hb
       refine⟨p,b,lf,q,n,r,a,c,s,rfl,X,ac,B2.same I,C,.inl ((SqL.of h2:SqL K e lf _) |> I.seq),λz=>absurd z k,λN H4 y m x4 ap P4=>⟨rfl,?_⟩⟩;obtain⟨v1,a4⟩:∃v1:V,v1 = .ref p:=⟨_,rfl⟩;rw[<-a4];exact fin v1 H4 ⟨λag o a9=>x4 ag o (I _ _ (d _ _ a9)) (zb5 a9 (d.free fp)),.inr ⟨N,p,b,y,y,m,a4,P4,C,N⟩⟩
     . refine iteB (by rw[Qh k];rfl) ?_
       exact fin .non a0 ⟨Same.refl _,.inl ⟨rfl,k⟩⟩
   rintro v0 H1 ⟨s1,hv⟩;refine⟨_,rfl,by decide,by decide,zl5 (n:=(5:Int).toNat) (λi σ v=>X2 λv6 v7=>A2 (σ=[some (.ref b),some (.ref Y),some (.ref f),some (.ref l),some (.ref u),some v0,v6,v7]) (Same H1 v)) ⟨none,none,rfl,Same.refl _⟩ ?_ ?_⟩
   . rintro i σ e hi ⟨v6,v7,rfl,d⟩
     have aq:i<5:=by simpa using hi
     have h:=s1.trans d;refine yf1 (R:=?R2) (S:=λv=>Same H1 v/\zX4 t v v0 n r a c s (0+(i:Int))) (λfin=>?m2) ?f2
     case m2 =>
       rcases hv with⟨O,k⟩ | ⟨N,p,E,y,x,m,O,A⟩
       . refine⟨_,rfl,rfl,_,rfl,iteB (by rw[Qh O];rfl) ⟨_,rfl,_,_,rfl,rfl,_,rfl,?_⟩⟩
         by_cases ar:i<3
         . refine iteA (Qh '!') ?_
           exact fin e ⟨d,λz=>absurd z '!'⟩
         . refine iteB (Qe '!') ?_
           exact⟨_,_,rfl,d⟩
       . refine⟨_,rfl,rfl,_,rfl,iteA (by rw[O];rfl) ?_⟩
         exact fin e ⟨d,λ_=>⟨p,E,y,x,m,O,A.same d⟩⟩
     clear h d;intro e ⟨d,PV⟩;have h:=s1.trans d;refine⟨_,rfl,_,rfl,_,rfl,_,rfl,_,rfl,0+(i:Int),b,f,l,v0,n,r,a,c,s,g,rfl,⟨by omega,by omega⟩,a2.same h,C,Z,h _ _ L,h _ _ M,PV,λo k2 F G Q ad=>?_⟩;have D:=G _ _ (h _ _ W);refine⟨_,rfl,o,_,_,_,rfl,rfl,SqL.of Q,at_0,_,rfl,u,_,_,_,rfl,rfl,SqL.of D,at_0,rfl,_,rfl,iteB (by rw[Qh rfl];rfl) ?_⟩;refine⟨_,rfl,o,_,_,_,rfl,rfl,SqL.of Q,at_1,_,rfl,u,_,_,_,rfl,rfl,SqL.of D,at_1,?_⟩;refine yf1 (R:=?R3) (S:=λv=>v=F) (λfin=>?m3) ?f3
     case m3 =>
       by_cases H:a<absI (zb4 c g)
       . by_cases k:a<absI (zb4 c s)
         . refine⟨_,rfl,iteA (Qh H) ⟨_,rfl,u,_,_,_,rfl,rfl,SqL.of D,at_0,_,rfl,?_⟩⟩
           refine⟨_,rfl,iteB (by rw[Qh k];rfl) ⟨rfl,_,rfl,iteB ?_ ?_⟩⟩
           . rw[show K1 a c s g (0+(i:Int))=false from Qe λz=>by have:=z.1;omega]
             first | rfl | (rw[Qh k];rfl)
           . exact fin F rfl
         . refine⟨_,rfl,iteA (Qh H) ⟨_,rfl,u,_,_,_,rfl,rfl,SqL.of D,at_0,_,rfl,?_⟩⟩
           refine⟨_,rfl,iteA (by rw[Qe k];rfl) ⟨_,rfl,rfl,rfl,_,rfl,iteB ?_ ?_⟩⟩
           . by_cases U:(0+(i:Int))=2
             . rw[show K1 a c s g (0+(i:Int))=false from Qe λz=>z.2.2 U,U]
               rfl
             . rw[show K1 a c s g (0+(i:Int))=true from Qh ⟨by omega,H,U⟩,zj0,Qe U]
               rfl
           . exact fin F rfl
       . refine⟨_,rfl,iteB (Qe H) ⟨rfl,_,rfl,iteB ?_ ?_⟩⟩
         . rw[show K1 a c s g (0+(i:Int))=false from Qe λz=>H z.2.1]
           first | rfl | (rw[Qe H];rfl)
         . exact fin F rfl
     rintro au rfl;refine⟨_,rfl,o,_,_,_,rfl,rfl,SqL.of Q,zw5 (j:=3) rfl,_,rfl,iteF ?_⟩;refine⟨_,rfl,o,_,_,_,rfl,rfl,SqL.of Q,at_2,_,rfl,?_⟩;cases k2 with
     | false=>exact iteF ⟨_,_,rfl,d.trans G⟩
     | true =>
       obtain⟨j0,j1,j2⟩:=ad rfl;refine iteT ⟨_,rfl,u,_,_,_,rfl,rfl,SqL.of D,at_0,_,rfl,iteB (Qe '!') ⟨_,rfl,u,_,_,_,rfl,rfl,SqL.of D,at_1,_,rfl,iteB (Qe '!') ?_⟩⟩;refine⟨_,rfl,_,_,rfl,rfl,(by show(0:Int)<3;decide),rfl,_,rfl,iteB ?_ ⟨_,_,rfl,d.trans G⟩⟩;rw[show(0+(i:Int)) % 3=1 by omega];rfl
   . rintro σ e ⟨v6,v7,rfl,d⟩
     have h:=s1.trans d;rcases hv with⟨rfl,k⟩ | ⟨N,p,E,y,x,m,rfl,A⟩
     . exact⟨_,rfl,rfl,_,rfl,iteT (a3 e h)⟩
     . refine⟨_,rfl,rfl,_,rfl,iteF ?_⟩
       have A2:=A.same d;obtain⟨q,hp⟩:=A2.pl.hp;refine⟨_,rfl,_,rfl,_,rfl,_,rfl,p,q,_,rfl,hp,ye5 _ _ _ _,_,rfl,l,_,rfl,.inr (SqT.of (h _ _ M)),λll F G f3 h3=>?_⟩;refine⟨p,E,y,x,m,ll,n,r,a,c,s,s,g,[],[],rfl,A2.pl.same G,C,Z,.inl (SqL.of h3),λlo H4 s4 ah=>?_⟩;have a5:=G.trans s4;have J:=h.trans a5;refine⟨Y,f,l,lo,n,r,a,c,s,g,rfl,S.same J,C,J _ _ L,J _ _ M,ah,λH5 s5=>⟨_,rfl,iteF ?_⟩⟩;have A5:=A2.same (a5.trans s5);obtain⟨a6,a7⟩:=A5.pl.hp;refine⟨_,rfl,p,_,a6,_,_,rfl,a7,T.ac,T.an,zo8 _ _ _ _,_,rfl,x,f,s,s,rfl,.inr (SqT.of A5.pl.hx),.inr (SqT.of ((J.trans s5) _ _ L)),by have:=C.len;have:=A5.pl.bm.1.w;omega,?_⟩;refine⟨_,rfl,iteA (Qh rfl) ?_⟩;refine⟨_,rfl,p,a6,_,rfl,a7,pf_trail _ _ _ _,p,E,y,x,m,n,r,a,c,s,s,[],[],rfl,A5.pl,λl5 f5=>?_⟩;have s6:Same H5 (upd H5 l5 (.lst [])):=Same.upd f5;exact⟨QH _,λl6 H6 s7 f6 h6=>⟨l5,l6,[],rfl,rfl,SqL.of (s7 _ _ za3),SqL.of h6,a3 H6 (J.trans (s5.trans (s6.trans s7)))⟩⟩
theorem use_finI {R:Int->Prop}{S:Int->Prop}{G:Prop}(a:(∀z,S z->R z)->G)(b:∀z,S z->R z):G:=a b
theorem perm2 {u v:Int}{a:'#'}(p:a.Perm [u,v])(d:a.Pairwise (·<=·)):∃x y,a=[x,y]/\(x=u\/x=v)/\(y=u\/y=v)/\u<=y/\v<=y:=by
 have e:=p.length_eq
 match a,e with
 | [x,y],_ =>
   have b:x∈[u,v]:=p.mem_iff.mp (by simp);have c:y∈[u,v]:=p.mem_iff.mp (by simp);have f:u∈[x,y]:=p.mem_iff.mpr (by simp);have g:v∈[x,y]:=p.mem_iff.mpr (by simp);have h:x<=y:=by simpa using d
   simp only[Qn,QM,or_false] at b c f g;exact⟨x,y,rfl,b,c,by omega,by omega⟩
theorem ok_law (T:Txt K mg t):FnOk P w K mg base CX0 17 t.bD t.co Ph (sp_law K t):=by
 refine T.c2.ok zj8 (λvs bm bn bo h=>?_) (λc7 cq bq s bm vs bn bo p h=>?_)
 . obtain⟨a,u,rfl,U,b2,a8⟩:=h
   rfl
 . obtain⟨a,u,rfl,U,b2,a8⟩:=h
   refine⟨_,(za2 (zb7 (i:=1) zj8.nd rfl '$' (za7 (ok_w_shape T) p.m T.b2 zb1 (za0 P0 za1)))
     (za2 (zX5 P1 (yf6 rfl (zg2 (zc3 (i:=2) zj8.nd rfl '$') (zg2 (zc3 (i:=3) zj8.nd rfl '$') (zg2 (zc3 (i:=4) zj8.nd rfl '$') zF1)))))
     (za2 (zb7 (i:=5) zj8.nd rfl '$' (zd2 (zz7 K rfl) rfl T.a2 PyProof.Rows.boot_tuple (za0 (za7 (ye9 T) p.m T.bP zb1 (za0 P0 (za0 za6 (za0 za6 (za0 P1 za1))))) za1)))
     (za2 (zb7 (i:=6) zj8.nd rfl '$' (zd2 (zz7 K rfl) rfl T.a2 PyProof.Rows.boot_tuple (za0 (za7 (ye9 T) p.m T.bP zb1 (za0 P0 (za0 za6 (za0 za6 (za0 P1 za1))))) za1)))
     (za2 (zb7 (i:=7) zj8.nd rfl '$' (zb6 call_sortI rfl T.bc PyProof.Rows.boot_sorted (za0 (zq6 (za0 (zb6 zi8 rfl T.ay QZ (za0 (za7 (zw2 T) p.m T.aH zb1 (za0 (pv 4) (za0 P5 za1))) za1)) (za0 (zb6 zi8 rfl T.ay QZ (za0 (za7 (zw2 T) p.m T.aH zb1 (za0 (pv 4) (za0 P6 za1))) za1)) za1))) za1)))
     (za2 (zb7 (i:=8) zj8.nd rfl '$' (za7 (zC8 T) p.m T.aN zb1 (za0 P0 (za0 za6 za1))))
     (za2 (zb7 (i:=9) zj8.nd rfl '$' (zc0 zj5 (zc0 zs6 P8 za6) za6))
     (za2 (zc2 (zb9 zu7 (zc0 zj5 P8 za6) za6 (zb8 _)) (za4 (zb7 (i:=9) zj8.nd rfl '$' (zb6 (zI4 rfl) rfl T.cv PyProof.Rows.boot_max (za0 za6 (za0 (zc0 zl8 (zc0 zk3 (zc5 zc6 P7 (zc0 zk3 (zc0 zj5 P8 za6) za6) (λ_ _=>rfl)) za6) (zc0 zj5 (zc0 zs6 P8 za6) za6)) za1))))) zb3)
     (za2 (zb7 (i:=10) zj8.nd rfl '$' (zq6 (za0 P2 (za0 P3 (za0 (pv 4) (za0 P9 za1))))))
     (za2 (zb7 (i:=11) zj8.nd rfl '$' (zq4 T.bS (zx8 T) p.m rfl T.b5 T.aK.b .nil zb1 (za0 P2 (za0 P3 (za0 (zd2 (zh0 K rfl) rfl T.au Zc (za0 (pv 4) za1)) (za0 P9 za1))))))
     (za2 (zb7 (i:=12) zj8.nd rfl '$' (zq6 (za0 (zf0 zu7 (zb6 zi8 rfl T.ay QZ (za0 (za7 (zw2 T) p.m T.aH zb1 (za0 (pv 4) (za0 P5 za1))) za1)) P9 (zb8 _)) (za0 (zf0 zu7 (zb6 zi8 rfl T.ay QZ (za0 (za7 (zw2 T) p.m T.aH zb1 (za0 (pv 4) (za0 P6 za1))) za1)) P9 (zb8 _)) za1))))
     (za2 (zb7 (i:=13) zj8.nd rfl '$' (zm0 (ye3 T) p.m rfl T.bj T.a1.F.kp T.a1.b .nil zb1 (za0 P11 (za0 (zd2 (zh0 K rfl) rfl T.au Zc (za0 P5 za1)) (za0 (zd2 (zh0 K rfl) rfl T.au Zc (za0 P6 za1)) za1)))))
     (za2 (zc2 (PW.pt (zk4 (ze8 (zd3 (za7 (yf0 T) p.m T.bQ zb1 (za0 P10 (za0 P5 (za0 P6 (za0 (pv 13) za1))))))) (zj3 (zb9 zN0 (zc8 (pv 13) rfl) (zc5 zc6 P7 za6 (λ_ _=>rfl)) (zb8 _))))) (za4 (za9 zg0)) zb3)
     (za2 (zc2 (ze8 (zd3 (za7 (ok_w_doors T) p.m T.b4 zb1 (za0 P11 (za0 P10 (za0 P5 (za0 P6 (za0 (pv 12) za1)))))))) (za4 (za9 zg0)) zb3)
     (za2 (zb7 (i:=14) zj8.nd rfl '$' (za7 (ok_w_desk T) p.m T.co zb1 (za0 (za7 (ok_w_text T) p.m T.cm zb1 (za0 P10 (za0 P5 za1))) (za0 (za7 (zX3 T) p.m T.bC zb1 (za0 P6 za1)) za1))))
     (za2 (zc2 (zd3 (zc5 zc6 (pv 12) za6 (λ_ _=>rfl))) (za4 (za9 (zf0 zg1 (pv 14) zc4 (zb8 _)))) zb3)
     (za2 (zc2 (PW.pt (zk4 (ze8 (zd3 (zb6 zm1 rfl T.af QL (za0 (pv 14) (za0 (zw3 (v:=.ty "list") rfl T.au Zc rfl) za1))))) (zk4 (zb9 zl9 (zb6 zc1 rfl T.ag QF (za0 (pv 14) za1)) za6 (zb8 _)) (zj3 (zb9 zl9 (zc5 zc6 (pv 14) za6 (λ_ _=>rfl)) (za7 (zX3 T) p.m T.bC zb1 (za0 P5 za1)) (zb8 _)))))) (za4 (za9 zg0)) zb3)
     (za2 (zY6 (i:=15) rfl yd3 (zg3 (pv 14)) (λ_ _ _ _ _=>(zc3 (i:=0) yd3.nd rfl '$')) (λ_ _ _ _ _=>zg8) (λ_ _ _ _ _=>(zf0 zg1 P0 zc4 (zb8 _))) zj8.nd rfl rfl)
     (za2 (zc2 (zb9 (op_neL (Nat.lt_of_succ_lt (zu9 p))) (pv 15) (zq6 (za0 (zc5 zc6 (pv 12) za6 (λ_ _=>rfl)) (za0 (zc5 zc6 (pv 12) za6 (λ_ _=>rfl)) (za0 zg0 (za0 zg0 za1))))) (zb8 _)) (za4 (za9 zg0)) zb3)
     (za4 (za9 (yq9 (zc5 zc6 (pv 12) za6 (λ_ _=>rfl)) (zy7 (za7 (ok_w_way T) p.m T.cw zb1 (za0 P10 (za0 P5 (za0 P6 (za0 (zm0 (zr3 T) p.m rfl T.ao T.ai.F.kp T.ai.b .nil zF6 (za0 P11 (za0 P5 (za0 P6 za1)))) za1)))))))))))))))))))))))))))),?_⟩
   refine cut20 ?_;intro br bt bu bv bw bx bz c2 c4 c5 c6 c8 c9 ca cb cc cd cf cg;refine⟨_,rfl,a,u,rfl,U,λsh h H1 s1 ch fh hh a3=>?_⟩;have al:∀q:Int,0<=q->q<=400->zi0 (shN u) (shR u) (shH u) q:=λq H I=>sh_ok u H I
   have m:=al 0 '&' '&';generalize shH u=k at *;generalize shN u=n at *;generalize shR u=r at *;have ci:=m.w;refine⟨_,rfl,sh,_,rfl,SqL.of a3,rfl,_,_,rfl,_,_,rfl,_,_,rfl,rfl,?_⟩;have es:∀(a9:List Str) (v:V),a9.length=16->L2.start a9 [v]=[some v,none,none,none,none,none,none,none,none,none,none,none,none,none,none,none]:=λa9 v e=>by unfold L2.start;rw[e];rfl
   rw[es _ _ rfl];dsimp only[List.set];refine⟨_,rfl,_,rfl,a,sh,h,u,3,0,n,r,k,rfl,s1.seq U,a3,SqL.of hh,⟨m.n1,m.n2,m.r1,m.w⟩,λfi H2 s2 cj ab=>?_⟩;have B:=yp5 u 3 0 k.length m.n1 m.r1;generalize yd5 u 3 0 n r k.length=s at B ab;refine⟨fi,_,rfl,.inl ⟨SqL.of ab,λf H3 s3 ff hf=>?_⟩⟩;have am:=s1.trans (s2.trans s3);have ac:=s2.trans s3;refine⟨_,rfl,_,rfl,a,sh,h,u,4,1000003,n,r,k,rfl,am.seq U,ac _ _ a3,SqL.of (ac _ _ hh),⟨m.n1,m.n2,m.r1,m.w⟩,λg0 H4 s4 ck ad=>?_⟩;have E:=yp5 u 4 1000003 k.length m.n1 m.r1;generalize yd5 u 4 1000003 n r k.length=g at E ad;refine⟨g0,_,rfl,.inl ⟨SqL.of ad,λl H5 s5 fl hl=>?_⟩⟩;have ae:=s4.trans s5;have b6:=am.trans ae;have af:=ae _ _ hf;have N:=(ac.trans ae) _ _ hh;have l1:=B.len;have l2:=E.len;obtain⟨t1,t2⟩:=zC5 m B;obtain⟨t3,t4⟩:=zC5 m E;refine⟨_,rfl,_,rfl,h,f,k,s,rfl,SqL.of N,.inr (SqT.of af),⟨l1.symm,by omega,m.h⟩,_,rfl,_,rfl,_,rfl,h,l,k,g,rfl,SqL.of N,.inr (SqT.of hl),⟨l2.symm,by omega,m.h⟩,_,rfl,(by show 2<=sizeLine;decide),λl6 H6 s6 f6 h6=>?_⟩;refine⟨l6,[absI (zb4 k s),absI (zb4 k g)],rfl,SqL.of h6,(by show 2<64;decide),λsz ms b7 pm b8=>?_⟩;obtain⟨x,y,rfl,hx,hy,hu,hv⟩:=perm2 pm b8;have s7:Same H6 (upd H6 sz (.lst ([x,y].map V.int))):=Same.upd b7;have O:(upd H6 sz (.lst ([x,y].map V.int))) sz=some (.lst [.int x,.int y]):=za3;dsimp only;revert s7 O;generalize upd H6 sz (.lst ([x,y].map V.int))=H7;intro s7 O;have Q:=s6.trans s7;have b9:=b6.trans Q
   have a0:0<=absI (zb4 k s):=by unfold absI;split<;>omega
   have b0:0<=absI (zb4 k g):=by unfold absI;split<;>omega
   dsimp only[List.set];refine⟨_,rfl,a,u,5,rfl,b9.seq U,?_⟩;dsimp only[List.set];generalize u.getD 5 0=A;refine use_finI (R:=?R4) (S:=λz=>0<=z/\z<=400) (λan=>?m4) ?f4
   case m4 =>
     refine⟨_,rfl,_,_,rfl,rfl,⟨by decide,by decide⟩,_,_,rfl,rfl,(by show(0:Int)<401;decide),_,rfl,_,_,rfl,rfl,(by show(0:Int)<3;decide),_,_,rfl,rfl,_,rfl,?_⟩;have c0:=ZH A (b:=3) '&';have c1:=Zy A (b:=3) '&';by_cases c3:0<A % 3
     . refine iteA (Qh c3) ?_
       obtain⟨C,aw,cl⟩:∃C,atI [V.int x,V.int y] (A % 3-1)=some (.int C)/\(C=x\/C=y):=by
         rcases(by omega:A % 3=1\/A % 3=2) with e | e
         . rw[e];exact⟨x,rfl,.inl rfl⟩
         . rw[e];exact⟨y,rfl,.inr rfl⟩
       refine⟨_,rfl,_,rfl,_,_,rfl,rfl,(by show(0:Int)<3;decide),_,_,rfl,rfl,sz,_,_,_,rfl,rfl,SqL.of O,aw,_,_,rfl,rfl,_,rfl,_,_,rfl,rfl,⟨by decide,by decide⟩,_,_,rfl,rfl,(by show(0:Int)<5;decide),_,_,rfl,rfl,_,_,rfl,?_⟩;have d0:=ZH (A / 3) (b:=5) '&';have d1:=Zy (A / 3) (b:=5) '&'
       have W:0<=(if C-2+A / 3 % 5>0 then C-2+A / 3 % 5 else 0)/\(if C-2+A / 3 % 5>0 then C-2+A / 3 % 5 else 0)<=400:=by split<;>omega
       revert W;generalize(if C-2+A / 3 % 5>0 then C-2+A / 3 % 5 else 0)=z;intro W;exact an z W
     . refine iteB (Qe c3) ?_
       exact an (A / 3 % 401) ⟨ZH _ '&',by have:=Zy (A / 3) (b:=401) '&';omega⟩
   rintro q ⟨b3,b4⟩;have ok:=al q b3 b4;dsimp only[List.set];refine⟨_,rfl,_,rfl,_,rfl,_,rfl,(by show 4<=sizeLine;decide),λX H8 s8 f8 h8=>?_⟩;have ba:=Q.trans s8;dsimp only[List.set];refine⟨_,rfl,_,rfl,_,rfl,h,_,rfl,.inl (SqL.of (ba _ _ N)),λl3 H9 s9 f9 h9=>⟨_,rfl,λb dx fb bb bc=>?_⟩⟩;have ag:Same H9 (upd (upd H9 dx (.own b)) b (.ins t.ah dx [])):=(Same.upd bb).updT (by rw[za8 (Ne.symm bc)];exact fb);refine⟨b,dx,l3,n,r,q,k,rfl,za3,.inl (SqL.of (ag _ _ h9)),ok,λHA aj ao=>⟨rfl,?_⟩⟩;have ap:Same H9 HA:=λc o e=>ao c o (ag c o e) (zb5 e fb)
   clear ag ao;dsimp only[List.set];have a4:=s8.trans (s9.trans ap);have D:=(Q.trans a4) _ _ af;have G:=(Q.trans a4) _ _ hl;have ah:=(Q.trans a4) _ _ N;have b5:=a4 _ _ O;have S:zm8 K HA X n r k q:=⟨h,ok,SqL.of ((s9.trans ap) _ _ h8),SqL.of ah⟩;clear af hl N O h8 h9 h6 hf ad ab hh a3;refine⟨_,rfl,_,rfl,h,f,k,s,rfl,SqL.of ah,.inr (SqT.of D),⟨l1.symm,by omega,m.h⟩,_,rfl,_,rfl,_,_,rfl,rfl,_,rfl,_,rfl,h,l,k,g,rfl,SqL.of ah,.inr (SqT.of G),⟨l2.symm,by omega,m.h⟩,_,rfl,_,rfl,_,_,rfl,rfl,(by show 2<=sizeLine;decide),λJ HB sB fB hB=>?_⟩;replace hB:HB J=some (.lst [.bl (decide (q<absI (zb4 k s))),.bl (decide (q<absI (zb4 k g)))]):=hB;dsimp only[List.set];refine⟨_,rfl,_,rfl,f,_,rfl,.inr (SqT.of (sB _ _ D)),λlf HC sC fC hC=>⟨_,rfl,l,_,rfl,.inr (SqT.of (sC _ _ (sB _ _ G))),λll HD sD fD hD=>?_⟩⟩;have aq:=sC.trans sD;have ar:=sB.trans aq;refine⟨b,lf,ll,n,r,q,k,s,g,rfl,aj.same ar,B,E,.inl (SqL.of (sD _ _ hC)),.inl (SqL.of hD),λlo HE sE aa=>?_⟩;have a5:=ar.trans sE;dsimp only[List.set];refine⟨_,rfl,_,rfl,_,rfl,_,rfl,X,f,l,lo,n,r,q,k,s,g,rfl,S.same a5,B,a5 _ _ D,a5 _ _ G,aa,λHF sF=>⟨_,rfl,iteF ?_⟩⟩;obtain⟨bp,bd,cm,cn,_,_,_,_,_,a1,a2,_⟩:=aa;have L:=a5.trans sF
   have co:y<=bp:=by unfold zk9 at a2;split at a2<;>omega
   refine⟨_,rfl,lo,_,bd,_,_,rfl,sF _ _ a1,T.al,T.ak,zw0 _ _ _,_,rfl,sz,_,_,_,rfl,rfl,SqL.of (L _ _ b5),at_1,_,_,rfl,rfl,_,rfl,iteB (Qe '!') ?_⟩;have au:=aq.trans (sE.trans sF);refine⟨_,rfl,_,rfl,_,rfl,_,rfl,_,rfl,b,X,f,l,J,n,r,q,k,s,g,rfl,aj.same L,S.same L,B,E,L _ _ D,L _ _ G,au _ _ hB,λHG sG=>⟨_,rfl,iteF ?_⟩⟩;have a6:=L.trans sG;have be:=sG _ _ (au _ _ hB);refine⟨_,rfl,_,rfl,X,f,n,r,q,k,s,rfl,S.same a6,a6 _ _ D,B,_,rfl,l,n,r,k.length,g,rfl,a6 _ _ G,E,ok.n2,ok.w,λHI sI=>?_⟩;have av:=sI _ _ be;have bf:=a6.trans sI;refine⟨n,r,q,k,s,g,rfl,ok,B,E,λb1 HJ sJ=>?_,λb1 o H I Y HJ sJ ho e1 e2 e3=>?_⟩
   . refine⟨_,rfl,J,_,_,_,rfl,rfl,SqL.of (sJ _ _ av),at_0,_,rfl,iteA (Qh b1) ?_⟩
     refine⟨_,rfl,rfl,?_⟩;rw[Qh rfl];exact a8 _
   . have ax:=sJ _ _ av
     have ay:=bf.trans sJ;refine⟨_,rfl,J,_,_,_,rfl,rfl,SqL.of ax,at_0,_,rfl,iteB (Qe '!') ?_⟩;refine⟨_,rfl,_,_,_,_,_,rfl,.ty _,.lst ho,rfl,_,rfl,iteF ?_⟩;refine⟨_,rfl,o,_,rfl,.inl (SqL.of ho),rfl,_,rfl,iteF ?_⟩;refine⟨_,rfl,o,_,_,_,rfl,rfl,SqL.of ho,zw5 (j:=3) rfl,_,rfl,f,n,r,k.length,s,rfl,ay _ _ D,B,ok.n2,ok.w,λHK sK=>⟨rfl,_,rfl,iteB (by rw[Qh rfl];rfl) ?_⟩⟩;dsimp only[List.set];have bg:=ay.trans sK;have bh:=sK _ _ ax;have az:HK o=some (.lst ([H,I,Y,zd7 s].map V.str)):=sK _ _ ho;have eR:Str.ofString "refused: goal past" = RefG:=by decide
     have eD:∀z:Str,decide (V.str z=V.str RefG)=decide (z=RefG):=λz=>decide_eq_decide.mpr ⟨λh=>by injection h,λh=>by rw[h]⟩
     have nS:zd7 s≠RefG:=zW8 λz W=>by have:=B.on z W;have:=ok.n2;omega
     refine⟨_,rfl,o,rfl,⟨_,SqL.of az⟩,λak hD=>?_⟩;refine zi3 (K:=K) (a:=o) (xs:=[H,I,Y,zd7 s].map V.str) (λi F=>Same HK F/\F ak=some (.lst (([H,I,Y,zd7 s].take i).map λz=>V.bl (decide (z=RefG))))) ⟨Same.upd hD,za3⟩ (λi F Z=>SqL.of (Z.1 _ _ az)) (λi x F a9 hi Z hN=>?_) (λF Z=>?_)
     . dsimp only[zm9]
       obtain⟨sH,bi⟩:=Z;rw[QK] at hi;cases e:[H,I,Y,zd7 s][i]? with
       | none=>rw[e] at hi;cases hi
       | some z =>
         rw[e] at hi;cases hi;have cp:i<4:=(QN.mp e).1;refine iteT ⟨_,rfl,rfl,_,bi,?_,hN _ ⟨sH.put hD,?_⟩⟩
         . rw[Qb,QW]
           exact zd0 '!'
         . rw[za3,QY,e,Qq,eR,eD]
           rfl
     obtain⟨sL,a7⟩:=Z;replace a7:F ak=some (.lst [.bl (decide (H=RefG)),.bl (decide (I=RefG)),.bl (decide (Y=RefG)),.bl (decide (zd7 s=RefG))]):=a7;rw[e1,e2,Qe e3,Qe nS] at a7;have bj:=bg.trans sL;have ai:=sL _ _ bh;refine⟨_,rfl,_,rfl,J,_,_,_,rfl,rfl,SqL.of ai,at_1,_,rfl,J,_,_,_,rfl,rfl,SqL.of ai,at_1,(by show 4<=sizeLine;decide),λl2 HM sM f2 hM=>⟨ak,l2,_,_,rfl,rfl,SqL.of (sM _ _ a7),SqL.of hM,?_,?_⟩⟩
     . intro j cr v hu hv
       have hb:∀ {c:Bool} {z:V},z∈[V.bl c,V.bl c,V.bl false,V.bl false]->∃d:Bool,z = .bl d:=λ{c z} h=>by
         simp only[Qn,QM,or_false] at h
         rcases h with rfl | rfl | rfl | rfl<;>exact⟨_,rfl⟩
       obtain⟨u',rfl⟩:=hb (Qy hu);obtain⟨v',rfl⟩:=hb (Qy hv);rfl
     . refine⟨_,rfl,iteB (by rw[Qh rfl];rfl) ?_⟩
       dsimp only[List.set];have M:=bj.trans sM;refine⟨_,rfl,J,_,_,_,rfl,rfl,SqL.of (sM _ _ ai),at_1,_,rfl,?_⟩;by_cases kg:q<absI (zb4 k g)
       . refine iteA (Qh kg) ?_
         exact a8 _
       . refine iteB (Qe kg) ?_
         exact⟨_,rfl,_,rfl,_,rfl,_,rfl,_,rfl,_,rfl,b,f,l,n,r,q,k,s,g,rfl,aj.same M,B,E,.inr (M _ _ D),.inr (M _ _ G),λz=>absurd z '!',λ_ z=>absurd z kg,λ_ _ wy HN sN aa=>⟨X,f,l,wy,n,r,q,k,s,g,rfl,S.same (M.trans sN),B,(M.trans sN) _ _ D,(M.trans sN) _ _ G,aa,λF _=>a8 F⟩⟩
end
theorem ars {n:Nat}{us:')'}(h:us.length=n+1):∃x a,us=x::a/\a.length=n:=by
 cases us with
 | nil=>cases h
 | cons x a=>exact⟨x,a,rfl,Nat.succ.inj h⟩
theorem ar1 {us:')'}(h:us.length=1):∃a,us=[a]:=by
 obtain⟨b,d,rfl,c⟩:=ars h;obtain rfl:=QA c;exact⟨b,rfl⟩
theorem ar2 {us:')'}(h:us.length=2):∃a b,us=[a,b]:=by
 obtain⟨c,g,rfl,d⟩:=ars h;obtain⟨e,i,rfl,f⟩:=ars d;obtain rfl:=QA f;exact⟨c,e,rfl⟩
theorem ar3 {us:')'}(h:us.length=3):∃a b c,us=[a,b,c]:=by
 obtain⟨d,k,rfl,e⟩:=ars h;obtain⟨f,l,rfl,g⟩:=ars e;obtain⟨i,m,rfl,j⟩:=ars g;obtain rfl:=QA j;exact⟨d,f,i,rfl⟩
theorem ar4 {us:')'}(h:us.length=4):∃a b c d,us=[a,b,c,d]:=by
 obtain⟨e,n,rfl,f⟩:=ars h;obtain⟨g,o,rfl,i⟩:=ars f;obtain⟨j,p,rfl,k⟩:=ars i;obtain⟨l,q,rfl,m⟩:=ars k;obtain rfl:=QA m;exact⟨e,g,j,l,rfl⟩
theorem ar5 {us:')'}(h:us.length=5):∃a b c d e,us=[a,b,c,d,e]:=by
 obtain⟨f,q,rfl,g⟩:=ars h;obtain⟨i,r,rfl,j⟩:=ars g;obtain⟨k,s,rfl,l⟩:=ars j;obtain⟨m,t,rfl,n⟩:=ars l;obtain⟨o,u,rfl,p⟩:=ars n;obtain rfl:=QA p;exact⟨f,i,k,m,o,rfl⟩
theorem ar7 {us:')'}(h:us.length=7):∃a b c d e f g,us=[a,b,c,d,e,f,g]:=by
 obtain⟨i,w,rfl,j⟩:=ars h;obtain⟨k,x,rfl,l⟩:=ars j;obtain⟨m,y,rfl,n⟩:=ars l;obtain⟨o,z,rfl,p⟩:=ars n;obtain⟨q,A,rfl,r⟩:=ars p;obtain⟨s,B,rfl,t⟩:=ars r;obtain⟨u,C,rfl,v⟩:=ars t;obtain rfl:=QA v;exact⟨i,k,m,o,q,s,u,rfl⟩
theorem all_mk {l:W.OpenLaw} {w:World} {K:W.Frag} {h:Heap} {mg:Str->Option Value} {fa:Addr} (X:K.In h) (G:h.Ns mainGlobals mg) (hfa:mg "law" = some (.ref fa))
   {c8 a6 a7 a8 ar a9:Value} {c9 ba:Option Addr} {da:Array (Option Value)} {ae:Addr}
   {ay:Addr} {db:Value} {dc:Option Addr} {dd:Nat} {de:Array (Option Value)} {df dg:Value}
   {dh bb bc bd au be:Value} {di bf:Option Addr} {dj:Array (Option Value)} {ah:Addr}
   {az:Addr} {dk:Value} {dl:Option Addr} {dm:Nat} {dn:Array (Option Value)} {dp:Value}
   {dI bj bk bl aA bm:Value} {dJ bn:Option Addr} {dK:Array (Option Value)} {ai:Addr}
   {aF:Addr} {dL:Value} {dM:Option Addr} {dN:Nat} {dO:Array (Option Value)} {dP:Value}
   {eE ch ci cj aY ck:Value} {eF cl:Option Addr} {eG:Array (Option Value)} {ao:Addr}
   {bo:Addr} {eH:Value} {eI:Option Addr} {eJ:Nat} {eK:Array (Option Value)} {eL:Value}
   {aV:Addr}
   {ew:Addr}
   {b1:Addr}
   {cm:Addr}
   {bg:Addr}
   {gg:Addr}
   {cn:Addr}
   {gx:Addr}
   {gy:Addr}
   {gh:Addr}
   {ex:Addr}
   {gi:Addr}
   {eS:Addr}
   {eT:Addr}
   {gz:Addr}
   {gA:Addr}
   {bi:Addr}
   {dQ:Addr}
   {bQ:Addr}
   {eU:Addr}
   {cA:Addr}
   {eV:Addr}
   {co:Addr}
   {aG:Addr}
   {em:Addr}
   {bp:Addr}
   {bL:Addr}
   {aW:Addr}
   {aH:Addr}
   {aw:Addr}
   {al:Addr}
   {aI:Addr}
   {bq:Addr}
   {bM:Addr}
   {cB:Addr}
   {dw:Addr}
   {cp:Addr}
   {b2:Addr}
   {cq:Addr}
   {cr:Addr}
   {cC:Addr}
   {cs:Addr}
   {dx:Addr}
   {ey:Addr}
   {eW:Addr}
   {cD:Addr}
   {b3:Addr}
   {cE:Addr}
   {ef:Addr}
   {dy:Addr}
   {cF:Addr}
   {gB:Addr}
   {ez:Addr}
   {eX:Addr}
   {eA:Addr}
   {gj:Addr}
   {eY:Addr}
   {eZ:Addr}
   {cG:Addr}
   {e0:Addr}
   {e1:Addr}
   {e2:Addr}
   {gk:Addr}
   {gl:Addr}
   {gm:Addr}
   {e3:Addr}
   {e4:Addr}
   {eB:Addr}
   {e5:Addr}
   {e6:Addr}
   {eC:Addr}
   {hH hI hJ hK gC hL:Value} {hM hN:Option Addr} {hO:Array (Option Value)} {gr:Addr}
   {ak:Addr}
   {aj:Addr}
   {ag:Addr}
   {af:Addr}
   {aa:Addr}
   {ab:Addr}
   {ac:Addr}
   {ad:Addr}
   {e7 e8:Str} {fQ:Addr} {e9 cH:')'} {fb:List Str} {eM:')'} {fc:Bool} {eN:Option Bool} {fe:Option Addr} {ff fg fh fi fj:Option Value}
   {fR fS:Str} {gs:Addr} {fT dz:')'} {fU:List Str} {fk:')'} {fV:Bool} {fl:Option Bool} {fW:Option Addr} {fX fY fZ f0 f1:Option Value}
   {gO gP:Str} {hq:Addr} {gQ fm:')'} {gR:List Str} {gD:')'} {gS:Bool} {gE:Option Bool} {gT:Option Addr} {gU gV gW gX gY:Option Value}
   {eO:ClassData}
   {eP:ClassData}
   {fn:ClassData}
   {gF:ClassData}
   {aP:Tok}
   {bR:Tok}
   {br:Tok}
   {aQ:Tok}
   {bS:Tok}
   {aB:Tok}
   {aR:Tok}
   {cI:Tok}
   (hP:W.nsIn K mainGlobals "Beam" = some (some (.ref ak)))
   (hW:W.nsIn K mainGlobals "Way" = some (some (.ref aj)))
   (hr:W.nsIn K mainGlobals "Least" = some (some (.ref ag)))
   (hQ:W.nsIn K mainGlobals "Play" = some (some (.ref af)))
   (f2:W.nsIn K mainGlobals "StartPast" = some (some (.ref aa)))
   (gt:W.nsIn K mainGlobals "GoalPast" = some (some (.ref ab)))
   (hs:W.nsIn K mainGlobals "NoWay" = some (some (.ref ac)))
   (f3:W.nsIn K mainGlobals "BeamError" = some (some (.ref ad)))
   (dR:W.findIn K (.ref ad) "__init__" = some (some (.ref ae)))
   (gZ:W.isFn K (.ref ae)=true)
   (dS:K.lookup ae=some ⟨c8,c9,.func (W.fnOf "__init__" "BeamError.__init__" (zf4 ze1) (zc9 ze1) (za5 ze1) (.ref ay) a6 a7 a8 ba ar a9),da⟩)
   (dT:W.codeIn K ar "BeamError.__init__" = true) (am:W.keepIn K (.ref ae)=true)
   (dq:K.lookup ay=some ⟨db,dc,.seq #[df,dg] dd,de⟩)
   (bs:W.findIn K (.ref aa) "__init__" = some (some (.ref ah)))
   (dU:W.isFn K (.ref ah)=true)
   (dV:K.lookup ah=some ⟨dh,di,.func (W.fnOf "__init__" "StartPast.__init__" (zf4 ze2) (zc9 ze2) (za5 ze2) (.ref az) bb bc bd bf au be),dj⟩)
   (dW:W.codeIn K au "StartPast.__init__" = true) (aC:W.keepIn K (.ref ah)=true)
   (dr:K.lookup az=some ⟨dk,dl,.seq #[dp] dm,dn⟩)
   (bN:W.findIn K (.ref ab) "__init__" = some (some (.ref ai)))
   (eg:W.isFn K (.ref ai)=true)
   (eh:K.lookup ai=some ⟨dI,dJ,.func (W.fnOf "__init__" "GoalPast.__init__" (zf4 ze4) (zc9 ze4) (za5 ze4) (.ref aF) bj bk bl bn aA bm),dK⟩)
   (ei:W.codeIn K aA "GoalPast.__init__" = true) (aJ:W.keepIn K (.ref ai)=true)
   (dX:K.lookup aF=some ⟨dL,dM,.seq #[dP] dN,dO⟩)
   (cJ:W.findIn K (.ref ac) "__init__" = some (some (.ref ao)))
   (fo:W.isFn K (.ref ao)=true)
   (fp:K.lookup ao=some ⟨eE,eF,.func (W.fnOf "__init__" "NoWay.__init__" (zf4 zf9) (zc9 zf9) (za5 zf9) (.ref bo) ch ci cj cl aY ck),eG⟩)
   (fq:W.codeIn K aY "NoWay.__init__" = true) (bt:W.keepIn K (.ref ao)=true)
   (eQ:K.lookup bo=some ⟨eH,eI,.seq #[eL] eJ,eK⟩)
   (dA:W.findIn K (.ref ak) "__init__" = some (some (.ref aV)))
   (f4:W.isFn K (.ref aV)=true)
   (bT:∃fd,Dm K "__init__" "Beam.__init__" Pp zz8 aV fd)
   (cK:∃fd,Df K mg "outside" Pq zJ2 ew fd)
   (aS:∃fd,Df K mg "check_bounds" Pr zr6 b1 fd)
   (aZ:∃fd,Df K mg "check_hefts" ["hefts"] zt9 cm fd)
   (av:∃fd,Df K mg "check_standings" PK zm2 bg fd)
   (en:∃fd,Df K mg "under" Ps zZ8 gg fd)
   (a0:∃fd,Df K mg "as_standing" Pb zu0 cn fd)
   (fr:∃fd,Df K mg "tilt" Pb zP5 gx fd)
   (fs:∃fd,Df K mg "past" Pt yg0 gy fd)
   (eo:∃fd,Df K mg "keeps" Pb zZ9 gh fd)
   (cL:∃fd,Df K mg "in_hand" PN zJ3 ex fd)
   (ep:∃fd,Df K mg "moves" Pb zG8 gi fd)
   (dY:∃fd,Df K mg "turned" Pc zP6 eS fd)
   (dZ:∃fd,Df K mg "behind" Pu zP7 eT fd)
   (ft:∃fd,Df K mg "full" Pv yg1 gz fd)
   (fu:∃fd,Df K mg "puts" PP zP8 gA fd)
   (ej:W.findIn K (.ref aj) "__init__" = some (some (.ref bi)))
   (gu:W.isFn K (.ref bi)=true)
   (cf:∃fd,Dm K "__init__" "Way.__init__" Pw zE5 bi fd)
   (d0:∃fd,Df K mg "fewest" Pd zP9 dQ fd)
   (bU:∃fd,Df K mg "next_move" Pd zz9 bQ fd)
   (d1:∃fd,Df K mg "search" Pd zQ0 eU fd)
   (bu:∃fd,Df K mg "next_layer" PQ zw9 cA fd)
   (d2:∃fd,Df K mg "row_to" PR zQ1 eV fd)
   (a1:∃fd,Df K mg "moved_again" Pg zh1 co fd)
   (cM:W.findIn K (.ref ag) "__init__" = some (some (.ref aG)))
   (fv:W.isFn K (.ref aG)=true)
   (bv:∃fd,Dm K "__init__" "Least.__init__" Px zx0 aG fd)
   (eq:∃fd,Df K mg "least" Pd ya0 em fd)
   (aD:∃fd,Df K mg "limit_to_leave" PU zh8 bp fd)
   (aK:∃fd,Df K mg "limit_to_move" Py zo9 bL fd)
   (dB:W.findIn K (.ref af) "__init__" = some (some (.ref aW)))
   (f5:W.isFn K (.ref aW)=true)
   (bV:∃fd,Dm K "__init__" "Play.__init__" PX zA0 aW fd)
   (cN:W.findIn K (.ref af) "trail" = some (some (.ref aH)))
   (fw:W.isFn K (.ref aH)=true)
   (aL:∃fd,Dm K "trail" "Play.trail" ["self"] zx1 aH fd)
   (ct:W.findIn K (.ref af) "fewest" = some (some (.ref aw)))
   (eR:W.isFn K (.ref aw)=true)
   (ax:∃fd,Dm K "fewest" "Play.fewest" Pf zu1 aw fd)
   (bw:W.findIn K (.ref af) "next_move" = some (some (.ref al)))
   (d3:W.isFn K (.ref al)=true)
   (an:∃fd,Dm K "next_move" "Play.next_move" Pf zn1 al fd)
   (cO:W.findIn K (.ref af) "least" = some (some (.ref aI)))
   (fx:W.isFn K (.ref aI)=true)
   (aM:∃fd,Dm K "least" "Play.least" Pf zx2 aI fd)
   (aE:∃fd,Df K mg "write_standing" Pb zh9 bq fd)
   (aN:∃fd,Df K mg "read_standing" Pz zp0 bM fd)
   (bx:∃fd,Df K mg "write_move" Pc zx3 cB fd)
   (bW:∃fd,Df K mg "read_beam" Pa zg9 dw fd)
   (a2:∃fd,Df K mg "read_weight" Pg zu2 cp fd)
   (aT:∃fd,Df K mg "words_behind" PZ zr7 b2 fd)
   (a3:∃fd,Df K mg "read_places" Pa zk6 cq fd)
   (a4:∃fd,Df K mg "write_place" Pl zu3 cr fd)
   (bz:∃fd,Df K mg "read_place" Pa zx4 cC fd)
   (a5:∃fd,Df K mg "read_number" Pa zu4 cs fd)
   (bX:∃fd,Df K mg "is_number" Pa zo6 dx fd)
   (cP:∃fd,Df K mg "answers" Va zJ4 ey fd)
   (d4:∃fd,Df K mg "answer" Pk zQ2 eW fd)
   (bA:∃fd,Df K mg "answer_row" Pk zx5 cD fd)
   (aU:∃fd,Df K mg "answer_words" PB zr8 b3 fd)
   (bB:∃fd,Df K mg "tell_moves" Pg zm3 cE fd)
   (cg:∃fd,Df K mg "tell_way" ["way"] zE6 ef fd)
   (bY:∃fd,Df K mg "tell_next" Pc zA1 dy fd)
   (bC:∃fd,Df K mg "tell_least" ["low"] zx6 cF fd)
   (fy:∃fd,Df K mg "_law_at" PD yg2 gB fd)
   (cQ:∃fd,Df K mg "_law_whole" PF zJ5 ez fd)
   (d5:∃fd,Df K mg "_law_figs" Vb zQ3 eX fd)
   (cR:∃fd,Df K mg "_law_shape" Ph zv2 eA fd)
   (er:∃fd,Df K mg "_law_put" Vc ya1 gj fd)
   (d6:∃fd,Df K mg "_law_tilt" Vd zQ4 eY fd)
   (d7:∃fd,Df K mg "_law_lets" Ve zQ5 eZ fd)
   (bD:∃fd,Df K mg "_law_is_spots" Vf zx7 cG fd)
   (d8:∃fd,Df K mg "_law_same" Vg zQ6 e0 fd)
   (d9:∃fd,Df K mg "_law_walk" Vh zQ7 e1 fd)
   (ea:∃fd,Df K mg "_law_with" PH zQ8 e2 fd)
   (es:∃fd,Df K mg "_law_way" Pi ya2 gk fd)
   (et:∃fd,Df K mg "_law_low" Pi ya3 gl fd)
   (eu:∃fd,Df K mg "_law_say" Pm ya4 gm fd)
   (eb:∃fd,Df K mg "_law_text" Vi zQ9 e3 fd)
   (ec:∃fd,Df K mg "_law_goal" Pn zA2 e4 fd)
   (cS:∃fd,Df K mg "_law_asked" Pj zJ6 eB fd)
   (ed:∃fd,Df K mg "_law_told" Pj zR0 e5 fd)
   (ee:∃fd,Df K mg "_law_desk" PJ zR1 e6 fd)
   (cT:∃fd,Df K mg "_law_doors" Vj zJ7 eC fd)
   (gv:W.nsIn K mainGlobals "law" = some (some (.ref gr)))
   (hX:K.lookup gr=some ⟨hH,hM,.func (W.fnOf "law" "law" (zf4 zK7) (zc9 zK7) (za5 zK7) .none hI hJ hK hN gC hL),hO⟩)
   (hY:W.codeIn K gC "law" = true) (gw:W.keepIn K (.ref gr)=true)
   (ht:W.plainGet K ak Str.empty=true) (hu:W.hasDictIn K ak=true) (hv:W.plainOver K ak=true) (hw:W.findIn K (.ref ak) "__setattr__" = some (some (.builtin "object.__setattr__"))) (gn:W.makesIn K ak=true) (hx:W.keepIn K (.ref ak)=true)
   (bO:W.findIn K (.ref ak) "notches" = some none)
   (cU:W.findIn K (.ref ak) "room" = some none)
   (cu:W.findIn K (.ref ak) "hefts" = some none)
   (cv:W.findIn K (.ref ak) "limit" = some none)
   (hR:W.plainGet K aj Str.empty=true) (hS:W.hasDictIn K aj=true) (hT:W.plainOver K aj=true) (hU:W.findIn K (.ref aj) "__setattr__" = some (some (.builtin "object.__setattr__"))) (gG:W.makesIn K aj=true) (hV:W.keepIn K (.ref aj)=true)
   (b4:W.findIn K (.ref aj) "reached" = some none)
   (dC:W.findIn K (.ref aj) "many" = some none)
   (ek:W.findIn K (.ref aj) "row" = some none)
   (cw:W.findIn K (.ref aj) "layers" = some none)
   (cV:W.findIn K (.ref aj) "again" = some none)
   (dD:W.findIn K (.ref aj) "shut" = some none)
   (g0:W.plainGet K ag Str.empty=true) (g1:W.hasDictIn K ag=true) (g2:W.plainOver K ag=true) (g3:W.findIn K (.ref ag) "__setattr__" = some (some (.builtin "object.__setattr__"))) (fz:W.makesIn K ag=true) (g4:W.keepIn K (.ref ag)=true)
   (b5:W.findIn K (.ref ag) "limit" = some none)
   (cW:W.findIn K (.ref ag) "row" = some none)
   (cx:W.findIn K (.ref ag) "shut" = some none)
   (hy:W.plainGet K af Str.empty=true) (hz:W.hasDictIn K af=true) (hA:W.plainOver K af=true) (hB:W.findIn K (.ref af) "__setattr__" = some (some (.builtin "object.__setattr__"))) (go:W.makesIn K af=true) (hC:W.keepIn K (.ref af)=true)
   (cX:W.findIn K (.ref af) "beam" = some none)
   (cy:W.findIn K (.ref af) "start" = some none)
   (bE:W.findIn K (.ref af) "standing" = some none)
   (cY:W.findIn K (.ref af) "made" = some none)
   (fA:K.lookup aa=some (excClassObj e7 e8 aa fQ e9 cH true fb eM fc eN fe ff fg fh fi fj "ValueError.__new__")) (fB:MroV cH) (fC:W.findIn K (.ref aa) "__setattr__" = some (some (.builtin "object.__setattr__"))) (fD:W.keepIn K (.ref aa)=true)
   (f6:K.lookup ab=some (excClassObj fR fS ab gs fT dz true fU fk fV fl fW fX fY fZ f0 f1 "ValueError.__new__")) (f7:MroV dz) (f8:W.findIn K (.ref ab) "__setattr__" = some (some (.builtin "object.__setattr__"))) (f9:W.keepIn K (.ref ab)=true)
   (g5:K.lookup ac=some (excClassObj gO gP ac hq gQ fm true gR gD gS gE gT gU gV gW gX gY "ValueError.__new__")) (g6:MroV fm) (g7:W.findIn K (.ref ac) "__setattr__" = some (some (.builtin "object.__setattr__"))) (g8:W.keepIn K (.ref ac)=true)
   (aO:W.findIn K (.ref aa) "reason" = some none)
   (bh:W.findIn K (.ref aa) "word" = some none)
   (aX:W.findIn K (.ref ab) "reason" = some none)
   (bF:W.findIn K (.ref ab) "word" = some none)
   (bP:W.findIn K (.ref ac) "reason" = some none)
   (cz:W.findIn K (.ref ac) "word" = some none)
   (xw1:W.specialIn K (.builtin "object.__class__") "__get__" = some (some (.builtin "getset_descriptor.__get__")))
   (xw2:W.takesIn K (.builtin "object.__class__")=some true)
   (bG:W.clsIn K ad=some eO) (bH:W.typeIn K (.ref ad)=some (.type "type"))
   (ap:W.clsIn K aa=some eP) (aq:W.typeIn K (.ref aa)=some (.type "type"))
   (dE:W.clsIn K ab=some fn) (dF:W.typeIn K (.ref ab)=some (.type "type"))
   (fE:W.clsIn K ac=some gF) (fF:W.typeIn K (.ref ac)=some (.type "type"))
   (bI:W.subIn K (.ref ad) (.type "BaseException")=some true)
   (bJ:W.subIn K (.ref aa) (.type "BaseException")=some true)
   (fG:W.findIn K (.ref aa) "__getattribute__" = some (some (.builtin "BaseException.__getattribute__"))) (fH:W.findIn K (.ref aa) "__getattr__" = some none) (fI:W.mroIn K aa (.type "BaseException")=some true) (fJ:W.hasDictIn K aa=true) (fK:W.findIn K (.ref aa) "__class__" = some (some (.builtin "object.__class__"))) (fL:W.mroIn K aa (.type "object")=some true)
   (bZ:W.subIn K (.ref aa) (.ref ad)=some true)
   (b0:W.subIn K (.ref aa) (.ref aa)=some true)
   (b6:(Value.ref aa == Value.ref ab)=false) (b7:W.subIn K (.ref aa) (.ref ab)=some false)
   (cZ:(Value.ref aa == Value.ref ac)=false) (c0:W.subIn K (.ref aa) (.ref ac)=some false)
   (ga:W.findIn K (.ref ab) "__getattribute__" = some (some (.builtin "BaseException.__getattribute__"))) (gb:W.findIn K (.ref ab) "__getattr__" = some none) (gc:W.mroIn K ab (.type "BaseException")=some true) (gd:W.hasDictIn K ab=true) (ge:W.findIn K (.ref ab) "__class__" = some (some (.builtin "object.__class__"))) (gf:W.mroIn K ab (.type "object")=some true)
   (b8:W.subIn K (.ref ab) (.ref ad)=some true)
   (b9:W.subIn K (.ref ab) (.ref aa)=some false)
   (ca:(Value.ref ab == Value.ref aa)=false) (cb:W.subIn K (.ref ab) (.ref aa)=some false)
   (ds:(Value.ref ab == Value.ref ac)=false) (dt:W.subIn K (.ref ab) (.ref ac)=some false)
   (g9:W.findIn K (.ref ac) "__getattribute__" = some (some (.builtin "BaseException.__getattribute__"))) (ha:W.findIn K (.ref ac) "__getattr__" = some none) (hb:W.mroIn K ac (.type "BaseException")=some true) (hc:W.hasDictIn K ac=true) (hd:W.findIn K (.ref ac) "__class__" = some (some (.builtin "object.__class__"))) (he:W.mroIn K ac (.type "object")=some true)
   (c1:W.subIn K (.ref ac) (.ref ad)=some true)
   (c2:W.subIn K (.ref ac) (.ref aa)=some false)
   (c3:(Value.ref ac == Value.ref aa)=false) (c4:W.subIn K (.ref ac) (.ref aa)=some false)
   (du:(Value.ref ac == Value.ref ab)=false) (dv:W.subIn K (.ref ac) (.ref ab)=some false)
   (fM:W.specialIn K (.ref ad) "__getattribute__" = some (some (.builtin "type.__getattribute__"))) (fN:W.readsIn K ad (.type "type")=true) (fO:W.findCls K (.ref ad) (.type "type") "__init__" = some (.val (.ref ae)))
   (hD:W.findIn K (.ref aj) "__class__" = some (some (.builtin "object.__class__")))
   (hE:W.specialIn K (.builtin "object.__class__") "__get__" = some (some (.builtin "getset_descriptor.__get__")))
   (hF:W.takesIn K (.builtin "object.__class__")=some true)
   (hG:W.mroIn K aj (.type "object")=some true)
   (gH:W.findIn K (.ref ag) "__class__" = some (some (.builtin "object.__class__")))
   (gI:W.specialIn K (.builtin "object.__class__") "__get__" = some (some (.builtin "getset_descriptor.__get__")))
   (gJ:W.takesIn K (.builtin "object.__class__")=some true)
   (gK:W.mroIn K ag (.type "object")=some true)
   (el:W.nsIn K mainGlobals "fewest_layers" = some (some (.ref dQ)))
   (c5:W.nsIn K mainGlobals "next_move_layers" = some (some (.ref bQ)))
   (ev:W.nsIn K mainGlobals "least_limits" = some (some (.ref em)))
   (gp:W.nsIn K mainGlobals "tuple" = some none)
   (hf:W.nsIn K mainGlobals "len" = some none)
   (gq:W.nsIn K mainGlobals "range" = some none)
   (hg:W.nsIn K mainGlobals "sum" = some none)
   (hh:W.nsIn K mainGlobals "zip" = some none)
   (hi:W.nsIn K mainGlobals "abs" = some none)
   (fP:W.nsIn K mainGlobals "sorted" = some none)
   (hj:W.nsIn K mainGlobals "set" = some none)
   (hk:W.nsIn K mainGlobals "max" = some none)
   (gL:W.nsIn K mainGlobals "dict" = some none)
   (hm:W.nsIn K mainGlobals "min" = some none)
   (gM:W.nsIn K mainGlobals "list" = some none)
   (hn:W.nsIn K mainGlobals "str" = some none)
   (ho:W.nsIn K mainGlobals "int" = some none)
   (hp:W.nsIn K mainGlobals "all" = some none)
   (c6:W.nsIn K mainGlobals "isinstance" = some none)
   (gN:W.nsIn K mainGlobals "bool" = some none)
   (cc:W.nsIn K mainGlobals "MOST_NOTCHES" = some (some (.int 4 aP)))
   (dG:W.nsIn K mainGlobals "MOST_ROOM" = some (some (.int 3 bR)))
   (c7:W.nsIn K mainGlobals "MOST_LIMIT" = some (some (.int 400 br)))
   (cd:W.nsIn K mainGlobals "MOST_WEIGHTS" = some (some (.int 5 aQ)))
   (dH:W.nsIn K mainGlobals "MOST_HEFT" = some (some (.int 20 bS)))
   (bK:W.nsIn K mainGlobals "MOST_STANDINGS" = some (some (.int 1000 aB)))
   (ce:W.nsIn K mainGlobals "MOST_FIGURES" = some (some (.int 4 aR)))
   (eD:W.nsIn K mainGlobals "FIGURES" = some (some (.str (Str.ofString "0123456789") cI))) :
   ∃fd:FuncData,(∀(s:Shared) (v:Value),BindsTo s fd ⟨[v],[]⟩ [("_law_script",v)])/\∀base:Heap,K.In base->base.Ns mainGlobals mg->FnOk l.prog w K mg base CX0 17 fa fd Ph (yk9 K):=by
 have e:=hfa.symm.trans (W.mg_of X G gv);cases e;have F_BeamError_init:=zL3 (st:=ze1) dS dT am;have b_BeamError_init:zj2 K _ Po []:=λs us X hl=>by
   rw[Zi] at hl ⊢
   match us,hl with
   | [_,_,_],_=>exact BindsTo.of_defaults (fd:=W.fnOf "__init__" "BeamError.__init__" (zf4 ze1) (zc9 ze1) (za5 ze1) (.ref ay) a6 a7 a8 ba ar a9) rfl (X _ _ dq) rfl rfl rfl
 have F_StartPast_init:=zL3 (st:=ze2) dV dW aC;have b_StartPast_init:zj2 K _ Pe []:=λs us X hl=>by
   rw[Zi] at hl ⊢
   match us,hl with
   | [_,_],_=>exact BindsTo.of_defaults (fd:=W.fnOf "__init__" "StartPast.__init__" (zf4 ze2) (zc9 ze2) (za5 ze2) (.ref az) bb bc bd bf au be) rfl (X _ _ dr) rfl rfl rfl
 have F_GoalPast_init:=zL3 (st:=ze4) eh ei aJ;have b_GoalPast_init:zj2 K _ Pe []:=λs us X hl=>by
   rw[Zi] at hl ⊢
   match us,hl with
   | [_,_],_=>exact BindsTo.of_defaults (fd:=W.fnOf "__init__" "GoalPast.__init__" (zf4 ze4) (zc9 ze4) (za5 ze4) (.ref aF) bj bk bl bn aA bm) rfl (X _ _ dX) rfl rfl rfl
 have F_NoWay_init:=zL3 (st:=zf9) fp fq bt;have b_NoWay_init:zj2 K _ Pe []:=λs us X hl=>by
   rw[Zi] at hl ⊢
   match us,hl with
   | [_,_],_=>exact BindsTo.of_defaults (fd:=W.fnOf "__init__" "NoWay.__init__" (zf4 zf9) (zc9 zf9) (za5 zf9) (.ref bo) ch ci cj cl aY ck) rfl (X _ _ eQ) rfl rfl rfl
 have F_law:=zN5 (st:=zK7) hX hY gw;have b_law:=F_law.binds (ps:=Ph) λ_ _ _ _ _ _ us hl=>by obtain⟨x0,rfl⟩:=ar1 hl;rfl
 have T:Txt K mg { ak:=ae,am:=_,ag:=ah,an:=_,ai:=ai,ap:=_,al:=ao,ar:=_,az:=aV,bp:=bT.choose,bE:=ew,bF:=cK.choose,aM:=b1,aN:=aS.choose,aS:=cm,aT:=aZ.choose,ax:=bg,ay:=av.choose,cp:=gg,cq:=en.choose,aU:=cn,aV:=a0.choose,cH:=gx,cI:=fr.choose,cJ:=gy,cK:=fs.choose,cr:=gh,cs:=eo.choose,bG:=ex,bH:=cL.choose,ct:=gi,cu:=ep.choose,bS:=eS,bT:=dY.choose,bU:=eT,bV:=dZ.choose,cL:=gz,cM:=ft.choose,cN:=gA,cO:=fu.choose,aH:=bi,bA:=cf.choose,a7:=dQ,bW:=d0.choose,aA:=bQ,bq:=bU.choose,bX:=eU,bY:=d1.choose,a8:=cA,a9:=bu.choose,bZ:=eV,b0:=d2.choose,aW:=co,aX:=a1.choose,au:=aG,ba:=bv.choose,bz:=em,cv:=eq.choose,aC:=bp,aD:=aD.choose,aI:=bL,aJ:=aK.choose,aB:=aW,br:=bV.choose,av:=aH,bb:=aL.choose,aq:=aw,aY:=ax.choose,ao:=al,aE:=an.choose,aw:=aI,bc:=aM.choose,aF:=bq,aG:=aE.choose,aK:=bM,aL:=aN.choose,bd:=cB,be:=bx.choose,bs:=dw,bt:=bW.choose,aZ:=cp,a0:=a2.choose,aO:=b2,aP:=aT.choose,a1:=cq,a2:=a3.choose,a3:=cr,a4:=a4.choose,bf:=cC,bg:=bz.choose,a5:=cs,a6:=a5.choose,bu:=dx,bv:=bX.choose,bI:=ey,bJ:=cP.choose,b1:=eW,b2:=d4.choose,bh:=cD,bi:=bA.choose,aQ:=b3,aR:=aU.choose,bj:=cE,bk:=bB.choose,bB:=ef,bC:=cg.choose,bw:=dy,bx:=bY.choose,bl:=cF,bm:=bC.choose,cP:=gB,cQ:=fy.choose,bK:=ez,bL:=cQ.choose,b3:=eX,b4:=d5.choose,bM:=eA,bN:=cR.choose,cw:=gj,cx:=er.choose,b5:=eY,b6:=d6.choose,b7:=eZ,b8:=d7.choose,bn:=cG,bo:=bD.choose,b9:=e0,ca:=d8.choose,cb:=e1,cc:=d9.choose,cd:=e2,ce:=ea.choose,cy:=gk,cz:=es.choose,cA:=gl,cB:=et.choose,cC:=gm,cD:=eu.choose,cf:=e3,cg:=eb.choose,ch:=e4,ci:=ec.choose,bO:=eB,bP:=cS.choose,cj:=e5,ck:=ed.choose,cl:=e6,cm:=ee.choose,bQ:=eC,bR:=cT.choose,bD:=fa,co:=_,ah:=ak,af:=aj,ae:=ag,ad:=af,aa:=aa,ab:=ab,ac:=ac,aj:=ad,cE:=aP,cS:=bR,cR:=br,cF:=aQ,cT:=bS,cn:=aB,cG:=aR,cU:=cI }:={ cd:=F_BeamError_init,aF:=b_BeamError_init,c7:=am,ce:=F_StartPast_init,a7:=b_StartPast_init,c8:=aC,cr:=F_GoalPast_init,cs:=b_GoalPast_init,c9:=aJ,cI:=F_NoWay_init,cJ:=b_NoWay_init,da:=bt,aK:=bT.choose_spec,av:=cK.choose_spec,bf:=aS.choose_spec,bm:=aZ.choose_spec,a3:=av.choose_spec,bg:=en.choose_spec,ad:=a0.choose_spec,aS:=fr.choose_spec,bs:=fs.choose_spec,bh:=eo.choose_spec,bl:=cL.choose_spec,bO:=ep.choose_spec,cf:=dY.choose_spec,aP:=dZ.choose_spec,cK:=ft.choose_spec,cL:=fu.choose_spec,bd:=cf.choose_spec,ai:=d0.choose_spec,aA:=bU.choose_spec,cg:=d1.choose_spec,bt:=bu.choose_spec,ch:=d2.choose_spec,bn:=a1.choose_spec,bu:=bv.choose_spec,a1:=eq.choose_spec,a8:=aD.choose_spec,be:=aK.choose_spec,aL:=bV.choose_spec,bv:=aL.choose_spec,aQ:=ax.choose_spec,aG:=an.choose_spec,aT:=aM.choose_spec,a9:=aE.choose_spec,aw:=aN.choose_spec,aU:=bx.choose_spec,bG:=bW.choose_spec,bo:=a2.choose_spec,ar:=aT.choose_spec,bp:=a3.choose_spec,aD:=a4.choose_spec,aV:=bz.choose_spec,aq:=a5.choose_spec,bH:=bX.choose_spec,b1:=cP.choose_spec,ci:=d4.choose_spec,bw:=bA.choose_spec,bi:=aU.choose_spec,aW:=bB.choose_spec,bW:=cg.choose_spec,bI:=bY.choose_spec,bx:=bC.choose_spec,aN:=fy.choose_spec,aJ:=cQ.choose_spec,bz:=d5.choose_spec,b2:=cR.choose_spec,bP:=er.choose_spec,aH:=d6.choose_spec,cj:=d7.choose_spec,bA:=bD.choose_spec,ck:=d8.choose_spec,bB:=d9.choose_spec,cl:=ea.choose_spec,cw:=es.choose_spec,bQ:=et.choose_spec,bR:=eu.choose_spec,cm:=eb.choose_spec,bC:=ec.choose_spec,b3:=cS.choose_spec,cn:=ed.choose_spec,co:=ee.choose_spec,b4:=cT.choose_spec,c2:=F_law,db:=b_law,dc:=W.mg_of X G gv,dd:=gw,ab:=⟨ht,hu,hv,hw⟩,b5:=W.mg_of X G hP,bS:=⟨gn,dA,f4,hx⟩,ah:=bO,ax:=cU,aj:=cu,aR:=cv,aa:=⟨hR,hS,hT,hU⟩,ct:=W.mg_of X G hW,cM:=⟨gG,ej,gu,hV⟩,ae:=b4,aB:=dC,ap:=ek,cE:=cw,cN:=cV,a5:=dD,al:=⟨g0,g1,g2,g3⟩,cx:=W.mg_of X G hr,cX:=⟨fz,cM,fv,g4⟩,ak:=b5,aX:=cW,cF:=cx,ac:=⟨hy,hz,hA,hB⟩,b6:=W.mg_of X G hQ,bT:=⟨go,dB,f5,hC⟩,am:=cX,cG:=cy,an:=bE,bD:=cY,ao:=W.mg_of X G el,aY:=W.mg_of X G c5,bj:=W.mg_of X G ev,cH:=⟨cN,fw,aL.choose_spec.F.kp⟩,bk:=⟨ct,eR,ax.choose_spec.F.kp⟩,a4:=⟨bw,d3,an.choose_spec.F.kp⟩,bq:=⟨cO,fx,aM.choose_spec.F.kp⟩,aI:=⟨hD,hE,hF,hG⟩,ba:=⟨gH,gI,gJ,gK⟩,aM:=W.mg_of X G f2,bX:=W.mg_of X G gt,cy:=W.mg_of X G hs,aC:=W.mg_of X G f3,a6:=⟨⟨_,_,_,_,_,_,_,_,_,_,_,_,_,_,_,fA,fB⟩,fC,fD⟩,bY:=⟨⟨_,_,_,_,_,_,_,_,_,_,_,_,_,_,_,f6,f7⟩,f8,f9⟩,cz:=⟨⟨_,_,_,_,_,_,_,_,_,_,_,_,_,_,_,g5,g6⟩,g7,g8⟩,bJ:=bs,bE:=dU,b0:=aO,ca:=bh,cT:=bN,cQ:=eg,b7:=aX,bb:=bF,cZ:=cJ,cY:=fo,cu:=bP,br:=cz,c0:=⟨xw1,xw2⟩,cO:=⟨fG,fH,fI,fJ,fK,fL⟩,bK:=zI6 bI (by rw[bG];rfl) bH bZ,bL:=zI6 bJ (by rw[ap];rfl) aq b0,bM:=kit_self _ _,bU:=zI7 b6 (by rw[dE];rfl) dF b7,b8:=zI7 cZ (by rw[fE];rfl) fF c0,bN:=⟨ga,gb,gc,gd,ge,gf⟩,aO:=zI6 bI (by rw[bG];rfl) bH b8,de:=zI6 bJ (by rw[ap];rfl) aq b9,bV:=zI7 ca (by rw[ap];rfl) aq cb,bZ:=kit_self _ _,cb:=zI7 ds (by rw[fE];rfl) fF dt,cp:=⟨g9,ha,hb,hc,hd,he⟩,aZ:=zI6 bI (by rw[bG];rfl) bH c1,df:=zI6 bJ (by rw[ap];rfl) aq c2,b9:=zI7 c3 (by rw[ap];rfl) aq c4,cc:=zI7 du (by rw[dE];rfl) dF dv,cA:=kit_self _ _,a0:=⟨fM,fN,fO,am⟩,a2:=W.mg_none_of X G gp,ag:=W.mg_none_of X G hf,az:=W.mg_none_of X G gq,c3:=W.mg_none_of X G hg,c4:=W.mg_none_of X G hh,ay:=W.mg_none_of X G hi,bc:=W.mg_none_of X G fP,c5:=W.mg_none_of X G hj,cv:=W.mg_none_of X G hk,c1:=W.mg_none_of X G gL,cU:=W.mg_none_of X G hm,au:=W.mg_none_of X G gM,aE:=W.mg_none_of X G hn,cV:=W.mg_none_of X G ho,c6:=W.mg_none_of X G hp,af:=W.mg_none_of X G c6,cP:=W.mg_none_of X G gN,cB:=W.mg_of X G cc,cR:=W.mg_of X G dG,bF:=W.mg_of X G c7,cC:=W.mg_of X G cd,cS:=W.mg_of X G dH,cq:=W.mg_of X G bK,cD:=W.mg_of X G ce,cW:=W.mg_of X G eD }
 exact⟨_,λs v=>.of_eq rfl,λbase _ _=>ok_law T⟩
theorem walk {l:W.OpenLaw}{q:Program}{j:List Str}{o:(Str->Option Value)->Heap->Prop}{e:World->Heap->Prop}{d:DefRec}{K:Params->W.Frag}(p:l.most=some 63)(m:d.params.defaults=[])
   (r:∀(w:World) (h:Heap),e w h->(K w.params).In h)
   (F:∀(w:World) (b:Str->Option Value) (g:Addr) (h:Heap),(K w.params).In h->h.Ns mainGlobals b->b d.name=some (.ref g) →
     ∃i:FuncData,(∀(s:Shared) (u:Value),BindsTo s i ⟨[u],[]⟩ [("_law_script",u)])/\∀c:Heap,(K w.params).In c->c.Ns mainGlobals b->FnOk l.prog w (K w.params) b c CX0 17 g i Ph (yk9 (K w.params))) :
   W.WalkO q j o e l.row.toRowW d [] (λf t=>PySem.call f t) :=
 L2.walk_of (n:=63) (k:=17) (x:="_law_script") (CX:=λ_=>CX0) (sp:=λw=>yk9 (K w.params)) p '&' m ⟨rfl,by decide,by decide⟩ r F (λ_ _ a v y _ A=>⟨a,v,rfl,A,y,λ_=>rfl⟩) λ_ _ _ _ _ z=>z
end Bt
open PySem PySem.W PyProof.Rows
set_option maxRecDepth 100000 in
set_option maxHeartbeats 0 in
end
theorem PySem.Challenge.cw_beamtender_k32_whole_ends_holds : PySem.Challenge.rw_beamtender_k32_whole_ends.Holds := by
  w_on; o_law; k_head; (case hw => w_witness2)
  k_fill
  refine Bt.walk (l := PySem.Challenge.rw_beamtender_k32_whole_ends) rfl rfl (λw h Y => PySem.W.kIn_of Y) ?F
  case F =>
    intro w mg fa h KX G hmg;refine' Bt.all_mk KX G hmg ?aA ?aB ?aC ?aD ?aE ?aF ?aG ?aH ?aI ?aJ ?aK ?aL ?aM ?aN ?aO ?aP ?aQ ?aR ?aS ?aT ?aU ?aV ?aW ?aX ?aY ?aZ ?bA ?bB ?bC ?bD ?bE ?bF ?bG ?bH ?bI ?bJ ?bK ?bL ?bM ?bN ?bO ?bP ?bQ ?bR ?bS ?bT ?bU ?bV ?bW ?bX ?bY ?bZ ?cA ?cB ?cC ?cD ?cE ?cF ?cG ?cH ?cI ?cJ ?cK ?cL ?cM ?cN ?cO ?cP ?cQ ?cR ?cS ?cT ?cU ?cV ?cW ?cX ?cY ?cZ ?dA ?dB ?dC ?dD ?dE ?dF ?dG ?dH ?dI ?dJ ?dK ?dL ?dM ?dN ?dO ?dP ?dQ ?dR ?dS ?dT ?dU ?dV ?dW ?dX ?dY ?dZ ?eA ?eB ?eC ?eD ?eE ?eF ?eG ?eH ?eI ?eJ ?eK ?eL ?eM ?eN ?eO ?eP ?eQ ?eR ?eS ?eT ?eU ?eV ?eW ?eX ?eY ?eZ ?fA ?fB ?fC ?fD ?fE ?fF ?fG ?fH ?fI ?fJ ?fK ?fL ?fM ?fN ?fO ?fP ?fQ ?fR ?fS ?fT ?fU ?fV ?fW ?fX ?fY ?fZ ?gA ?gB ?gC ?gD ?gE ?gF ?gG ?gH ?gI ?gJ ?gK ?gL ?gM ?gN ?gO ?gP ?gQ ?gR ?gS ?gT ?gU ?gV ?gW ?gX ?gY ?gZ ?hA ?hB ?hC ?hD ?hE ?hF ?hG ?hH ?hI ?hJ ?hK ?hL ?hM ?hN ?hO ?hP ?hQ ?hR ?hS ?hT ?hU ?hV ?hW ?hX ?hY ?hZ ?iA ?iB ?iC ?iD ?iE ?iF ?iG ?iH ?iI ?iJ ?iK ?iL ?iM ?iN ?iO ?iP ?iQ ?iR ?iS ?iT ?iU ?iV ?iW ?iX ?iY ?iZ ?jA ?jB ?jC ?jD ?jE ?jF ?jG ?jH ?jI ?jJ ?jK ?jL ?jM ?jN ?jO ?jP ?jQ ?jR ?jS ?jT ?jU ?jV ?jW ?jX ?jY ?jZ ?kA ?kB ?kC ?kD ?kE ?kF ?kG ?kH ?kI
    (case aA|aB|aC|aD|aE|aF|aG|aH|aI|aJ|aK|aL|aM|aN|aO|aP|aQ|aR|aS|aT|aU|aV|aW|aX|aY|aZ|bA|bB|bC|bD|bE|bF|bG|bH=>k_is)
    (case bI=>exact L2.dm_mk (by k_is) (by k_is) (by k_is) λ_ _ _ _ _ _ us hl => by obtain ⟨x0, x1, x2, x3, x4, rfl⟩ := Bt.ar5 hl; rfl)
    (case bJ|bK|bS|bW|bX|cB|cC|cD|cE|cK|cM|dH|dQ|eB|eE=>exact L2.df_mk KX G (by k_is) (by k_is) (by k_is) (by k_is) λ_ _ _ _ _ _ us hl=>by obtain ⟨x0,x1,x2,rfl⟩:=Bt.ar3 hl;rfl)
    (case bL|bU|cG|dE|dF|dG|dI|dJ|dK|dL|dM|dR|dS|dT|dU|dW|dY|eI|eK=>exact L2.df_mk KX G (by k_is) (by k_is) (by k_is) (by k_is) λ_ _ _ _ _ _ us hl=>by obtain ⟨x0,rfl⟩:=Bt.ar1 hl;rfl)
    (case bM|bN|bO|bP|bQ|bR|bT|bV|cF|cL|dC|dD|dN|dO|dP|dV|eA|eC|eD|eF|eJ|eN=>exact L2.df_mk KX G (by k_is) (by k_is) (by k_is) (by k_is) λ_ _ _ _ _ _ us hl=>by obtain ⟨x0,x1,rfl⟩:=Bt.ar2 hl;rfl)
    (case bY|bZ=>k_is)
    (case cA=>exact L2.dm_mk (by k_is) (by k_is) (by k_is) λ_ _ _ _ _ _ us hl => by obtain ⟨x0, x1, x2, x3, x4, x5, x6, rfl⟩ := Bt.ar7 hl; rfl)
    (case cH|cI=>k_is)
    (case cJ=>exact L2.dm_mk (by k_is) (by k_is) (by k_is) λ_ _ _ _ _ _ us hl => by obtain ⟨x0, x1, x2, x3, rfl⟩ := Bt.ar4 hl; rfl)
    (case cN|cO=>k_is)
    (case cP=>exact L2.dm_mk (by k_is) (by k_is) (by k_is) λ_ _ _ _ _ _ us hl => by obtain ⟨x0, x1, x2, rfl⟩ := Bt.ar3 hl; rfl)
    (case cQ|cR=>k_is)
    (case cS=>exact L2.dm_mk (by k_is) (by k_is) (by k_is) λ_ _ _ _ _ _ us hl => by obtain ⟨x0, rfl⟩ := Bt.ar1 hl; rfl)
    (case cT|cU=>k_is)
    (case cV=>exact L2.dm_mk (by k_is) (by k_is) (by k_is) λ_ _ _ _ _ _ us hl => by obtain ⟨x0, x1, rfl⟩ := Bt.ar2 hl; rfl)
    (case cW|cX=>k_is)
    (case cY=>exact L2.dm_mk (by k_is) (by k_is) (by k_is) λ_ _ _ _ _ _ us hl => by obtain ⟨x0, x1, rfl⟩ := Bt.ar2 hl; rfl)
    (case cZ|dA=>k_is)
    (case dB=>exact L2.dm_mk (by k_is) (by k_is) (by k_is) λ_ _ _ _ _ _ us hl => by obtain ⟨x0, x1, rfl⟩ := Bt.ar2 hl; rfl)
    (case dX|dZ|eG|eH=>exact L2.df_mk KX G (by k_is) (by k_is) (by k_is) (by k_is) λ_ _ _ _ _ _ us hl=>by obtain ⟨x0,x1,x2,x3,rfl⟩:=Bt.ar4 hl;rfl)
    (case eL|eM|eO=>exact L2.df_mk KX G (by k_is) (by k_is) (by k_is) (by k_is) λ_ _ _ _ _ _ us hl=>by obtain ⟨x0,x1,x2,x3,x4,rfl⟩:=Bt.ar5 hl;rfl)
    (case eP|eQ|eR|eS|eT|eU|eV|eW|eX|eY|eZ|fA|fB|fC|fD|fE|fF|fG|fH|fI|fJ|fK|fL|fM|fN|fO|fP|fQ|fR|fS|fT|fU|fV|fW|fX|fY|fZ|gA|gB|gC|gD|gE|gF|gG|gH|gI=>k_is)
    (case gJ=>first | exact Or.inl rfl | exact Or.inr ⟨_, rfl⟩)
    (case gK|gL|gM=>k_is)
    (case gN=>first | exact Or.inl rfl | exact Or.inr ⟨_, rfl⟩)
    (case gO|gP|gQ=>k_is)
    (case gR=>first | exact Or.inl rfl | exact Or.inr ⟨_, rfl⟩)
    (case gS|gT|gU|gV|gW|gX|gY|gZ|hA|hB|hC|hD|hE|hF|hG|hH|hI|hJ|hK|hL|hM|hN|hO|hP|hQ|hR|hS|hT=>k_is)
    (case hU=>rfl)
    (case hV=>k_is)
    (case hW=>rfl)
    (case hX|hY|hZ|iA|iB|iC|iD|iE|iF=>k_is)
    (case iG=>rfl)
    (case iH=>k_is)
    (case iI=>rfl)
    (case iJ|iK|iL|iM|iN|iO|iP|iQ|iR=>k_is)
    (case iS=>rfl)
    (case iT=>k_is)
    (case iU=>rfl)
    (case iV|iW|iX|iY|iZ|jA|jB|jC|jD|jE|jF|jG|jH|jI|jJ|jK|jL|jM|jN|jO|jP|jQ|jR|jS|jT|jU|jV|jW|jX|jY|jZ|kA|kB|kC|kD|kE|kF|kG|kH|kI=>k_is)
