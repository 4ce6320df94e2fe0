import PyProof.Rows.All
import Wide.All
import OpenK.AllK
import Wide.FinOn
import Open.Tops
import Lean
import PyProof.EqAt
import PyProof.EqKinds
import PyProof.TupleCall
import PyProof.ExcInit
import PyProof.ExcClass3
import PyProof.ExcBaseAll.ValueError
import PyProof.InstStoreFacts
import KE.KTryMore
import PyProof.RulesAs
import PyProof.NsDelKeeps
import PyProof.Rows.SortRuns
import KE.KDictSum
import KE.KSortTup
import PyProof.Rows.SetFrom
import PyProof.Rows.MinMaxN
import KE.KDictOf
import KE.KDictList
import PySem.Challenge.RW_beamtender_k25_play_asked
set_option genSizeOf false
set_option bootstrap.genMatcherCode false
set_option Elab.async false
set_option linter.all false
set_option maxRecDepth 100000
set_option maxHeartbeats 4000000
namespace PySem.W.Fast
def tw3203480803615207234:=()
def tw16644021561098977204:=()
def tw6823069668393083578:=()
def tw8045315962984876547:=()
def tw8008983885673763927:=()
def tw10528979877089398129:=()
def tw8222231458987560555:=()
def tw17513787814595737918:=()
def tw7055976844062901739:=()
def tw17225176628609651530:=()
def tw16124907296705905126:=()
def tw17984828250133696484:=()
def tw9067880156794877461:=()
def tw3053039681705907590:=()
def tw10671703017435314962:=()
def tw5984143708942506367:=()
def tw8403960722165880915:=()
def tw12980652682986455467:=()
def tw12956959381625706810:=()
def tw18254640258553435794:=()
def tw11081201899694047314:=()
def tw10663524056049230594:=()
def tw5245458672508240684:=()
def tw13918070900721017462:=()
def tw15062551754883790098:=()
def tw2906630234987049585:=()
def tw10441242611306285572:=()
def tw1822279206287288365:=()
def tw14678072303138634297:=()
def tw13702891178513515200:=()
def tw3947836088257194829:=()
def tw15904199594167711245:=()
def tw18332882765238904902:=()
def tw550970613757312479:=()
def tw3817821955130038182:=()
def tw9599814098166041113:=()
def tw2408252749472315615:=()
def tw10820806771485820009:=()
def tw7585699332345302173:=()
def tw11403076821752195099:=()
def tw8564130097255318471:=()
def tw15811716120855643152:=()
def tw2772608487025113559:=()
def tw17537128108769031302:=()
def tw8683761304018220842:=()
def tw3890045312479836345:=()
def tw12255659254239988888:=()
def tw6644207112004644413:=()
def tw6004625546920555698:=()
def tw8462681007095224893:=()
def tw13537983921936202266:=()
def tw4062561085211183239:=()
def tw13937447743923076125:=()
def tw12549236495366979181:=()
def tw5822687539928157022:=()
def tw13572190104796226573:=()
def tw6489391182173414287:=()
def tw12772585543002508241:=()
def tw9261912173675001780:=()
def tw16919948864608603538:=()
def tw4432696882315497185:=()
def tw12086055875710105966:=()
def tw12884345898040493565:=()
def tw5153339892163734260:=()
def tw7602320758946591936:=()
def tw12738888062330648496:=()
def tw13839079010758941282:=()
def tw2100303338328872314:=()
def tw18267388806484754249:=()
def tw9617132747901357244:=()
def tw7171795642936334445:=()
def tw13289688069668668681:=()
def tw3046510812258041633:=()
def tw2778617374505699503:=()
def tw103882420914111513:=()
def tw6372348885402806909:=()
def tw9716621485308279651:=()
def tw447093242552960518:=()
def tw10717283139417537689:=()
def tw816412881978220404:=()
def tw3827335348826861247:=()
def tw3019469949455086360:=()
def tw3830430188680812704:=()
def tw635222193159655053:=()
def tw3481125642421782495:=()
def tw7046939658872891319:=()
def tw14466069117565695546:=()
def tw5074069062847868090:=()
def tw5102564316427039747:=()
def tw13598295994346881823:=()
def tw4599408916308314879:=()
def tw1080543337418065352:=()
def tw18127286466306570104:=()
def tw11299500888830994319:=()
def tw13980391716373973125:=()
def tw10130480449728179960:=()
def tw12585168246023265348:=()
def tw2757542016783992952:=()
def tw14352405326576224817:=()
def tw9308976407678652887:=()
def tw9490309155736654723:=()
def tw10405599694063812739:=()
def tw18272578698108203428:=()
def tw11294671346631836439:=()
def tw18289631012114666751:=()
def tw8863032751403379839:=()
def tw3104085137606496750:=()
def tw6823255452266843197:=()
def tw1845818362578280308:=()
def tw18208548051911198538:=()
def tw3450276488458835093:=()
def tw15089149639592806085:=()
def tw7081219217070067141:=()
def tw9975440970417669999:=()
def tw4313328879878084200:=()
def tw4090890459014202459:=()
def tw6225532646710409926:=()
def tw12272734062397362457:=()
def tw10536315786308224165:=()
def tw17875217992876123986:=()
def tw2441244445479423082:=()
def tw7828550130083368062:=()
def tw7993358469165024741:=()
def tw3089454076476448162:=()
def tw12401827627117488271:=()
def tw16016550133085892538:=()
def tw12703518704471188779:=()
def tw7601485478738791909:=()
def tw557800904671392444:=()
def tw8811829294995502691:=()
def tw13326879605935550310:=()
def tw12124372697101007219:=()
def tw14215123122354833209:=()
def tw15200283316858162990:=()
def tw17688860007147443142:=()
def tw12919030836724000111:=()
def tw8481434109733685259:=()
def tw15635021653711906561:=()
def tw16328061554116807395:=()
def tw2376146251339899467:=()
def tw16881123178058997748:=()
def tw9704961292572253178:=()
def tw1869324414925723995:=()
def tw9507497468520644574:=()
def tw11314678246958923041:=()
def tw5121324893827464432:=()
def tw15040187060045286449:=()
def tw11078359832463643296:=()
def tw7583253911553056191:=()
def tw10480276214492456264:=()
def tw5099782730629757621:=()
def tw964025291714068046:=()
def tw15829146534619486502:=()
def tw10636932806721120778:=()
def tw4181922629742367180:=()
def tw10418048365930485521:=()
def tw2488668148265196763:=()
def tw17681586605411435902:=()
def tw3682201383558988232:=()
def tw3178918529748216085:=()
def tw11070642299167359730:=()
def tw5899196017250092262:=()
def tw1583082192504555227:=()
def tw3950208620310107622:=()
def tw6881704362152558297:=()
def tw8206308077353077152:=()
def tw6384380429368410037:=()
def tw13886701811110005027:=()
def tw15449629156236113012:=()
def tw13591198760663201823:=()
def tw18395447249889284424:=()
def tw4607666237618533621:=()
def tw7991381263852058442:=()
def tw1887009147814325085:=()
def tw14458000407063584397:=()
def tw15699863016569598264:=()
def tw2313230640293770673:=()
def tw6336810315096831058:=()
def tw5814548082606291424:=()
def tw11908060083009463949:=()
def tw106625873526075968:=()
def tw18193419165384346596:=()
def tw13729778500139187802:=()
def tw320137766859689576:=()
def tw17485055340540243352:=()
def tw9218870538010551065:=()
def tw4967620232448868771:=()
def tw2873906900865933853:=()
def tw4398211517120089124:=()
def tw6219350956196092624:=()
def tw4258499475166030357:=()
def tw4957002753913949090:=()
def tw15382187792202659720:=()
def tw10682301958158965649:=()
def tw7714284404807913830:=()
def tw12267645336050823156:=()
def tw11594446826732008288:=()
def tw16377472540828274903:=()
def tw2611873140177220868:=()
def tw15829547997167673982:=()
def tw7235606131348083305:=()
def tw10903336093356984243:=()
def tw16621055288179733572:=()
def tw16177564472515902282:=()
def tw9774171697980739067:=()
def tw6003258108348354880:=()
def tw7691898122354419227:=()
def tw17320941017906573961:=()
def tw13042987009090369755:=()
def tw2791225963907702458:=()
def tw12114802680203865219:=()
def tw11766006601110418814:=()
def tw17290972964042678537:=()
def tw3723177373317537601:=()
def tw9254505162750572084:=()
def tw7763899285281672527:=()
def tw14258859123568034900:=()
def tw10973713330888040641:=()
def tw16712202820130727285:=()
def tw834649287068003534:=()
def tw14952572319224976287:=()
def tw12854131776258026056:=()
def tw10579450980366007829:=()
def tw8890067713494089578:=()
def tw13395928122616157352:=()
def tw1140207687960164541:=()
def tw1791923353313668367:=()
def tw12021309773596684918:=()
def tw15027230264651535303:=()
def tw7394711482365575798:=()
def tw15408855724385353760:=()
def tw17257756357986011854:=()
def tw6400503971435075644:=()
def tw4811901259312654301:=()
def tw2121349194463633830:=()
def tw8310924538936311254:=()
def tw12698112638984492008:=()
def tw7060202860672180828:=()
def tw4098889890243815929:=()
def tw1932415249604858339:=()
def tw17053860226579071322:=()
def tw7010526503082130429:=()
def tw4965868089462060063:=()
def tw17258161852213530925:=()
def tw13913515062690201963:=()
def tw234708281142473747:=()
def tw17832646336276477855:=()
def tw16280994126405255005:=()
def tw3861606038893987337:=()
def tw13462262104740601851:=()
def tw4740779726407543000:=()
def tw8339506708182586647:=()
def tw13401354008174147642:=()
def tw10891832162847521679:=()
def tw16122719051663199940:=()
def tw12210542442915399151:=()
def tw3950468068174259121:=()
def tw10996526213340549019:=()
def tw18429356701781453102:=()
def tw6413828415916323946:=()
def tw1435658892294650183:=()
def tw11408032075819563114:=()
def tw3933184146734922484:=()
def tw10444024752661012937:=()
def tw9929082231814192823:=()
def tw702434908443484134:=()
def tw2550728810198792159:=()
def tw11584437843894268061:=()
def tw14843347528962581828:=()
def tw5355366707231505081:=()
def tw12949322264152296818:=()
def tw2524090735876988561:=()
def tw345614751814102749:=()
def tw1011886094808034365:=()
def tw946860814155284815:=()
def tw10115618877673005015:=()
def tw3882083040895872235:=()
def tw9010099809741596245:=()
def tw15184719589391248835:=()
def tw8179984010025559478:=()
def tw1908698471277343794:=()
def tw1916129475366820216:=()
def tw16357710459693451616:=()
def tw14677674703312933230:=()
def tw7913487494982484974:=()
def tw1541844247297520286:=()
def tw9016096609202252766:=()
def tw11920347305827331542:=()
def tw6456229382141864479:=()
def tw6221288335226394357:=()
def tw9577353047086436272:=()
def tw17843169904580934029:=()
def tw16571092839454270792:=()
def tw8358301076202330920:=()
def tw8799843197480935225:=()
def tw411974920610325560:=()
def tw16693665330406178084:=()
def tw9955913986758740559:=()
def tw11035741090231338881:=()
def tw14319998673970433405:=()
def tw12763405279172489904:=()
def tw9825204371644591898:=()
def tw15865710152223597601:=()
def tw9178179058778410696:=()
def tw529854329468910250:=()
def tw12273328002279823398:=()
def tw665817556643461201:=()
def tw7665099563914829251:=()
def tw13284986261401224365:=()
def tw7501313016683694444:=()
def tw13727869218938716840:=()
def tw2660240500735174058:=()
def tw10797328515250830899:=()
def tw8231027407842749250:=()
def tw10884504835522081619:=()
def tw14511448695305008439:=()
def tw3310003191857137361:=()
def tw3761220389164215930:=()
def tw8667717744889200915:=()
def tw2891083348702081383:=()
def tw243014645851030326:=()
def tw4741379270892838527:=()
def tw3617444270187431968:=()
def tw14404858087532498792:=()
def tw13715859635340528996:=()
def tw15603082487305424121:=()
def tw16466447370094147014:=()
def tw4029000634431701355:=()
def tw17199159853307523207:=()
def tw12493575998441812055:=()
def tw9979345423554215016:=()
def tw4698872473200378980:=()
def tw1935916103710862345:=()
def tw9682464776232955886:=()
def tw13426165663420723542:=()
def tw12473246741174196860:=()
def tw14012828897847783752:=()
def tw9408222747589952149:=()
def tw13549170709803225205:=()
def tw3315807339538290543:=()
def tw15673245096592354141:=()
def tw12591875417144711589:=()
def tw7542872968673684742:=()
def tw3569682346032787453:=()
def tw13361512355217181844:=()
def tw12568553590447402063:=()
def tw4304239475801117149:=()
def tw15097151832389050100:=()
def tw17319465659006786200:=()
def tw13317453229417335380:=()
def tw8229999116681756232:=()
def tw7164401465345759305:=()
def tw4783908821541004746:=()
def tw3310474441111162943:=()
def tw17442294656432587993:=()
def tw8154386272651081202:=()
def tw15583261048998747082:=()
def tw14149134608102500887:=()
def tw510508489687345004:=()
def tw12141376564654145885:=()
def tw13313753650422072780:=()
def tw9054799140208093033:=()
def tw17814170585569770555:=()
def tw7167577888936402910:=()
def tw14168097292776707022:=()
def tw6725825616237840880:=()
def tw11830953610265975627:=()
def tw967181451958306903:=()
def tw7359527180395260068:=()
def tw2911320888559986973:=()
def tw14792473070074900555:=()
def tw4643641504793591570:=()
def tw7627212981247519944:=()
def tw5532230830803253278:=()
def tw11433929975891882672:=()
def tw16836811406650566717:=()
def tw16569931499038282646:=()
def tw4125366037688262095:=()
def tw5957374806781909904:=()
def tw15968170299271303673:=()
def tw15896862632160443935:=()
def tw502495836982246989:=()
def tw14259238945965199361:=()
def tw10502333760148425580:=()
def tw10407878547908496803:=()
def tw2184249255590281158:=()
def tw4478221943781944084:=()
def tw2211392441463003465:=()
def tw15920540932329065186:=()
def tw2504313450237132770:=()
def tw12253003181905998971:=()
def tw3480722528122395503:=()
def tw8527514369018007257:=()
def tw1809605570951312235:=()
def tw917337710372036723:=()
def tw15408887054200226025:=()
def tw6055733791399981480:=()
def tw7665518572684538450:=()
def tw9660912392891133213:=()
def tw3687594823114701914:=()
def tw3973855673088287084:=()
def tw2868153501197021702:=()
def tw7176615548978978305:=()
def tw3564922264949344915:=()
def tw2982073985316677885:=()
def tw10992941346252378176:=()
def tw3928190779004742125:=()
def tw1706671325077604251:=()
def tw7784344898248670515:=()
def tw13354989398945762970:=()
def tw15065961505262895010:=()
def tw12434623591825852099:=()
def tw16701378434368947881:=()
def tw8954937720878738642:=()
def tw2555765356103515764:=()
def tw11076235384954012739:=()
def tw16650694349510481960:=()
def tw15328714800068425390:=()
def tw9534376928585669338:=()
def tw15093368838134435:=()
def tw680058372725772241:=()
def tw403469109178599704:=()
def tw12781270545668495627:=()
def tw1468086669501970598:=()
def tw11152937896425033067:=()
def tw15500475492585482179:=()
def tw10683490133551891102:=()
def tw6906358602825296887:=()
def tw13330442626456223456:=()
def tw12910276793347104840:=()
def tw13345255716235234187:=()
def tw364469574641551040:=()
def tw17635371195831389510:=()
def tw13202563430854603687:=()
def tw12544126094507759576:=()
def tw13342077861458292948:=()
def tw7206778218585899309:=()
def tw10385178431912962437:=()
def tw2363476461658947551:=()
def tw7007480984082095211:=()
def tw4462982360607491994:=()
def tw4550551621403207681:=()
def tw909209579666521076:=()
def tw2979861691721571304:=()
def tw8073348059362966656:=()
def tw7441907535588193731:=()
def tw6534638269923451698:=()
def tw12967348301036314611:=()
def tw4944619957281068203:=()
def tw10768007242653255701:=()
def tw333248365107832312:=()
def tw11314527338411894176:=()
def tw11281166094575822959:=()
def tw12995501554110903693:=()
def tw4603454429747954337:=()
def tw5286631185430878847:=()
def tw11135430593145654385:=()
def tw11690546079099957906:=()
def tw3344264856214762453:=()
def tw7307169189179478989:=()
def tw7827199926834777277:=()
def tw8995606092004679833:=()
def tw18023315080647246177:=()
def tw17871783018722114982:=()
def tw17785670394790641944:=()
def tw5201439970778346952:=()
def tw15672374552946108175:=()
def tw5187851378665936109:=()
def tw4147172054237745600:=()
def tw5421079637615113093:=()
def tw17732300699792209884:=()
def tw13656641336819677139:=()
def tw16863946444375655495:=()
def tw9143438935812720737:=()
def tw6591068968677951190:=()
def tw17095139741727789705:=()
def tw6749842548173117320:=()
def tw17868243287415312093:=()
def tw6327129590609866705:=()
def tw10344600693680649153:=()
def tw2820001725760277863:=()
def tw15382510762436192212:=()
def tw3959295344381382892:=()
def tw14195979810670126923:=()
def tw6789391691469668130:=()
def tw12502990643044651330:=()
def tw94312369156794807:=()
def tw13176548739873058469:=()
def tw4713069534419796162:=()
def tw14870904656566379462:=()
def tw2997100427077911204:=()
def tw8881223281460589460:=()
def tw14835577465991547960:=()
def tw14733206643531474862:=()
def tw997224137280953189:=()
def tw11850468176616010314:=()
def tw6215533152039126534:=()
def tw8037144080647753475:=()
def tw5274323582478993231:=()
def tw13320229121842498971:=()
def tw1703398147701914194:=()
def tw11264357567346939185:=()
def tw1000842258696149368:=()
def tw3664616630974729063:=()
def tw18093989898940529549:=()
def tw13614203293442473197:=()
def tw1275438384871646307:=()
def tw3907586277253645097:=()
def tw3906453053357832964:=()
def tw15671616451417279977:=()
def tw2891220202907601008:=()
def tw10729357167079503072:=()
def tw9531923861127612310:=()
def tw13946348057117374256:=()
def tw7397810502203696631:=()
def tw3813410779409231638:=()
def tw4351698689999212943:=()
def tw7623038827320487181:=()
def tw12679218988453564108:=()
def tw10773560197866110006:=()
def tw10519803351992640348:=()
def tw2016363088339311255:=()
def tw749535203436275088:=()
def tw12764176105014554140:=()
def tw5135736572065235579:=()
def tw8935234141450513339:=()
def tw16675341003553534651:=()
def tw4390279131836267088:=()
def tw4474616014057159464:=()
def tw13620949360146135158:=()
def tw12526882012742081252:=()
def tw6802949409852839733:=()
def tw3004771746178775443:=()
def tw14312109135119382636:=()
def tw1193790158745687123:=()
def tw18046513671398758020:=()
def tw8726042467470760148:=()
def tw13466150343815805240:=()
def tw14576996658832213434:=()
def tw8255103234292800094:=()
def tw9110826347265766098:=()
def tw15449584647857475120:=()
def tw8632472778903365515:=()
def tw15587060707487096431:=()
def tw7050450408713848598:=()
end PySem.W.Fast
open_shared Tp for PySem.Challenge.pw_beamtender_k25_play_asked leaving 1
namespace L2
open PySem PySem.Spec PyProof.Rows
abbrev _root_.VP:=Value->Shared->Prop
abbrev _root_.PL:=List (Addr×Obj)
abbrev _root_.Qa:=@wpAny_bind
abbrev _root_.Qb:=@List.length_map
abbrev _root_.Qc:=@Heap.get?_push_of_some
abbrev _root_.Qd:=@wpAny_pure
abbrev _root_.Qe:=@List.getElem?_eq_getElem
abbrev _root_.Qf:=@decide_eq_true
abbrev _root_.Qg:=@decide_eq_false
abbrev _root_.Qh:=@if_neg
abbrev _root_.Qi:=@Nat.le_refl
abbrev _root_.Qj:=@Heap.get?_push_size
abbrev _root_.Qk:=@List.size_toArray
abbrev _root_.Ql:=@if_pos
abbrev _root_.Qm:=@List.map_append
abbrev _root_.Qn:=@List.mem_cons
abbrev _root_.Qo:=@Option.some.inj
abbrev _root_.Qp:=@wpS_bind
abbrev _root_.Qq:=@List.length_append
abbrev _root_.Qr:=@Heap.lt_size
abbrev _root_.Qt:=@List.mem_append
abbrev _root_.Qu:=@Bool.false_ne_true
abbrev _root_.Qv:=@Array.length_toList
abbrev _root_.Qw:=@List.getElem?_eq_some_iff
abbrev _root_.Qx:=@wpS_pure
abbrev _root_.Qy:=@List.getD_eq_getElem?_getD
abbrev _root_.Qz:=@List.length_cons
abbrev _root_.QA:=@List.mem_map
abbrev _root_.QB:=@PySem.boot_len
abbrev _root_.QC:=@List.eq_nil_of_length_eq_zero
abbrev _root_.QD:=@Nat.zero_le
abbrev _root_.QE:=@PySem.F.plainAttrs_list
abbrev _root_.QF:=@Nat.ne_of_lt
abbrev _root_.QG:=@List.mem_of_getElem?
abbrev _root_.QH:=@List.mem_cons_of_mem
abbrev _root_.QI:=@List.pairwise_append
abbrev _root_.QJ:=@PyProof.Rows.boot_isinstance
abbrev _root_.QK:=@Nat.le_trans
abbrev _root_.QL:=@List.map_cons
abbrev _root_.QM:=@List.mem_singleton
abbrev _root_.QN:=@Array.getElem?_toList
abbrev _root_.QO:=@Nat.lt_of_lt_of_le
abbrev _root_.QP:=@List.getElem?_map
abbrev _root_.QQ:=@List.mem_cons_self
abbrev _root_.QR:=@List.pairwise_iff_getElem
abbrev _root_.QS:=@List.take_length
abbrev _root_.QT:=@PyProof.Rows.boot_abs
abbrev _root_.QU:=@PySem.F.type_list_append
abbrev _root_.QV:=@PySem.F.slot_list_append
abbrev _root_.QW:=@Nat.lt_or_ge
abbrev _root_.QX:=@List.take_succ
abbrev _root_.QY:=@of_decide_eq_true
abbrev _root_.QZ:=@Int.toNat_natCast
abbrev _root_.Za:=@Nat.le_of_lt
abbrev _root_.Zb:=@List.length_take
abbrev _root_.Zc:=@List.append_assoc
abbrev _root_.Zd:=@List.take_append_drop
abbrev _root_.Ze:=@Bool.false_eq_true
abbrev _root_.Zf:=@Array.toList_append
abbrev _root_.Zg:=@List.take_of_length_le
abbrev _root_.Zh:=@List.mem_append_right
abbrev _root_.Zi:=@List.getElem?_append_left
abbrev _root_.Zj:=@List.length_set
abbrev _root_.Zk:=@List.not_mem_nil
abbrev _root_.Zl:=@getElem?_pos
abbrev _root_.Zm:=@List.pairwise_cons
abbrev _root_.Zn:=@List.lookup_cons
abbrev _root_.Zo:=@List.mem_append_left
abbrev _root_.Zp:=@Int.emod_lt_of_pos
abbrev _root_.Zq:=@PyProof.Rows.boot_list
abbrev _root_.Zr:=@Int.emod_nonneg
abbrev _root_.Zs:=@wpAny_mono
abbrev _root_.Zt:=@List.getElem?_eq_none
abbrev _root_.Zu:=@Heap.get?_update_self
abbrev _root_.Zv:=@PyProof.Rows.boot_tuple
abbrev _root_.Zw:=@Heap.size_push
abbrev _root_.Zx:=@List.getElem?_append_right
abbrev _root_.Zy:=@Nat.min_eq_left
abbrev _root_.Zz:=@List.append_nil
abbrev _root_.ZA:=@List.getElem_mem
abbrev _root_.ZB:=@List.length_filter_le
abbrev _root_.ZC:=@List.map_map
abbrev _root_.ZD:=@List.filter_append
abbrev _root_.ZE:=@Nat.add_sub_cancel_left
abbrev _root_.ZF:=@List.replicate_succ
abbrev _root_.ZG:=@List.pairwise_reverse
abbrev _root_.ZH:=@PyProof.Rows.boot_sorted
abbrev _root_.ZI:=@Nat.lt_of_succ_lt
abbrev _root_.ZJ:=@List.mem_filter
abbrev _root_.ZK:=@List.length_nil
abbrev _root_.ZL:=@List.length_pos_iff
abbrev _root_.ZM:=@PyProof.Rows.boot_max
noncomputable abbrev Key:=Sum Int Str
noncomputable def zS0:Key->Value->Bool
 | .inl k,v=>Value.isInt k v
 | .inr x,v=>Value.isStrOf x v
noncomputable def keyH (w:World):Key->Int
 | .inl k=>hashInt k
 | .inr x=>hashStr w x
theorem zh2:∀ {k:Key} {v:Value},zS0 k v=true->(∃i t,k=Sum.inl i/\v=Value.int i t)\/(∃x t,k=Sum.inr x/\v=Value.str x t)
 | .inl i,v,h=>by
   obtain⟨t,e⟩:=Value.isInt_shape (k:=i) (v:=v) h;exact .inl ⟨i,t,rfl,e⟩
 | .inr x,v,h=>by
   obtain⟨t,e⟩:=Value.isStrOf_shape (x:=x) (v:=v) h;exact .inr ⟨x,t,rfl,e⟩
theorem keyIs_int (i:Int)(t:Tok):zS0 (.inl i) (.int i t)=true:=by simp[zS0,Value.isInt]
theorem keyIs_str (x:Str)(t:Tok):zS0 (.inr x) (.str x t)=true:=by simp[zS0,Value.isStrOf]
theorem key_ll (a b:Int):decide ((Sum.inl a:Key)=Sum.inl b)=(a == b):=by
 by_cases e:a=b
 . subst e;simp
 . have h:¬ (Sum.inl a:Key)=Sum.inl b:=fun q=>e (Sum.inl.inj q)
   rw[Qg h];exact(beq_eq_false_iff_ne.mpr e).symm
theorem key_rr (a b:Str):decide ((Sum.inr a:Key)=Sum.inr b)=decide (a=b):=by
 by_cases e:a=b
 . subst e;simp
 . have h:¬ (Sum.inr a:Key)=Sum.inr b:=fun q=>e (Sum.inr.inj q)
   rw[Qg h,Qg e]
theorem key_lr (a:Int)(b:Str):decide ((Sum.inl a:Key)=Sum.inr b)=false:=Qg (fun q=>nomatch q)
theorem key_rl (a:Str)(b:Int):decide ((Sum.inr a:Key)=Sum.inl b)=false:=Qg (fun q=>nomatch q)
noncomputable def zf6 (prog:Program)(w:World):PySem.KeyKind prog w Key where
 is:=zS0
 hash:=keyH w
 inj:=fun v a b ha hb=>by
   rcases zh2 ha with⟨i,t,rfl,rfl⟩ | ⟨x,t,rfl,rfl⟩
   . rcases zh2 hb with⟨j,u,rfl,e⟩ | ⟨y,u,rfl,e⟩
     . injection e with e1 _;rw[e1]
     . exact nomatch e
   . rcases zh2 hb with⟨j,u,rfl,e⟩ | ⟨y,u,rfl,e⟩
     . exact nomatch e
     . injection e with e1 _;rw[e1]
 byValue:=fun k v h=>by
   rcases zh2 h with⟨i,t,rfl,rfl⟩ | ⟨x,t,rfl,rfl⟩<;>rfl
 pyHash:=fun hv h=>by
   rcases zh2 hv with⟨i,t,rfl,rfl⟩ | ⟨x,t,rfl,rfl⟩
   . exact wpAny_pyHash_int h
   . exact wpAny_pyHash_str h
 eqBool:=fun hu hv h=>by
   rcases zh2 hu with⟨i,t,rfl,rfl⟩ | ⟨x,t,rfl,rfl⟩
   . rcases zh2 hv with⟨j,u,rfl,rfl⟩ | ⟨y,u,rfl,rfl⟩
     . rw[key_ll] at h;exact wpAny_eqBool_int h
     . rw[key_lr] at h;exact SeqAt.EqAt.int_str i t y u _ _ _ _ h
   . rcases zh2 hv with⟨j,u,rfl,rfl⟩ | ⟨y,u,rfl,rfl⟩
     . rw[key_rl] at h;exact SeqAt.EqAt.str_int x t j u _ _ _ _ h
     . rw[key_rr] at h;exact wpAny_eqBool_str h
 «strs»:=fun k x t v h=>by
   rcases zh2 h with⟨i,u,rfl,e⟩ | ⟨y,u,rfl,e⟩
   . exact nomatch e
   . injection e with e1 _
     subst e1
     cases v<;>rfl
theorem mixKind_int (prog:Program)(w:World)(i:Int)(t:Tok):(zf6 prog w).is (.inl i) (.int i t)=true:=keyIs_int i t
theorem mixKind_str (prog:Program)(w:World)(x:Str)(t:Tok):(zf6 prog w).is (.inr x) (.str x t)=true:=keyIs_str x t
inductive V where
 | non | bl (b:Bool) | int (i:Int) | str (x:Str) | byt (b:Array UInt8) | flt (b:UInt64) | ref (a:Addr) | ty (n:String)
 deriving DecidableEq
noncomputable def RelV:V->Value->Prop
 | .non,u=>u=Value.none
 | .bl b,u=>u=Value.bool b
 | .int i,u=>∃t,u=Value.int i t
 | .str x,u=>∃t,u=Value.str x t
 | .byt b,u=>∃t,u=Value.bytes b t
 | .flt b,u=>∃t,u=Value.float b t
 | .ref a,u=>u=Value.ref a
 | .ty n,u=>u=Value.type n
abbrev Vals:List V->List Value->Prop:=Paired RelV
theorem Vals.length {xs:List V}{us:List Value}(r:Vals xs us):xs.length=us.length:=Paired.length r
theorem Vals.get:∀ {a:List V} {b:List Value} {i:Nat} {x:V},Vals a b->a[i]?=some x->∃u,b[i]?=some u/\RelV x u
 | _,_,_,_,.nil,e=>by simp at e
 | _,_,0,_,.cons r _,e=>by simp at e;subst e;exact⟨_,rfl,r⟩
 | _,_,i+1,x,.cons _ t,e=>by
   obtain⟨u,c,d⟩:=Vals.get (i:=i) (x:=x) t (by simpa using e);exact⟨u,by simpa using c,d⟩
theorem Vals.set {x:V}{u:Value}(r:RelV x u):∀ {a:List V} {b:List Value} (i:Nat),Vals a b->Vals (a.set i x) (b.set i u)
 | _,_,_,.nil=>.nil
 | _,_,0,.cons _ t=>.cons r t
 | _,_,i+1,.cons q t=>.cons q (Vals.set r i t)
theorem Vals.append:∀ {a b:List V} {c d:List Value},Vals a c->Vals b d->Vals (a++b) (c++d)
 | _,_,_,_,.nil,s=>s
 | _,_,_,_,.cons r t,s=>.cons r (Vals.append t s)
theorem Vals.take:∀ {a:List V} {b:List Value} (n:Nat),Vals a b->Vals (a.take n) (b.take n)
 | _,_,0,_=>.nil
 | _,_,_+1,.nil=>.nil
 | _,_,n+1,.cons r t=>.cons r (Vals.take n t)
theorem Vals.drop:∀ {a:List V} {b:List Value} (n:Nat),Vals a b->Vals (a.drop n) (b.drop n)
 | _,_,0,r=>r
 | _,_,_+1,.nil=>.nil
 | _,_,n+1,.cons _ t=>Vals.drop n t
noncomputable def RelO:Option V->Option Value->Prop
 | some v,some u=>RelV v u
 | none,none=>True
 | _,_=>False
def KV {κ:Type}:List (κ×V)->List (κ×Value)->Prop:=Paired fun(p:κ×V) (q:κ×Value)=>p.1=q.1/\RelV p.2 q.2
noncomputable def kV:Key->V
 | .inl i=>.int i
 | .inr x=>.str x
inductive HO where
 | lst (xs:List V)
 | tup (xs:List V)
 | dK (kvs:List (Key×V)) | dT (kvs:List (List Key×V))
 | set (S:Int->Bool) (n:Nat)
 | ins (C dx:Addr) (fs:List (Str×V))
 | own (x:Addr)
 | xd (fs:List (Str×V))
 | met (f x:Addr)
 | rng (lo hi:Int)
 | frz (o:Obj) (u:HO)
 | tbl (ps:Array Value)
 | ext (φ:Heap->Prop)
noncomputable abbrev Hp:=Addr->Option HO
noncomputable def upd (H:Hp)(a:Addr)(o:HO):Hp:=fun b=>if b=a then some o else H b
theorem za3 {H:Hp}{a:Addr}{o:HO}:upd H a o a=some o:=by unfold upd;rw[Ql rfl]
theorem za7 {H:Hp}{a b:Addr}{o:HO}(h:b≠a):upd H a o b=H b:=by unfold upd;rw[Qh h]
theorem zg1 {H:Hp}{a:Addr}{o u:HO}:upd (upd H a o) a u=upd H a u:=by
 funext b;unfold upd;split<;>rfl
theorem zC6 {H:Hp}{a b:Addr}{o u:HO}(h:H a=some o)(h':H b=some u)(d:o≠u):a≠b:=by
 intro e;subst e;rw[h] at h';exact d (Qo h')
theorem zb2 {H:Hp}{a b:Addr}{o:HO}(h:H a=some o)(h':H b=none):a≠b:=by
 intro e;subst e;rw[h] at h';cases h'
def TupD (h:Heap) (a:Addr) (items:Array Value):Prop:=∃o,h.get? a=some o/\o.cls = .type "tuple"/\o.dict=none/\∃n,o.data = .seq items n
theorem TupD.isTup {h:Heap}{a:Addr}{items:Array Value}(x:TupD h a items):IsTup h a items:=let⟨o,e,c,_,n,d⟩:=x;⟨o,e,c,n,d⟩
theorem TupD.new (h:Heap) (items:Array Value):TupD (h.push { cls:=.type "tuple",data:=.seq items }) h.objs.size items:=⟨_,Qj _ rfl,rfl,rfl,_,rfl⟩
section
variable (P:Program) (w:World)
noncomputable def ze9 (H:Hp)(h:Heap)(a:Addr):HO->Prop
 | .lst xs=>xs.length<=sizeLine/\∃(its:List Value) (n:Nat),Vals xs its/\h.get? a=some { cls:=.type "list",data:=.seq its.toArray n }
 | .tup xs=>xs.length<=sizeLine/\∃its:List Value,Vals xs its/\TupD h a its.toArray
 | .dK kvs=>kvs.length<=sizeLine/\(a == sysModules)=false/\∃vs,KV kvs vs/\h.DictOf (zf6 P w) a vs
 | .dT kvs=>kvs.length<=sizeLine/\(a == sysModules)=false/\∃xs:List (List Key×Addr×Value),
     Paired (fun(p:List Key×V) (q:List Key×Addr×Value)=>p.1=q.1/\H q.2.1=some (.tup (p.1.map kV))/\RelV p.2 q.2.2) kvs xs ∧
     ∃o es ep,h.get? a=some o/\o.ExactDict/\o.data = .dict es ep/\es.toList=xs.map (entryOfKey (tupleKind (zf6 P w)))/\(xs.map (·.1)).Nodup
 | .set S n=>h.SetOf (intKind P w) a S n
 | .ins C dx fs=>H dx=some (.own a)/\fs.length<=1000/\dx≠a/\h.get? a=some (W.instObj C dx) ∧
     ∃mA,h.Ns1 dx mA/\(∀f,RelO (fs.lookup f) (mA f))/\PySem.Within mA (fs.map (·.1))
 | .own _=>∃o,h.get? a=some o
 | .xd fs=>fs.length<=1000/\∃mA,h.Ns1 a mA/\(∀f,RelO (fs.lookup f) (mA f))/\PySem.Within mA (fs.map (·.1))
 | .rng lo hi=>∃t u v,h.get? a=some { cls:=.type "range",data:=.fields #[.int lo t,.int hi u,.int 1 v] }
 | .frz o u=>h.get? a=some o/\ze9 H h a u
 | .tbl ps=>h.get? a=some { cls:=.none,data:=.fields ps }
 | .met f x=>h.get? a=some (W.methodObj (.ref f) (.ref x))
 | .ext φ=>φ h/\(∃o,h.get? a=some o)/\∀h1 h2:Heap,φ h1->(∀o,h1.get? a=some o->h2.get? a=some o)->φ h2
def HOk (H:Hp)(h:Heap):Prop:=∀a o,H a=some o->ze9 P w H h a o
end
section
variable {P:Program} {w:World} {H H':Hp} {h h':Heap} {a:Addr} {o:HO}
theorem ze9.lt (x:ze9 P w H h a o):a<h.objs.size:=by
 cases o with
 | lst c=>obtain⟨_,_,_,_,e⟩:=x;exact Qr e
 | tup c=>obtain⟨_,_,_,_,e,_⟩:=x;exact Qr e
 | dK b=>obtain⟨_,_,_,_,o,_,_,e,_⟩:=x;exact Qr e
 | dT b=>obtain⟨_,_,_,_,o,_,_,e,_⟩:=x;exact Qr e
 | set S n=>obtain⟨o,_,_,_,e,_⟩:=x;exact Qr e
 | ins C d fs=>obtain⟨_,_,_,e,_⟩:=x;exact Qr e
 | own y=>obtain⟨_,e⟩:=x;exact Qr e
 | xd fs=>obtain⟨_,_,⟨_,_,_,e,_⟩,_⟩:=x;exact Qr e
 | rng g i=>obtain⟨_,_,_,e⟩:=x;exact Qr e
 | frz j u=>obtain⟨e,_⟩:=x;exact Qr e
 | tbl k=>exact Qr (show h.get? a=some _ from x)
 | met f y=>exact Qr (show h.get? a=some _ from x)
 | ext l=>obtain⟨_,⟨_,e⟩,_⟩:=x;exact Qr e
theorem Paired.mapP {e g:Type}{F G:e->g->Prop}:∀ {c:List e} {d:List g},Paired F c d->(∀a b,F a b->G a b)->Paired G c d
 | _,_,.nil,_=>.nil
 | _,_,.cons r t,f=>.cons (f _ _ r) (Paired.mapP t f)
theorem ze9.stay (x:ze9 P w H h a o)(k:∀b u,(b=a\/H b=some (.own a))->h.get? b=some u->h'.get? b=some u)
   (F:∀b,H b=some (.own a)->H' b=some (.own a)) (G:∀b l,H b=some (.tup l)->H' b=some (.tup l)):ze9 P w H' h' a o:=by
 induction o with
 | lst l=>obtain⟨z,m,n,r,e⟩:=x;exact⟨z,m,n,r,k _ _ (.inl rfl) e⟩
 | tup l=>obtain⟨z,m,r,g,e,c⟩:=x;exact⟨z,m,r,g,k _ _ (.inl rfl) e,c⟩
 | dK E=>obtain⟨z,y,I,r,g,i,j,e,c⟩:=x;exact⟨z,y,I,r,g,i,j,k _ _ (.inl rfl) e,c⟩
 | dT E =>
   obtain⟨z,y,l,r,g,i,j,e,c⟩:=x;exact⟨z,y,l,Paired.mapP r fun p q z=>⟨z.1,G _ _ z.2.1,z.2.2⟩,g,i,j,k _ _ (.inl rfl) e,c⟩
 | set S n=>obtain⟨g,i,j,t,e,c⟩:=x;exact⟨g,i,j,t,k _ _ (.inl rfl) e,c⟩
 | ins C M fs =>
   obtain⟨d,z,J,e,s,⟨A,i,j,K,c⟩,r⟩:=x;exact⟨F _ d,z,J,k _ _ (.inl rfl) e,s,⟨A,i,j,k _ _ (.inr d) K,c⟩,r⟩
 | own y=>obtain⟨g,e⟩:=x;exact⟨g,k _ _ (.inl rfl) e⟩
 | xd fs=>obtain⟨z,s,⟨A,i,j,e,c⟩,r⟩:=x;exact⟨z,s,⟨A,i,j,k _ _ (.inl rfl) e,c⟩,r⟩
 | rng N O=>obtain⟨t,u,v,e⟩:=x;exact⟨t,u,v,k _ _ (.inl rfl) e⟩
 | frz g u L=>obtain⟨e,q⟩:=x;exact⟨k _ _ (.inl rfl) e,L q⟩
 | tbl B =>
   have e:h.get? a=some { cls:=.none,data:=.fields B }:=x;show h'.get? a=some { cls:=.none,data:=.fields B };exact k a _ (.inl rfl) e
 | met f y =>
   have e:h.get? a=some (W.methodObj (.ref f) (.ref y)):=x;show h'.get? a=some (W.methodObj (.ref f) (.ref y));exact k a _ (.inl rfl) e
 | ext Q=>obtain⟨p,⟨o,e⟩,D⟩:=x;exact⟨D _ _ p fun o q=>k _ _ (.inl rfl) q,⟨o,k _ _ (.inl rfl) e⟩,D⟩
theorem HOk.lt (x:HOk P w H h)(e:H a=some o):a<h.objs.size:=(x a o e).lt
theorem HOk.fresh (x:HOk P w H h)(e:h.objs.size<=a):H a=none:=by
 cases q:H a with
 | none=>rfl
 | some u=>exact absurd (QO (x.lt q) e) (Nat.lt_irrefl _)
theorem HOk.kept (x:HOk P w H h)(k:∀b u,h.get? b=some u->h'.get? b=some u):HOk P w H h':=fun a o e =>
 (x a o e).stay (fun b u _ q=>k b u q) (fun _ q=>q) fun _ _ q=>q
theorem HOk.laid (x:HOk P w H h)(k:∀b u,h.get? b=some u->h'.get? b=some u)(g:h.objs.size<=a)(new:ze9 P w (upd H a o) h' a o):HOk P w (upd H a o) h':=fun b u e=>by
 have d:=x.fresh g;by_cases f:b=a
 . subst f;rw[za3] at e;cases e;exact new
 . rw[za7 f] at e
   exact(x b u e).stay (fun c v _ q=>k c v q) (fun c q=>by rw[za7 (zb2 q d)];exact q) fun c i q=>by rw[za7 (zb2 q d)];exact q
end
def Rd (H:Hp)(a:Addr)(u:HO):Prop:=H a=some u\/∃o,H a=some (.frz o u)
theorem Rd.ok {P:Program}{w:World}{H:Hp}{h:Heap}{a:Addr}{u:HO}(r:Rd H a u)(x:HOk P w H h):ze9 P w H h a u:=by
 rcases r with r | ⟨o,r⟩
 . exact x a u r
 . obtain⟨_,q⟩:=x a _ r
   exact q
noncomputable def Mut:Option HO->Prop
 | some (.lst _)=>True
 | some (.dK _)=>True
 | some (.dT _)=>True
 | some (.set _ _)=>True
 | some (.ins _ _ _)=>True
 | some (.ext _)=>True
 | some (.xd _)=>True
 | _=>False
section
variable {P:Program} {w:World} {H:Hp} {h h':Heap} {x e:Addr} {o':HO}
theorem HOk.write (ok:HOk P w H h)(d:Mut (H x))(l:e=x\/H e=some (.own x))(k:∀b u,b≠e->h.get? b=some u->h'.get? b=some u)(o:∃u,h'.get? e=some u)
   (new:ze9 P w (upd H x o') h' x o'):HOk P w (upd H x o') h':=fun b u q=>by
 have j:∀c y,H c=some (.own y)->c≠x:=fun c y r z=>by subst z;rw[r] at d;exact d
 have n:∀c f,H c=some (.tup f)->c≠x:=fun c f r z=>by subst z;rw[r] at d;exact d
 by_cases g:b=x
 . subst g;rw[za3] at q;cases q;exact new
 . rw[za7 g] at q
   by_cases a:b=e
   . have m:H b=some (.own x):=by
       rcases l with z | z
       . exact absurd (a.trans z) g
       . rw[a];exact z
     rw[q] at m;cases m;obtain⟨v,p⟩:=o;exact⟨v,by rw[a];exact p⟩
   . refine(ok b u q).stay (fun c v i r=>k c v ?_ r) (fun c r=>by rw[za7 (j c b r)];exact r) fun c f r=>by rw[za7 (n c f r)];exact r
     rcases i with rfl | i
     . exact a
     . rintro rfl
       rcases l with z | z
       . exact j c b i z
       . rw[i] at z;cases z;exact g rfl
end
structure Un (fs ex:List Addr)(H H':Hp)(h h':Heap):Prop where
 keep:∀b o,h.get? b=some o->H b=none->b∉fs->b∉ex->h'.get? b=some o
 slot:∀b o,h.get? b=some o->H b=none->b∈fs->b∉ex->∃sl,h'.get? b=some { o with slots:=sl }
 free:∀b o,h.get? b=some o->H b=none->b∉ex->H' b=none
 there:∀b o,h.get? b=some o->b∉ex->∃o',h'.get? b=some o'
 tups:∀b xs,H b=some (.tup xs)->H' b=some (.tup xs)
 frzs:∀b o u,H b=some (.frz o u)->H' b=some (.frz o u)
 tbls:∀b ps,H b=some (.tbl ps)->∃more,H' b=some (.tbl (ps++more))
section
variable {fs fs' ex ex':List Addr} {H H1 H2:Hp} {h h1 h2 h':Heap} {a x e:Addr} {o:HO}
theorem Un.any (u:Un fs ex H H1 h h1){b:Addr}{a:Obj}(q:h.get? b=some a)(n:H b=none)(c:b∉ex):∃sl,h1.get? b=some { a with slots:=sl }:=by
 by_cases d:b∈fs
 . exact u.slot b a q n d c
 . exact⟨a.slots,u.keep b a q n d c⟩
theorem Un.kept (k:∀b u,h.get? b=some u->h'.get? b=some u):Un fs ex H H h h' :=
 ⟨fun b a q _ _ _=>k b a q,fun b a q _ _ _=>⟨a.slots,k b a q⟩,fun _ _ _ n _=>n,fun b a q _=>⟨a,k b a q⟩,fun _ _ q=>q,fun _ _ _ q=>q,fun _ c q=>⟨#[],by rw[q];simp⟩⟩
theorem Un.refl:Un fs ex H H h h:=Un.kept fun _ _ q=>q
theorem Un.laid (k:∀b u,h.get? b=some u->h'.get? b=some u)(d:h.objs.size<=a)(c:H a=none):Un fs ex H (upd H a o) h h' where
 keep:=fun b u q _ _ _=>k b u q
 slot:=fun b u q _ _ _=>⟨u.slots,k b u q⟩
 free:=fun b u q n _=>by rw[za7 (QF (QO (Qr q) d))];exact n
 there:=fun b u q _=>⟨u,k b u q⟩
 tups:=fun b e q=>by rw[za7 (zb2 q c)];exact q
 frzs:=fun b u e q=>by rw[za7 (zb2 q c)];exact q
 tbls:=fun b f q=>⟨#[],by rw[za7 (zb2 q c),q];simp⟩
theorem Un.write (a:Mut (H x))(j:e=x\/H e=some (.own x))(k:∀b u,b≠e->h.get? b=some u->h'.get? b=some u)(i:∃u,h'.get? e=some u):Un fs ex H (upd H x o) h h':=by
 have f:∀b,H b=none->b≠x:=fun b n z=>by subst z;rw[n] at a;exact a
 have g:∀b,H b=none->b≠e:=fun b n z=>by
   subst z;rcases j with r | r
   . exact f b n r
   . rw[n] at r;cases r
 have c:∀b u,H b=some u->¬ Mut (some u)->b≠x:=fun b u q l z=>by subst z;rw[q] at a;exact l a
 refine⟨fun b u q n _ _=>k b u (g b n) q,fun b u q n _ _=>⟨u.slots,k b u (g b n) q⟩,fun b u q n _=>by rw[za7 (f b n)];exact n,fun b u q _=>?_,
   fun b m q=>by rw[za7 (c b _ q fun z=>z)];exact q,fun b u m q=>by rw[za7 (c b _ q fun z=>z)];exact q,fun b p q=>⟨#[],by rw[za7 (c b _ q fun z=>z),q];simp⟩⟩
 by_cases d:b=e
 . subst d;exact i
 . exact⟨u,k b u d q⟩
end
noncomputable def trk (h:Heap)(H:Hp):List Addr:=(List.range h.objs.size).filter fun a=>(H a).isSome
noncomputable def hidT (h:Heap)(H:Hp):Heap:=W.hideAll h (trk h H)
theorem hidT_size (h:Heap)(H:Hp):(hidT h H).objs.size=h.objs.size:=W.hideAll_size _ _
theorem hidT_get {h:Heap}{H:Hp}{b:Addr}{o:Obj}(e:h.get? b=some o)(n:H b=none):(hidT h H).get? b=some o :=
 W.hideAll_get _ e fun a=>by
   have q:(H b).isSome=true:=(ZJ.mp a).2;rw[n] at q;simp at q
theorem of_hidT {h:Heap}{H:Hp}{b:Addr}{o:Obj}(e:(hidT h H).get? b=some o):h.get? b=some o/\H b=none:=by
 have a:h.get? b=some o:=W.of_hideAll (trk h H) e;refine⟨a,?_⟩;cases q:H b with
 | none=>rfl
 | some x =>
   have c:b∈trk h H:=ZJ.mpr ⟨List.mem_range.mpr (Qr a),by simp[q]⟩;have z:(hidT h H).get? b=none:=W.hideAll_none (trk h H) c;rw[z] at e;cases e
structure Mod (K:W.Frag)(mg:Str->Option Value)(base:Heap):Prop where
 kin:K.In base
 glob:base.Ns mainGlobals mg
 blt:∃mb,base.Ns builtinsNs mb/\∀x:Str,x≠"__name__"->mb x=bootBuiltins x
 nolimit:base.NoLimit
structure Cx where
 prog:Program
 w:World
 K:W.Frag
 mg:Str->Option Value
 base:Heap
 A:Around
 N:List Str
 s₀:Shared
 H₀:Hp
 env:Env
 outer:List Env
 stack:List Env
 ex:List Addr
 fn:Str->Bool
 calm:Bool
 pn:List (Addr×Obj)
 xe:Value->Shared->Prop
noncomputable def frs (l:List Env):List Addr:=l.filterMap (·.frame)
noncomputable abbrev Cx.fs (X:Cx):List Addr:=frs X.outer
def Vis (sc:Scope)(x:Str):Prop:=sc.names.lookup x=some .local\/sc.names.lookup x=some .cell\/sc.names.lookup x=some .free
def Loc (sc:Scope)(x:Str):Prop:=sc.names.lookup x=some .local\/sc.names.lookup x=some .cell
def Look (env:Env)(h:Heap)(m:Str->Option Value)(x:Str)(u:Value):Prop :=
 (env.kindOf x=some .local/\m x=some u)\/((env.kindOf x=some .cell\/env.kindOf x=some .free)/\∃c,env.cells.lookup x=some c/\h.IsCell c (some u))
structure Cx.Ok (X:Cx):Prop where
 mod:Mod X.K X.mg X.base
 kind:X.env.scope.kind = .function
 glob:X.env.globals=mainGlobals
 blt:X.env.builtins=builtinsNs
 above:X.s₀.heap.objs.size<=X.env.locals
 inj:∀x y c,X.env.cells.lookup x=some c->X.env.cells.lookup y=some c->x=y
 has:∀x,(X.env.kindOf x=some .cell\/X.env.kindOf x=some .free)->∃c,X.env.cells.lookup x=some c
 cab:∀x c,X.fn x=true->X.env.cells.lookup x=some c->X.s₀.heap.objs.size<=c
 hd:X.calm=true->X.A.handled=none
 frames:X.A.frames=some X.stack
 stk:X.stack=X.outer\/(X.stack=X.env::X.outer/\X.env.frame=some X.env.locals)
 exf:∀b∈X.ex,b≠X.env.locals/\∀x c,X.env.cells.lookup x=some c->c≠b
 bs:∀b o,X.base.get? b=some o->X.s₀.heap.get? b=some o/\X.H₀ b=none
 bsz:X.base.objs.size<=X.s₀.heap.objs.size
 noex:∀b o,X.base.get? b=some o->b∉X.ex
 exfs:∀b∈X.ex,b∉X.fs
 funs:X.s₀.heap.FunFrames X.base X.outer
 frf:∀b∈X.fs,X.H₀ b=none
structure Inv (X:Cx)(pins:PL)(σ:List (Option V))(H:Hp)(s:Shared):Prop where
 ok:X.Ok
 os:s.os=X.s₀.os
 bare:AllBare s.gens
 base:Un X.fs X.ex X.H₀ H X.s₀.heap s.heap
 loc:∃m,s.heap.Ns X.env.locals m/\∀(i:Nat) (x:Str) (v:V),X.N[i]?=some x->σ[i]?=some (some v)->Vis X.env.scope x->∃u,RelV v u/\Look X.env s.heap m x u
 cell:∀x c,X.env.cells.lookup x=some c->∃v,s.heap.IsCell c v
 free:H X.env.locals=none
 freeC:∀x c,X.env.cells.lookup x=some c->H c=none
 pin:∀p∈X.pn++pins,s.heap.get? p.1=some p.2/\H p.1=none/\p.1≠X.env.locals/\p.1∉X.fs/\∀v,p.2.data≠.cell v
 hok:HOk X.prog X.w H s.heap
 len:σ.length=X.N.length
section
variable {X:Cx} {pins:PL} {σ:List (Option V)} {H H':Hp} {s:Shared} {h':Heap}
theorem Cx.Ok.nofr (ok:X.Ok){b:Addr}{o:Obj}(e:X.base.get? b=some o):b∉X.fs:=fun a=>by
 have:=(ok.funs.mem a).1;rw[e] at this;cases this
theorem Inv.bs (I:Inv X pins σ H s):∀b o,X.base.get? b=some o->s.heap.get? b=some o/\H b=none:=fun b o e =>
 ⟨I.base.keep b o (I.ok.bs b o e).1 (I.ok.bs b o e).2 (I.ok.nofr e) (I.ok.noex b o e),I.base.free b o (I.ok.bs b o e).1 (I.ok.bs b o e).2 (I.ok.noex b o e)⟩
theorem Inv.bk (I:Inv X pins σ H s):∀b o,X.base.get? b=some o->s.heap.get? b=some o:=fun b o e=>(I.bs b o e).1
theorem Inv.mod (I:Inv X pins σ H s):Mod X.K X.mg X.base:=I.ok.mod
theorem Inv.kIn (I:Inv X pins σ H s):X.K.In s.heap:=I.ok.mod.kin.keeps I.bk
theorem Inv.lt (I:Inv X pins σ H s):X.env.locals<s.heap.objs.size:=let⟨_,a,_⟩:=I.loc;a.lt
theorem Inv.sz (I:Inv X pins σ H s):X.s₀.heap.objs.size<=s.heap.objs.size:=QK I.ok.above (Za I.lt)
theorem Inv.nofs (I:Inv X pins σ H s){a:Addr}(h:s.heap.objs.size<=a):a∉X.fs:=fun b=>by
 obtain⟨_,o,c,_⟩:=I.ok.funs.mem b;exact absurd (QO (Qr c) (QK I.sz h)) (Nat.lt_irrefl _)
theorem Inv.cne (I:Inv X pins σ H s):∀x c,X.env.cells.lookup x=some c->c≠X.env.locals:=fun x c e z=>by
 obtain⟨v,o,a,b⟩:=I.cell x c e;obtain⟨m,⟨g,h,i,d,f,_⟩,_⟩:=I.loc;rw[z,d] at a;cases a;rw[f] at b;cases b
theorem Inv.funs (I:Inv X pins σ H s):s.heap.FunFrames X.base X.outer:=by
 have all:∀(l:List Env),(∀b∈frs l,b∈X.fs)->X.s₀.heap.FunFrames X.base l->s.heap.FunFrames X.base l:=by
   intro l
   induction l with
   | nil=>intro _ _;trivial
   | cons p r g =>
     intro f h;obtain⟨i,⟨L,o,a,j,k,m⟩,n⟩:=h;have c:L∈X.fs:=f L (by unfold frs;rw[List.filterMap_cons,a];exact QQ);obtain⟨sl,e⟩:=I.base.slot L o k (I.ok.frf L c) c fun z=>I.ok.exfs L z c
     exact⟨i,⟨L,_,a,j,e,m⟩,g (fun b d=>f b (by unfold frs;rw[List.filterMap_cons,a];exact QH _ d)) n⟩
 exact all X.outer (fun _ d=>d) I.ok.funs
theorem Inv.stack (I:Inv X pins σ H s):s.heap.FunFrames X.base X.stack:=by
 rcases I.ok.stk with e | ⟨e,a⟩
 . rw[e];exact I.funs
 . rw[e]
   obtain⟨m,b,_⟩:=I.loc;refine .cons (by rw[I.ok.kind];decide) a b ?_ I.funs;exact Heap.get?_none_of_le (QK I.ok.bsz I.ok.above)
theorem Inv.stkSub (I:Inv X pins σ H s):∀b∈frs X.stack,b∈X.env.locals::X.fs:=fun b a=>by
 rcases I.ok.stk with e | ⟨e,c⟩
 . rw[e] at a;exact QH _ a
 . rw[e] at a
   unfold frs at a;rw[List.filterMap_cons,c] at a;exact a
theorem Inv.stkFree (I:Inv X pins σ H s):∀b∈frs X.stack,H b=none:=fun b a=>by
 rcases Qn.mp (I.stkSub b a) with e | a
 . rw[e];exact I.free
 . obtain⟨_,o,c,_⟩:=I.ok.funs.mem a
   exact I.base.free b o c (I.ok.frf b a) fun z=>I.ok.exfs b z a
theorem Inv.step {g':Array GenState}{t':Nat}{d':Drawn}{ch:List Addr}(I:Inv X pins σ H s)
   (t:∀b∈ch,(b∈X.ex\/X.s₀.heap.objs.size<=b)/\b≠X.env.locals/\(∀x c,X.env.cells.lookup x=some c->c≠b)/\∀p∈X.pn++pins,p.1≠b)
   (keep:∀b o,b≠X.env.locals->b∉X.fs->b∉ch->s.heap.get? b=some o->H b=none->h'.get? b=some o)
   (F:∀b o,b≠X.env.locals->b∈X.fs->b∉ch->s.heap.get? b=some o->H b=none->∃sl,h'.get? b=some { o with slots:=sl }) (free:∀b o,b∉ch->s.heap.get? b=some o->H b=none->H' b=none)
   (N:∀b o,b∉ch->s.heap.get? b=some o->∃y,h'.get? b=some y)
   (tups:∀b g,H b=some (.tup g)->H' b=some (.tup g)) (O:∀b o u,H b=some (.frz o u)->H' b=some (.frz o u)) (P:∀b C,H b=some (.tbl C)->∃Q,H' b=some (.tbl (C++Q)))
   (ns:∀m,s.heap.Ns X.env.locals m->h'.Ns X.env.locals m) (R:HOk X.prog X.w H' h') (T:AllBare g') :
   Inv X pins σ H' { s with heap:=h',gens:=g',drawn:=d',toks:=t' }:=by
 have G:∀b o,X.s₀.heap.get? b=some o->b≠X.env.locals:=fun b o e=>QF (QO (Qr e) I.ok.above)
 have B:∀b o,X.s₀.heap.get? b=some o->b∉X.ex->b∉ch:=fun b o e a h=>by
   rcases(t b h).1 with z | z
   . exact a z
   . exact absurd (QO (Qr e) z) (Nat.lt_irrefl _)
 have E:∀x c,X.env.cells.lookup x=some c->∀v,s.heap.IsCell c v->h'.IsCell c v:=fun x c e v ⟨o,j,D⟩=>by
   have w:c∉ch:=fun z=>(t c z).2.2.1 x c e rfl
   by_cases J:c∈X.fs
   . obtain⟨sl,q⟩:=F c o (I.cne x c e) J w j (I.freeC x c e)
     exact⟨_,q,D⟩
   . exact⟨o,keep c o (I.cne x c e) J w j (I.freeC x c e),D⟩
 refine⟨I.ok,I.os,T,⟨fun b o e n h a=>?_,fun b o e n h a=>?_,fun b o e n a=>?_,fun b o e a=>?_,fun b g e=>tups b g (I.base.tups b g e),fun b o g e=>O b o g (I.base.frzs b o g e),fun b C e=>?_⟩,?_,fun x c e=>?_,?_,fun x c e=>?_,fun p K=>?_,R,I.len⟩
 . exact keep b o (G b o e) h (B b o e a) (I.base.keep b o e n h a) (I.base.free b o e n a)
 . obtain⟨sl,f⟩:=I.base.slot b o e n h a
   obtain⟨S,A⟩:=F b _ (G b o e) h (B b o e a) f (I.base.free b o e n a);exact⟨S,A⟩
 . obtain⟨y,f⟩:=I.base.there b o e a
   exact free b y (B b o e a) f (I.base.free b o e n a)
 . obtain⟨y,f⟩:=I.base.there b o e a
   exact N b y (B b o e a) f
 . obtain⟨U,f⟩:=I.base.tbls b C e
   obtain⟨V,A⟩:=P b _ f;exact⟨U++V,by rw[A,Array.append_assoc]⟩
 . obtain⟨m,W,Y⟩:=I.loc
   refine⟨m,ns m W,fun i x v f A Z=>?_⟩;obtain⟨u,r,l⟩:=Y i x v f A Z;refine⟨u,r,?_⟩;rcases l with l | ⟨k,c,e,z⟩
   . exact .inl l
   . exact .inr ⟨k,c,e,E x c e _ z⟩
 . obtain⟨v,z⟩:=I.cell x c e
   exact⟨v,E x c e v z⟩
 . obtain⟨m,⟨o,_,_,j,_⟩,_⟩:=I.loc
   exact free _ o (fun z=>(t _ z).2.1 rfl) j I.free
 . obtain⟨v,o,j,D⟩:=I.cell x c e
   exact free c o (fun z=>(t c z).2.2.1 x c e rfl) j (I.freeC x c e)
 . obtain⟨e,n,L,M,d⟩:=I.pin p K
   have w:p.1∉ch:=fun z=>(t p.1 z).2.2.2 p K rfl
   exact⟨keep p.1 p.2 L M w e n,free p.1 p.2 w e n,L,M,d⟩
theorem Inv.un {t':Nat}(I:Inv X pins σ H s)(u:Un X.fs [] H H' s.heap h')(f:HOk X.prog X.w H' h'):Inv X pins σ H' { s with heap:=h',toks:=t' }:=by
 obtain⟨m,⟨o,l,p,d,r⟩,_⟩:=id I.loc;obtain⟨sl,i⟩:=u.any d I.free (by simp);exact I.step (g':=s.gens) (d':=s.drawn) (ch:=[]) (fun _ z=>nomatch z) (fun b o _ a _ e n=>u.keep b o e n a (by simp)) (fun b o _ a _ e n=>u.slot b o e n a (by simp)) (fun b o _ e n=>u.free b o e n (by simp)) (fun b o _ e=>u.there b o e (by simp)) u.tups u.frzs u.tbls (fun q j=>by
   obtain⟨t,g,h,c,k⟩:=j;rw[d] at c;cases c;exact⟨_,g,h,i,k⟩) f I.bare
theorem Inv.call {g':Array GenState}{t':Nat}{d':Drawn}{ch:List Addr}(I:Inv X pins σ H s)(u:Un (frs X.stack) ch H H' s.heap h')(i:HOk X.prog X.w H' h')(l:AllBare g')
   (f:∀b∈ch,(b∈X.ex\/X.s₀.heap.objs.size<=b)/\b≠X.env.locals/\(∀x c,X.env.cells.lookup x=some c->c≠b)/\∀p∈X.pn++pins,p.1≠b) :
   Inv X pins σ H' { s with heap:=h',gens:=g',drawn:=d',toks:=t' }:=by
 obtain⟨m,⟨o,w,y,h,r⟩,_⟩:=id I.loc;obtain⟨sl,d⟩:=u.any h I.free fun z=>(f _ z).2.1 rfl
 exact I.step (ch:=ch) f (fun b o d q a e n=>u.keep b o e n (fun z=>(Qn.mp (I.stkSub b z)).elim d q) a) (fun b o _ _ a e n=>u.any e n a) (fun b o a e n=>u.free b o e n a) (fun b o a e=>u.there b o e a) u.tups u.frzs u.tbls (fun A t=>by
   obtain⟨B,j,k,g,v⟩:=t;rw[h] at g;cases g;exact⟨_,j,k,d,v⟩) i l
theorem Inv.turned {t':Nat}{a:Addr}(I:Inv X pins σ H s)(k:∀b o,b≠a->s.heap.get? b=some o->h'.get? b=some o)(h:H a=none)(g:a≠X.env.locals)
   (i:a∈X.ex\/X.s₀.heap.objs.size<=a) (j:∀x c,X.env.cells.lookup x=some c->c≠a) (l:∀p∈X.pn++pins,p.1≠a):Inv X pins σ H { s with heap:=h',toks:=t' }:=by
 have f:∀b u,H b=some u->b≠a:=fun b u e z=>by rw[z,h] at e;cases e
 refine I.step (g':=s.gens) (d':=s.drawn) (ch:=[a]) (fun b t=>?_) (fun b o _ _ d e _=>k b o (fun z=>d (by simp[z])) e) (fun b o _ _ d e _=>⟨o.slots,k b o (fun z=>d (by simp[z])) e⟩) (fun _ _ _ _ n=>n)
   (fun b o d e=>⟨o,k b o (fun z=>d (by simp[z])) e⟩) (fun _ _ e=>e) (fun _ _ _ e=>e) (fun b C e=>⟨#[],by rw[e];simp⟩) (fun m w=>?_) (fun b u e=>?_) I.bare
 . have e:b=a:=by simpa using t
   subst e;exact⟨i,g,j,l⟩
 . obtain⟨o,y,A,B,r⟩:=w
   exact⟨o,y,A,k _ o (Ne.symm g) B,r⟩
 . refine(I.hok b u e).stay (fun c v d q=>k c v ?_ q) (fun _ q=>q) fun _ _ q=>q
   rcases d with z | z
   . rw[z];exact f b u e
   . exact f c _ z
theorem Inv.tok (I:Inv X pins σ H s)(t:Nat):Inv X pins σ H { s with toks:=t }:=I.un (h':=s.heap) (t':=t) Un.refl I.hok
theorem Inv.kept {t':Nat}(I:Inv X pins σ H s)(k:∀b u,s.heap.get? b=some u->h'.get? b=some u):Inv X pins σ H { s with heap:=h',toks:=t' }:=I.un (Un.kept k) (I.hok.kept k)
theorem Inv.laid {a:Addr}{o:HO}{t':Nat}(I:Inv X pins σ H s)(k:∀b u,s.heap.get? b=some u->h'.get? b=some u)(c:s.heap.objs.size<=a)(new:ze9 X.prog X.w (upd H a o) h' a o) :
 Inv X pins σ (upd H a o) { s with heap:=h',toks:=t' }:=I.un (Un.laid k c (I.hok.fresh c)) (I.hok.laid k c new)
theorem Inv.write {x e:Addr}{o:HO}{t':Nat}(I:Inv X pins σ H s)(c:Mut (H x))(d:e=x\/H e=some (.own x))(k:∀b u,b≠e->s.heap.get? b=some u->h'.get? b=some u)(a:∃u,h'.get? e=some u)
 (new:ze9 X.prog X.w (upd H x o) h' x o):Inv X pins σ (upd H x o) { s with heap:=h',toks:=t' }:=I.un (Un.write c d k a) (I.hok.write c d k a new)
theorem Inv.pins_of {a:PL}(I:Inv X pins σ H s)(h:∀p∈a,s.heap.get? p.1=some p.2/\H p.1=none/\p.1≠X.env.locals/\p.1∉X.fs/\∀v,p.2.data≠.cell v):Inv X a σ H s :=
 ⟨I.ok,I.os,I.bare,I.base,I.loc,I.cell,I.free,I.freeC,fun p b=>(Qt.mp b).elim (fun z=>I.pin p (Zo _ z)) (h p),I.hok,I.len⟩
theorem nodup_ix {N:List Str}(c:N.Nodup){i j:Nat}{x:Str}(a:N[i]?=some x)(b:N[j]?=some x):i=j:=by
 obtain⟨f,d⟩:=Qw.mp a;obtain⟨g,e⟩:=Qw.mp b;exact(List.getElem_inj c).mp (d.trans e.symm)
theorem zS1 {a9:Model}{A:Around}{E:VP}{i:Nat}{x:Str}{v:V}{u:Value}{Q:Unit->Shared->Prop}(I:Inv X pins σ H s)(hN:X.N.Nodup)(F:X.N[i]?=some x)(l:Loc X.env.scope x)(r:RelV v u)
   (a4:∀M,Inv X pins (σ.set i (some v)) H M->(∃a,Heap.SameBut a s.heap M.heap/\(a=X.env.locals\/X.env.cells.lookup x=some a))->Q () M) (hf:X.fn x=true\/X.env.scope.names.lookup x=some .local:=by first | exact .inl rfl | exact .inr rfl | assumption):wpAny a9 A (storeName X.env x u) Q E s:=by
 obtain⟨m,N,hl⟩:=id I.loc;have a5:(X.env.scope.kind == .class || (X.env.scope.kind == .module && X.env.locals != X.env.globals))=false:=by rw[I.ok.kind];rfl
 have a0:i<σ.length:=by rw[I.len];exact(Qw.mp F).1
 have cne:=I.cne;have Y:∀ {a:Addr} {D:Heap},(∃o,s.heap.get? a=some o/\H a=none)->Heap.SameBut a s.heap D->HOk X.prog X.w H D:=fun {a D} ha f b ob e=>by
   obtain⟨_,_,Z⟩:=ha;refine(I.hok b ob e).stay (fun c G h q=>(f.2 c ?_).trans q) (fun _ q=>q) fun _ _ q=>q
   rintro rfl;rcases h with rfl | h
   . rw[Z] at e;cases e
   . rw[Z] at h;cases h
 rcases l with w | w
 . refine wpAny_storeName_local w N (fun D a7 f=>?_) a5
   obtain⟨oL,_,_,a8,_⟩:=id N;refine a4 _ ⟨I.ok,I.os,I.bare,⟨fun b o e n B l=>?_,fun b o e n B l=>?_,I.base.free,fun b o e l=>?_,I.base.tups,I.base.frzs,I.base.tbls⟩,⟨_,a7,fun j y O g t P=>?_⟩,fun y c e=>?_,I.free,I.freeC,fun p R=>?_,Y ⟨oL,a8,I.free⟩ f,by simpa using I.len⟩ ⟨_,f,.inl rfl⟩
   . exact(f.2 b (QF (QO (Qr e) I.ok.above))).trans (I.base.keep b o e n B l)
   . obtain⟨sl,g⟩:=I.base.slot b o e n B l
     exact⟨sl,(f.2 b (QF (QO (Qr e) I.ok.above))).trans g⟩
   . obtain⟨S,g⟩:=I.base.there b o e l
     exact⟨S,(f.2 b (QF (QO (Qr e) I.ok.above))).trans g⟩
   . by_cases C:j=i
     . subst C
       rw[F] at g;cases g;rw[List.getElem?_set_self a0] at t;cases t;exact⟨u,r,.inl ⟨w,by simp⟩⟩
     . rw[List.getElem?_set_ne (Ne.symm C)] at t
       obtain⟨T,U,q⟩:=hl j y O g t P;refine⟨T,U,?_⟩;rcases q with⟨k,e⟩ | ⟨k,c,e,z⟩
       . refine .inl ⟨k,?_⟩
         have:y≠x:=fun e=>C (nodup_ix hN g (e▸F))
         simp[this,e]
       . exact .inr ⟨k,c,e,z.sameBut f (cne y c e)⟩
   . obtain⟨G,z⟩:=I.cell y c e
     exact⟨G,z.sameBut f (cne y c e)⟩
   . obtain⟨e,n,J,W,d⟩:=I.pin p R
     exact⟨(f.2 p.1 J).trans e,n,J,W,d⟩
 . have L:X.fn x=true:=by
     rcases hf with z | z
     . exact z
     . rw[z] at w;cases w
   obtain⟨c,h⟩:=I.ok.has x (.inl w);obtain⟨G,z⟩:=I.cell x c h;refine wpAny_storeName_cell I.ok.kind w h z (fun D a1 f=>?_);obtain⟨oc,a2,a6⟩:=id z;refine a4 { s with heap:=D } ⟨I.ok,I.os,I.bare,⟨fun b o e n B l=>?_,fun b o e n B l=>?_,I.base.free,fun b o e l=>?_,I.base.tups,I.base.frzs,I.base.tbls⟩,⟨m,N.sameBut f (Ne.symm (cne x c h)),fun j y O g t P=>?_⟩,fun y K e=>?_,I.free,I.freeC,fun p R=>?_,Y ⟨oc,a2,I.freeC x c h⟩ f,by simpa using I.len⟩ ⟨c,f,.inr h⟩
   . exact(f.2 b (QF (QO (Qr e) (I.ok.cab x c L h)))).trans (I.base.keep b o e n B l)
   . obtain⟨sl,g⟩:=I.base.slot b o e n B l
     exact⟨sl,(f.2 b (QF (QO (Qr e) (I.ok.cab x c L h)))).trans g⟩
   . obtain⟨S,g⟩:=I.base.there b o e l
     exact⟨S,(f.2 b (QF (QO (Qr e) (I.ok.cab x c L h)))).trans g⟩
   . by_cases C:j=i
     . subst C
       rw[F] at g;cases g;rw[List.getElem?_set_self a0] at t;cases t;exact⟨u,r,.inr ⟨.inl w,c,h,a1⟩⟩
     . rw[List.getElem?_set_ne (Ne.symm C)] at t
       obtain⟨T,U,q⟩:=hl j y O g t P;refine⟨T,U,?_⟩;rcases q with q | ⟨k,K,e,z'⟩
       . exact .inl q
       . refine .inr ⟨k,K,e,z'.sameBut f ?_⟩
         rintro rfl;exact C (nodup_ix hN g (I.ok.inj _ _ _ e h▸F))
   . by_cases a3:K=c
     . subst a3;exact⟨_,a1⟩
     . obtain⟨w2,z2⟩:=I.cell y K e
       exact⟨w2,z2.sameBut f a3⟩
   . obtain⟨e,n,J,W,d⟩:=I.pin p R
     refine⟨(f.2 p.1 ?_).trans e,n,J,W,d⟩;intro q;rw[q,a2] at e;have q':oc=p.2:=Qo e;exact d G (by rw[<-q'];exact a6)
theorem zE7 {M:Model}{A:Around}{E:VP}{i:Nat}{x:Str}{v:V}{u:Value}{Q:Unit->Shared->Prop}(I:Inv X pins σ H s)(b:X.N.Nodup)(c:X.N[i]?=some x)(d:Loc X.env.scope x)(r:RelV v u)
   (h:∀a,Inv X pins (σ.set i (some v)) H a->Q () a) (e:X.fn x=true\/X.env.scope.names.lookup x=some .local:=by first | exact .inl rfl | exact .inr rfl | assumption):wpAny M A (storeName X.env x u) Q E s :=
 zS1 I b c d r (fun a f _=>h a f) e
theorem Inv.call' {s':Shared}{ch:List Addr}(I:Inv X pins σ H s)(f:s'.os=s.os)(u:Un (frs X.stack) ch H H' s.heap s'.heap)(a:HOk X.prog X.w H' s'.heap)(g:AllBare s'.gens)
   (d:∀b∈ch,(b∈X.ex\/X.s₀.heap.objs.size<=b)/\b≠X.env.locals/\(∀x c,X.env.cells.lookup x=some c->c≠b)/\∀p∈X.pn++pins,p.1≠b):Inv X pins σ H' s':=by
 obtain⟨i,g',d',t',h⟩:=s';have e:h=s.os:=f;subst e;exact I.call (g':=g') (t':=t') (d':=d') u a g d
end
noncomputable abbrev XK:=Value->Option Addr->Hp->Prop
noncomputable abbrev St:=List (Option V)
noncomputable abbrev VK:=V->Hp->Prop
noncomputable abbrev TE:=St->Hp->VK->Prop
noncomputable abbrev TT:=St->Hp->(Bool->Hp->Prop)->Prop
noncomputable abbrev TA:=St->Hp->(List V->Hp->Prop)->Prop
structure Ends where
 nx:St->Hp->Prop
 rt:VK
 bk:St->Hp->Prop:=fun _ _=>False
 ct:St->Hp->Prop:=fun _ _=>False
noncomputable abbrev TS:=Ends->St->Hp->Prop
def EP (X:Cx)(pins:PL)(σ:St)(Q:VK)(u:Value)(s':Shared):Prop:=∃v H',Inv X pins σ H' s'/\RelV v u/\Q v H'
def TP (X:Cx)(pins:PL)(σ:St)(Q:Bool->Hp->Prop)(b:Bool)(s':Shared):Prop:=∃H',Inv X pins σ H' s'/\Q b H'
def AP (X:Cx)(pins:PL)(σ:St)(Q:List V->Hp->Prop)(us:List Value)(s':Shared):Prop:=∃vs H',Inv X pins σ H' s'/\Vals vs us/\Q vs H'
def SP (X:Cx)(pins:PL)(D:Ends)(f:Flow)(s':Shared):Prop :=
 match f with
 | .next=>∃σ' H',Inv X pins σ' H' s'/\D.nx σ' H'
 | .brk=>∃σ' H',Inv X pins σ' H' s'/\D.bk σ' H'
 | .cont=>∃σ' H',Inv X pins σ' H' s'/\D.ct σ' H'
 | .ret u=>∃v σ' H',Inv X pins σ' H' s'/\RelV v u/\D.rt v H'
def PE (X:Cx)(e:Expr)(t:TE):Prop :=
 ∀(pins:PL) (s:Shared) (σ:St) (H:Hp) (Q:VK),Inv X pins σ H s->t σ H Q->wpAny (model X.prog X.w) X.A (eval e X.env) (EP X pins σ Q) X.xe s
def PT (X:Cx)(e:Expr)(t:TT):Prop :=
 ∀(pins:PL) (s:Shared) (σ:St) (H:Hp) (Q:Bool->Hp->Prop),Inv X pins σ H s->t σ H Q->wpAny (model X.prog X.w) X.A (isTrue e X.env (eval e X.env)) (TP X pins σ Q) X.xe s
def PW (X:Cx)(e:Expr)(t:TT):Prop :=
 ∀(whole:Sem Value) (pins:PL) (s:Shared) (σ:St) (H:Hp) (Q:Bool->Hp->Prop),Inv X pins σ H s->t σ H Q->wpAny (model X.prog X.w) X.A (isTrue e X.env whole) (TP X pins σ Q) X.xe s
theorem PW.pt {X:Cx}{e:Expr}{t:TT}(h:PW X e t):PT X e t:=h _
def PA (X:Cx)(es:List Expr)(t:TA):Prop :=
 ∀(pos:Pos) (pins:PL) (s:Shared) (σ:St) (H:Hp) (Q:List V->Hp->Prop),Inv X pins σ H s->t σ H Q->wpAny (model X.prog X.w) X.A (spliced (backTo pos (starEach es X.env))) (AP X pins σ Q) X.xe s
def PS (X:Cx)(st:Stmt)(t:TS):Prop :=
 ∀(pins:PL) (s:Shared) (σ:St) (H:Hp) (D:Ends),Inv X pins σ H s->t D σ H->wpAny (model X.prog X.w) X.A (exec st X.env) (SP X pins D) X.xe s
def PSs (X:Cx)(st:List Stmt)(t:TS):Prop :=
 ∀(pins:PL) (s:Shared) (σ:St) (H:Hp) (D:Ends),Inv X pins σ H s->t D σ H->wpAny (model X.prog X.w) X.A (execs st X.env) (SP X pins D) X.xe s
theorem thn {c:Type}{t:Sem c}{Q b:c->Shared->Prop}{M:Model}{A:Around}{E:VP}{s:Shared}(h:wpAny M A t Q E s)(d:∀a s,Q a s->b a s):wpAny M A t b E s:=Zs h d fun _ _ x=>x
section
variable {X:Cx}
inductive ym7 (i:Nat)(σ:St)(H:Hp)(Q:VK):Prop
 | mk (v:_)(h0:σ[i]?=some (some v))(h1:Q v H):ym7 i σ H Q
def tVar (i:Nat):TE:=fun σ H Q=>ym7 i σ H Q
def tC (v:V):TE:=fun _ H Q=>Q v H
theorem pe_var {i:Nat} {x:Str} {k:Pos} (o:X.N[i]?=some x) (p:Vis X.env.scope x) (d:(x == ("__debug__" : Str))=false:=by decide) (n:(x == ("__classdict__" : Str))=false:=by decide):PE X (.Name x k) (tVar i):=by
 intro j s y H Q I h;obtain⟨v,e,h⟩:=h;obtain⟨m,q,t⟩:=I.loc;obtain⟨u,r,l⟩:=t i x v o e p;have b:EP X j y Q u s:=⟨v,H,I,r,h⟩;rcases l with⟨a,w⟩ | ⟨a,c,g,f⟩
 . exact wpAny_Name (wpAny_loadName_local I.ok.kind a q w b) d
 . rcases a with a | a
   . exact wpAny_Name (wpAny_loadName_cell I.ok.kind a g f b) d
   . exact wpAny_Name (wpAny_loadName_free I.ok.kind a g f b n) d
theorem za4 {i j pos}:PE X (.Constant (.int i) j pos) (tC (.int i)):=fun _ _ _ H _ I h=>wpAny_Constant_int ⟨.int i,H,I.tok _,⟨_,rfl⟩,h⟩
theorem zg8 {b j pos}:PE X (.Constant (.bool b) j pos) (tC (.bl b)):=fun _ _ _ H _ I h=>Constant_bool ⟨.bl b,H,I,rfl,h⟩
theorem zr3 {j pos}:PE X (.Constant .none j pos) (tC .non):=fun _ _ _ H _ I h=>Constant_none ⟨.non,H,I,rfl,h⟩
theorem zX5 {x j pos}:PE X (.Constant (.str x) j pos) (tC (.str x)):=fun _ _ _ H _ I h=>Calls.Constant_str ⟨.str x,H,I.tok _,⟨_,rfl⟩,h⟩
def Gl (X:Cx)(x:Str):Prop:=X.env.kindOf x=some .globalImplicit
theorem zB0 {E:VP}{a:PL}{s:Shared}{f:St}{H:Hp}{x:Str}{u:Value}{b:Pos}{Q:VP}(I:Inv X a f H s)(c:Gl X x)(d:X.mg x=some u)(h:Q u s)
   (e:(x == ("__debug__" : Str))=false:=by decide):wpAny (model X.prog X.w) X.A (eval (.Name x b) X.env) Q E s :=
 Calls.Name_function_global I.ok.kind c (Calls.loadGlobal_global (by rw[I.ok.glob];exact I.mod.glob.keeps I.bk) d h) e
theorem zI5 {E:VP}{a:PL}{s:Shared}{k:St}{H:Hp}{x:Str}{u:Value}{b:Pos}{Q:VP}(I:Inv X a k H s)(c:Gl X x)(d:X.mg x=none)(e:bootBuiltins x=some u)(h:Q u s)
   (f:x≠"__name__":=by decide) (g:(x == ("__debug__" : Str))=false:=by decide):wpAny (model X.prog X.w) X.A (eval (.Name x b) X.env) Q E s:=by
 obtain⟨mb,i,j⟩:=I.mod.blt;exact Calls.Name_function_global I.ok.kind c (Calls.loadGlobal_builtin (by rw[I.ok.glob];exact I.mod.glob.keeps I.bk) d (by rw[I.ok.blt];exact i.keeps I.bk) ((j x f).trans e) h) g
theorem zo3 {x:Str} {v:V} {u:Value} {a:Pos} (b:Gl X x) (c:X.mg x=some u) (r:RelV v u) (d:(x == ("__debug__" : Str))=false:=by decide):PE X (.Name x a) (tC v) :=
 fun _ _ _ H _ I h=>zB0 I b c ⟨v,H,I,r,h⟩ d
theorem zm3 {x:Str} {v:V} {u:Value} {a:Pos} (b:Gl X x) (c:X.mg x=none) (d:bootBuiltins x=some u) (r:RelV v u) (e:x≠"__name__":=by decide) (f:(x == ("__debug__" : Str))=false:=by decide):PE X (.Name x a) (tC v) :=
 fun _ _ _ H _ I h=>zI5 I b c d ⟨v,H,I,r,h⟩ e f
variable {a b:Expr} {ta tb:TE} {pos:Pos}
def PC (X:Cx)(op:CmpOp)(a b:Expr)(t:TE):Prop :=
 ∀(pins:PL) (s:Shared) (σ:St) (H:Hp) (Q:VK),Inv X pins σ H s->t σ H Q →
   wpAny (model X.prog X.w) X.A (eval a X.env) (fun v s₁=>wpAny (model X.prog X.w) X.A (eval b X.env) (fun u s₂=>wpAny (model X.prog X.w) X.A (compareOp op v u) (EP X pins σ Q) X.xe s₂) X.xe s₁) X.xe s
inductive I_tB  (x:V)(H1:Hp)(Q:Bool->Hp->Prop):Prop
 | mk (c:_)(h0:x = .bl c)(h1:Q c H1):I_tB  x H1 Q
def tB (t:TE):TT:=fun σ H Q=>t σ H fun x H1=>I_tB  x H1 Q
theorem ym8 {c:CmpOp}{t:TE}(h:PC X c a b t)(e:behindInMarks c b=false:=by first | exact nobehind _ (by decide) (by decide) | rfl):PE X (.Compare a [c] [b] pos) t:=fun d s g H Q I f=>wpAny_Compare1 (h d s g H Q I f) e
theorem zM4 {e:CmpOp}{t:TE}(h:PC X e a b t)(f:behindInMarks e b=false:=by first | exact nobehind _ (by decide) (by decide) | rfl):PT X (.Compare a [e] [b] pos) (tB t):=by
 intro g s o H Q I i;refine wpAny_isTrue_Compare1 (thn (h g s o H _ I i) fun v p f=>thn f fun u r j=>thn j fun c w ⟨x,k,l,m,n⟩=>?_) f;obtain⟨d,rfl,q⟩:=n;cases m;exact wpAny_truthy_bool ⟨k,l,q⟩
theorem zd0 {e:Expr}{t:TE}(h:PE X e t)(c:∀a,isTrue e X.env a=(do let v <-a;standAt e.pos;holding [v] (truthy v)):=by intro _;rfl):PT X e (tB t):=by
 intro b s l H Q I f;refine isTrue_plain (thn (h b s l H _ I f) fun v m ⟨x,g,i,j,k⟩=>?_) (c _);obtain⟨d,rfl,q⟩:=k;cases j;exact wpAny_truthy_bool ⟨g,i,q⟩
variable {tA tB':TT} {rest:List Expr}
def tAnd (t u:TT):TT:=fun σ H Q=>t σ H fun c H1=>if c=true then u σ H1 Q else Q false H1
def tOr (t u:TT):TT:=fun σ H Q=>t σ H fun c H1=>if c=true then Q true H1 else u σ H1 Q
def tNot (t:TT):TT:=fun σ H Q=>t σ H fun c H1=>Q (!c) H1
theorem zv9 (d:PT X a tA):PW X (.BoolOp .And [a] pos) tA:=by
 intro g b s f H Q I h;refine isTrue_and (thn (d b s f H Q I h) fun c i e=>?_);cases c with
 | true=>exact isTrue_and_nil e
 | false=>exact e
theorem zj1 (d:PT X a tA):PW X (.BoolOp .Or [a] pos) tA:=by
 intro g b s f H Q I h;refine isTrue_or (thn (d b s f H Q I h) fun c i e=>?_);cases c with
 | false=>exact isTrue_or_nil e
 | true=>exact e
theorem zy1 (j:PT X a tA)(k:PW X (.BoolOp .And (b::rest) pos) tB'):PW X (.BoolOp .And (a::b::rest) pos) (tAnd tA tB'):=by
 intro l d s i H Q I h;refine isTrue_and (thn (j d s i H _ I h) fun c m ⟨e,f,g⟩=>?_);cases c with
 | true=>exact k l d m i e Q f g
 | false=>exact⟨e,f,g⟩
theorem zl3 (j:PT X a tA)(k:PW X (.BoolOp .Or (b::rest) pos) tB'):PW X (.BoolOp .Or (a::b::rest) pos) (tOr tA tB'):=by
 intro l d s i H Q I h;refine isTrue_or (thn (j d s i H _ I h) fun c m ⟨e,f,g⟩=>?_);cases c with
 | true=>exact⟨e,f,g⟩
 | false=>exact k l d m i e Q f g
theorem zd4 (d:PT X a tA):PT X (.UnaryOp .Not a pos) (tNot tA):=by
 intro b s f H Q I h;exact isTrue_not (d b s f H (fun c e=>Q (!c) e) I h)
def tAndV (ta tb:TE):TE:=fun σ H Q=>ta σ H fun x H1=>∃c,x = .bl c/\if c=true then tb σ H1 Q else Q (.bl false) H1
def tOrV (ta tb:TE):TE:=fun σ H Q=>ta σ H fun x H1=>∃c,x = .bl c/\if c=true then Q (.bl true) H1 else tb σ H1 Q
def tNotV (ta:TE):TE:=fun σ H Q=>ta σ H fun x H1=>∃c,x = .bl c/\Q (.bl (!c)) H1
theorem zy2 {op}{t:TE}(h:PE X a t):PE X (.BoolOp op [a] pos) t:=fun b s d H Q I c=>BoolOp_one (h b s d H Q I c)
theorem zD6 (j:PE X a ta)(k:PE X (.BoolOp .And (b::rest) pos) tb):PE X (.BoolOp .And (a::b::rest) pos) (tAndV ta tb):=by
 intro e s i H Q I h;refine BoolOp_and (thn (j e s i H _ I h) fun v l ⟨x,f,g,m,d⟩=>?_);obtain⟨c,rfl,d⟩:=d;cases m;refine wpAny_truthy_bool ?_;cases c with
 | true=>exact k e l i f Q g d
 | false=>exact⟨.bl false,f,g,rfl,d⟩
theorem pe_or (j:PE X a ta)(k:PE X (.BoolOp .Or (b::rest) pos) tb):PE X (.BoolOp .Or (a::b::rest) pos) (tOrV ta tb):=by
 intro e s i H Q I h;refine BoolOp_or (thn (j e s i H _ I h) fun v l ⟨x,f,g,m,d⟩=>?_);obtain⟨c,rfl,d⟩:=d;cases m;refine wpAny_truthy_bool ?_;cases c with
 | false=>exact k e l i f Q g d
 | true=>exact⟨.bl true,f,g,rfl,d⟩
theorem ym9 (e:PE X a ta):PE X (.UnaryOp .Not a pos) (tNotV ta):=by
 intro d s j H Q I h;refine UnaryOp_ (thn (e d s j H _ I h) fun v k ⟨x,f,g,i,b⟩=>?_);obtain⟨c,rfl,b⟩:=b;cases i;exact not_of (wpAny_truthy_bool ⟨.bl (!c),f,g,rfl,b⟩)
end
def SqL (K:W.Frag)(H:Hp)(a:Addr)(xs:List V):Prop :=
 Rd H a (.lst xs) ∨
   ∃(o:Obj) (its:Array Value) (n:Nat),K.lookup a=some o/\o.cls = .type "list"/\o.dict=none/\o.data = .seq its n/\its.size<=sizeLine/\Vals xs its.toList
def SqT (K:W.Frag)(H:Hp)(a:Addr)(xs:List V):Prop :=
 Rd H a (.tup xs) ∨
   ∃(o:Obj) (its:Array Value) (n:Nat),K.lookup a=some o/\o.cls = .type "tuple"/\o.data = .seq its n/\its.size<=sizeLine/\Vals xs its.toList
noncomputable def absV:Value->Option V
 | .none=>some .non
 | .bool b=>some (.bl b)
 | .int i _=>some (.int i)
 | .str x _=>some (.str x)
 | .bytes b _=>some (.byt b)
 | .float b _=>some (.flt b)
 | .ref a=>some (.ref a)
 | .type n=>some (.ty n)
 | _=>none
theorem RelV.abs {x:V}{u:Value}(r:RelV x u):absV u=some x:=by
 cases x with
 | non=>cases r;rfl
 | bl _=>cases r;rfl
 | int _=>obtain⟨t,rfl⟩:=r;rfl
 | str _=>obtain⟨t,rfl⟩:=r;rfl
 | byt _=>obtain⟨t,rfl⟩:=r;rfl
 | flt _=>obtain⟨t,rfl⟩:=r;rfl
 | ref _=>cases r;rfl
 | ty _=>cases r;rfl
theorem RelV.inj {x y:V}{u:Value}(r:RelV x u)(q:RelV y u):x=y:=Qo (r.abs.symm.trans q.abs)
theorem Vals.inj:∀ {a b:List V} {c:List Value},Vals a c->Vals b c->a=b
 | _,_,_,.nil,.nil=>rfl
 | _,_,_,.cons r t,.cons d e=>by rw[r.inj d,Vals.inj t e]
section
variable {X:Cx} {pins:PL} {σ:St} {H:Hp} {s:Shared} {a:Addr} {xs ys:List V}
theorem SqL.of {K:W.Frag}(h:H a=some (.lst xs)):SqL K H a xs:=.inl (.inl h)
theorem SqT.of {K:W.Frag}(h:H a=some (.tup xs)):SqT K H a xs:=.inl (.inl h)
theorem Inv.list (I:Inv X pins σ H s)(h:SqL X.K H a xs):∃b:List Value,Vals xs b/\PlainL s.heap a b.toArray/\xs.length<=sizeLine:=by
 rcases h with h | ⟨o,b,n,c,d,f,g,i,r⟩
 . obtain⟨z,b,n,r,e⟩:=h.ok I.hok
   exact⟨b,r,⟨_,n,e,rfl,rfl,rfl⟩,z⟩
 . refine⟨b.toList,r,⟨o,n,I.kIn a o c,d,f,by simpa using g⟩,?_⟩
   have e:=r.length;simp only[Qv] at e;omega
theorem Inv.tuple (I:Inv X pins σ H s)(h:SqT X.K H a xs):∃b:List Value,Vals xs b/\IsTup s.heap a b.toArray/\xs.length<=sizeLine:=by
 rcases h with h | ⟨o,b,n,c,d,f,g,r⟩
 . obtain⟨z,b,r,p⟩:=h.ok I.hok
   exact⟨b,r,p.isTup,z⟩
 . refine⟨b.toList,r,⟨o,I.kIn a o c,d,n,by simpa using f⟩,?_⟩
   have e:=r.length;simp only[Qv] at e;omega
theorem Inv.list_inj (I:Inv X pins σ H s)(h:SqL X.K H a xs)(h':SqL X.K H a ys):xs=ys:=by
 obtain⟨g,r,⟨o,n,e,_,_,d⟩,_⟩:=I.list h;obtain⟨f,i,⟨k,l,b,_,_,c⟩,_⟩:=I.list h';rw[e] at b;cases b;rw[d] at c;injection c with j _
 have:g=f:=by simpa using congrArg Array.toList j
 subst this;exact r.inj i
theorem Inv.tuple_inj (I:Inv X pins σ H s)(h:SqT X.K H a xs)(h':SqT X.K H a ys):xs=ys:=by
 obtain⟨g,r,⟨o,e,_,n,d⟩,_⟩:=I.tuple h;obtain⟨f,i,⟨k,b,_,l,c⟩,_⟩:=I.tuple h';rw[e] at b;cases b;rw[d] at c;injection c with j _
 have:g=f:=by simpa using congrArg Array.toList j
 subst this;exact r.inj i
end
noncomputable abbrev Cx.wish (X:Cx)(E:VP):Cx:={ X with xe:=E }
noncomputable abbrev Cx.nox (X:Cx):Cx:=X.wish fun _ _=>False
theorem Cx.Ok.wish {X:Cx}(ok:X.Ok)(E:VP):(X.wish E).Ok :=
 ⟨ok.mod,ok.kind,ok.glob,ok.blt,ok.above,ok.inj,ok.has,ok.cab,ok.hd,ok.frames,ok.stk,ok.exf,ok.bs,ok.bsz,ok.noex,ok.exfs,ok.funs,ok.frf⟩
theorem Cx.Ok.unwish {X:Cx}{E:VP}(ok:(X.wish E).Ok):X.Ok :=
 ⟨ok.mod,ok.kind,ok.glob,ok.blt,ok.above,ok.inj,ok.has,ok.cab,ok.hd,ok.frames,ok.stk,ok.exf,ok.bs,ok.bsz,ok.noex,ok.exfs,ok.funs,ok.frf⟩
section
variable {X:Cx} {pins:PL} {σ:St} {H:Hp} {s:Shared} {E:VP}
theorem Inv.wish (I:Inv X pins σ H s)(E:VP):Inv (X.wish E) pins σ H s:=⟨I.ok.wish E,I.os,I.bare,I.base,I.loc,I.cell,I.free,I.freeC,I.pin,I.hok,I.len⟩
theorem Inv.unwish (I:Inv (X.wish E) pins σ H s):Inv X pins σ H s:=⟨I.ok.unwish,I.os,I.bare,I.base,I.loc,I.cell,I.free,I.freeC,I.pin,I.hok,I.len⟩
theorem SP.unwish {D:Ends}{f:Flow}{s':Shared}(h:SP (X.wish E) pins D f s'):SP X pins D f s':=by
 cases f with
 | next=>obtain⟨a,b,I,q⟩:=h;exact⟨a,b,I.unwish,q⟩
 | brk=>obtain⟨a,b,I,q⟩:=h;exact⟨a,b,I.unwish,q⟩
 | cont=>obtain⟨a,b,I,q⟩:=h;exact⟨a,b,I.unwish,q⟩
 | ret u=>obtain⟨v,a,b,I,r,q⟩:=h;exact⟨v,a,b,I.unwish,r,q⟩
theorem PSs.nox {st:List Stmt}{t:TS}(h:PSs X.nox st t):PSs X st t:=fun a s c H D I b =>
 Zs (h a s c H D (I.wish _) b) (fun _ _ q=>q.unwish) fun _ _ z=>False.elim z
end
section
variable {X:Cx} {st:Stmt} {rest:List Stmt} {t u:TS} {e:Expr} {te:TE} {pos:Pos}
def yr9:TS:=fun D σ H=>D.nx σ H
def tSeq (t u:TS):TS:=fun D σ H=>t { D with nx:=u D } σ H
theorem zb6:PSs X [] yr9:=fun _ _ a H _ I h=>wpAny_execs_nil ⟨a,H,I,h⟩
theorem za2 (b:PS X st t)(c:PSs X rest u):PSs X (st::rest) (tSeq t u):=by
 intro a s j H D I h;refine wpAny_execs_cons (thn (b a s j H { D with nx:=u D } I h) fun f d q=>?_);cases f with
 | next =>
   obtain⟨e,g,i,q⟩:=q;exact c a d e g D i q
 | ret v=>exact q
 | brk=>exact q
 | cont=>exact q
theorem za5 (b:PS X st t):PSs X [st] t:=by
 intro a s c H D I h;refine wpAny_execs_cons (thn (b a s c H D I h) fun f d q=>?_);cases f with
 | next=>exact wpAny_execs_nil q
 | ret v=>exact q
 | brk=>exact q
 | cont=>exact q
theorem Inv.quiet {a:PL}{b:St}{H:Hp}{s:Shared}(I:Inv X a b H s):interactive X.env=false:=by simp[interactive,I.ok.kind]
def tDrop (te:TE):TS:=fun D σ H=>te σ H fun _ H1=>D.nx σ H1
theorem ze7 (c:PE X e te)(hs:swapsWith e none pos.line X.env=pure false:=by rfl):PS X (.Expr e pos) (tDrop te):=by
 intro b s a H D I h;exact wpAny_Expr_any (thn (c b s a H _ I h) fun v i ⟨x,d,f,j,g⟩=>⟨a,d,f,g⟩) I.quiet hs
def tRet (te:TE):TS:=fun D σ H=>te σ H D.rt
theorem zb7 (c:PE X e te):PS X (.Return (some e) pos) (tRet te):=by
 intro b s a H D I h;exact wpAny_Return_some (thn (c b s a H _ I h) fun v j ⟨x,d,f,g,i⟩=>⟨x,a,d,f,g,i⟩)
def tIfS (c:TT)(t u:TS):TS:=fun D σ H=>c σ H fun b H1=>if b=true then t D σ H1 else u D σ H1
theorem zc8 {c:Expr}{a b:List Stmt}{g:TT}(m:PT X c g)(n:PSs X a t)(o:PSs X b u):PS X (.If c a b pos) (tIfS g t u):=by
 intro e s f H D I h;refine wpAny_If (thn (m e s f H _ I h) fun d i ⟨j,k,l⟩=>?_);cases d with
 | true=>exact n e i f j D k l
 | false=>exact o e i f j D k l
def yn0:TS:=fun _ _ _=>False
theorem ze2:PS X st yn0:=fun _ _ _ _ _ _ h=>h.elim
theorem pss_never {a:List Stmt}:PSs X a yn0:=fun _ _ _ _ _ _ h=>h.elim
end
noncomputable abbrev TG:=V->St->Hp->(St->Hp->Prop)->Prop
noncomputable abbrev TGs:=List V->St->Hp->(St->Hp->Prop)->Prop
def PG (X:Cx)(target:Expr)(t:TG):Prop :=
 ∀(pins:PL) (s:Shared) (σ:St) (H:Hp) (v:V) (u:Value) (Q:St->Hp->Prop),Inv X pins σ H s->RelV v u->t v σ H Q →
   wpAny (model X.prog X.w) X.A (assign target X.env u) (fun _ s'=>∃σ' H',Inv X pins σ' H' s'/\Q σ' H') X.xe s
def PGs (X:Cx)(ts:List Expr)(t:TGs):Prop :=
 ∀(pins:PL) (s:Shared) (σ:St) (H:Hp) (vs:List V) (us:List Value) (Q:St->Hp->Prop),Inv X pins σ H s->Vals vs us->t vs σ H Q →
   wpAny (model X.prog X.w) X.A (assignInOrder ((assignEach ts X.env).map (·.2)) us) (fun _ s'=>∃σ' H',Inv X pins σ' H' s'/\Q σ' H') X.xe s
noncomputable abbrev TSet:=V->V->V->Hp->(Hp->Prop)->Prop
def PSet (X:Cx)(t:TSet):Prop :=
 ∀(pins:PL) (s:Shared) (σ:St) (H:Hp) (o i v:V) (ov iv u:Value) (Q:Hp->Prop),Inv X pins σ H s->RelV o ov->RelV i iv->RelV v u->t o i v H Q →
   wpAny (model X.prog X.w) X.A (setItem ov iv u) (fun _ s'=>∃H',Inv X pins σ H' s'/\Q H') X.xe s
section
variable {X:Cx} {pos:Pos}
def zs6 (i:Nat):TG:=fun v σ H Q=>Q (σ.set i (some v)) H
theorem zc5 {i:Nat}{x:Str}(a:X.N.Nodup)(b:X.N[i]?=some x)(c:Loc X.env.scope x)(d:X.fn x=true\/X.env.scope.names.lookup x=some .local:=by first | exact .inl rfl | exact .inr rfl | assumption):PG X (.Name x pos) (zs6 i):=by
 intro f s j H v u Q I r h;exact wpAny_assign_Name (zE7 I a b c r (fun g e=>⟨_,H,e,h⟩) d)
def gNil:TGs:=fun vs σ H Q=>vs=[]/\Q σ H
def yn1 (t:TG)(u:TGs):TGs:=fun vs σ H Q=>∃v r,vs=v::r/\t v σ H fun σ' H'=>u r σ' H' Q
theorem zw0:PGs X [] gNil:=by
 intro b s a H c d Q I r h;obtain⟨e,h⟩:=h;subst e;cases r;exact assignInOrder_nil ⟨a,H,I,h⟩
theorem zd8 {e:Expr}{es:List Expr}{t:TG}{u:TGs}(b:PG X e t)(c:PGs X es u)
   (hs:(assignEach (e::es) X.env).map (·.2)=assign e X.env::(assignEach es X.env).map (·.2):=by rfl):PGs X (e::es) (yn1 t u):=by
 intro a s m H n o Q I r h;obtain⟨v,p,d,h⟩:=h;subst d;cases r with
 | cons r f =>
   rw[hs];refine assignInOrder_cons (thn (b a s m H _ _ _ I r h) fun _ g ⟨i,j,k,l⟩=>?_);exact c a g i j _ _ Q k f l
inductive yn2 (K:W.Frag)(n:Nat)(t:TGs)(v:V)(σ:St)(H:Hp)(Q:St->Hp->Prop):Prop
 | mk (a xs:_)(h0:v = .ref a)(h1:SqT K H a xs)(h2:xs.length=n)(h3:t xs σ H Q):yn2 K n t v σ H Q
def gTup (K:W.Frag)(n:Nat)(t:TGs):TG:=fun v σ H Q=>yn2 K n t v σ H Q
theorem yn3 {es:List Expr}{k:Nat}{t:TGs}{n:Nat}(j:X.calm=true)(h:PGs X es t)
   (l:(assignEach es X.env).length=n:=by rfl) (i:(assignEach es X.env).findIdx? (·.1)=none:=by rfl):PG X (.Tuple es k pos) (gTup X.K n t):=by
 intro d s g H v u Q I r c;obtain⟨a,m,p,q,w,c⟩:=c;subst p;cases r;obtain⟨B,f,x,C⟩:=I.tuple q;refine assign_Tuple_tuple (I.ok.hd j) x (by simp[l,<-w,f.length]) i fun y z=>?_
 have A:Inv X d g H { s with heap:=y }:=I.kept (t':=s.toks) fun b o e=>z b o (QF (Qr e)) e
 exact h d _ g H m _ Q A (by simpa using f) c
def gSub (to ti:TE)(t:TSet):TG:=fun v σ H Q=>to σ H fun o H1=>ti σ H1 fun i H2=>t o i v H2 fun H3=>Q σ H3
theorem pg_sub {o i:Expr}{e f:TE}{t:TSet}(g:PE X o e)(j:PE X i f)(hs:PSet X t)
   (k:∀v,assign (.Subscript o i pos) X.env v=(do
     let a <-holding [v] (eval o X.env)
     let b <-holding [v,a] (eval i X.env)
     standAt pos
     holding [v,a,b] (setItem a b v)
     release [v,a,b] []):=by intro _;rfl):PG X (.Subscript o i pos) (gSub e f t):=by
 intro d s c H v u Q I r h;rw[k];refine Qa (wpAny_holding (thn (g d s c H _ I h) fun a l ⟨x,m,n,p,q⟩=>?_));refine Qa (wpAny_holding (thn (j d l c m _ n q) fun b w ⟨y,z,A,B,C⟩=>?_));refine Qa (wpAny_standAt (Qa (wpAny_holding (thn (hs d w c z x y v a b u _ A p B r C) fun _ G ⟨D,E,F⟩=>?_))));exact wpAny_release ⟨c,D,E,F⟩
def tAsg (te:TE)(g:TG):TS:=fun D σ H=>te σ H fun x H1=>g x σ H1 D.nx
theorem zD7 {a e:Expr}{c:TE}{g:TG}(f:PE X e c)(i:PG X a g)(hs:swapsWithSole [a] e pos.line X.env=pure false:=by rfl)(j:swappedStores [a] e X.env=pure none:=by rfl)
   (k:(assignEach [a] X.env).map (·.2)=[assign a X.env]:=by rfl):PS X (.Assign [a] e pos) (tAsg c g):=by
 intro b s d H D I h;refine wpAny_Assign_stores (thn (f b s d H _ I h) fun v l ⟨x,m,n,o,p⟩=>?_) hs j;rw[k];exact thn (i b l d m x v _ n o p) fun _ r q=>q
theorem zb4 {i:Nat}{x:Str}{e:Expr}{b:TE}{a:Pos}(d:X.N.Nodup)(f:X.N[i]?=some x)(g:Loc X.env.scope x)(j:PE X e b)(hs:swapsWith e (some (.Name x a)) pos.line X.env=pure false:=by rfl)(k:X.fn x=true\/X.env.scope.names.lookup x=some .local:=by first | exact .inl rfl | exact .inr rfl | assumption) :
   PS X (.Assign [.Name x a] e pos) (tAsg b (zs6 i)):=by
 intro c s q H D I h;refine wpAny_Assign_Name (thn (j c s q H _ I h) fun v r ⟨y,l,m,n,o⟩=>?_) hs;exact zE7 m d f g n (fun t p=>⟨_,l,p,o⟩) k
def tPar (i j:Nat)(ta:TA):TS:=fun D σ H=>ta σ H fun vs H1=>∃v w,vs=[v,w]/\D.nx ((σ.set i (some v)).set j (some w)) H1
theorem ps_par {i j:Nat}{x y:Str}{a b:Expr}{n:TA}{g k pt:Pos}{kt k2 pt2}(F:X.calm=true)(r:X.N.Nodup)(G:X.N[i]?=some x)(J:X.N[j]?=some y)(C:i≠j)
   (t:X.env.scope.names.lookup x=some .local) (u:X.env.scope.names.lookup y=some .local) (K:PA X [a,b] n)
   (L:swappedStores [.Tuple [.Name x g,.Name y k] kt pt] (.Tuple [a,b] k2 pt2) X.env=pure (some [x,y]))
   (hs:swapsWithSole [.Tuple [.Name x g,.Name y k] kt pt] (.Tuple [a,b] k2 pt2) pos.line X.env=pure false:=by rfl) :
   PS X (.Assign [.Tuple [.Name x g,.Name y k] kt pt] (.Tuple [a,b] k2 pt2) pos) (tPar i j n):=by
 intro m s B H a0 I h;rw[exec_Assign_arm];refine Qa (wpAny_standAt ?_);rw[hs];refine Qa (Qd ?_);rw[Qh (by decide)];refine Qa (Tuple_ (thn (K _ m s B H _ I h) fun M c ⟨W,z,N,O,l⟩=>?_));obtain⟨v,w,P,l⟩:=l;subst P;obtain⟨d,f,rfl,Q,D⟩:∃d f,M=[d,f]/\RelV v d/\RelV w f:=by
   cases O with
   | cons p q =>
     cases q with
     | cons R S =>
       cases S;exact⟨_,_,rfl,p,R⟩
 refine wpAny_newObj_type ?_ (by show 2<=sizeLine;decide);have T:Inv X m B z { c with heap:=c.heap.push { cls:=.type "tuple",data:=.seq [d,f].toArray } }:=N.kept (t':=c.toks) fun b o e=>Qc _ e
 rw[L];refine Qa (Qd ?_);show wpAny (model X.prog X.w) X.A (do rule "assign.swapped-stores";let items <-unpackItems (.ref c.heap.objs.size) 2 none;assignInOrder [fun v=>bindName X.env y v,fun v=>bindName X.env x v] items.reverse;pure Flow.next) _ _ _;refine Qa (wpAny_rule (Qa (unpackItems_tuple (items:=#[d,f]) (I.ok.hd F) (IsTup.new c.heap _) fun h' E=>?_)));have U:=T.kept (h':=h') (t':=c.toks) fun b o e=>E b o (QF (Qr e)) e
 show wpAny _ _ (assignInOrder [fun v=>bindName X.env y v,fun v=>bindName X.env x v] [f,d] >>= fun _=>pure Flow.next) _ _ _;refine Qa (assignInOrder_cons (wpAny_bindName (zE7 U r J (.inl u) D (fun Y V=>?_) (.inr u))));refine assignInOrder_cons (wpAny_bindName (zE7 V r G (.inl t) Q (fun Z A=>assignInOrder_nil (Qd ?_)) (.inr t)));rw[List.set_comm _ _ (Ne.symm C)] at A;exact⟨_,z,A,l⟩
end
section
variable {X:Cx} {pos:Pos}
def yn4 (c:TT)(tb:TS):TS:=fun D σ H=>∃W:Nat->St->Hp->Prop,(∃m,W m σ H)/\∀m σ H,W m σ H →
 c σ H fun b H1=>if b=true then ∃N:St->Hp->Prop,(∀σ' H',N σ' H'->∃m',m'<m/\W m' σ' H')/\tb { D with nx:=N,ct:=N,bk:=D.nx } σ H1 else D.nx σ H1
theorem zE8 {c:Expr}{q:List Stmt}{r:TT}{t:TS}(u:PassesOwn (model X.prog X.w) X.A X.env X.xe)(E:PT X c r)(F:PSs X q t):PS X (.While c q [] pos) (yn4 r t):=by
 intro j s Q H D I h;obtain⟨W,⟨G,J⟩,C⟩:=h;refine wpAny_While (codeAny_whileLoop (fun n K=>∃w x,Inv X j w x K/\W n w x) ?_ G ⟨Q,H,I,J⟩);rintro n L ⟨e,y,M,O⟩;refine wpAny_passesOwn u (thn (E j L e y _ M (C n e y O)) fun b P ⟨z,A,g⟩=>?_);cases b with
 | true =>
   obtain⟨N,B,g⟩:=g;rw[Ql rfl];refine wpAny_passesOwn u (thn (F j P e z _ A g) fun f R i=>?_);cases f with
   | next =>
     obtain⟨a,d,k,l⟩:=i;obtain⟨m,o,p⟩:=B a d l;exact⟨m,o,a,d,k,p⟩
   | cont =>
     obtain⟨a,d,k,l⟩:=i;obtain⟨m,o,p⟩:=B a d l;exact⟨m,o,a,d,k,p⟩
   | brk=>exact i
   | ret v=>exact i
 | false =>
   rw[Qh Qu];exact wpAny_execs_nil ⟨e,z,A,g⟩
end
structure It where
 go:Nat->Hp->Prop
 yld:Nat->Hp->V->Hp->Prop
 stop:Nat->Hp->Prop
def FpOk (X:Cx)(pins:PL)(H:Hp)(b:Addr):Prop :=
 H b=none/\b≠X.env.locals/\b∉X.fs/\(b∈X.ex\/X.s₀.heap.objs.size<=b)/\(∀x c,X.env.cells.lookup x=some c->c≠b)/\∀p∈X.pn++pins,p.1≠b
theorem Inv.fpOk {X:Cx}{d:PL}{h:St}{H H':Hp}{s:Shared}{b:Addr}(I:Inv X d h H s)(a:s.heap.objs.size<=b)(f:H' b=none):FpOk X d H' b:=by
 refine⟨f,Nat.ne_of_gt (QO I.lt a),I.nofs a,.inr (QK I.sz a),fun x c e z=>?_,fun p g z=>?_⟩
 . obtain⟨v,q⟩:=I.cell x c e
   exact absurd (QO q.lt (by rw[z];exact a)) (Nat.lt_irrefl _)
 . exact absurd (QO (Qr (I.pin p g).1) (by rw[z];exact a)) (Nat.lt_irrefl _)
structure Turn (P:Program)(w:World)(K:W.Frag)(tg:Expr)(J:It)(fp:List Addr)(it:Addr)(tn:Nat->Heap->Prop):Prop where
 mem:it∈fp
 obj:∀i h,tn i h->∀b∈fp,∃o,h.get? b=some o/\∀v,o.data≠.cell v
 keep:∀i h h',tn i h->(∀b∈fp,∀o,h.get? b=some o->h'.get? b=some o)->tn i h'
 item:∀(X:Cx),X.prog=P->X.w=w->X.K=K->X.calm=true->∀(i:Nat) (pins:PL) (s:Shared) (σ:St) (H:Hp) (E:VP),Inv X pins σ H s->(∀b∈fp,FpOk X pins H b)->tn i s.heap->J.go i H →
   wpAny (model P w) X.A (pyNext (.ref it)) (fun r s1=>∃u,r=some u ∧
     wpAny (model P w) X.A (letOwnedTupleGo tg (.ref it) u) (fun _ s2=>∃x H',Inv X pins σ H' s2/\RelV x u/\J.yld i H x H'/\tn (i+1) s2.heap/\∀b∈fp,H' b=none) E s1) E s
 done:∀(X:Cx),X.prog=P->X.w=w->X.K=K->X.calm=true->∀(i:Nat) (pins:PL) (s:Shared) (σ:St) (H:Hp) (E:VP),Inv X pins σ H s->(∀b∈fp,FpOk X pins H b)->tn i s.heap->J.stop i H →
   wpAny (model P w) X.A (pyNext (.ref it)) (fun r s1=>r=none/\Inv X pins σ H s1) E s
 self:∀(A:Around) (i:Nat) (s:Shared) (Q:VP) (E:VP),tn i s.heap->Q (.ref it) s->wpAny (model P w) A (pyIter (.ref it)) Q E s
noncomputable abbrev TI:=St->Hp->(It->Hp->Prop)->Prop
def PIE (X:Cx)(pins:PL)(σ:St)(tg:Expr)(R:It->Hp->Prop)(itv:Value)(s2:Shared):Prop :=
 ∃(it:Addr) (fp:List Addr) (tn:Nat->Heap->Prop) (J:It) (H':Hp),itv = .ref it/\Inv X pins σ H' s2/\Turn X.prog X.w X.K tg J fp it tn/\tn 0 s2.heap/\(∀b∈fp,FpOk X pins H' b)/\R J H'
def PI (X:Cx)(tg iter:Expr)(wi:TI):Prop :=
 ∀(pins:PL) (s:Shared) (σ:St) (H:Hp) (R:It->Hp->Prop),Inv X pins σ H s->wi σ H R →
   wpAny (model X.prog X.w) X.A (eval iter X.env) (fun v s1=>wpAny (model X.prog X.w) X.A (pyIter v) (PIE X pins σ tg R) X.xe s1) X.xe s
theorem yn5 {M:Model}{A:Around}{E:VP}{s:Shared}{b:Expr}{c:Addr}{u:Value}{o:Obj}{n:String}{vs:Array Value}{Q:Unit->Shared->Prop}(d:s.heap.get? c=some o)(e:o.cls = .type n)(f:o.data = .fields vs)
   (g:["enumerate","zip","dict_itemiterator","dict_reverseitemiterator","odict_iterator","itertools.zip_longest","itertools.pairwise"].contains n=false) (a:Q () s):wpAny M A (letOwnedTupleGo b (.ref c) u) Q E s:=by
 unfold letOwnedTupleGo
 cases b<;>first
   | exact Qd a
   | (cases u<;>first
       | exact Qd a
       | (refine Qa (wpAny_load d ?_)
          rw[e,f];show wpAny M A (if (["enumerate","zip","dict_itemiterator","dict_reverseitemiterator","odict_iterator","itertools.zip_longest","itertools.pairwise"].contains n && vs[0]? == some (rawInt _))=true then _ else _) Q E s;rw[Qh (by intro h;rw[g,Bool.false_and] at h;cases h)];exact Qd a))
noncomputable def Itl (K:W.Frag)(a:Addr):It :=
 ⟨fun i H=>∃xs x,SqL K H a xs/\xs[i]?=some x,fun i H x H'=>H'=H/\∀xs,SqL K H a xs->xs[i]?=some x,fun i H=>∃xs,SqL K H a xs/\xs.length<=i⟩
noncomputable def Itt (K:W.Frag)(a:Addr):It :=
 ⟨fun i H=>∃xs x,SqT K H a xs/\xs[i]?=some x,fun i H x H'=>H'=H/\∀xs,SqT K H a xs->xs[i]?=some x,fun i H=>∃xs,SqT K H a xs/\xs.length<=i⟩
noncomputable def Itr (lo:Int)(n:Nat):It:=⟨fun i _=>i<n,fun i H x H'=>H'=H/\x = .int (lo+i),fun i _=>n<=i⟩
theorem zS2 {P:Program}{w:World}{K:W.Frag}{O:Expr}(a g:Addr):Turn P w K O (Itl K a) [g] g (fun i h=>h.IsListIter g a i) where
 mem:=by simp
 obj:=fun i h f b j=>by
   have e:b=g:=by simpa using j
   subst e;obtain⟨o,e,c,d⟩:=f;exact⟨o,e,fun a1 z=>by rw[d] at z;cases z⟩
 keep:=fun i h l f k=>f.at fun o e=>k g (by simp) o e
 item:=by
   intro X q r t L i G s M H a0 I m f v;subst q r t;obtain⟨Q,x,n,y⟩:=v;obtain⟨N,A,p,R⟩:=I.list n;obtain⟨u,S,T⟩:=A.get y;obtain⟨B,C,U,D,E,F⟩:=m g (by simp);refine wpAny_pyNext_list_item f p.isList (x:=u) (by simpa using S) fun l J sb=>?_
   have V:Inv X G M H { s with heap:=l }:=I.turned (t':=s.toks) (fun b o j e=>(sb.2 b j).trans e) B C D E F;obtain⟨o,e,c,d⟩:=id J;exact⟨u,rfl,yn5 (s:={ s with heap:=l }) e c d (by decide) ⟨x,H,V,T,⟨rfl,fun ys Y=>by rw[I.list_inj Y n];exact y⟩,J,fun b j=>(m b j).1⟩⟩
 done:=by
   intro X q r t L i G s M H a0 I m f v;subst q r t;obtain⟨Q,n,y⟩:=v;obtain⟨N,A,p,R⟩:=I.list n;obtain⟨B,C,U,D,E,F⟩:=m g (by simp);have hl:=A.length;exact wpAny_pyNext_list_end (I.ok.hd L) f p.isList (by simp;omega) fun l Z=>⟨rfl,I.turned (t':=s.toks) (fun b o j e=>Z b o j e) B C D E F⟩
 self:=fun _ _ _ _ _ f h=>wpAny_pyIter_listiter f h
theorem zM5 {P:Program}{w:World}{K:W.Frag}{O:Expr}(a g:Addr):Turn P w K O (Itt K a) [g] g (fun i h=>h.IsTupleIter g a i) where
 mem:=by simp
 obj:=fun i h f b j=>by
   have e:b=g:=by simpa using j
   subst e;obtain⟨o,e,c,d⟩:=f;exact⟨o,e,fun a1 z=>by rw[d] at z;cases z⟩
 keep:=fun i h l f k=>f.at fun o e=>k g (by simp) o e
 item:=by
   intro X r t v M i J s N H a0 I m f y;subst r t v;obtain⟨Q,x,n,A⟩:=y;obtain⟨q,B,p,R⟩:=I.tuple n;obtain⟨u,S,T⟩:=B.get A;obtain⟨C,D,U,E,F,G⟩:=m g (by simp);refine wpAny_pyNext_tuple_item f (show s.heap.IsTuple a q.toArray from p) (x:=u) (by simpa using S) fun l L sb=>?_
   have V:Inv X J N H { s with heap:=l }:=I.turned (t':=s.toks) (fun b o j e=>(sb.2 b j).trans e) C D E F G;obtain⟨o,e,c,d⟩:=id L;exact⟨u,rfl,yn5 (s:={ s with heap:=l }) e c d (by decide) ⟨x,H,V,T,⟨rfl,fun ys Y=>by rw[I.tuple_inj Y n];exact A⟩,L,fun b j=>(m b j).1⟩⟩
 done:=by
   intro X r t v M i J s N H a0 I m f y;subst r t v;obtain⟨Q,n,A⟩:=y;obtain⟨q,B,p,R⟩:=I.tuple n;obtain⟨C,D,U,E,F,G⟩:=m g (by simp);have hl:=B.length;exact wpAny_pyNext_tuple_end (I.ok.hd M) f (show s.heap.IsTuple a q.toArray from p) (by simp;omega) fun l Z=>⟨rfl,I.turned (t':=s.toks) (fun b o j e=>Z b o j e) C D E F G⟩
 self:=fun _ _ _ _ _ f h=>wpAny_pyIter_tupleiter f h
theorem turn_range {P:Program}{w:World}{K:W.Frag}{G:Expr}(c:Addr)(lo:Int)(n:Nat):Turn P w K G (Itr lo n) [c] c (fun i h=>IsRangeIter h c (lo+(i:Nat)*1) ((n:Int)-(i:Nat)) 1) where
 mem:=by simp
 obj:=fun i h a b d=>by
   have e:b=c:=by simpa using d
   subst e;exact⟨_,a,fun v z=>by
     have J:Data.fields _=Data.cell v:=z;cases J⟩
 keep:=fun i h f a k=>k c (by simp) _ a
 item:=by
   intro X j l m p i B s F H E I g a q;subst j l m;obtain⟨r,u,L,x,y,A⟩:=g c (by simp);have W:=Walks.range (prog:=X.prog) (w:=X.w) (I.ok.hd p) c lo 1 n;refine W.item i s _ _ q a fun v f D M C N=>?_
   obtain⟨t,rfl⟩:=M;have O:Inv X B F H { s with heap:=f,toks:=D }:=I.turned (fun b o d e=>N b o (by simpa using d) e) r u x y A;refine⟨_,rfl,yn5 (s:={ s with heap:=f,toks:=D }) (n:="range_iterator") C rfl rfl (by decide) ⟨.int (lo+i),H,O,⟨t,?_⟩,⟨rfl,rfl⟩,C,fun b d=>(g b d).1⟩⟩;rw[Int.mul_one]
 done:=by
   intro X j l m p i B s F H E I g a q;subst j l m;obtain⟨r,u,L,x,y,A⟩:=g c (by simp);exact wpAny_pyNext_range_end (I.ok.hd p) a (by have:n<=i:=q;omega) fun f Q=>⟨rfl,I.turned (t':=s.toks) (fun b o d e=>Q b o d e) r u x y A⟩
 self:=fun _ _ _ _ _ a h=>wpAny_pyIter_rangeiter a h
section
variable {X:Cx} {tg:Expr}
inductive yg5 (K:W.Frag)(x:V)(H1:Hp)(R:It->Hp->Prop):Prop
 | mk (a:_)(h0:x = .ref a)(h1:(∃xs,SqL K H1 a xs))(h2:R (Itl K a) H1):yg5 K x H1 R
def iList (K:W.Frag)(tl:TE):TI:=fun σ H R=>tl σ H fun x H1=>yg5 K x H1 R
inductive yn6 (K:W.Frag)(x:V)(H1:Hp)(R:It->Hp->Prop):Prop
 | mk (a:_)(h0:x = .ref a)(h1:(∃xs,SqT K H1 a xs))(h2:R (Itt K a) H1):yn6 K x H1 R
def iTup (K:W.Frag)(tl:TE):TI:=fun σ H R=>tl σ H fun x H1=>yn6 K x H1 R
theorem zj2 {l:Expr}{f:TE}(i:PE X l f):PI X tg l (iList X.K f):=by
 intro g s t H R I h;refine thn (i g s t H _ I h) fun v c ⟨x,j,d,k,m⟩=>?_
 obtain⟨a,e,⟨w,n⟩,q⟩:=m;subst e;cases k;obtain⟨u,y,p,z⟩:=d.list n;refine wpAny_pyIter_list p.isList ?_;refine⟨c.heap.objs.size,[c.heap.objs.size],_,_,j,rfl,d.kept (t':=c.toks) fun b o e=>Qc _ e,zS2 a _,⟨_,Qj _ rfl,rfl,rfl⟩,fun b r=>?_,q⟩;have e:b=c.heap.objs.size:=by simpa using r
 subst e;exact d.fpOk (Qi _) (d.hok.fresh (Qi _))
theorem yn7 {l:Expr}{f:TE}(j:PE X l f):PI X tg l (iTup X.K f):=by
 intro g s u H R I h;refine thn (j g s u H _ I h) fun v c ⟨x,k,d,m,n⟩=>?_
 obtain⟨a,e,⟨w,r⟩,q⟩:=n;subst e;cases m;obtain⟨i,y,p,z⟩:=d.tuple r;refine wpAny_pyIter_tuple (show c.heap.IsTuple a i.toArray from p) ?_;refine⟨c.heap.objs.size,[c.heap.objs.size],_,_,k,rfl,d.kept (t':=c.toks) fun b o e=>Qc _ e,zM5 a _,⟨_,Qj _ rfl,rfl,rfl⟩,fun b t=>?_,q⟩;have e:b=c.heap.objs.size:=by simpa using t
 subst e;exact d.fpOk (Qi _) (d.hok.fresh (Qi _))
theorem ya2 {c:PL}{g:St}{H:Hp}{s:Shared}{R:It->Hp->Prop}{E:VP}{lo a:Int}{t u v:Tok}{d:Nat}(I:Inv X c g H s)(h:-(2 ^ 62)<=lo)(i:lo<2 ^ 62)(j:-(2 ^ 62)<=a)(k:a<2 ^ 62)
   (q:R (Itr lo (a-lo).toNat) H):wpAny (model X.prog X.w) X.A (pyIter (.ref s.heap.objs.size)) (PIE X c g tg R) E { s with heap:=s.heap.push { cls:=.type "range",data:=.fields #[.int lo t,.int a u,.int 1 v] },toks:=d }:=by
 refine wpAny_pyIter_range (IsRange.new ..) (small_one h i j k) ?_;have f:Inv X c g H { s with heap:=s.heap.push { cls:=.type "range",data:=.fields #[.int lo t,.int a u,.int 1 v] },toks:=d }:=I.kept fun b o e=>Qc _ e
 refine⟨(s.heap.push { cls:=.type "range",data:=.fields #[.int lo t,.int a u,.int 1 v] }).objs.size,[(s.heap.push { cls:=.type "range",data:=.fields #[.int lo t,.int a u,.int 1 v] }).objs.size],_,_,H,rfl,
   f.kept (t':=d) fun b o e=>Qc _ e,turn_range _ lo (a-lo).toNat,?_,fun b l=>?_,q⟩
 . have m:lo+((0:Nat):Int)*1=lo:=by simp
   have n:(((a-lo).toNat:Nat):Int)-((0:Nat):Int)=Builtin.Range.rangeSize lo a 1:=by rw[rangeSize_one];split<;>omega
   show IsRangeIter _ _ (lo+((0:Nat):Int)*1) ((((a-lo).toNat:Nat):Int)-((0:Nat):Int)) 1;rw[m,n];exact Qj _ rfl
 . have e:b=(s.heap.push { cls:=.type "range",data:=.fields #[.int lo t,.int a u,.int 1 v] }).objs.size:=by simpa using l
   subst e;exact f.fpOk (Qi _) (f.hok.fresh (Qi _))
inductive yg6  (vs:List V)(H1:Hp)(R:It->Hp->Prop):Prop
 | mk (j:Int)(h0:vs=[.int j])(h1:-(2 ^ 62)<=j)(h2:j<2 ^ 62)(h3:R (Itr 0 j.toNat) H1):yg6  vs H1 R
def iRng1 (ta:TA):TI:=fun σ H R=>ta σ H fun vs H1=>yg6  vs H1 R
inductive yg7  (vs:List V)(H1:Hp)(R:It->Hp->Prop):Prop
 | mk (i j:Int)(h0:vs=[.int i,.int j])(h1:(-(2 ^ 62)<=i/\i<2 ^ 62/\-(2 ^ 62)<=j/\j<2 ^ 62))(h2:R (Itr i (j-i).toNat) H1):yg7  vs H1 R
def iRng2 (ta:TA):TI:=fun σ H R=>ta σ H fun vs H1=>yg7  vs H1 R
theorem zj9 {a:Expr} {d:TA} {p c:Pos} (g:Gl X "range") (i:X.mg "range" = none) (k:PA X [a] d) (hs:starEach [a] X.env=[(false,eval a X.env)]:=by rfl):PI X tg (.Call (.Name "range" p) [a] [] c) (iRng1 d):=by
 intro f s u H R I h;refine Call_ (zI5 I g i boot_range (PyProof.Rows.callWith_type1 (thn (k c f s u H _ I h) fun v w ⟨x,y,l,m,b⟩=>?_) hs rfl));obtain⟨j,e,b,n,q⟩:=b;subst e;cases m with
 | cons r o =>
   cases o;obtain⟨t,rfl⟩:=r;exact call_range_1 (ya2 l (by omega) (by omega) b n (by simpa using q))
theorem zB1 {a b:Expr} {k:TA} {p f:Pos} (m:Gl X "range") (n:X.mg "range" = none) (o:PA X [a,b] k) (hs:starEach [a,b] X.env=[(false,eval a X.env),(false,eval b X.env)]:=by rfl) (g:starEach [b] X.env=[(false,eval b X.env)]:=by rfl) :
   PI X tg (.Call (.Name "range" p) [a,b] [] f) (iRng2 k):=by
 intro l s A H R I h;refine Call_ (zI5 I m n boot_range (PyProof.Rows.callWith_type1 (thn (o f l s A H _ I h) fun B C ⟨D,E,u,v,c⟩=>?_) (by rw[hs,g]) (by rw[g];rfl)));obtain⟨i,j,e,⟨c,w,x,y⟩,q⟩:=c;subst e;cases v with
 | cons r d =>
   cases d with
   | cons z d =>
     cases d;obtain⟨t,rfl⟩:=r;obtain⟨F,rfl⟩:=z;exact call_range_2 (ya2 u c w x y q)
def tFor (wi:TI)(g:TG)(tb:TS):TS:=fun D σ H=>wi σ H fun J H1=>∃W:Nat->Nat->St->Hp->Prop,(∃m,W 0 m σ H1)/\∀i m σ H,W i m σ H →
 (J.stop i H/\D.nx σ H)\/(J.go i H/\∃N:St->Hp->Prop,(∀σ' H',N σ' H'->∃m',m'<m/\W (i+1) m' σ' H')/\∀x H',J.yld i H x H'->g x σ H' fun σ2 H2=>tb { D with nx:=N,ct:=N,bk:=D.nx } σ2 H2)
noncomputable def zI6 (fp:List Addr)(h:Heap):List (Addr×Obj):=fp.filterMap fun b=>(h.get? b).map fun o=>(b,o)
theorem zw1 {a:List Addr}{h:Heap}{b:Addr}{o:Obj}(c:b∈a)(e:h.get? b=some o):(b,o)∈zI6 a h:=List.mem_filterMap.mpr ⟨b,c,by rw[e];rfl⟩
theorem of_pinsAt {a:List Addr}{h:Heap}{p:Addr×Obj}(c:p∈zI6 a h):p.1∈a/\h.get? p.1=some p.2:=by
 obtain⟨b,d,e⟩:=List.mem_filterMap.mp c;cases q:h.get? b with
 | none=>rw[q] at e;cases e
 | some o =>
   rw[q] at e;have f:(b,o)=p:=Qo e;subst f;exact⟨d,q⟩
theorem Inv.pinned {a:PL}{h:St}{H:Hp}{s:Shared}{c:List Addr}(I:Inv X a h H s)(i:∀b∈c,FpOk X a H b)(j:∀b∈c,∃o,s.heap.get? b=some o/\∀v,o.data≠.cell v):Inv X (a++zI6 c s.heap) h H s :=
 I.pins_of fun p k=>(Qt.mp k).elim (fun z=>I.pin p (Zh _ z)) fun z=>by
   obtain⟨f,e⟩:=of_pinsAt z;obtain⟨l,m,n,_⟩:=i p.1 f;obtain⟨o,g,d⟩:=j p.1 f;rw[e] at g;cases g;exact⟨e,l,m,n,d⟩
theorem Inv.unpinned {a pl:PL}{b:St}{H:Hp}{s:Shared}(I:Inv X (a++pl) b H s):Inv X a b H s:=I.pins_of fun p c=>I.pin p (Zh _ (Zo _ c))
theorem zh7 {v:Expr}{C:List Stmt}{F:TI}{g:TG}{G:TS}{S:Pos}(p:PassesOwn (model X.prog X.w) X.A X.env X.xe)(H:X.calm=true)(Z:PI X tg v F)(hg:PG X tg g)(a:PSs X C G)
   (hs:∀x,foldedSetIterable v X.env x=pure x:=by intro _;rfl):PS X (.For tg v C [] S) (tFor F g G):=by
 intro l a0 P a1 aa a2 a3;refine wpAny_For (thn (Z l a0 P a1 _ a2 a3) fun a4 s1 h1=>thn h1 fun a9 s2 h2=>?_) hs;obtain⟨it,q,I,ab,H2,e,I2,T,U,J,W,⟨m0,w0⟩,Q⟩:=h2;subst e;have w:∀ {j:Hp},(∀b∈q,j b=none)->∀b∈q,FpOk X l j b:=fun hn b a=>⟨hn b a,(J b a).2⟩
 refine codeAny_forLoop_any (fun n K=>∃i r j,Inv X l r j K/\I i K.heap/\(∀b∈q,j b=none)/\W i n r j) ?_ m0 ⟨0,P,H2,I2,U,fun b a=>(J b a).1,w0⟩;rintro n L ⟨i,s,u,M,D,E,w3⟩;rcases Q i n s u w3 with⟨R,qn⟩ | ⟨go,a5,hN,step⟩
 . refine wpAny_passesOwn p (thn (T.done X rfl rfl rfl H i l L s u X.xe M (w E) D R) fun a6 s4 ⟨z,I4⟩=>?_)
   subst z;exact wpAny_execs_nil ⟨s,u,I4,qn⟩
 . refine wpAny_passesOwn p (thn (T.item X rfl rfl rfl H i l L s u X.xe M (w E) D go) fun a6 s4 ⟨a7,z,h4⟩=>?_)
   subst z;refine wpAny_passesOwn p (thn h4 fun _ N ⟨x,O,I5,r5,y5,y,V⟩=>?_);have Y:=I5.pinned (w V) (T.obj _ _ y);refine wpAny_passesOwn p (thn (hg _ N s O x a7 _ Y r5 (step x O y5)) fun _ s6 ⟨σ6,H6,I6,q6⟩=>?_);refine wpAny_passesOwn p (thn (a _ s6 σ6 H6 _ I6 q6) fun a8 A k=>?_);have B:∀ {c:St} {f:Hp},Inv X (l++zI6 q N.heap) c f A->a5 c f->∃m,m<n/\∃i r j,Inv X l r j A/\I i A.heap/\(∀b∈q,j b=none)/\W i m r j:=fun {c f} h t=>by
     obtain⟨m',hm,w7⟩:=hN c f t;refine⟨m',hm,i+1,c,f,h.unpinned,T.keep _ _ _ y fun b a o e=>(h.pin (b,o) (Zh _ (Zh _ (zw1 a e)))).1,fun b a=>?_,w7⟩;obtain⟨o,e,d⟩:=T.obj _ _ y b a;exact(h.pin (b,o) (Zh _ (Zh _ (zw1 a e)))).2.1
   cases a8 with
   | next=>obtain⟨c,f,h,t⟩:=k;exact B h t
   | cont=>obtain⟨c,f,h,t⟩:=k;exact B h t
   | brk=>obtain⟨c,f,h,k⟩:=k;exact⟨c,f,h.unpinned,k⟩
   | ret a4=>obtain⟨x7,c,f,h,r7,k⟩:=k;exact⟨x7,c,f,h.unpinned,r7,k⟩
end
theorem zl4 {K:W.Frag}{a:Addr}{xs:List V}{g:TG}{l:TS}{D:Ends}{b:St}{H:Hp}(c:Nat->St->Hp->Prop)(h0:c 0 b H)(o:∀i b H,i<=xs.length->c i b H->SqL K H a xs)
   (hs:∀i x b H,xs[i]?=some x->c i b H->g x b H fun f h=>l { D with nx:=c (i+1),ct:=c (i+1),bk:=D.nx } f h) (r:∀b H,c xs.length b H->D.nx b H) :
   ∃W:Nat->Nat->St->Hp->Prop,(∃m,W 0 m b H)/\∀i m b H,W i m b H →
     ((Itl K a).stop i H/\D.nx b H)\/((Itl K a).go i H/\∃N:St->Hp->Prop,(∀j d,N j d->∃n,n<m/\W (i+1) n j d)/\∀x d,(Itl K a).yld i H x d->g x b d fun f h=>l { D with nx:=N,ct:=N,bk:=D.nx } f h):=by
 refine⟨fun i m b H=>m=xs.length-i/\i<=xs.length/\c i b H,⟨xs.length,by simp,QD _,h0⟩,?_⟩;rintro i m b H ⟨rfl,s,p⟩;have q:=o i b H s p;by_cases k:i<xs.length
 . refine .inr ⟨⟨xs,xs[i],q,by simp[k]⟩,c (i+1),fun j d t=>⟨xs.length-(i+1),by omega,rfl,k,t⟩,fun x d y=>?_⟩
   obtain⟨e,y⟩:=y;subst e;exact hs i x b _ (y xs q) p
 . have e:i=xs.length:=by omega
   subst e;exact .inl ⟨⟨xs,q,Qi _⟩,r b H p⟩
theorem zL0 {K:W.Frag}{a:Addr}{xs:List V}{g:TG}{l:TS}{D:Ends}{b:St}{H:Hp}(c:Nat->St->Hp->Prop)(h0:c 0 b H)(o:∀i b H,i<=xs.length->c i b H->SqT K H a xs)
   (hs:∀i x b H,xs[i]?=some x->c i b H->g x b H fun f h=>l { D with nx:=c (i+1),ct:=c (i+1),bk:=D.nx } f h) (r:∀b H,c xs.length b H->D.nx b H) :
   ∃W:Nat->Nat->St->Hp->Prop,(∃m,W 0 m b H)/\∀i m b H,W i m b H →
     ((Itt K a).stop i H/\D.nx b H)\/((Itt K a).go i H/\∃N:St->Hp->Prop,(∀j d,N j d->∃n,n<m/\W (i+1) n j d)/\∀x d,(Itt K a).yld i H x d->g x b d fun f h=>l { D with nx:=N,ct:=N,bk:=D.nx } f h):=by
 refine⟨fun i m b H=>m=xs.length-i/\i<=xs.length/\c i b H,⟨xs.length,by simp,QD _,h0⟩,?_⟩;rintro i m b H ⟨rfl,s,p⟩;have q:=o i b H s p;by_cases k:i<xs.length
 . refine .inr ⟨⟨xs,xs[i],q,by simp[k]⟩,c (i+1),fun j d t=>⟨xs.length-(i+1),by omega,rfl,k,t⟩,fun x d y=>?_⟩
   obtain⟨e,y⟩:=y;subst e;exact hs i x b _ (y xs q) p
 . have e:i=xs.length:=by omega
   subst e;exact .inl ⟨⟨xs,q,Qi _⟩,r b H p⟩
theorem zk0 {lo:Int}{n:Nat}{g:TG}{k:TS}{D:Ends}{a:St}{H:Hp}(b:Nat->St->Hp->Prop)(h0:b 0 a H)
   (hs:∀i a H,i<n->b i a H->g (.int (lo+i)) a H fun f h=>k { D with nx:=b (i+1),ct:=b (i+1),bk:=D.nx } f h) (o:∀a H,b n a H->D.nx a H) :
   ∃W:Nat->Nat->St->Hp->Prop,(∃m,W 0 m a H)/\∀i m a H,W i m a H →
     ((Itr lo n).stop i H/\D.nx a H)\/((Itr lo n).go i H/\∃N:St->Hp->Prop,(∀j c,N j c->∃l,l<m/\W (i+1) l j c)/\∀x c,(Itr lo n).yld i H x c->g x a c fun f h=>k { D with nx:=N,ct:=N,bk:=D.nx } f h):=by
 refine⟨fun i m a H=>m=n-i/\i<=n/\b i a H,⟨n,by simp,QD _,h0⟩,?_⟩;rintro i m a H ⟨rfl,r,p⟩;by_cases d:i<n
 . refine .inr ⟨d,b (i+1),fun j c q=>⟨n-(i+1),by omega,rfl,d,q⟩,fun x c y=>?_⟩
   obtain⟨e,y⟩:=y;subst e y;exact hs i a _ d p
 . have e:i=n:=by omega
   subst e;exact .inl ⟨Qi _,o a H p⟩
theorem zE9 {c:TT}{i:TS}{D:Ends}{a:St}{H:Hp}(g:St->Hp->Prop)(h:St->Hp->Nat)(h0:g a H)
   (hs:∀a H,g a H->c a H fun b d=>if b=true then i { D with nx:=fun e f=>g e f/\h e f<h a H,ct:=fun e f=>g e f/\h e f<h a H,bk:=D.nx } a d else D.nx a d)
   (mono:∀a H Q j,(∀b d,Q b d->j b d)->c a H Q->c a H j):yn4 c i D a H:=by
 refine⟨fun m a H=>m=h a H/\g a H,⟨_,rfl,h0⟩,?_⟩;rintro m a H ⟨rfl,p⟩;refine mono a H _ _ (fun b d q=>?_) (hs a H p);cases b with
 | true=>exact⟨_,fun e f ⟨k,l⟩=>⟨_,l,rfl,k⟩,q⟩
 | false=>exact q
noncomputable abbrev R2:=V->V->Hp->VK->Prop
def OpR (X:Cx)(f:Value->Value->Sem Value)(r:R2):Prop :=
 ∀(pins:PL) (s:Shared) (σ:St) (H:Hp) (x y:V) (v u:Value) (Q:VK),Inv X pins σ H s->RelV x v->RelV y u->r x y H Q →
   wpAny (model X.prog X.w) X.A (f v u) (EP X pins σ Q) X.xe s
def UnR (X:Cx)(f:Value->Sem Value)(r:V->Hp->VK->Prop):Prop :=
 ∀(pins:PL) (s:Shared) (σ:St) (H:Hp) (x:V) (v:Value) (Q:VK),Inv X pins σ H s->RelV x v->r x H Q →
   wpAny (model X.prog X.w) X.A (f v) (EP X pins σ Q) X.xe s
def zm4 (X:Cx)(f:Value)(r:List V->Hp->VK->Prop):Prop :=
 ∀(pins:PL) (s:Shared) (σ:St) (H:Hp) (xs:List V) (us:List Value) (Q:VK),Inv X pins σ H s->Vals xs us->r xs H Q →
   wpAny (model X.prog X.w) X.A (call f us) (EP X pins σ Q) X.xe s
def tOp (r:R2)(ta tb:TE):TE:=fun σ H Q=>ta σ H fun x H1=>tb σ H1 fun y H2=>r x y H2 Q
def tUn (r:V->Hp->VK->Prop)(ta:TE):TE:=fun σ H Q=>ta σ H fun x H1=>r x H1 Q
inductive I_rI (C:Int->Int->Prop)(g:Int->Int->V)(x:V)(y:V)(H:Hp)(Q:VK):Prop
 | mk (i j:_)(h0:x = .int i)(h1:y = .int j)(h2:C i j)(h3:Q (g i j) H):I_rI C g x y H Q
def rI (C:Int->Int->Prop)(g:Int->Int->V):R2:=fun x y H Q=>I_rI C g x y H Q
inductive ys1 (g:Int->Int->V)(x:V)(y:V)(H:Hp)(Q:VK):Prop
 | mk (i j:_)(h0:x = .int i)(h1:y = .int j)(h2:Q (g i j) H):ys1 g x y H Q
def rI0 (g:Int->Int->V):R2:=fun x y H Q=>ys1 g x y H Q
inductive I_rU (g:Int->V)(x:V)(H:Hp)(Q:VK):Prop
 | mk (i:_)(h0:x = .int i)(h1:Q (g i) H):I_rU g x H Q
def rU (g:Int->V):V->Hp->VK->Prop:=fun x H Q=>I_rU g x H Q
section
variable {X:Cx} {a b c:Expr} {ta tb tc:TE} {pos:Pos}
theorem binT (j:PE X a ta)(k:PE X b tb){e:PL}{s:Shared}{d:St}{H:Hp}{R:V->V->Hp->Prop}(I:Inv X e d H s)
   (h:ta d H fun x i=>tb d i fun y c=>R x y c) {Q:VP} {f:Value->Value->Sem Value}
   (l:∀v u g x y c,Inv X e d c g->RelV x v->RelV y u->R x y c->wpAny (model X.prog X.w) X.A (f v u) Q X.xe g) :
   wpAny (model X.prog X.w) X.A (eval a X.env) (fun v m=>wpAny (model X.prog X.w) X.A (eval b X.env) (fun u n=>wpAny (model X.prog X.w) X.A (f v u) Q X.xe n) X.xe m) X.xe s:=by
 refine thn (j e s d H _ I h) fun v o ⟨x,i,p,q,r⟩=>?_
 refine thn (k e o d i _ p r) fun u g ⟨y,c,t,w,z⟩=>?_
 exact l v u g x y c t q w z
theorem zb9 {c:Operator}{r:R2}(e:OpR X (binaryOp c) r)(f:PE X a ta)(g:PE X b tb):PE X (.BinOp a c b pos) (tOp r ta tb):=by
 intro d s n H Q I h;exact wpAny_BinOp (binT f g I h fun v u i x y j k l m q=>e d i n j x y v u Q k l m q)
theorem zm2 {c:UnaryOp}{r:V->Hp->VK->Prop}(e:UnR X (unaryOp c) r)(f:PE X a ta):PE X (.UnaryOp c a pos) (tUn r ta):=by
 intro b s d H Q I h;exact UnaryOp_ (thn (f b s d H _ I h) fun v g ⟨x,i,j,k,l⟩=>e b g d i x v Q j k l)
theorem opI {f:Value->Value->Sem Value}{C:Int->Int->Prop}{g:Int->Int->Int}
   (a:∀(i j:Int) (t u:Tok) (s:Shared) (Q:VP) (E:VP),C i j->Q (.int (g i j) s.toks) { s with toks:=s.toks+1 }->wpAny (model X.prog X.w) X.A (f (.int i t) (.int j u)) Q E s) :
   OpR X f (rI C fun i j=>.int (g i j)):=by
 intro k s l H x y v u Q I b c h;obtain⟨i,j,rfl,rfl,d,q⟩:=h;obtain⟨t,rfl⟩:=b;obtain⟨e,rfl⟩:=c;exact a i j t e s _ _ d ⟨.int (g i j),H,I.tok _,⟨_,rfl⟩,q⟩
theorem opI0 {f:Value->Value->Sem Value}{g:Int->Int->Int}
   (a:∀(i j:Int) (t u:Tok) (s:Shared) (Q:VP) (E:VP),Q (.int (g i j) s.toks) { s with toks:=s.toks+1 }->wpAny (model X.prog X.w) X.A (f (.int i t) (.int j u)) Q E s) :
   OpR X f (rI0 fun i j=>.int (g i j)):=by
 intro e s k H x y v u Q I b c h;obtain⟨i,j,rfl,rfl,q⟩:=h;obtain⟨t,rfl⟩:=b;obtain⟨d,rfl⟩:=c;exact a i j t d s _ _ ⟨.int (g i j),H,I.tok _,⟨_,rfl⟩,q⟩
theorem opB0 {f:Value->Value->Sem Value}{g:Int->Int->Bool}
   (a:∀(i j:Int) (t u:Tok) (s:Shared) (Q:VP) (E:VP),Q (.bool (g i j)) s->wpAny (model X.prog X.w) X.A (f (.int i t) (.int j u)) Q E s) :
   OpR X f (rI0 fun i j=>.bl (g i j)):=by
 intro e s k H x y v u Q I b c h;obtain⟨i,j,rfl,rfl,q⟩:=h;obtain⟨t,rfl⟩:=b;obtain⟨d,rfl⟩:=c;exact a i j t d s _ _ ⟨.bl (g i j),H,I,rfl,q⟩
def CDiv (i j:Int):Prop:=0<j/\j<1073741824
def CMul (i j:Int):Prop:=(-(2 ^ 64)<i/\i<2 ^ 64)\/(-(2 ^ 64)<j/\j<2 ^ 64)
theorem CMul.ok {i j:Int}(h:CMul i j):IntMulOk i j:=by
 rcases h with⟨a,b⟩ | ⟨a,b⟩
 . exact .of_left (intBits_le_64 a b)
 . exact .of_right (intBits_le_64 a b)
theorem zf4:OpR X (binaryOp .Add) (rI0 fun i j=>.int (i+j)):=opI0 fun _ _ _ _ _ _ _ q=>add_int q
theorem zg4:OpR X (binaryOp .Sub) (rI0 fun i j=>.int (i-j)):=opI0 fun _ _ _ _ _ _ _ q=>sub_int q
theorem zm5:OpR X (binaryOp .Mult) (rI CMul fun i j=>.int (i*j)):=opI fun _ _ _ _ _ _ _ a q=>mul_int q a.ok
theorem zl8:OpR X (binaryOp .FloorDiv) (rI CDiv fun i j=>.int (i / j)):=opI fun i j _ _ _ _ _ a q=>by
 have b:(0:Int)<j:=a.1;have c:j<1073741824:=a.2;exact floordiv_int (by omega) (by rw[Int.fdiv_eq_ediv_of_nonneg i (by omega)];exact q) (.inl (PyProof.noPylong_small (by omega)))
theorem zf0:OpR X (binaryOp .Mod) (rI (fun _ j=>0<j) fun i j=>.int (i % j)):=opI fun i j _ _ _ _ _ a q=>by
 have b:(0:Int)<j:=a;exact mod_int' (by omega) (by rw[Int.fmod_eq_emod_of_nonneg i (by omega)];exact q)
theorem unI {f:Value->Sem Value}{g:Int->Int}
   (a:∀(i:Int) (t:Tok) (s:Shared) (Q:VP) (E:VP),Q (.int (g i) s.toks) { s with toks:=s.toks+1 }->wpAny (model X.prog X.w) X.A (f (.int i t)) Q E s) :
   UnR X f (rU fun i=>.int (g i)):=by
 intro c s d H x v Q I b h;obtain⟨i,rfl,q⟩:=h;obtain⟨t,rfl⟩:=b;exact a i t s _ _ ⟨.int (g i),H,I.tok _,⟨_,rfl⟩,q⟩
theorem zi4:UnR X (unaryOp .USub) (rU fun i=>.int (-i)):=unI fun _ _ _ _ _ q=>neg_int q
end
noncomputable def scal:V->V->Bool
 | .non,.non=>true | .non,.int _=>true | .int _,.non=>true | .non,.bl _=>true | .bl _,.non=>true | .non,.str _=>true | .str _,.non=>true
 | .int _,.int _=>true | .bl _,.bl _=>true | .str _,.str _=>true | .byt _,.byt _=>true
 | .int _,.str _=>true | .str _,.int _=>true | .bl _,.str _=>true | .str _,.bl _=>true
 | _,_=>false
inductive ys2 (x y:V)(H:Hp)(Q:VK):Prop
 | mk (h0:scal x y=true)(h1:Q (.bl (decide (x=y))) H):ys2 x y H Q
def rEq:R2:=fun x y H Q=>ys2 x y H Q
inductive ys3 (x y:V)(H:Hp)(Q:VK):Prop
 | mk (h0:scal x y=true)(h1:Q (.bl (!decide (x=y))) H):ys3 x y H Q
def rNe:R2:=fun x y H Q=>ys3 x y H Q
theorem zX6 {i j:Int}:decide (V.int i=V.int j)=(i == j):=by
 rw[Bool.eq_iff_iff];simp
theorem yf6 {i j:Bool}:decide (V.bl i=V.bl j)=(i == j):=by
 rw[Bool.eq_iff_iff];simp
theorem zX7 {i j:Str}:decide (V.str i=V.str j)=(i == j):=by
 rw[Bool.eq_iff_iff];simp
theorem yg8 {i j:Array UInt8}:decide (V.byt i=V.byt j)=(i.toList == j.toList):=by
 rw[Bool.eq_iff_iff];cases i;cases j;simp
section
variable {X:Cx} {a b c:Expr} {ta tb tc:TE} {pos:Pos}
theorem zd9 {a:PL}{c:St}{H:Hp}{s:Shared}{Q:VK}{k b:Bool}(I:Inv X a c H s)(q:Q (.bl k) H)(e:k=b):EP X a c Q (.bool b) s:=by
 subst e;exact⟨.bl k,H,I,rfl,q⟩
theorem zi9:OpR X (compareOp .Eq) rEq:=by
 intro e s f H x y v u Q I d a h;obtain⟨c,q⟩:=h;cases x with
 | non =>
   cases d;cases y with
   | non=>cases a;exact PySem.EqNone.eq_none_none (zd9 I q (by simp))
   | bl j=>cases a;exact PySem.EqNone.eq_none_bool (zd9 I q (by simp))
   | int j=>obtain⟨b,rfl⟩:=a;exact PySem.EqNone.eq_none_int (zd9 I q (by simp))
   | str j=>obtain⟨b,rfl⟩:=a;exact PySem.EqNone.eq_none_str (zd9 I q (by simp))
   | _=>exact absurd (show false=true from c) Qu
 | bl i =>
   cases d;cases y with
   | non=>cases a;exact PySem.EqNone.eq_bool_none (zd9 I q (by simp))
   | bl j=>cases a;exact eq_bool (zd9 I q yf6)
   | str j=>obtain⟨b,rfl⟩:=a;exact PySem.EqMixed.eq_bool_str (zd9 I q (by simp))
   | _=>exact absurd (show false=true from c) Qu
 | int i =>
   obtain⟨t,rfl⟩:=d;cases y with
   | non=>cases a;exact PySem.EqNone.eq_int_none (zd9 I q (by simp))
   | int j=>obtain⟨b,rfl⟩:=a;exact eq_int (zd9 I q zX6)
   | str j=>obtain⟨b,rfl⟩:=a;exact PySem.EqMixed.eq_int_str (zd9 I q (by simp))
   | _=>exact absurd (show false=true from c) Qu
 | str i =>
   obtain⟨t,rfl⟩:=d;cases y with
   | non=>cases a;exact PySem.EqNone.eq_str_none (zd9 I q (by simp))
   | bl j=>cases a;exact PySem.EqMixed.eq_str_bool (zd9 I q (by simp))
   | int j=>obtain⟨b,rfl⟩:=a;exact PySem.EqMixed.eq_str_int (zd9 I q (by simp))
   | str j=>obtain⟨b,rfl⟩:=a;exact eq_str (zd9 I q zX7)
   | _=>exact absurd (show false=true from c) Qu
 | byt i =>
   obtain⟨t,rfl⟩:=d;cases y with
   | byt j=>obtain⟨b,rfl⟩:=a;exact W.eq_bytes (zd9 I q yg8)
   | _=>exact absurd (show false=true from c) Qu
 | _=>cases y<;>exact absurd (show false=true from c) Qu
theorem zn7:OpR X (compareOp .NotEq) rNe:=by
 intro e s f H x y v u Q I d a h;obtain⟨c,q⟩:=h;cases x with
 | non =>
   cases d;cases y with
   | non=>cases a;exact PySem.EqNone.ne_none_none (zd9 I q (by simp))
   | bl j=>cases a;exact PySem.EqNone.ne_none_bool (zd9 I q (by simp))
   | int j=>obtain⟨b,rfl⟩:=a;exact PySem.EqNone.ne_none_int (zd9 I q (by simp))
   | str j=>obtain⟨b,rfl⟩:=a;exact PySem.EqNone.ne_none_str (zd9 I q (by simp))
   | _=>exact absurd (show false=true from c) Qu
 | bl i =>
   cases d;cases y with
   | non=>cases a;exact PySem.EqNone.ne_bool_none (zd9 I q (by simp))
   | bl j=>cases a;exact ne_bool (zd9 I q (congrArg not yf6))
   | str j=>obtain⟨b,rfl⟩:=a;exact PySem.EqMixed.ne_bool_str (zd9 I q (by simp))
   | _=>exact absurd (show false=true from c) Qu
 | int i =>
   obtain⟨t,rfl⟩:=d;cases y with
   | non=>cases a;exact PySem.EqNone.ne_int_none (zd9 I q (by simp))
   | int j=>obtain⟨b,rfl⟩:=a;exact ne_int (zd9 I q (congrArg not zX6))
   | str j=>obtain⟨b,rfl⟩:=a;exact PySem.EqMixed.ne_int_str (zd9 I q (by simp))
   | _=>exact absurd (show false=true from c) Qu
 | str i =>
   obtain⟨t,rfl⟩:=d;cases y with
   | non=>cases a;exact PySem.EqNone.ne_str_none (zd9 I q (by simp))
   | bl j=>cases a;exact PySem.EqMixed.ne_str_bool (zd9 I q (by simp))
   | int j=>obtain⟨b,rfl⟩:=a;exact PySem.EqMixed.ne_str_int (zd9 I q (by simp))
   | str j=>obtain⟨b,rfl⟩:=a;exact ne_str (zd9 I q (congrArg not zX7))
   | _=>exact absurd (show false=true from c) Qu
 | byt i =>
   obtain⟨t,rfl⟩:=d;cases y with
   | byt j=>obtain⟨b,rfl⟩:=a;exact W.ne_bytes (zd9 I q (congrArg not yg8))
   | _=>exact absurd (show false=true from c) Qu
 | _=>cases y<;>exact absurd (show false=true from c) Qu
theorem zM6:OpR X (compareOp .Lt) (rI0 fun i j=>.bl (decide (i<j))):=opB0 fun _ _ _ _ _ _ _ q=>lt_int q
theorem ya3:OpR X (compareOp .LtE) (rI0 fun i j=>.bl (decide (i<=j))):=opB0 fun _ _ _ _ _ _ _ q=>le_int q
theorem zy3:OpR X (compareOp .Gt) (rI0 fun i j=>.bl (decide (j<i))):=opB0 fun _ _ _ _ _ _ _ q=>gt_int q
theorem yg9:OpR X (compareOp .GtE) (rI0 fun i j=>.bl (decide (j<=i))):=opB0 fun _ _ _ _ _ _ _ q=>ge_int q
theorem yn8:OpR X (compareOp .Is) (fun x y H Q=>y = .non/\Q (.bl (decide (x = .non))) H):=by
 intro c s d H x y v u Q I a b h;obtain⟨rfl,q⟩:=h;cases b;refine is_none_gen (zd9 I q ?_)
 cases x<;>first
   | (cases a;rfl)
   | (obtain⟨t,rfl⟩:=a;rfl)
theorem zX8:OpR X (compareOp .IsNot) (fun x y H Q=>y = .non/\Q (.bl (!decide (x = .non))) H):=by
 intro c s d H x y v u Q I a b h;obtain⟨rfl,q⟩:=h;cases b;refine isnot_none_gen (zd9 I q ?_)
 cases x<;>first
   | (cases a;rfl)
   | (obtain⟨t,rfl⟩:=a;rfl)
theorem zc1 (b:Expr){a:CmpOp}(h:a≠.In:=by decide)(c:a≠.NotIn:=by decide):behindInMarks a b=false:=by
 have d:(a == CmpOp.In)=false:=by cases a<;>first | rfl | exact absurd rfl h
 have e:(a == CmpOp.NotIn)=false:=by cases a<;>first | rfl | exact absurd rfl c
 cases b<;>simp[behindInMarks,d,e]
theorem zg7 {c:CmpOp}{r:R2}(e:OpR X (compareOp c) r)(f:PE X a ta)(g:PE X b tb)(i:behindInMarks c b=false):PE X (.Compare a [c] [b] pos) (tOp r ta tb):=by
 intro d s o H Q I h;exact wpAny_Compare1 (binT f g I h fun v u j x y k l m n q=>e d j o k x y v u Q l m n q) i
inductive yh0  (x:V)(H':Hp)(Q:Bool->Hp->Prop):Prop
 | mk (k:_)(h0:x = .bl k)(h1:Q k H'):yh0  x H' Q
def tTest (t:TE):TT:=fun σ H Q=>t σ H fun x H'=>yh0  x H' Q
theorem zc2 {f:CmpOp}{r:R2}(i:OpR X (compareOp f) r)(j:PE X a ta)(l:PE X b tb)(m:behindInMarks f b=false):PT X (.Compare a [f] [b] pos) (tTest (tOp r ta tb)):=by
 intro d s g H Q I h;refine wpAny_isTrue_Compare1 (thn (j d s g H _ I h) fun v n ⟨x,o,p,q,t⟩=>thn (l d n g o _ p t) fun u w ⟨y,A,B,C,D⟩ =>
   thn (i d w g A x y v u _ B q C D) fun c K ⟨z,E,F,G,k,e,J⟩=>?_) m
 subst e;cases G;exact wpAny_truthy_bool ⟨E,F,J⟩
theorem zM7:(sizeLine:Nat)<2 ^ 63:=by rw[sizeLine_eq];decide
theorem zx8 {x:V}{us:List Value}(r:Vals [x] us):∃u,us=[u]/\RelV x u:=by
 cases r with
 | cons a b=>cases b;exact⟨_,rfl,a⟩
theorem ya4 {x y:V}{us:List Value}(r:Vals [x,y] us):∃u a,us=[u,a]/\RelV x u/\RelV y a:=by
 cases r with
 | cons b c =>
   cases c with
   | cons d e=>cases e;exact⟨_,_,rfl,b,d⟩
theorem zh3:zm4 X (.builtin "abs") (fun a H Q=>∃i,a=[.int i]/\Q (.int (if i<0 then -i else i)) H):=by
 intro b s e H a c Q I r h;obtain⟨i,rfl,q⟩:=h;obtain⟨u,rfl,t,rfl⟩:=zx8 r;exact call_abs_int fun u d=>⟨.int (if i<0 then -i else i),H,I.tok _,⟨_,rfl⟩,q⟩
theorem zu2 (c:X.calm=true):zm4 X (.builtin "max") (fun b H Q=>∃i j,b=[.int i,.int j]/\Q (.int (if j>i then j else i)) H):=by
 intro d s n H b e Q I r h;obtain⟨i,j,rfl,q⟩:=h;obtain⟨u,f,rfl,⟨t,rfl⟩,⟨g,rfl⟩⟩:=ya4 r;refine max_two_ints (I.ok.hd c) fun l m k=>⟨_,H,I.kept k,?_,q⟩
 by_cases a:j>i
 . rw[Ql a,Ql a];exact⟨_,rfl⟩
 . rw[Qh a,Qh a];exact⟨_,rfl⟩
theorem zI7 (c:X.calm=true):zm4 X (.builtin "min") (fun b H Q=>∃i j,b=[.int i,.int j]/\Q (.int (if j<i then j else i)) H):=by
 intro d s n H b e Q I r h;obtain⟨i,j,rfl,q⟩:=h;obtain⟨u,f,rfl,⟨t,rfl⟩,⟨g,rfl⟩⟩:=ya4 r;refine min_two_ints (I.ok.hd c) fun l m k=>⟨_,H,I.kept k,?_,q⟩
 by_cases a:j<i
 . rw[Ql a,Ql a];exact⟨_,rfl⟩
 . rw[Qh a,Qh a];exact⟨_,rfl⟩
end
structure ObjM (h:Heap)(x dx C:Addr)(mA:Str->Option Value):Prop where
 obj:h.get? x=some (W.instObj C dx)
 ns:h.Ns1 dx mA
 ne:dx≠x
theorem lookIn_ns {h:Heap}{c:Addr}{mA:Str->Option Value}(n:h.Ns1 c mA):∃d,h.get? c=some d/\∀b,W.lookIn b d=some (mA b):=by
 obtain⟨o,f,r,i,j,k,_,l⟩:=n;refine⟨o,i,fun b=>?_⟩;have e:=l b;unfold nsFind findBy at e;rw[<-Array.find?_toList] at e;unfold W.lookIn;rw[j];dsimp only
 split
 . rename_i y q
   rw[q] at e;exact congrArg some e
 . rename_i q
   rw[q] at e;have a:f.toList.any (·.refKey)=false:=by
     rw[List.any_eq_false];intro y m;obtain⟨z,t,g⟩:=k y (Array.mem_toList_iff.mp m);simp[DictEntry.refKey,g]
   have p:¬ f.toList.any (·.refKey)=true:=by rw[a];exact Qu
   rw[Qh p];exact congrArg some e
theorem ObjM.look {h:Heap}{x c C:Addr}{mA:Str->Option Value}(I:ObjM h x c C mA):∃a,W.InstAt h x (W.instObj C c) C (some a)/\∀b,W.lookIn b a=some (mA b) :=
 let⟨a,d,e⟩:=lookIn_ns I.ns
 ⟨a,⟨I.obj,rfl,rfl,d⟩,e⟩
section
variable {prog:Program} {w:World} {A:Around} {E:VP} {s:Shared} {K:W.Frag} {x dx C f:Addr} {mA:Str->Option Value} {name:Str} {v:Value}
theorem get_map {a:Bool}{Q:VP}(X:K.In s.heap)(I:ObjM s.heap x dx C mA)(c:W.plainGet K C name=true)(d:W.hasDictIn K C=true)
   (e:W.findIn K (.ref C) name=some none) (f:mA name=some v) (b:W.handedIn v=true) (h:Q v { s with toks:=s.toks+1 }) :
   wpAny (model prog w) A (getAttr (.ref x) name a) Q E s:=by
 obtain⟨i,J,g⟩:=I.look;exact W.get_value X J (W.plainGet_of c).1 (W.findObj_own d e rfl (by rw[g,f])) b h
theorem get_meth {pl:Sem Bool}{Q:Value×List Value->Shared->Prop}(X:K.In s.heap)(I:ObjM s.heap x dx C mA)(a:W.plainGet K C name=true)
   (b:W.findIn K (.ref C) name=some (some (.ref f))) (c:W.isFn K (.ref f)=true) (d:mA name=none) (h:Q (.ref f,[.ref x]) s) :
   wpAny (model prog w) A (getMethod (.ref x) name pl) Q E s:=by
 obtain⟨e,J,g⟩:=I.look;exact W.method_fn X J (W.plainGet_of a).1 (W.plainGet_of a).2 b (beq_iff_eq.mp c) (by show(W.lookIn name e).map (·.isSome)=some false;rw[g,d];rfl) h
theorem set_map {ns:List Str}{Q:Unit->Shared->Prop}(X:K.In s.heap)(I:ObjM s.heap x dx C mA)
   (hs:W.findIn K (.ref C) "__setattr__" = some (some (.builtin "object.__setattr__"))) (k:W.plainOver K C=true) (l:W.takerIn K C name=some none) (m:W.hasDictIn K C=true)
   (n:PySem.Within mA ns) (hsz:ns.length<=sizeLine)
   (h:∀c,ObjM c x dx C (fun y=>if y=name then some v else mA y)->Heap.SameBut dx s.heap c->Q () { s with heap:=c,toks:=s.toks+2 }) :
   wpAny (model prog w) A (setAttr (.ref x) name v) Q E s:=by
 obtain⟨u,J,z⟩:=I.look;refine W.set_plain X J hs (W.osa_open (s:={ s with toks:=s.toks+1 }) (r:=none) X J k l fun b=>?_);obtain⟨B,o,f⟩:=W.any_some m;have p:s.heap.get? x=some ⟨.ref C,some dx,.plain,#[]⟩:=I.obj;refine Qa (Qd (Qa (Qa (wpAny_loadPart p (Qa (W.Looks.here (s:={ s with toks:=s.toks+1 }) (W.looks_clsIn X o) ?_))))));rw[f];refine Qd (a:=some dx) (Qa (Qd (Qa ?_)));refine wpAny_nsSet1 (s:={ s with toks:=s.toks+1 }) I.ns fun c d e=>?_
 obtain⟨D,q,t,g,i,j⟩:=d.count (PySem.Within.cons name v n);refine Qa (wpAny_lookBehind g (by rw[i];exact pastItsLine_dict (QK j (by rw[Qz];omega))) ?_);exact Qd (h _ ⟨(e.2 _ (Ne.symm I.ne)).trans I.obj,d,I.ne⟩ e)
theorem make_map {R:Result->Shared->Prop}{vs:List Value}{a:List (Str×Value)}(X:K.In s.heap)(b:W.makesIn K C=true)
   (c:W.findIn K (.ref C) "__init__" = some (some (.ref f))) (e:W.typeIn K (.ref f)=some (.type "function"))
   (h:codeAny (model prog w) (A.under (.builtin "type.__call__" ⟨.ref C::vs,a⟩)) (.call (.ref f) ⟨.ref (s.heap.objs.size+1)::vs,a⟩) (W.InitBack (s.heap.objs.size+1) R)
     { s with heap:=(s.heap.push W.emptyDict).push (W.instObj C s.heap.objs.size) }) :
   codeAny (model prog w) A (.call (.ref C) ⟨vs,a⟩) R s:=by
 obtain⟨i,g,d,t,j⟩:=s;exact W.make_core (W.makes_of X b) (W.looks_findIn X c) (fun self=>W.bind_fn X self e) (.inl rfl) h
end
noncomputable def putF (f:Str)(v:V):List (Str×V)->List (Str×V)
 | []=>[(f,v)]
 | (g,x)::r=>if g=f then(g,v)::r else(g,x)::putF f v r
theorem zb1 (f g:Str)(v:V):∀fs:List (Str×V),(putF f v fs).lookup g=if g=f then some v else fs.lookup g
 | []=>by
   show List.lookup g [(f,v)]=_;by_cases h:g=f
   . have a:(g == f)=true:=beq_iff_eq.mpr h
     simp only[List.lookup,a,Ql h]
   . have a:(g == f)=false:=beq_eq_false_iff_ne.mpr h
     simp only[List.lookup,a,Qh h]
 | (k,x)::r=>by
   have c:=zb1 f g v r;rw[show putF f v ((k,x)::r)=(if k=f then(k,v)::r else(k,x)::putF f v r) from rfl];by_cases b:k=f
   . rw[Ql b]
     by_cases h:g=k
     . have a:(g == k)=true:=beq_iff_eq.mpr h
       simp only[List.lookup,a,Ql (h.trans b)]
     . have a:(g == k)=false:=beq_eq_false_iff_ne.mpr h
       simp only[List.lookup,a,Qh (fun e:g=f=>h (e.trans b.symm))]
   . rw[Qh b]
     by_cases h:g=k
     . have a:(g == k)=true:=beq_iff_eq.mpr h
       simp only[List.lookup,a,Qh (fun e:g=f=>b (h.symm.trans e))]
     . have a:(g == k)=false:=beq_eq_false_iff_ne.mpr h
       simp only[List.lookup,a];exact c
theorem zu3 (f:Str)(v:V):∀fs:List (Str×V),f∈(putF f v fs).map (·.1)/\∀g,g∈fs.map (·.1)->g∈(putF f v fs).map (·.1)
 | []=>⟨by simp[putF],fun g h=>by simp at h⟩
 | (k,x)::r=>by
   obtain⟨b,c⟩:=zu3 f v r;rw[show putF f v ((k,x)::r)=(if k=f then(k,v)::r else(k,x)::putF f v r) from rfl];by_cases a:k=f
   . rw[Ql a]
     subst a;exact⟨by simp,fun g h=>by simpa using h⟩
   . rw[Qh a]
     refine⟨?_,fun g h=>?_⟩
     . rw[QL]
       exact QH _ b
     . rw[QL] at h ⊢
       rcases Qn.mp h with e | e
       . exact Qn.mpr (.inl e)
       . exact QH _ (c g e)
theorem zo9 (f:Str)(v:V):∀fs:List (Str×V),(putF f v fs).length<=fs.length+1
 | []=>by simp[putF]
 | (k,x)::r=>by
   have b:=zo9 f v r;rw[show putF f v ((k,x)::r)=(if k=f then(k,v)::r else(k,x)::putF f v r) from rfl];by_cases a:k=f
   . rw[Ql a,Qz,Qz];omega
   . rw[Qh a,Qz,Qz];omega
theorem RelO.some_of {v:V}{o:Option Value}(r:RelO (some v) o):∃u,o=some u/\RelV v u:=by
 cases o with
 | none=>exact(show False from r).elim
 | some u=>exact⟨u,rfl,r⟩
theorem RelO.none_of {o:Option Value}(r:RelO none o):o=none:=by
 cases o with
 | none=>rfl
 | some u=>exact(show False from r).elim
theorem handed_of {v:V}{u:Value}(r:RelV v u):W.handedIn u=true:=by
 cases v with
 | non=>cases (show u=Value.none from r);rfl
 | bl b=>cases (show u=Value.bool b from r);rfl
 | int i=>obtain⟨t,e⟩:=(show ∃t,u=Value.int i t from r);cases e;rfl
 | str x=>obtain⟨t,e⟩:=(show ∃t,u=Value.str x t from r);cases e;rfl
 | byt b=>obtain⟨t,e⟩:=(show ∃t,u=Value.bytes b t from r);cases e;rfl
 | flt b=>obtain⟨t,e⟩:=(show ∃t,u=Value.float b t from r);cases e;rfl
 | ref a=>cases (show u=Value.ref a from r);rfl
 | ty n=>cases (show u=Value.type n from r);rfl
section
variable {P:Program} {w:World} {H H':Hp} {h h':Heap} {a C dx:Addr} {fs fs':List (Str×V)}
theorem zL1 (c:HOk P w H h)(e:H a=some (.ins C dx fs)):∃b,ObjM h a dx C b/\(∀f,RelO (fs.lookup f) (b f))/\PySem.Within b (fs.map (·.1))/\fs.length<=1000/\H dx=some (.own a):=by
 obtain⟨d,z,g,i,b,n,r,q⟩:=(show ze9 P w H h a (.ins C dx fs) from c a _ e);exact⟨b,⟨i,n,g⟩,r,q,z,d⟩
end
structure Cls (K:W.Frag)(C:Addr):Prop where
 pg:W.plainGet K C Str.empty=true
 hd:W.hasDictIn K C=true
 po:W.plainOver K C=true
 sa:W.findIn K (.ref C) "__setattr__" = some (some (.builtin "object.__setattr__"))
theorem Cls.get {K:W.Frag}{C:Addr}(c:Cls K C)(f:Str):W.plainGet K C f=true:=c.pg
def zf1 (K:W.Frag)(C:Addr)(f:Str):Prop:=W.findIn K (.ref C) f=some none
theorem zf1.taker {K:W.Frag}{C:Addr}{f:Str}(n:zf1 K C f):W.takerIn K C f=some none:=by
 unfold W.takerIn;rw[show W.findIn K (.ref C) f=some none from n];rfl
structure Meth (K:W.Frag)(C:Addr)(m:Str)(f:Addr):Prop where
 at_:W.findIn K (.ref C) m=some (some (.ref f))
 fn:W.isFn K (.ref f)=true
 kp:W.keepIn K (.ref f)=true
section
variable {X:Cx} {pins:PL} {σ:St} {H:Hp} {s:Shared} {a C dx:Addr} {fs:List (Str×V)} {f:Str} {v:V} {A:Around} {E:VP}
theorem getattr_ok {b:Bool}{Q:VP}(I:Inv X pins σ H s)(e:H a=some (.ins C dx fs))(c:Cls X.K C)(n:zf1 X.K C f)(l:fs.lookup f=some v)
   (h:∀u d,Inv X pins σ H d->RelV v u->Q u d):wpAny (model X.prog X.w) A (getAttr (.ref a) f b) Q E s:=by
 obtain⟨i,O,r,_,_,_⟩:=zL1 I.hok e;obtain⟨u,j,g⟩:=RelO.some_of (v:=v) (o:=i f) (by rw[<-l];exact r f);exact get_map I.kIn O (c.get f) c.hd n j (handed_of g) (h u _ (I.tok _) g)
theorem zM8 {m:Str}{g:Addr}{pl:Sem Bool}{Q:Value×List Value->Shared->Prop}(I:Inv X pins σ H s)(e:H a=some (.ins C dx fs))(c:Cls X.K C)(k:Meth X.K C m g)(l:fs.lookup m=none)
   (h:Q (.ref g,[.ref a]) s):wpAny (model X.prog X.w) A (getMethod (.ref a) m pl) Q E s:=by
 obtain⟨b,O,r,_,_,_⟩:=zL1 I.hok e;have d:b m=none:=RelO.none_of (by rw[<-l];exact r m);exact get_meth I.kIn O (c.get m) k.at_ k.fn d h
theorem setattr_ok {y:V}{u:Value}{Q:Unit->Shared->Prop}(I:Inv X pins σ H s)(e:H a=some (.ins C dx fs))(c:Cls X.K C)(n:zf1 X.K C f)(F:fs.length<1000)(m:RelV y u)
   (h:∀i,Inv X pins σ (upd H a (.ins C dx (putF f y fs))) i->Q () i):wpAny (model X.prog X.w) A (setAttr (.ref a) f u) Q E s:=by
 obtain⟨j,O,r,k,_,l⟩:=zL1 I.hok e;have p:(fs.map (·.1)).length<=sizeLine:=by rw[Qb,sizeLine_eq];omega
 refine set_map I.kIn O c.sa c.po n.taker c.hd k p fun t d sb=>h _ ?_
 have v:∃o,t.get? dx=some o:=let⟨o,_,_,w,_⟩:=d.ns;⟨o,w⟩;refine I.write (x:=a) (e:=dx) (by rw[e];exact True.intro) (.inr l) (fun b q B z=>(sb.2 b B).trans z) v ?_;refine⟨by rw[za7 O.ne];exact l,?_,O.ne,d.obj,_,d.ns,fun g=>?_,fun g D=>?_⟩
 . have:=zo9 f y fs;omega
 . show RelO ((putF f y fs).lookup g) (if g=f then some u else j g)
   rw[zb1];by_cases q:g=f
   . rw[Ql q,Ql q];exact m
   . rw[Qh q,Qh q];exact r g
 . by_cases q:g=f
   . rw[q];exact(zu3 f y fs).1
   . refine(zu3 f y fs).2 g (k g fun z=>D ?_)
     show(if g=f then some u else j g)=none;rw[Qh q];exact z
theorem Inv.made (I:Inv X pins σ H s):Inv X pins σ (upd (upd H s.heap.objs.size (.own (s.heap.objs.size+1))) (s.heap.objs.size+1) (.ins C s.heap.objs.size []))
   { s with heap:=(s.heap.push W.emptyDict).push (W.instObj C s.heap.objs.size) }:=by
 have c:(s.heap.push W.emptyDict).get? s.heap.objs.size=some W.emptyDict:=Qj s.heap rfl;have f:((s.heap.push W.emptyDict).push (W.instObj C s.heap.objs.size)).get? (s.heap.objs.size+1)=some (W.instObj C s.heap.objs.size):=by
   have:=Qj (s.heap.push W.emptyDict) (o:=W.instObj C s.heap.objs.size) rfl
   rwa [Zw] at this
 have g:(s.heap.push W.emptyDict).Ns s.heap.objs.size (fun _=>none):=⟨W.emptyDict,#[],_,c,rfl,(fun e h=>absurd h (by simp)),fun _=>rfl⟩;have i:=I.laid (a:=s.heap.objs.size) (o:=.own (s.heap.objs.size+1)) (h':=s.heap.push W.emptyDict) (t':=s.toks) (fun b u q=>Qc _ q) (Qi _) ⟨_,c⟩;refine i.laid (a:=s.heap.objs.size+1) (o:=.ins C s.heap.objs.size []) (t':=s.toks) (fun b u q=>Qc _ q) (Nat.le_of_eq (Zw _ _)) ?_;have d:s.heap.objs.size≠s.heap.objs.size+1:=QF (Nat.lt_succ_self _);refine⟨by rw[za7 d,za3],QD _,d,f,fun _=>none,(Heap.Ns1.of_empty g).at fun o q=>Qc _ q,fun _=>True.intro,fun y j=>absurd rfl j⟩
theorem attr_of {prog:Program}{w:World}{env:Env}{e:Expr}{f:Str}{a:Pos}{s:Shared}{Q:VP}(b:attributeBase e f env (eval e env)=eval e env)
   (h:wpAny (model prog w) A (eval e env) (fun o c=>wpAny (model prog w) A (getAttr o f true) Q E c) E s):wpAny (model prog w) A (eval (.Attribute e f a) env) Q E s :=
 Attribute_any_ h (by rw[arm_eval_Attribute,b])
end
inductive yn9 (K:W.Frag)(f:Str)(x:V)(H1:Hp)(Q:VK):Prop
 | mk (a C dx fs v:_)(h0:x = .ref a)(h1:H1 a=some (.ins C dx fs))(h2:Cls K C)(h3:zf1 K C f)(h4:fs.lookup f=some v)(h5:Q v H1):yn9 K f x H1 Q
def tFld (K:W.Frag)(ta:TE)(f:Str):TE:=fun σ H Q=>ta σ H fun x H1=>yn9 K f x H1 Q
inductive yo0 (K:W.Frag)(f:Str)(y:V)(D:Ends)(σ:St)(x:V)(H2:Hp):Prop
 | mk (a C dx fs:_)(h0:x = .ref a)(h1:H2 a=some (.ins C dx fs))(h2:Cls K C)(h3:zf1 K C f)(h4:fs.length<1000)(h5:D.nx σ (upd H2 a (.ins C dx (putF f y fs)))):yo0 K f y D σ x H2
def sFld (K:W.Frag)(ta tv:TE)(f:Str):TS:=fun D σ H=>tv σ H fun y H1=>ta σ H1 fun x H2=>yo0 K f y D σ x H2
section
variable {X:Cx} {o e value:Expr} {f:Str} {pos pos' tpos:Pos} {ta tv:TE}
theorem zc4 (d:PE X e ta)(g:attributeBase e f X.env (eval e X.env)=eval e X.env):PE X (.Attribute e f pos) (tFld X.K ta f):=by
 intro b s r H Q I h;refine attr_of g (thn (d b s r H _ I h) fun u t ⟨x,i,j,k,a,C,w,fs,v,ex,m,c,n,l,q⟩=>?_);subst ex;obtain rfl:u=Value.ref a:=k;exact getattr_ok j m c n l fun y z o p=>⟨v,i,o,p,q⟩
theorem zj3 (e:PE X o ta)(g:PE X value tv)(hs:swapsWith value (some (.Attribute o f pos')) pos.line X.env=pure false):PS X (.Assign [.Attribute o f pos'] value pos) (sFld X.K ta tv f):=by
 intro d s b H D I h;refine plainObj_wpAny_Assign_Attribute (thn (g d s b H _ I h) fun u i ⟨y,j,k,m,q⟩=>thn (e d i b j _ k q) fun p A ⟨x,B,r,t,a,C,E,fs,ex,v,c,n,l,w⟩=>?_) hs;subst ex;obtain rfl:p=Value.ref a:=t;exact setattr_ok r v c n l m fun F z=>⟨b,_,z,w⟩
end
section
variable {X:Cx} {pins:PL} {σ:St} {H:Hp} {s:Shared} {A:Around} {E:VP} {Q:VP} {c:Value} {b:Bool}
inductive TyOf (K:W.Frag)(H:Hp):V->Value->Prop where
 | non:TyOf K H .non (.type "NoneType")
 | bl (x:Bool):TyOf K H (.bl x) (.type "bool")
 | int (i:Int):TyOf K H (.int i) (.type "int")
 | str (x:Str):TyOf K H (.str x) (.type "str")
 | flt (x:UInt64):TyOf K H (.flt x) (.type "float")
 | lst {a:Addr} {xs:List V} (e:H a=some (.lst xs)):TyOf K H (.ref a) (.type "list")
 | frz {a:Addr} {o:Obj} {xs:List V} (e:H a=some (.frz o (.lst xs))):TyOf K H (.ref a) (.type "list")
 | tup {a:Addr} {xs:List V} (e:H a=some (.tup xs)):TyOf K H (.ref a) (.type "tuple")
 | dK {a:Addr} {kvs:List (Key×V)} (e:H a=some (.dK kvs)):TyOf K H (.ref a) (.type "dict")
 | dT {a:Addr} {kvs:List (List Key×V)} (e:H a=some (.dT kvs)):TyOf K H (.ref a) (.type "dict")
 | ins {a C dx:Addr} {fs:List (Str×V)} (e:H a=some (.ins C dx fs)) (cl:Cls K C) (ha:W.findIn K (.ref C) "__class__" = some (some (.builtin "object.__class__")))
     (hn:W.specialIn K (.builtin "object.__class__") "__get__" = some (some (.builtin "getset_descriptor.__get__"))) (htk:W.takesIn K (.builtin "object.__class__")=some true)
     (hm:W.mroIn K C (.type "object")=some true):TyOf K H (.ref a) (.ref C)
theorem isinst_ok {x:V}{u t:Value}(I:Inv X pins σ H s)(d:RelV x u)(v:TyOf X.K H x t)(e:W.kitOne X.K t c=some b)(h:∀w,Q (.bool b) { s with toks:=w }) :
   wpAny (model X.prog X.w) A (call (.builtin "isinstance") [u,c]) Q E s:=by
 cases v with
 | non=>cases (show u=Value.none from d);exact W.kia_one W.kitx_none I.kIn True.intro e (fun z=>nomatch z) h
 | bl y=>cases (show u=Value.bool y from d);exact W.kia_one W.kitx_bool I.kIn True.intro e (fun z=>nomatch z) h
 | int i=>obtain⟨t,q⟩:=(show ∃t,u=Value.int i t from d);cases q;exact W.kia_one W.kitx_int I.kIn True.intro e (fun z=>nomatch z) h
 | str y=>obtain⟨t,q⟩:=(show ∃t,u=Value.str y t from d);cases q;exact W.kia_one W.kitx_str I.kIn True.intro e (fun z=>nomatch z) h
 | flt y=>obtain⟨t,q⟩:=(show ∃t,u=Value.float y t from d);cases q;exact W.kia_one W.kitx_float I.kIn True.intro e (fun z=>nomatch z) h
 | @lst a j f =>
   cases (show u=Value.ref a from d);obtain⟨_,_,n,_,g⟩:=(show ze9 X.prog X.w H s.heap a (.lst j) from I.hok a _ f);exact W.kia_one W.kitx_list I.kIn ⟨_,g,rfl⟩ e (fun z=>nomatch z) h
 | @frz a B j f =>
   cases (show u=Value.ref a from d);obtain⟨_,_,_,n,_,g⟩:=(show ze9 X.prog X.w H s.heap a (.frz B (.lst j)) from I.hok a _ f);exact W.kia_one W.kitx_list I.kIn ⟨_,g,rfl⟩ e (fun z=>nomatch z) h
 | @tup a j f =>
   cases (show u=Value.ref a from d);obtain⟨_,_,_,p⟩:=(show ze9 X.prog X.w H s.heap a (.tup j) from I.hok a _ f);obtain⟨o,g,k,_⟩:=p;exact W.kia_one W.kitx_tuple I.kIn ⟨o,g,k⟩ e (fun z=>nomatch z) h
 | @dK a l f =>
   cases (show u=Value.ref a from d);obtain⟨_,_,M,_,p⟩:=(show ze9 X.prog X.w H s.heap a (.dK l) from I.hok a _ f);obtain⟨o,D,F,g,k,_⟩:=p;exact W.kia_one W.kitx_dict I.kIn ⟨o,g,k.1⟩ e (fun z=>nomatch z) h
 | @dT a l f =>
   cases (show u=Value.ref a from d);obtain⟨_,_,j,_,o,D,F,g,k,_⟩:=(show ze9 X.prog X.w H s.heap a (.dT l) from I.hok a _ f);exact W.kia_one W.kitx_dict I.kIn ⟨o,g,k.1⟩ e (fun z=>nomatch z) h
 | @ins a C N fs f m G K r L =>
   cases (show u=Value.ref a from d);obtain⟨P,O,_⟩:=zL1 I.hok f;obtain⟨R,J,_⟩:=O.look;exact W.kia_one (W.kitx_own (m.get _) m.hd G K r L) I.kIn J e (fun z=>nomatch z) h
end
structure Room (k:Nat)(A:Around):Prop where
 hd:A.handled=none
 dp:A.depth+3*k+5<recursionLimit
 un:A.units+16*k+200<cLine
theorem Room.mono {j k:Nat}{A:Around}(r:Room k A)(h:j<=k):Room j A:=⟨r.hd,by have:=r.dp;omega,by have:=r.un;omega⟩
theorem Room.deeper {k:Nat}{A:Around}(r:Room (k+1) A)(env:Env):Room k (A.deeper env) :=
 ⟨r.hd,by have:=r.dp;show A.depth+1+3*k+5<_;omega,by have:=r.un;show A.units+3+16*k+200<_;omega⟩
theorem make_depth {A:Around} {C:Addr} {us:List Value} {a:List (Str×Value)}:(A.under (.builtin "type.__call__" ⟨.ref C::us,a⟩)).depth=A.depth+1:=by
 first | rfl | simp[Around.under,Code.weight,Code.isCreation,Code.isGuard,Code.isCaller,Code.frames,Code.isFrame,guardIds]
theorem make_units {A:Around} {C:Addr} {us:List Value} {a:List (Str×Value)}:(A.under (.builtin "type.__call__" ⟨.ref C::us,a⟩)).units=A.units+1:=by
 first | rfl | simp[Around.under,Code.cUnits,Code.frames,Code.isFrame]
theorem Room.make {k:Nat} {A:Around} (r:Room (k+1) A) (C:Addr) (us:List Value) (a:List (Str×Value)):Room k (A.under (.builtin "type.__call__" ⟨.ref C::us,a⟩)) :=
 ⟨r.hd,by have:=r.dp;rw[make_depth];omega,by have:=r.un;rw[make_units];omega⟩
theorem Room.depth {k:Nat}{A:Around}(r:Room k A):A.depth<recursionLimit:=by have:=r.dp;omega
theorem Room.units {k:Nat}{A:Around}(r:Room k A):A.units+64<cLine:=by have:=r.un;omega
def tNil:TA:=fun _ H Q=>Q [] H
def yo1 (ta:TE)(tr:TA):TA:=fun σ H Q=>ta σ H fun x H1=>tr σ H1 fun xs H2=>Q (x::xs) H2
section
variable {X:Cx} {e:Expr} {es:List Expr} {te:TE} {t:TA} {pos:Pos}
theorem za1:PA X [] tNil:=fun _ _ _ _ H Q I h=>Calls.spliced_nil ⟨[],H,I,.nil,h⟩
theorem za0 (d:PE X e te)(f:PA X es t)(hs:starEach (e::es) X.env=(false,eval e X.env)::starEach es X.env:=by rfl):PA X (e::es) (yo1 te t):=by
 intro b a s c H Q I h;rw[hs];show wpAny _ _ (spliced ((false,eval e X.env)::backTo b (starEach es X.env))) _ _ s;refine Calls.spliced_cons (thn (d a s c H _ I h) fun u g ⟨x,i,j,k,l⟩=>?_);exact thn (f b a g c i _ j l) fun r v ⟨m,n,o,p,q⟩=>⟨x::m,n,o,.cons k p,q⟩
def tTup (t:TA):TE:=fun σ H Q=>t σ H fun xs H1=>xs.length<=sizeLine/\∀p,H1 p=none->Q (.ref p) (upd H1 p (.tup xs))
def tLst (t:TA):TE:=fun σ H Q=>t σ H fun xs H1=>xs.length<=sizeLine/\∀p,H1 p=none->Q (.ref p) (upd H1 p (.lst xs))
theorem zy4 {x1}(h:PA X es t):PE X (.Tuple es x1 pos) (tTup t):=by
 intro f s l H Q I g;refine wpAny_Tuple_spliced (thn (h pos f s l H _ I g) fun i a ⟨j,c,d,r,z,q⟩=>⟨by rw[<-r.length];exact z,?_⟩);have k:c a.heap.objs.size=none:=d.hok.fresh (Qi _);refine⟨.ref a.heap.objs.size,upd c a.heap.objs.size (.tup j),d.laid (t':=a.toks) (fun b u e=>Qc _ e) (Qi _) ?_,rfl,q _ k⟩;exact⟨z,i,r,⟨_,Qj _ rfl,rfl,rfl,_,rfl⟩⟩
theorem ze8 (h:PA X es t):PE X (.List es pos) (tLst t):=by
 intro f s l H Q I g;refine wpAny_List_spliced (thn (h pos f s l H _ I g) fun i a ⟨j,c,d,r,z,q⟩=>⟨by rw[<-r.length];exact z,?_⟩);have k:c a.heap.objs.size=none:=d.hok.fresh (Qi _);refine⟨.ref a.heap.objs.size,upd c a.heap.objs.size (.lst j),d.laid (t':=a.toks) (fun b u e=>Qc _ e) (Qi _) ?_,rfl,q _ k⟩;exact⟨z,i,0,r,Qj _ rfl⟩
end
noncomputable abbrev Sp:=List V->Hp->VK->XK->Prop
noncomputable abbrev CXT:=List Env->Hp->Shared->XK->Value->Shared->Prop
structure Env0 (P:Program)(w:World)(K:W.Frag)(mg:Str->Option Value)(base:Heap)(A:Around)(outer:List Env)(s:Shared)(H:Hp):Prop where
 frames:A.frames=some outer
 mod:Mod K mg base
 bs:∀b o,base.get? b=some o->s.heap.get? b=some o/\H b=none
 bsz:base.objs.size<=s.heap.objs.size
 funs:s.heap.FunFrames base outer
 frf:∀b∈frs outer,H b=none
 hok:HOk P w H s.heap
 bare:AllBare s.gens
def CE (outer:List Env)(P:Program)(w:World)(H:Hp)(s:Shared)(Q:VK)(u:Value)(s':Shared):Prop :=
 ∃v H',s'.os=s.os/\AllBare s'.gens/\Un (frs outer) [] H H' s.heap s'.heap/\HOk P w H' s'.heap/\RelV v u/\Q v H'
def CR (CX:CXT)(outer:List Env)(P:Program)(w:World)(H:Hp)(s:Shared)(Q:VK)(E:XK)(r:Result)(s':Shared):Prop :=
 match r with
 | .ok (.ret u)=>CE outer P w H s Q u s'
 | .ok _=>False
 | .error e=>CX outer H s E e s'
structure FnOk (P:Program)(w:World)(K:W.Frag)(mg:Str->Option Value)(base:Heap)(CX:CXT)(k:Nat)(f:Addr)(fd:FuncData)(ps:List Str)(sp:Sp):Prop where
 len:∀vs H Q E,sp vs H Q E->vs.length=ps.length
 run:∀(A:Around) (outer:List Env) (s:Shared) (H:Hp) (args:Args) (us:List Value) (vs:List V) (Q:VK) (E:XK),Room k A->Env0 P w K mg base A outer s H->BindsTo s fd args (ps.zip us)->Vals vs us->sp vs H Q E →
   codeAny (model P w) A (.call (.ref f) args) (CR CX outer P w H s Q E) s
theorem Env0.make {P:Program}{w:World}{K:W.Frag}{a:Str->Option Value}{base:Heap}{A:Around}{outer:List Env}{s:Shared}{H:Hp}(e:Env0 P w K a base A outer s H)(C:Addr)(us:List Value)(b:List (Str×Value)) :
 Env0 P w K a base (A.under (.builtin "type.__call__" ⟨.ref C::us,b⟩)) outer s H:=⟨by first | exact e.frames | (simpa [Around.under,Code.envs,Code.isFrame,pushEnvs] using e.frames),e.mod,e.bs,e.bsz,e.funs,e.frf,e.hok,e.bare⟩
section
variable {X:Cx} {pins:PL} {σ:St} {H:Hp} {s s':Shared}
theorem Inv.env0 (I:Inv X pins σ H s):Env0 X.prog X.w X.K X.mg X.base X.A X.stack s H :=
 ⟨I.ok.frames,I.ok.mod,I.bs,QK I.ok.bsz I.sz,I.stack,I.stkFree,I.hok,I.bare⟩
theorem Inv.after {Q:VK}{u:Value}(I:Inv X pins σ H s)(h:CE X.stack X.prog X.w H s Q u s'):EP X pins σ Q u s':=by
 obtain⟨v,f,i,a,un,c,r,q⟩:=h;obtain⟨j,g,d,t,e⟩:=s';obtain rfl:e=s.os:=i;exact⟨v,f,I.call (h':=j) (g':=g) (d':=d) (t':=t) (ch:=[]) un c a (fun b z=>absurd z (by simp)),r,q⟩
end
def yo2 (sp:Sp)(dvs:List V)(E:XK)(t:TA):TE:=fun σ H Q=>t σ H fun vs H1=>sp (vs++dvs) H1 Q E
inductive yh1 (C:Addr)(m:Str)(sp:Sp)(dvs:List V)(E:XK)(t:TA)(x:V)(σ:St)(H1:Hp)(Q:VK):Prop
 | mk (a dx fs:_)(h0:x = .ref a)(h1:H1 a=some (.ins C dx fs))(h2:fs.lookup m=none)(h3:t σ H1 fun vs H2=>sp (x::(vs++dvs)) H2 Q E):yh1 C m sp dvs E t x σ H1 Q
def ys4 (C:Addr)(m:Str)(sp:Sp)(dvs:List V)(E:XK)(ta:TE)(t:TA):TE:=fun σ H Q=>ta σ H fun x H1=>yh1 C m sp dvs E t x σ H1 Q
def tMake (C:Addr)(sp:Sp)(dvs:List V)(E:XK)(t:TA):TE:=fun σ H Q=>t σ H fun vs H1=>∀x dx,H1 x=none->H1 dx=none->dx≠x →
 sp (.ref x::(vs++dvs)) (upd (upd H1 dx (.own x)) x (.ins C dx [])) (fun v H2=>v = .non/\Q (.ref x) H2) E
def zm6 (K:W.Frag)(fd:FuncData)(ps:List Str)(ds:List Value):Prop :=
 ∀(s:Shared) (us:List Value),K.In s.heap->(us++ds).length=ps.length->BindsTo s fd ⟨us,[]⟩ (ps.zip (us++ds))
theorem zm6.all {K:W.Frag}{fd:FuncData}{ps:List Str}(h:∀a:List Value,a.length=ps.length->bindArgs fd ⟨a,[]⟩=pure (ps.zip a)):zm6 K fd ps []:=fun s a _ b=>by
 rw[Zz] at b ⊢;exact .of_eq (h a b)
def zn8 (CX:CXT)(X:Cx)(E:XK):Prop:=∀(pins:PL) (σ:St) (H:Hp) (s:Shared) (e:Value) (s':Shared),Inv X pins σ H s->CX X.stack H s E e s'->X.xe e s'
section
variable {X:Cx} {CX:CXT} {k:Nat} {f C:Addr} {fd:FuncData} {ps:List Str} {sp:Sp} {dvs:List V} {ds:List Value} {E:XK} {x m:Str} {p pos apos:Pos} {e o:Expr} {es:List Expr} {ta:TE} {t:TA}
theorem zX9 {b:PL}{c:St}{H:Hp}{s:Shared}{Q:VK}{us:List Value}{vs:List V}(F:FnOk X.prog X.w X.K X.mg X.base CX k f fd ps sp)(g:Room k X.A)(i:zm6 X.K fd ps ds)(j:Vals dvs ds)(l:zn8 CX X E)
   (I:Inv X b c H s) (r:Vals vs us) (h:sp (vs++dvs) H Q E):wpAny (model X.prog X.w) X.A (call (.ref f) us) (EP X b c Q) X.xe s:=by
 have d:Vals (vs++dvs) (us++ds):=r.append j;have m:(us++ds).length=ps.length:=by rw[<-d.length];exact F.len _ _ _ _ h
 refine wpAny_call (codeAny_mono (F.run X.A X.stack s H ⟨us,[]⟩ (us++ds) (vs++dvs) Q E g I.env0 (i s us I.kIn m) d h) fun r n a=>?_);cases r with
 | error e=>exact l b c H s e n I a
 | ok o =>
   cases o with
   | ret u=>exact I.after a
   | next=>exact False.elim a
   | brk=>exact False.elim a
   | cont=>exact False.elim a
theorem zw2 (F:FnOk X.prog X.w X.K X.mg X.base CX k f fd ps sp)(g:Room k X.A)(i:Gl X x)(j:X.mg x=some (.ref f))(l:W.keepIn X.K (.ref f)=true)(m:zm6 X.K fd ps ds)(n:Vals dvs ds)(o:zn8 CX X E)
   (u:PA X (e::es) t) (c:(x == ("__debug__" : Str))=false:=by decide) (v:starEach (e::es) X.env=(false,eval e X.env)::starEach es X.env:=by rfl) (d:(backTo pos (starEach es X.env)).any (·.1)=false:=by rfl) :
   PE X (.Call (.Name x p) (e::es) [] pos) (yo2 sp dvs E t):=by
 intro b s w H Q I h;refine wpAny_Call_Name_kw (zB0 I i j ?_ c);refine W.callWith_K (h₀:=X.base) I.ok.mod.kin l (thn (u pos b s w H _ I h) fun y z ⟨A,B,a,r,q⟩=>⟨a.kIn,?_⟩) v d;exact zX9 F g m n o a r q
theorem zL2 {pl:Sem Bool}(w:PE X o ta)(c:Cls X.K C)(d:Meth X.K C m f)(F:FnOk X.prog X.w X.K X.mg X.base CX k f fd ps sp)(y:Room k X.A)(z:zm6 X.K fd ps ds)(A:Vals dvs ds)(B:zn8 CX X E)(D:PA X (e::es) t)
   (p:starEach (e::es) X.env=(false,eval e X.env)::starEach es X.env:=by rfl) (v:(backTo pos (starEach es X.env)).any (·.1)=false:=by rfl)
   (G:eval (.Call (.Attribute o m apos) (e::es) [] pos) X.env=(do
     let g <-eval o X.env
     standAt apos.atName
     let(f,first) <-holding [g] (getMethod g m pl)
     callWith pos f first (backTo pos (starEach (e::es) X.env)) (backToKw pos (keywordEach [] X.env))):=by rfl) :
   PE X (.Call (.Attribute o m apos) (e::es) [] pos) (ys4 C m sp dvs E ta t):=by
 intro b s n H Q I h;refine W.methodCall_KW (pl:=pl) (thn (w b s n H _ I h) fun u J ⟨x,K,i,L,a,O,fs,ex,M,l,q⟩=>?_) G;subst ex;obtain rfl:u=Value.ref a:=L;refine zM8 i M c d l ?_;refine W.callWith_K (first:=[.ref a]) (h₀:=X.base) I.ok.mod.kin d.kp (thn (D pos b J n K _ i q) fun us P ⟨vs,R,j,r,N⟩=>⟨j.kIn,?_⟩) p v;exact zX9 (us:=.ref a::us) (vs:=.ref a::vs) F y z A B j (.cons rfl r) N
theorem ya5 {pl:Sem Bool}(i:PE X o ta)(c:Cls X.K C)(d:Meth X.K C m f)(F:FnOk X.prog X.w X.K X.mg X.base CX k f fd ps sp)(j:Room k X.A)(n:zm6 X.K fd ps ds)(p:Vals dvs ds)(r:zn8 CX X E)
   (t:eval (.Call (.Attribute o m apos) [] [] pos) X.env=(do
     let e <-eval o X.env
     standAt apos.atName
     let(f,first) <-holding [e] (getMethod e m pl)
     callWith pos f first (backTo pos (starEach [] X.env)) (backToKw pos (keywordEach [] X.env))):=by rfl) :
   PE X (.Call (.Attribute o m apos) [] [] pos) (ys4 C m sp dvs E ta tNil):=by
 intro g s y H Q I h;refine W.methodCall_KW (pl:=pl) (thn (i g s y H _ I h) fun u z ⟨x,A,b,v,a,B,fs,ex,w,l,q⟩=>?_) t;subst ex;obtain rfl:u=Value.ref a:=v;refine zM8 b w c d l ?_;exact W.callWith_K0 (first:=[.ref a]) b.kIn d.kp (zX9 (us:=[.ref a]) (vs:=[.ref a]) F j n p r b (.cons rfl .nil) q)
structure Mk (K:W.Frag)(C f:Addr):Prop where
 makes:W.makesIn K C=true
 init:W.findIn K (.ref C) "__init__" = some (some (.ref f))
 fn:W.isFn K (.ref f)=true
 kp:W.keepIn K (.ref C)=true
theorem run_make {d:PL}{g:St}{H:Hp}{s:Shared}{Q:VK}{us:List Value}{vs:List V}(M:Mk X.K C f)(F:FnOk X.prog X.w X.K X.mg X.base CX k f fd ps sp)(l:Room (k+1) X.A)(m:zm6 X.K fd ps ds)(n:Vals dvs ds)
   (o:zn8 CX X E) (I:Inv X d g H s) (r:Vals vs us)
   (h:∀x b,H x=none->H b=none->b≠x->sp (.ref x::(vs++dvs)) (upd (upd H b (.own x)) x (.ins C b [])) (fun v p=>v = .non/\Q (.ref x) p) E) :
   wpAny (model X.prog X.w) X.A (call (.ref C) us) (EP X d g Q) X.xe s:=by
 have i:=h (s.heap.objs.size+1) s.heap.objs.size (I.hok.fresh (Nat.le_succ _)) (I.hok.fresh (Qi _)) (QF (Nat.lt_succ_self _));have c:=Inv.made (C:=C) I;have j:Vals (V.ref (s.heap.objs.size+1)::(vs++dvs)) (Value.ref (s.heap.objs.size+1)::(us++ds)):=.cons rfl (r.append n);have q:(Value.ref (s.heap.objs.size+1)::us++ds).length=ps.length:=by
   have e:=j.length;rw[F.len _ _ _ _ i] at e;exact e.symm
 refine wpAny_call (make_map (f:=f) I.kIn M.makes M.init (beq_iff_eq.mp M.fn) (codeAny_mono (F.run _ X.stack _ _ ⟨Value.ref (s.heap.objs.size+1)::us,[]⟩ (Value.ref (s.heap.objs.size+1)::(us++ds)) _ _ E (l.make C us [])
   (c.env0.make C us []) (m _ (Value.ref (s.heap.objs.size+1)::us) c.kIn q) j i) fun r t a=>?_))
 cases r with
 | error e=>exact o d g _ _ e t c a
 | ok w =>
   cases w with
   | ret u =>
     obtain⟨v,y,z,A,ev,B⟩:=c.after a;subst ev;exact⟨A,⟨V.ref (s.heap.objs.size+1),y,z,rfl,B⟩⟩
   | next=>exact False.elim a
   | brk=>exact False.elim a
   | cont=>exact False.elim a
theorem zB2 (M:Mk X.K C f)(F:FnOk X.prog X.w X.K X.mg X.base CX k f fd ps sp)(g:Room (k+1) X.A)(i:Gl X x)(j:X.mg x=some (.ref C))(l:zm6 X.K fd ps ds)(m:Vals dvs ds)(n:zn8 CX X E)
   (o:PA X (e::es) t) (c:(x == ("__debug__" : Str))=false:=by decide) (u:starEach (e::es) X.env=(false,eval e X.env)::starEach es X.env:=by rfl) (d:(backTo pos (starEach es X.env)).any (·.1)=false:=by rfl) :
   PE X (.Call (.Name x p) (e::es) [] pos) (tMake C sp dvs E t):=by
 intro b s v H Q I h;refine wpAny_Call_Name_kw (zB0 I i j ?_ c);refine W.callWith_K (h₀:=X.base) I.ok.mod.kin M.kp (thn (o pos b s v H _ I h) fun w y ⟨z,A,a,r,q⟩=>⟨a.kIn,?_⟩) u d;exact run_make M F g l m n a r q
end
section
variable {X:Cx} {CX:CXT} {k:Nat} {f C:Addr} {fd:FuncData} {ps ks:List Str} {sp:Sp} {E:XK} {x m:Str} {p pos apos kpos:Pos} {e o:Expr} {es:List Expr} {kws:List Keyword} {te ta:TE} {t tk:TA} {nm:Option Str}
variable {g:List Value->List Value->List Value} {gV:List V->List V->List V}
end
structure zb8 (N P:List Str)(sc:Scope):Prop where
 kind:sc.kind = .function:=by rfl
 co:sc.isCoroutine=false:=by rfl
 gen:sc.isGenerator=false:=by rfl
 nd:N.Nodup:=by decide +kernel
 pre:N.take P.length=P:=by rfl
 par:∀x∈P,sc.names.lookup x=some .local\/sc.names.lookup x=some .cell:=by decide +kernel
 nofree:∀y∈sc.names,y.2≠.free:=by decide +kernel
theorem zS3 {a:Str->Option NameKind}{x:Str}:∀ {binds:List (Str×Value)} {m:Str->Option Value},(∀v,(x,v)∉binds)->bindL a binds m x=m x
 | [],_,_=>rfl
 | (n,v)::r,m,h=>by
   unfold bindL;rw[zS3 fun w b=>h w (QH _ b)]
   split
   . have:x≠n:=by rintro rfl;exact h v QQ
     simp[this]
   . rfl
theorem zS4 {a:Str->Option NameKind}{x:Str}:∀ {binds:List (Str×Value)} {m:Str->Option Value},(∀v,(x,v)∉binds)->bindC a binds m x=m x
 | [],_,_=>rfl
 | (n,v)::r,m,h=>by
   unfold bindC;rw[zS4 fun w b=>h w (QH _ b)]
   split
   . rfl
   . have:x≠n:=by rintro rfl;exact h v QQ
     simp[this]
theorem zS5 {b:Str->Option NameKind}{x:Str}{v:Value}:∀ {P:List Str} {a:List Value} {i:Nat} {m:Str->Option Value},P.Nodup->P[i]?=some x->a[i]?=some v->b x=some .local →
   bindL b (P.zip a) m x=some v
 | [],_,_,_,_,h,_,_=>by simp at h
 | _::_,[],_,_,_,_,h,_=>by simp at h
 | p::P,w::a,0,m,nd,h1,h2,hk=>by
   simp at h1 h2;subst h1;subst h2;show bindL b ((p,w)::P.zip a) m p=_;unfold bindL;rw[zS3 fun v c=>(List.nodup_cons.mp nd).1 (List.of_mem_zip c).1,Ql hk];simp
 | p::P,w::a,i+1,m,nd,h1,h2,hk=>by
   show bindL b ((p,w)::P.zip a) m x=_;unfold bindL;exact zS5 (i:=i) (List.nodup_cons.mp nd).2 (by simpa using h1) (by simpa using h2) hk
theorem zS6 {b:Str->Option NameKind}{x:Str}{v:Value}:∀ {P:List Str} {a:List Value} {i:Nat} {m:Str->Option Value},P.Nodup->P[i]?=some x->a[i]?=some v->b x≠some .local →
   bindC b (P.zip a) m x=some v
 | [],_,_,_,_,h,_,_=>by simp at h
 | _::_,[],_,_,_,_,h,_=>by simp at h
 | p::P,w::a,0,m,nd,h1,h2,hk=>by
   simp at h1 h2;subst h1;subst h2;show bindC b ((p,w)::P.zip a) m p=_;unfold bindC;rw[zS4 fun v c=>(List.nodup_cons.mp nd).1 (List.of_mem_zip c).1,Qh hk];simp
 | p::P,w::a,i+1,m,nd,h1,h2,hk=>by
   show bindC b ((p,w)::P.zip a) m x=_;unfold bindC;exact zS6 (i:=i) (List.nodup_cons.mp nd).2 (by simpa using h1) (by simpa using h2) hk
noncomputable def start (N:List Str)(vs:List V):St:=vs.map some++List.replicate (N.length-vs.length) none
noncomputable def cxOf (CX:CXT)(P:Program)(w:World)(K:W.Frag)(mg:Str->Option Value)(base:Heap)(N:List Str)(qual:Str)(scope:Scope)(f:Addr)(cd:Value)(A:Around)(outer:List Env)(s:Shared)(H:Hp)(E:XK):Cx where
 prog:=P
 w:=w
 K:=K
 mg:=mg
 base:=base
 A:=A.deeper (envOfC qual scope s.heap.objs.size f cd)
 N:=N
 s₀:=s
 H₀:=H
 env:=envOfC qual scope s.heap.objs.size f cd
 outer:=outer
 stack:=envOfC qual scope s.heap.objs.size f cd::outer
 ex:=[]
 calm:=true
 fn:=fun _=>true
 pn:=[]
 xe:=fun e s'=>wpAny (model P w) (A.deeper (envOfC qual scope s.heap.objs.size f cd)) («leaving» (envOfC qual scope s.heap.objs.size f cd) e) (fun _ s''=>CX outer H s E e s'') (fun e' s''=>CX outer H s E e' s'') s'
theorem ya6 {a:Scope}{n:Nat}{x:Str}(h:a.names.lookup x=some .cell):∃c,(cellsFrom n a.names []).lookup x=some c:=by
 have q:=W.cellsFrom_some a.names n [] (.inl h);exact Option.isSome_iff_exists.mp q
theorem inv_start {CX:CXT}{P:Program}{w:World}{K:W.Frag}{D:Str->Option Value}{base:Heap}{N ps:List Str}{m:Str}{scope:Scope}{f:Addr}{o:Value}{A:Around}{outer:List Env}{s G:Shared}{H:Hp}{E:XK}{us:List Value}{vs:List V}
   (S:zb8 N ps scope) (L:A.handled=none) (g:Env0 P w K D base A outer s H) (R:vs.length=ps.length) (r:Vals vs us)
   (x:InCallC s s.heap.objs.size (bindL (envOfC m scope s.heap.objs.size f o).kindOf (ps.zip us) fun _=>none) (cellsFrom (s.heap.objs.size+1) scope.names []) (bindC (envOfC m scope s.heap.objs.size f o).kindOf (ps.zip us) fun _=>none) G) :
   Inv (cxOf CX P w K D base N m scope f o A outer s H E) [] (start N vs) H G:=by
 have Q:ps.length<=N.length:=by have:=congrArg List.length S.pre;rw[Zb] at this;omega
 obtain⟨t,T,rfl,I⟩:=x.done;have C:∀b:Addr,b∉(cxOf CX P w K D base N m scope f o A outer s H E).ex:=fun b z=>absurd (show b∈([]:List Addr) from z) (by simp)
 refine⟨⟨g.mod,S.kind,rfl,rfl,Qi _,fun y z c t d=>?_,fun y j=>?_,fun y c _ h=>?_,fun _=>L,Around.frames_deeper g.frames,.inr ⟨rfl,rfl⟩,fun b z=>absurd z (C b),g.bs,g.bsz,fun b _ _=>C b,fun b z=>absurd z (C b),g.funs,g.frf⟩,
   rfl,g.bare,Un.kept I,⟨_,x.toInCall.ns,fun i y v t d U=>?_⟩,fun y c h=>⟨_,x.cell y c h⟩,g.hok.fresh (Qi _),fun y c h=>?_,fun p l=>absurd (show p∈([]:PL) from l) (by simp),g.hok.kept I,?_⟩
 . exact name_of_addr x.apart (PySem.mem_of_lookup t) (PySem.mem_of_lookup d)
 . have j:scope.names.lookup y=some .cell\/scope.names.lookup y=some .free:=j
   rcases j with j | j
   . exact ya6 j
   . exact absurd rfl (S.nofree _ (PySem.mem_of_lookup j))
 . exact Za (x.above y c (PySem.mem_of_lookup h))
 . have B:i<vs.length:=by
     unfold start at d;by_cases B:i<vs.length
     . exact B
     . rw[Zx (by simpa using B)] at d
       rw[List.getElem?_replicate] at d
       split at d<;>cases d
   have M:vs[i]?=some v:=by
     unfold start at d;rw[Zi (by simpa using B),QP] at d;cases e:vs[i]? with
     | none=>rw[e] at d;cases d
     | some a=>rw[e] at d;cases d;rfl
   obtain⟨u,J,O⟩:=r.get M;have l:ps[i]?=some y:=by
     rw[<-S.pre,List.getElem?_take_of_lt (by omega)];exact t
   have F:ps.Nodup:=by rw[<-S.pre];exact S.nd.sublist (List.take_sublist _ _)
   refine⟨u,O,?_⟩;rcases S.par y (QG l) with k | k
   . exact .inl ⟨k,zS5 F l J k⟩
   . obtain⟨c,e⟩:=ya6 (n:=s.heap.objs.size+1) k
     refine .inr ⟨.inl k,c,e,?_⟩;have q:=x.cell y c e;rw[zS6 F l J (by show scope.names.lookup y≠_;rw[k];decide)] at q;exact q
 . exact g.hok.fresh (Za (x.above y c (PySem.mem_of_lookup h)))
 . unfold start
   show _=N.length;rw[Qq,Qb,List.length_replicate];omega
theorem yo3 {CX:CXT}{P:Program}{w:World}{K:W.Frag}{l:Str->Option Value}{base:Heap}{k:Nat}{f:Addr}{name d:Str}{B:Arguments}{n:List Stmt}{scope:Scope}{G kV C I g L oc:Value}{M od:Option Addr}
   {X:Array (Option Value)} {N ps:List Str} {sp:Sp} (lk:K.lookup f=some ⟨oc,od,.func (W.fnOf name d B n scope G kV C I M g L),X⟩) (Y:W.codeIn K g d=true) (S:zb8 N ps scope)
   (len:∀a H Q E,sp a H Q E->a.length=ps.length)
   (T:∀(A:Around) (h:List Env) (s:Shared) (H:Hp) (a:List V) (Q:VK) (E:XK),Room k (A.deeper (envOfC d scope s.heap.objs.size f g))->sp a H Q E →
     ∃t,PSs (cxOf CX P w K l base N d scope f g A h s H E) n t/\t { nx:=fun _ c=>Q .non c,rt:=Q } (start N a) H) :
   FnOk P w K l base CX (k+1) f (W.fnOf name d B n scope G kV C I M g L) ps sp:=by
 refine⟨len,fun A h s H a3 us a Q E p j hb a0 D=>?_⟩;have hl:=len _ _ _ _ D;have O:K.In s.heap:=j.mod.kin.keeps fun b o e=>(j.bs b o e).1
 have Z:s.heap.NoLimit:=j.mod.nolimit.keeps fun b o e=>(j.bs b o e).1
 have U:∀y∈ps.zip us,scope.names.lookup y.1=some .local\/(scope.names.lookup y.1=some .cell/\((cellsFrom (s.heap.objs.size+1) scope.names []).lookup y.1).isSome=true):=fun⟨a1,v⟩ hy=>by
   rcases S.par a1 (List.of_mem_zip hy).1 with q | q
   . exact .inl q
   . exact .inr ⟨q,W.cellsFrom_some _ _ _ (.inl q)⟩
 refine codeAny_call_function p.depth (O _ _ lk) rfl S.co S.gen rfl (W.codeRec_of O Y) (hb _ _ _ _ ?_);refine wpAny_newFunctionEnv_cells S.kind U fun a4 he R x=>?_
 subst he;refine⟨Z.keeps x.toInCall.keep,codeAny_func ?_⟩;obtain⟨t,ht,hq⟩:=T A h s H a Q E (p.deeper _) D;have a2:Inv (cxOf CX P w K l base N d scope f g A h s H E) [] (start N a) H R:=inv_start S p.hd j hl a0 x;refine Zs (ht [] R (start N a) H _ a2 hq) (fun fl r i=>?_) fun e r i=>i
 have F:∀ {m:St} {c:Hp} {v:V} {u:Value},Inv (cxOf CX P w K l base N d scope f g A h s H E) [] m c r->RelV v u->Q v c->CE h P w H s Q u r :=
   fun {m c v u} J z q=>⟨v,c,J.os,J.bare,J.base,J.hok,z,q⟩
 cases fl with
 | ret u =>
   obtain⟨v,m,c,J,z,q⟩:=i;exact F J z q
 | next =>
   obtain⟨m,c,J,q⟩:=i;exact F (v:=V.non) (u:=Value.none) J rfl q
 | brk =>
   obtain⟨_,_,_,q⟩:=i;exact False.elim q
 | cont =>
   obtain⟨_,_,_,q⟩:=i;exact False.elim q
section
variable {X:Cx} {x:Str} {p pos:Pos} {e:Expr} {es:List Expr} {t:TA} {id T:String} {r:List V->Hp->VK->Prop}
def tCB (r:List V->Hp->VK->Prop)(t:TA):TE:=fun σ H Q=>t σ H fun vs H1=>r vs H1 Q
theorem zb0 (f:zm4 X (.builtin id) r) (g:Gl X x) (i:X.mg x=none) (j:bootBuiltins x=some (.builtin id)) (k:PA X (e::es) t) (l:x≠"__name__":=by decide) (c:(x == ("__debug__" : Str))=false:=by decide)
   (m:starEach (e::es) X.env=(false,eval e X.env)::starEach es X.env:=by rfl) (d:(backTo pos (starEach es X.env)).any (·.1)=false:=by rfl):PE X (.Call (.Name x p) (e::es) [] pos) (tCB r t):=by
 intro a s b H Q I h;refine wpAny_Call_Name_kw (zI5 I g i j ?_ l c);exact PyProof.Rows.callWith_builtin1 (thn (k pos a s b H _ I h) fun n o ⟨q,u,v,w,y⟩=>f a o b u q n Q v w y) m d
theorem zi5 (f:zm4 X (.type T) r) (g:Gl X x) (i:X.mg x=none) (j:bootBuiltins x=some (.type T)) (k:PA X (e::es) t) (l:x≠"__name__":=by decide) (c:(x == ("__debug__" : Str))=false:=by decide)
   (m:starEach (e::es) X.env=(false,eval e X.env)::starEach es X.env:=by rfl) (d:(backTo pos (starEach es X.env)).any (·.1)=false:=by rfl):PE X (.Call (.Name x p) (e::es) [] pos) (tCB r t):=by
 intro a s b H Q I h;refine wpAny_Call_Name_kw (zI5 I g i j ?_ l c);exact PyProof.Rows.callWith_type1 (thn (k pos a s b H _ I h) fun n o ⟨q,u,v,w,y⟩=>f a o b u q n Q v w y) m d
end
end L2
namespace HT
open PySem PyProof.Rows
section
open PySem.SeqAt
open PySem.AutoSeq1 (wpAny_loadPart')
open PySem.MeetsSeq PySem.MeetsSeq2 PySem.MeetsSeq3
end
section
variable {prog:Program} {w:World} {A:Around} {E:VP} {s:Shared}
theorem cat_tup {t b:Addr}{vs a:List Value}{Q:VP}(q:IsTup s.heap t vs.toArray)(r:IsTup s.heap b a.toArray)(k:vs≠[])
   (u:a=[]->Q (.ref t) s) (v:a≠[]->Q (.ref s.heap.objs.size) { s with heap:=s.heap.push { cls:=.type "tuple",data:=.seq (vs++a).toArray } })
   (hsz:vs.length+a.length<=sizeLine):wpAny (model prog w) A (binaryOp .Add (.ref t) (.ref b)) Q E s:=by
 obtain⟨⟨cls,l,data,sl⟩,d,m,n,o⟩:=id q;obtain⟨⟨y,g,x,h⟩,c,i,p,j⟩:=id r;simp only at m o i j;subst m o i j;have e:vs.toArray++a.toArray=(vs++a).toArray:=by simp
 by_cases f:a=[]
 . exact concat_meets ⟨_,d,rfl⟩ ⟨_,c,rfl⟩ noFill_tuple_add seq_tuple_add PySem.F.slot_tuple_add PySem.F.entry_tuple_add (PySem.F.args_tuple_add_2 _ _)
     (tuple_addW1 t b vs.toArray a.toArray n p l g sl h (by simpa using k) (by simp[f])) ⟨d,c,u f⟩
 . refine concat_meets ⟨_,d,rfl⟩ ⟨_,c,rfl⟩ noFill_tuple_add seq_tuple_add PySem.F.slot_tuple_add PySem.F.entry_tuple_add (PySem.F.args_tuple_add_2 _ _)
     (tuple_addW2 t b vs.toArray a.toArray n p l g sl h (by simpa using k) (by simpa using f) (by rw[Qk,Qk];exact hsz)) ⟨d,c,?_⟩
   rw[e];exact v f
noncomputable def sIx (n d:Nat):Option Int->Nat
 | none=>d
 | some v=>if v<0 then(v+(n:Int)).toNat else min v.toNat n
theorem sIx_none (n d:Nat):sIx n d none=d:=rfl
theorem sIx_nat (n d k:Nat):sIx n d (some (k:Int))=min k n:=by
 show(if (k:Int)<0 then((k:Int)+(n:Int)).toNat else min (k:Int).toNat n)=min k n;rw[Qh (by omega),QZ]
theorem sIx_le (n d:Nat)(b:d<=n)(o:Option Int):sIx n d o<=n:=by
 cases o with
 | none=>exact b
 | some v =>
   show(if v<0 then(v+(n:Int)).toNat else min v.toNat n)<=n;by_cases a:v<0
   . rw[Ql a];omega
   . rw[Qh a];exact Nat.min_le_right _ _
theorem yh2 (v:Int)(n d:Nat):(if v<0 then max (v+(n:Int)) 0 else min v (n:Int))=((sIx n d (some v):Nat):Int):=by
 show(if v<0 then max (v+(n:Int)) 0 else min v (n:Int))=(((if v<0 then(v+(n:Int)).toNat else min v.toNat n):Nat):Int);by_cases a:v<0
 . simp only[Ql a];omega
 . simp only[Qh a];omega
theorem adjust_gen (lo a:Option Int)(n:Nat):Builtin.Slice.sliceAdjust lo a 1 (n:Int)=(((sIx n 0 lo:Nat):Int),((sIx n n a:Nat):Int)):=by
 have b:¬ ((1:Int)<0):=by omega
 unfold Builtin.Slice.sliceAdjust;simp only[b,if_false];refine Prod.ext ?_ ?_
 . cases lo with
   | none=>rfl
   | some v=>exact yh2 v n 0
 . cases a with
   | none=>rfl
   | some v=>exact yh2 v n n
theorem places_gen (i j:Nat):Builtin.Slice.slicePlaces (i:Int) (j:Int) 1=j-i:=by
 unfold Builtin.Slice.slicePlaces;have a:(1:Int)>0:=by omega
 simp only[a,if_true,Int.ediv_one]
 split<;>omega
theorem zM9 {v:Value}{o:Option Int}{Q:Option Int->Shared->Prop}(p:IsPart v o)(h:Q o s):wpAny (model prog w) A (Builtin.Slice.slicePartIndex v) Q E s:=by
 cases p with
 | none=>exact slicePart_none h
 | int i t=>exact slicePart_int h
theorem sliceApplied_gen {sl:Addr}{d e:Value}{lo a:Option Int}{n:Nat}{Q:Int×Int×Nat->Shared->Prop}(hs:s.heap.IsSliceOf sl d e .none)(pl:IsPart d lo)(f:IsPart e a)
   (h:Q (((sIx n 0 lo:Nat):Int),1,sIx n n a-sIx n 0 lo) s):wpAny (model prog w) A (Builtin.Slice.sliceApplied (.ref sl) (pure (n:Int))) Q E s:=by
 obtain⟨i,b,g,c⟩:=id hs;unfold Builtin.Slice.sliceApplied Builtin.Slice.sliceFields;refine Qa (Qa (wpAny_field b c (x:=d) rfl (Qa (wpAny_field b c (x:=e) rfl (Qa (wpAny_field b c (x:=.none) rfl (Qd ?_)))))));refine Qa (slicePart_none ?_);show wpAny _ _ (if ((1:Int) == 0)=true then _ else _) _ _ s;rw[Qh (by decide)];refine Qa (zM9 pl (Qa (zM9 f (Qa (Qd ?_)))));show wpAny _ _ (match Builtin.Slice.sliceAdjust lo a 1 (n:Int) with | (lo,a)=>pure (lo,(1:Int),Builtin.Slice.slicePlaces lo a 1)) _ _ s;rw[adjust_gen lo a n];show wpAny _ _ (pure (((sIx n 0 lo:Nat):Int),(1:Int),Builtin.Slice.slicePlaces ((sIx n 0 lo:Nat):Int) ((sIx n n a:Nat):Int) 1)) _ _ s;rw[places_gen];exact Qd h
theorem pick_gen (xs:Array Value)(i k:Nat):((List.range k).filterMap fun(m:Nat)=>xs[((i:Int)+(m:Int)*1).toNat]?).toArray=((xs.toList.drop i).take k).toArray:=by
 have e:(fun(m:Nat)=>xs[((i:Int)+(m:Int)*1).toNat]?)=fun m=>xs[i+m]?:=by
   funext m
   have:((i:Int)+(m:Int)*1).toNat=i+m:=by omega
   rw[this]
 rw[e];have:=pick_run xs i k;rw[List.filterMap_map] at this;have a:((fun x=>xs[x]?) ∘ fun x=>i+x)=fun m=>xs[i+m]?:=rfl
 rw[a] at this;rw[this]
theorem getItem_tuple_cut {t sl:Addr}{items:Array Value}{d e:Value}{lo a:Option Int}{Q:VP}(c:IsTup s.heap t items)(hs:s.heap.IsSliceOf sl d e .none)(pl:IsPart d lo)(k:IsPart e a)
   (l:¬ (sIx items.size 0 lo=0/\sIx items.size items.size a=items.size))
   (h:Q (.ref s.heap.objs.size) { s with heap:=s.heap.push { cls:=.type "tuple",data:=.seq ((items.toList.drop (sIx items.size 0 lo)).take (sIx items.size items.size a-sIx items.size 0 lo)).toArray } })
   (hsz:items.size<=sizeLine):wpAny (model prog w) A (getItem (.ref t) (.ref sl)) Q E s:=by
 have b:sizeOk (.seq ((items.toList.drop (sIx items.size 0 lo)).take (sIx items.size items.size a-sIx items.size 0 lo)).toArray):=by
   show((items.toList.drop (sIx items.size 0 lo)).take (sIx items.size items.size a-sIx items.size 0 lo)).toArray.size<=sizeLine;rw[Qk,Zb,List.length_drop,Qv];omega
 have p:sIx items.size items.size a<=items.size:=sIx_le _ _ (Qi _) a;obtain⟨n,f,g,o⟩:=id hs;have i:s.TypeIs (.ref sl) "slice":=⟨n,f,g⟩;unfold getItem
 try with_reducible refine wpAny_holding ?_
 first | refine Qa (Qd ?_) | skip
 refine Qa (wpAny_sequenceKey c.typeIs (by decide) ?_)
 refine Qa (wpAny_callSpecial?_slot (name:=Str.ofString "__getitem__") c.typeIs PyProof.Rows.slot_tuple_getitem
   (wpAny_call_entry PyProof.Rows.slot_tuple_getitem c.typeIs entry_tuple_getitem ?_ (args_tuple_getitem _ _)))
 show wpAny _ _ (Builtin.Tuple.tupleItemsOf (.ref t) >>= _) _ _ s;refine Qa (tupleItemsOf_ c ?_);refine Qa (wpAny_typeOf i ?_);rw[Ql (by decide)];refine Qa (sliceApplied_gen hs pl k ?_);have j:¬ ((((sIx items.size 0 lo:Nat):Int) == 0 && (1:Int) == 1 && (sIx items.size items.size a-sIx items.size 0 lo) == items.size)=true):=by
   intro q;rw[Bool.and_eq_true,Bool.and_eq_true] at q;have r:((sIx items.size 0 lo:Nat):Int)=0:=eq_of_beq q.1.1;have u:sIx items.size items.size a-sIx items.size 0 lo=items.size:=eq_of_beq q.2;exact l ⟨by omega,by omega⟩
 show wpAny _ _ (if (((sIx items.size 0 lo:Nat):Int) == 0 && (1:Int) == 1 && (sIx items.size items.size a-sIx items.size 0 lo) == items.size)=true then _ else _) _ _ s;rw[Qh j,pick_gen]
 first
   | exact Qa (m:=Builtin.Tuple.tupleExact _) (wpAny_newObj_type (Qd ⟨_,rfl,Qd h⟩) b)
   | exact Qa (m:=Builtin.Tuple.tupleExact _) (wpAny_newObj_type (Qa (Qd (Qd ⟨_,rfl,Qd h⟩))) b)
   | exact Qa (Qa (m:=Builtin.Tuple.tupleExact _) (wpAny_newObj_type (Qd (Qd ⟨_,rfl,Qd h⟩)) b))
   | exact Qa (Qa (m:=Builtin.Tuple.tupleExact _) (wpAny_newObj_type (Qd ⟨_,rfl,Qd h⟩) b))
end
end HT
namespace L2
open PySem PySem.Spec PyProof.Rows
noncomputable abbrev TO:=St->Hp->(Option Int->Hp->Prop)->Prop
def PO (X:Cx)(e:Option Expr)(t:TO):Prop :=
 ∀(pins:PL) (s:Shared) (σ:St) (H:Hp) (Q:Option Int->Hp->Prop),Inv X pins σ H s->t σ H Q →
   wpAny (model X.prog X.w) X.A (evalPart e X.env) (fun u s'=>∃o H',Inv X pins σ H' s'/\IsPart u o/\Q o H') X.xe s
def tNoPart:TO:=fun _ H Q=>Q none H
def tPart (t:TE):TO:=fun σ H Q=>t σ H fun x H1=>∃i,x = .int i/\Q (some i) H1
theorem zn9 {ns:List Int}:∀ {a:List Value},Vals (ns.map V.int) a->IntsAre a ns:=by
 induction ns with
 | nil=>intro a r;rw[List.map_nil] at r;cases r;exact .nil
 | cons n ns b =>
   intro a r;rw[QL] at r;cases r with
   | cons c d =>
     obtain⟨t,e⟩:=c;subst e;exact .cons n t (b d)
section
variable {X:Cx} {e:Expr} {te:TE} {lo hi:Option Expr} {tl th:TO} {pos p2:Pos}
theorem zm7:PO X none tNoPart:=by
 intro a s b H Q I h;rw[evalPart_none];exact Qd ⟨none,H,I,.none,h⟩
theorem zk5 (h:PE X e te):PO X (some e) (tPart te):=by
 intro a s j H Q I b;rw[evalPart_some];refine thn (h a s j H _ I b) fun u k ⟨x,c,d,f,g⟩=>?_
 obtain⟨i,rfl,q⟩:=g;obtain⟨t,rfl⟩:=f;exact⟨some i,c,d,.int i t,q⟩
def SlR (X:Cx)(r:V->Option Int->Option Int->Hp->VK->Prop):Prop :=
 ∀(pins:PL) (s:Shared) (σ:St) (H:Hp) (x:V) (v vl vu:Value) (lo hi:Option Int) (sl:Addr) (Q:VK),Inv X pins σ H s->RelV x v->s.heap.IsSliceOf sl vl vu .none->IsPart vl lo->IsPart vu hi->r x lo hi H Q →
   ∃T id,typeLookup (.type T) "__getitem__" = pure (some (.builtin id))/\s.TypeIs v T/\wpAny (model X.prog X.w) X.A (getItem v (.ref sl)) (EP X pins σ Q) X.xe s
def tSl (r:V->Option Int->Option Int->Hp->VK->Prop)(te:TE)(tl th:TO):TE:=fun σ H Q=>te σ H fun x H1=>tl σ H1 fun l H2=>th σ H2 fun u H3=>r x l u H3 Q
theorem zj7 {r:V->Option Int->Option Int->Hp->VK->Prop}(j:SlR X r)(k:PE X e te)(m:PO X lo tl)(n:PO X hi th):PE X (.Subscript e (.Slice lo hi none p2) pos) (tSl r te tl th):=by
 intro c s d H Q I h;refine Subscript_ (thn (k c s d H _ I h) fun v o ⟨x,p,t,w,y⟩=>?_);refine wpAny_Slice (thn (m c o d p _ t y) fun f z ⟨l,A,B,C,D⟩=>thn (n c z d A _ B D) fun g a ⟨u,i,E,F,G⟩=>?_);rw[evalPart_none];refine Qd ?_;have J:Inv X c d i { a with heap:=a.heap.push { cls:=.type "slice",data:=.fields #[f,g,.none] } }:=E.kept (t':=a.toks) fun b N q=>Qc _ q
 obtain⟨T,O,K,L,M⟩:=j c { a with heap:=a.heap.push { cls:=.type "slice",data:=.fields #[f,g,.none] } } d i x v f g l u a.heap.objs.size Q J w (Heap.IsSliceOf.new ..) C F G;show wpAny (model X.prog X.w) X.A (subscriptTail e (.Slice lo hi none p2) v (.ref a.heap.objs.size)) (EP X c d Q) X.xe { a with heap:=a.heap.push { cls:=.type "slice",data:=.fields #[f,g,.none] } };exact tail_any (ops:=[.ref a.heap.objs.size,v]) L K M (by with_unfolding_all rfl)
noncomputable def cutV (xs:List V)(lo hi:Option Int):List V:=(xs.drop (HT.sIx xs.length 0 lo)).take (HT.sIx xs.length xs.length hi-HT.sIx xs.length 0 lo)
theorem zj0 (xs:List V)(lo a:Option Int):(cutV xs lo a).length<=xs.length:=by
 unfold cutV;rw[Zb,List.length_drop];omega
inductive yo4 (K:W.Frag)(x:V)(lo:Option Int)(hi:Option Int)(H:Hp)(Q:VK):Prop
 | mk (a xs:_)(h0:x = .ref a)(h1:SqT K H a xs)(h2:¬ (HT.sIx xs.length 0 lo=0/\HT.sIx xs.length xs.length hi=xs.length))(h3:∀p,H p=none->Q (.ref p) (upd H p (.tup (cutV xs lo hi)))):yo4 K x lo hi H Q
def rSlT (K:W.Frag):V->Option Int->Option Int->Hp->VK->Prop:=fun x lo hi H Q=>yo4 K x lo hi H Q
theorem zD8:SlR X (rSlT X.K):=by
 intro u s A H x v w y d f sl Q I k l m n h;obtain⟨a,c,rfl,p,t,q⟩:=h;cases k;obtain⟨j,r,g,i⟩:=I.tuple p;have e:j.toArray.size=c.length:=by rw[Qk];exact r.length.symm
 refine⟨"tuple",_,PyProof.Rows.slot_tuple_getitem.lookup,g.typeIs,?_⟩;refine HT.getItem_tuple_cut g l m n (by rw[e];exact t) ?_ (by rw[e];exact i);rw[e];refine⟨.ref s.heap.objs.size,_,I.laid (t':=s.toks) (o:=.tup (cutV c d f)) (fun b z q=>Qc _ q) (Qi _) ?_,rfl,q _ (I.hok.fresh (Qi _))⟩;exact⟨QK (zj0 c d f) i,_,(r.drop (HT.sIx c.length 0 d)).take (HT.sIx c.length c.length f-HT.sIx c.length 0 d),TupD.new _ _⟩
inductive yh3 (K:W.Frag)(x:V)(y:V)(H:Hp)(Q:VK):Prop
 | mk (a b xs ys:_)(h0:x = .ref a)(h1:y = .ref b)(h2:SqT K H a xs)(h3:SqT K H b ys)(h4:xs≠[])(h5:xs.length+ys.length<=sizeLine)(h6:(ys=[]->Q (.ref a) H))(h7:(ys≠[]->∀p,H p=none->Q (.ref p) (upd H p (.tup (xs++ys))))):yh3 K x y H Q
def rCatT (K:W.Frag):R2:=fun x y H Q=>yh3 K x y H Q
theorem Vals.nil_iff {xs:List V}{us:List Value}(r:Vals xs us):us=[]↔xs=[]:=by
 cases r with
 | nil=>simp
 | cons _ _=>simp
theorem op_catT:OpR X (binaryOp .Add) (rCatT X.K):=by
 intro A s E H x y v u Q I f g h;obtain⟨a,b,i,j,rfl,rfl,k,l,m,e,n,p⟩:=h;cases f;cases g;obtain⟨C,d,r,_⟩:=I.tuple k;obtain⟨B,c,t,_⟩:=I.tuple l;refine HT.cat_tup r t (fun z=>m (d.nil_iff.mp z)) (fun z=>⟨.ref a,H,I,rfl,n (c.nil_iff.mp z)⟩) (fun z=>?_) (by rw[<-d.length,<-c.length];exact e);refine⟨.ref s.heap.objs.size,_,I.laid (t':=s.toks) (o:=.tup (i++j)) (fun b D q=>Qc _ q) (Qi _) ?_,rfl,p (fun w=>z (c.nil_iff.mpr w)) _ (I.hok.fresh (Qi _))⟩;exact⟨by rw[Qq];exact e,_,d.append c,TupD.new _ _⟩
end
noncomputable def ixN (n:Nat)(i:Int):Option Nat:=if 0<=i then(if i<n then some i.toNat else none) else if -(n:Int)<=i then some (i+n).toNat else none
noncomputable def atI {α:Type}(xs:List α)(i:Int):Option α:=(ixN xs.length i).bind fun j=>xs[j]?
theorem yh4 {n:Nat}{i:Int}{j:Nat}(h:ixN n i=some j):seqIndex? i n=some j/\j<n/\-(n:Int)<=i/\i<n:=by
 unfold ixN at h;by_cases b:0<=i
 . rw[Ql b] at h
   by_cases a:i<n
   . rw[Ql a] at h
     have e:i.toNat=j:=Qo h;exact⟨by rw[seqIndex_of b a,e],by omega,by omega,a⟩
   . rw[Qh a] at h;cases h
 . rw[Qh b] at h
   by_cases a:-(n:Int)<=i
   . rw[Ql a] at h
     have e:(i+n).toNat=j:=Qo h;exact⟨by rw[seqIndex_neg (by omega) a,e],by omega,a,by omega⟩
   . rw[Qh a] at h;cases h
theorem zY0 {a:Type}{xs:List a}{i:Int}{v:a}(h:atI xs i=some v):∃j,seqIndex? i xs.length=some j/\xs[j]?=some v/\j<xs.length/\-(xs.length:Int)<=i/\i<xs.length:=by
 unfold atI at h;cases e:ixN xs.length i with
 | none=>rw[e] at h;cases h
 | some j =>
   rw[e] at h;obtain⟨b,c,d,f⟩:=yh4 e;exact⟨j,b,h,c,d,f⟩
theorem zo4 {a:Type}{xs:List a}{j:Nat}{v:a}(h:xs[j]?=some v):atI xs (j:Int)=some v:=by
 have b:j<xs.length:=(Qw.mp h).1;have e:ixN xs.length (j:Int)=some j:=by
   unfold ixN;rw[Ql (by omega),Ql (by omega)];simp
 unfold atI;rw[e];exact h
def yh5 (b:Expr):Prop:=∀o i,subscripted b false o i=operate [o,i] (getItem o i)
def IxR (X:Cx)(r:R2):Prop :=
 ∀(value slice:Expr) (pins:PL) (s:Shared) (σ:St) (H:Hp) (x y:V) (v u:Value) (Q:VK),Inv X pins σ H s->RelV x v->RelV y u->r x y H Q →
   subscripted slice false v u=operate [v,u] (getItem v u)->wpAny (model X.prog X.w) X.A (subscriptTail value slice v u) (EP X pins σ Q) X.xe s
def MtR (X:Cx)(id:String)(r:V->List V->Hp->VK->Prop):Prop :=
 ∀(pins:PL) (s:Shared) (σ:St) (H:Hp) (x:V) (xs:List V) (v:Value) (us:List Value) (Q:VK),Inv X pins σ H s->RelV x v->Vals xs us->r x xs H Q →
   wpAny (model X.prog X.w) X.A (call (.builtin id) (v::us)) (EP X pins σ Q) X.xe s
section
variable {X:Cx} {a b:Expr} {ta tb:TE} {pos:Pos}
theorem IxR.or {r d:R2}(h:IxR X r)(h':IxR X d):IxR X (fun x y H Q=>r x y H Q\/d x y H Q):=by
 intro a b c s i H x y v u Q I e f q g;rcases q with q | q
 . exact h a b c s i H x y v u Q I e f q g
 . exact h' a b c s i H x y v u Q I e f q g
theorem zc9 {r:R2}(d:IxR X r)(e:PE X a ta)(f:PE X b tb)(hs:yh5 b):PE X (.Subscript a b pos) (tOp r ta tb):=by
 intro c s m H Q I h;exact Subscript_ (binT e f I h fun v u g x y i j k l q=>d a b c g m i x y v u Q j k l q (hs _ _))
inductive yo5 (K:W.Frag)(x:V)(y:V)(H:Hp)(Q:VK):Prop
 | mk (p xs i v:_)(h0:x = .ref p)(h1:y = .int i)(h2:SqL K H p xs)(h3:atI xs i=some v)(h4:Q v H):yo5 K x y H Q
def rIxL (K:W.Frag):R2:=fun x y H Q=>yo5 K x y H Q
inductive yo6 (K:W.Frag)(x:V)(y:V)(H:Hp)(Q:VK):Prop
 | mk (p xs i v:_)(h0:x = .ref p)(h1:y = .int i)(h2:SqT K H p xs)(h3:atI xs i=some v)(h4:Q v H):yo6 K x y H Q
def rIxT (K:W.Frag):R2:=fun x y H Q=>yo6 K x y H Q
def rIxS:R2:=fun x y H Q=>∃z i c,x = .str z/\y = .int i/\z.length<=sizeLine/\atI z.cps.toList i=some c/\Q (.str ⟨#[c]⟩) H
theorem zd1:IxR X (rIxL X.K):=by
 intro K L d s l H x y v u Q I o A h f;obtain⟨p,M,i,z,rfl,rfl,B,C,q⟩:=h;cases o;obtain⟨t,rfl⟩:=A;obtain⟨m,r,b,N⟩:=I.list B;obtain⟨j,a,D,O,E,F⟩:=zY0 C;obtain⟨w,g,n⟩:=r.get D;have G:=r.length;have P:=zM7;have e:EP X d l Q w s:=⟨z,H,I,n,q⟩;by_cases k:0<=i
 . have c:i.toNat=j:=by
     rw[seqIndex_of k F] at a;exact Qo a
   exact item_listR b.isList k (by omega) (by rw[c];simpa using g) e f
 . have c:(i+(m.toArray.size:Int)).toNat=j:=by
     rw[seqIndex_neg (by omega) E] at a;rw[Qk,<-G];exact Qo a
   exact subscriptTail_builtinR (x:=w) b.isList.typeIs slot_list_getitem.lookup
     (wpAny_getItem_list_neg (Q:=fun r J=>r=w/\EP X d l Q r J) b.isList (by omega) (by rw[Qk]<;>omega) (by omega) (by rw[c];simpa using g) ⟨rfl,e⟩) f
theorem zg5:IxR X (rIxT X.K):=by
 intro D E a s c H x y v u Q I f g h k;obtain⟨p,G,i,z,rfl,rfl,l,m,q⟩:=h;cases f;obtain⟨t,rfl⟩:=g;obtain⟨F,r,b,J⟩:=I.tuple l;obtain⟨j,n,o,K,L,M⟩:=zY0 m;obtain⟨w,A,d⟩:=r.get o;have B:=r.length;have N:=zM7;have e:EP X a c Q w s:=⟨z,H,I,d,q⟩
 exact subscriptTail_builtinR (x:=w) b.typeIs slot_tuple_getitem.lookup
   (getItem_tuple (j:=j) (Q:=fun r C=>r=w/\EP X a c Q r C) b (by omega) (by omega) (by rw[Qk,<-B];exact n) (by simpa using A) ⟨rfl,e⟩) k
theorem ix_str:IxR X rIxS:=by
 intro p r w s E H x y v u Q I b d h e;obtain⟨z,i,c,rfl,rfl,A,f,q⟩:=h;obtain⟨t,rfl⟩:=b;obtain⟨B,rfl⟩:=d;obtain⟨j,a,g,C,k,l⟩:=zY0 f;have m:z.cps.toList.length=z.length:=by simp[Str.length]
 rw[m] at a k l;have D:=zM7;exact tail_any (typeIs_str s z t) slot_str_getitem.lookup (getItem_str (c:=c) (by
   have n:decide (i < -(2 ^ 63:Int))=false:=Qg (by omega);have o:decide (i≥2 ^ 63)=false:=Qg (by omega);rw[n,o,Bool.or_false]) (by rw[a];simpa using g) ⟨.str ⟨#[c]⟩,H,I.tok _,⟨_,rfl⟩,q⟩) e
def rIx (K:W.Frag):R2:=fun x y H Q=>rIxL K x y H Q\/rIxT K x y H Q\/rIxS x y H Q
theorem zo0:IxR X (rIx X.K):=zd1.or (zg5.or ix_str)
theorem mapSeq_set (its:List Value) (n j:Nat) (u:Value):Obj.mapSeq (·.setIfInBounds j u) { cls:=.type "list",data:=.seq its.toArray n } = { cls:=.type "list",data:=.seq (its.set j u).toArray n }:=by
 simp[Obj.mapSeq]
theorem Inv.lst {b:PL}{c:St}{H:Hp}{s:Shared}{p:Addr}{xs:List V}(I:Inv X b c H s)(h:H p=some (.lst xs)) :
   ∃(a:List Value) (n:Nat),Vals xs a/\s.heap.get? p=some { cls:=.type "list",data:=.seq a.toArray n }/\xs.length<=sizeLine:=by
 obtain⟨z,a,n,r,e⟩:=I.hok p _ h;exact⟨a,n,r,e,z⟩
theorem Inv.lstUpd {c:PL}{g:St}{H:Hp}{s:Shared}{p:Addr}{xs ys:List V}{its its':List Value}{n a:Nat}{f:Obj->Obj}(I:Inv X c g H s)(h:H p=some (.lst xs))
   (i:s.heap.get? p=some { cls:=.type "list",data:=.seq its.toArray n }) (d:f { cls:=.type "list",data:=.seq its.toArray n } = { cls:=.type "list",data:=.seq its'.toArray a }) (r:Vals ys its') (j:ys.length<=sizeLine) (t:Nat) :
   Inv X c g (upd H p (.lst ys)) { s with heap:=s.heap.update p f,toks:=t }:=by
 have e:(s.heap.update p f).get? p=some { cls:=.type "list",data:=.seq its'.toArray a }:=by
   rw[Zu f i (by rw[d]<;>rfl),d]
 refine I.write (x:=p) (e:=p) (by rw[h];trivial) (.inl rfl) (fun b u k q=>(Heap.get?_update_other _ _ (Ne.symm k)).trans q) ⟨_,e⟩ ?_;exact⟨j,its',a,r,e⟩
inductive yh6  (o:V)(i:V)(v:V)(H:Hp)(Q:Hp->Prop):Prop
 | mk (p xs k j:_)(h0:o = .ref p)(h1:i = .int k)(h2:H p=some (.lst xs))(h3:ixN xs.length k=some j)(h4:Q (upd H p (.lst (xs.set j v)))):yh6  o i v H Q
def rSetL:V->V->V->Hp->(Hp->Prop)->Prop:=fun o i v H Q=>yh6  o i v H Q
theorem set_list:PSet X rSetL:=by
 intro x s E H o i v F G u Q I y z A h;obtain⟨p,B,k,j,rfl,rfl,f,C,q⟩:=h;cases y;obtain⟨t,rfl⟩:=z;obtain⟨e,n,r,b,D⟩:=I.lst f;obtain⟨a,J,g,l⟩:=yh4 C;have c:=r.length;have K:=zM7;have m:Inv X x E (upd H p (.lst (B.set j v))) { s with heap:=s.heap.update p (Obj.mapSeq (·.setIfInBounds j u)) } :=
   I.lstUpd f b (mapSeq_set e n j u) (r.set A j) (by rw[Zj];exact D) s.toks
 by_cases w:0<=k
 . have d:k.toNat=j:=by
     rw[seqIndex_of w l] at a;exact Qo a
   exact W.ki_setAt b w (by omega) (by rw[Qk,<-c];exact l) (by rw[d];exact⟨_,m,q⟩)
 . have d:(k+(e.toArray.size:Int)).toNat=j:=by
     rw[seqIndex_neg (by omega) g] at a;rw[Qk,<-c];exact Qo a
   exact W.ki_setBack b (by omega) (by rw[Qk,<-c];exact g) (by omega) (by rw[d];exact⟨_,m,q⟩)
theorem slice_bounds (lo a:Option Int)(n:Nat):(sliceBounds lo a none n).1=((HT.sIx n 0 lo:Nat):Int)/\(sliceBounds lo a none n).2.1=((HT.sIx n n a:Nat):Int)/\(sliceBounds lo a none n).2.2=1:=by
 refine⟨?_,?_,rfl⟩
 . cases lo with
   | none=>simp[sliceBounds,HT.sIx]
   | some i =>
     simp only[sliceBounds,HT.sIx,Option.getD_none,show(1:Int)>0 by decide,if_true];by_cases h:i<0
     . simp only[h,if_true]<;>omega
     . simp only[h,if_false]<;>omega
 . cases a with
   | none=>simp[sliceBounds,HT.sIx]
   | some i =>
     simp only[sliceBounds,HT.sIx,Option.getD_none,show(1:Int)>0 by decide,if_true];by_cases h:i<0
     . simp only[h,if_true]<;>omega
     . simp only[h,if_false]<;>omega
theorem slicePick_cut (its:List Value)(lo a:Option Int):slicePick its.toArray lo a none=((its.drop (HT.sIx its.length 0 lo)).take (HT.sIx its.length its.length a-HT.sIx its.length 0 lo)).toArray:=by
 obtain⟨b,c,d⟩:=slice_bounds lo a its.toArray.size;unfold slicePick;rw[b,c,d]
 simp only[sliceRange_one,pick_run,Qk]<;>rfl
inductive yo7 (K:W.Frag)(x:V)(lo:Option Int)(hi:Option Int)(H:Hp)(Q:VK):Prop
 | mk (a xs:_)(h0:x = .ref a)(h1:SqL K H a xs)(h2:∀p,H p=none->Q (.ref p) (upd H p (.lst (cutV xs lo hi)))):yo7 K x lo hi H Q
def rSlL (K:W.Frag):V->Option Int->Option Int->Hp->VK->Prop:=fun x lo hi H Q=>yo7 K x lo hi H Q
theorem yh7:SlR X (rSlL X.K):=by
 intro p s z H x v u w d e sl Q I i j k l h;obtain⟨a,c,rfl,m,q⟩:=h;cases i;obtain⟨t,r,f,n⟩:=I.list m;have g:=r.length;refine⟨"list",_,slot_list_getitem.lookup,f.isList.typeIs,?_⟩
 refine wpAny_getItem_list_slice f.isList j k l .none (by simp) ?_ (by rw[Qk]<;>omega);rw[slicePick_cut,<-g];refine⟨.ref s.heap.objs.size,_,I.laid (t':=s.toks) (o:=.lst (cutV c d e)) (fun b y q=>Qc _ q) (Qi _) ?_,rfl,q _ (I.hok.fresh (Qi _))⟩;exact⟨QK (zj0 c d e) n,_,0,(r.drop (HT.sIx c.length 0 d)).take (HT.sIx c.length c.length e-HT.sIx c.length 0 d),Qj _ rfl⟩
theorem zc0:zm4 X (.builtin "len") (fun f H Q=>∃p a,f=[.ref p]/\(SqL X.K H p a\/SqT X.K H p a)/\Q (.int a.length) H):=by
 intro k s n H f l Q I r h;obtain⟨p,a,rfl,b,q⟩:=h;obtain⟨u,rfl,i⟩:=zx8 r;cases i;have m:=zM7;rcases b with b | b
 . obtain⟨g,d,e,j⟩:=I.list b
   have c:=d.length
   exact Calls.call_len_list e.isList (by simp only[Qk]<;>omega) ⟨.int a.length,H,I.tok _,⟨s.toks+1,by rw[Qk,c]⟩,q⟩
 . obtain⟨g,d,e,j⟩:=I.tuple b
   have c:=d.length
   exact len_tuple e (by simp only[Qk]<;>omega) ⟨.int a.length,H,I.tok _,⟨s.toks+1,by rw[Qk,c]⟩,q⟩
theorem zq4:zm4 X (.type "list") (fun y H Q=>∃p d,y=[.ref p]/\(SqL X.K H p d\/SqT X.K H p d)/\∀l,H l=none->Q (.ref l) (upd H l (.lst d))):=by
 intro A s D H y E Q I r h;obtain⟨p,d,rfl,i,q⟩:=h;obtain⟨u,rfl,C⟩:=zx8 r;cases C
 have x:∀(c:List Value),Vals d c->d.length<=sizeLine->∀(a:Heap) (f:Nat),(∀b z,s.heap.get? b=some z->a.get? b=some z) →
     a.get? s.heap.objs.size=some { cls:=.type "list",dict:=none,data:=.seq c.toArray f,slots:=#[] }->EP X A D Q (.ref s.heap.objs.size) { s with heap:=a }:=fun c g j a f k e =>
   ⟨.ref s.heap.objs.size,_,I.laid (t':=s.toks) k (Qi _) (show ze9 X.prog X.w _ a _ (.lst d) from⟨j,c,f,g,e⟩),rfl,q _ (I.hok.fresh (Qi _))⟩
 rcases i with i | i
 . obtain⟨c,g,m,j⟩:=I.list i
   have B:=g.length;obtain⟨o,t,v,n,w⟩:=m.isList
   exact call_list_seq p (.inl rfl) t v w (fun a f k e=>x c g j a f k e) (by simp only[Qk]<;>omega)
 . obtain⟨c,g,m,j⟩:=I.tuple i
   have B:=g.length;obtain⟨o,t,v,n,w⟩:=m
   exact call_list_seq p (.inr rfl) t v w (fun a f k e=>x c g j a f k e) (by simp only[Qk]<;>omega)
theorem zl5:zm4 X (.type "tuple") (fun k H Q=>∃p a,k=[.ref p]/\((SqL X.K H p a/\∀l,H l=none->Q (.ref l) (upd H l (.tup a)))\/(SqT X.K H p a/\Q (.ref p) H))):=by
 intro j s t H k z Q I r h;obtain⟨p,a,rfl,h⟩:=h;obtain⟨u,rfl,v⟩:=zx8 r;cases v;rcases h with⟨f,q⟩ | ⟨f,q⟩
 . obtain⟨d,g,i,m⟩:=I.list f
   have y:=g.length
   refine call_tuple_list i.isList (fun c w=>?_) (by simp only[Qk]<;>omega);have n:Inv X j t H { s with heap:=c }:=I.kept (t':=s.toks) w;have x:Inv X j t (upd H c.objs.size (.tup a)) { s with heap:=c.push { cls:=.type "tuple",data:=.seq d.toArray } } :=
     n.laid (t':=s.toks) (fun b o e=>Qc _ e) (Qi _) (show ze9 X.prog X.w _ _ _ (.tup a) from⟨m,d,g,TupD.new _ _⟩)
   exact⟨.ref c.objs.size,_,x,rfl,q _ (n.hok.fresh (Qi _))⟩
 . obtain⟨d,g,i,m⟩:=I.tuple f
   exact call_tuple_same i ⟨.ref p,H,I,rfl,q⟩
def tyV (K:W.Frag)(T:String)(x:V)(H:Hp):Prop:=match x with
 | .str _=>T = "str"
 | .int _=>T = "int"
 | .ref p=>(T = "list"/\∃xs,SqL K H p xs)\/(T = "tuple"/\∃o,K.lookup p=some o/\o.cls = .type "tuple"/\o.dict=none) ∨
     (T = "dict"/\((∃kvs,H p=some (.dK kvs))\/∃kvs,H p=some (.dT kvs)))\/(T = "set"/\∃S n,H p=some (.set S n))
 | _=>False
theorem yo8 {k:PL}{u:St}{H:Hp}{s:Shared}{T:String}{x:V}{v:Value}(I:Inv X k u H s)(r:RelV x v)(d:tyV X.K T x H) :
   s.TypeIs v T/\∀a,v = .ref a->∃h,s.heap.get? a=some h/\h.dict=none:=by
 cases x with
 | str z =>
   obtain⟨t,rfl⟩:=r;cases (show T = "str" from d);exact⟨typeIs_str s z t,fun _ e=>nomatch e⟩
 | int i =>
   obtain⟨t,rfl⟩:=r;cases (show T = "int" from d);exact⟨typeIs_int s i t,fun _ e=>nomatch e⟩
 | ref p =>
   cases r;rcases d with⟨rfl,y,m⟩ | ⟨rfl,o,b,q,f⟩ | ⟨rfl,b⟩ | ⟨rfl,S,n,b⟩
   . obtain⟨w,_,j,_⟩:=I.list m
     refine⟨j.isList.typeIs,fun a e=>?_⟩;cases e;obtain⟨o,n,e,c,f,_⟩:=j;exact⟨o,e,f⟩
   . refine⟨⟨o,I.kIn p o b,q⟩,fun a e=>?_⟩
     cases e;exact⟨o,I.kIn _ o b,f⟩
   . have z:∃o,s.heap.get? p=some o/\o.ExactDict:=by
       rcases b with⟨l,b⟩ | ⟨l,b⟩
       . obtain⟨_,_,_,_,o,_,_,e,ex,_⟩:=I.hok p _ b
         exact⟨o,e,ex⟩
       . obtain⟨_,_,_,_,o,_,_,e,ex,_⟩:=I.hok p _ b
         exact⟨o,e,ex⟩
     obtain⟨o,e,ex⟩:=z;refine⟨⟨o,e,ex.1⟩,fun a g=>?_⟩;cases g;exact⟨o,e,ex.2.1⟩
   . obtain⟨o,_,_,_,e,ex,_⟩:=I.hok p _ b
     refine⟨⟨o,e,ex.1⟩,fun a g=>?_⟩;cases g;exact⟨o,e,ex.2.1⟩
 | _=>exact False.elim d
def tBM0 (K:W.Frag)(T:String)(r:V->List V->Hp->VK->Prop)(to:TE):TE:=fun σ H Q=>to σ H fun x H1=>tyV K T x H1/\r x [] H1 Q
def tBM (K:W.Frag)(T:String)(r:V->List V->Hp->VK->Prop)(to:TE)(t:TA):TE:=fun σ H Q=>to σ H fun x H1=>tyV K T x H1/\t σ H1 fun xs H2=>r x xs H2 Q
variable {o e:Expr} {es:List Expr} {to:TE} {t:TA} {name:Str} {apos cpos:Pos} {T id:String} {r:V->List V->Hp->VK->Prop}
theorem zY1 (j:PlainAttrs T) (g:Slot T name id) (i:typeOf (.builtin id)=pure (.type "method_descriptor")) (k:MtR X id r) (l:PE X o to)
   (e:attributeBase o name X.env (eval o X.env)=eval o X.env:=by rfl) (f:(apos.endLine == cpos.line)=true:=by rfl):PE X (.Call (.Attribute o name apos) [] [] cpos) (tBM0 X.K T r to):=by
 intro a s d H Q I h;refine wpAny_Call_method0_late e f (thn (l a s d H _ I h) fun v m ⟨x,n,b,c,p,q⟩=>?_);obtain⟨t,u⟩:=yo8 b c p;exact⟨T,id,j,g,i,t,u,Calls.callWith_builtin rfl (PySem.evalArgs_none (k a m d n x [] v [] Q b c .nil q))⟩
theorem zr4 (n:PlainAttrs T) (k:Slot T name id) (m:typeOf (.builtin id)=pure (.type "method_descriptor")) (p:MtR X id r) (q:PE X o to) (u:PA X (e::es) t)
   (i:attributeBase o name X.env (eval o X.env)=eval o X.env:=by rfl)
   (l:((backTo cpos (starEach (e::es) X.env)).all (fun x=>!x.1) && (backToKw cpos (keywordEach [] X.env)).all (fun x=>x.1.isSome)
     && decide ((e::es).length+([]:List Keyword).length+(if ([]:List Keyword).isEmpty then 0 else 1)<30))=true:=by rfl)
   (j:(apos.endLine == cpos.line)=true:=by rfl) (hs:starEach (e::es) X.env=(false,eval e X.env)::starEach es X.env:=by rfl) (g:(backTo cpos (starEach es X.env)).any (·.1)=false:=by rfl) :
   PE X (.Call (.Attribute o name apos) (e::es) [] cpos) (tBM X.K T r to t):=by
 intro a s b H Q I h;refine wpAny_Call_method_late i l j rfl (thn (q a s b H _ I h) fun v w ⟨x,y,c,d,z,A⟩=>?_);obtain⟨B,C⟩:=yo8 c d z;refine⟨T,id,n,k,m,B,C,?_⟩;have f:=u cpos a w b y _ c A;rw[hs] at f ⊢
 refine Calls.callWith_builtin (by show(false || (backTo cpos (starEach es X.env)).any (·.1))=false;rw[g]<;>rfl) (Calls.evalArgs_plain ?_);exact thn f fun D E ⟨F,G,J,K,L⟩=>p a E b G x F v D Q J d K L
/- xs.append(e),list.index on a module's tuple .. are MtR facts of 06m -/
end
def MtM (X:Cx)(id:String)(r:V->List V->Hp->VK->Prop):Prop :=
 ∀(pins:PL) (s:Shared) (σ:St) (H:Hp) (x:V) (xs:List V) (v:Value) (us:List Value) (Q:VK),Inv X pins σ H s->RelV x v->Vals xs us->r x xs H Q →
   wpAny (model X.prog X.w) X.A (call (.builtin id) (v::us)) (EP X pins σ Q) X.xe s
theorem Vals.one:∀ {x:V} {a:List Value},Vals [x] a->∃u,a=[u]/\RelV x u
 | _,_,.cons r .nil=>⟨_,rfl,r⟩
theorem Vals.zero:∀ {a:List Value},Vals [] a->a=[]
 | _,.nil=>rfl
theorem Vals.dropLast {xs:List V}{us:List Value}(h:Vals xs us):Vals xs.dropLast us.dropLast:=by
 induction h with
 | nil=>exact .nil
 | cons r t a =>
   cases t with
   | nil=>exact .nil
   | cons q b=>exact .cons r a
theorem Vals.reverse {xs:List V}{us:List Value}(h:Vals xs us):Vals xs.reverse us.reverse:=by
 induction h with
 | nil=>exact .nil
 | cons r t a=>rw[List.reverse_cons,List.reverse_cons];exact Vals.append a (.cons r .nil)
theorem Vals.rep {xs:List V}{us:List Value}(h:Vals xs us):∀k:Nat,Vals (List.replicate k xs).flatten (List.replicate k us).flatten
 | 0=>.nil
 | k+1=>by
   rw[ZF,ZF,List.flatten_cons,List.flatten_cons];exact Vals.append h (Vals.rep h k)
theorem erase_last {d:Type}(l:List d):l.eraseIdx (l.length-1)=l.dropLast:=by
 induction l with
 | nil=>rfl
 | cons a r c =>
   cases r with
   | nil=>rfl
   | cons b r =>
     have e:(a::b::r).length-1=((b::r).length-1)+1:=by
       have f:(a::b::r).length=r.length+2:=rfl;have g:(b::r).length=r.length+1:=rfl;omega
     rw[e,List.eraseIdx_cons_succ,c]
     all_goals rfl
theorem zS7 (its:List Value):∀(k:Nat) (a:List Value),
   List.foldl (fun b c=>b++c) a.toArray (List.replicate k its.toArray)=(a++(List.replicate k its).flatten).toArray
 | 0,a=>by simp
 | k+1,a=>by
   have e:a.toArray++its.toArray=(a++its).toArray:=by simp
   have d:(a++its)++(List.replicate k its).flatten=a++(List.replicate (k+1) its).flatten:=by
     rw[ZF,List.flatten_cons,Zc]
   rw[<-d,<-zS7 its k (a++its),<-e,ZF,List.foldl_cons]
section
variable {X:Cx} {pins:PL} {σ:St} {H:Hp} {s:Shared} {l b:Addr} {xs ys zs:List V}
theorem Inv.lset {its its':List Value}{n:Nat}{f:Array Value->Array Value}{t':Nat}(I:Inv X pins σ H s)(a:H l=some (.lst xs))
   (e:s.heap.get? l=some { cls:=.type "list",data:=.seq its.toArray n }) (b:f its.toArray=its'.toArray) (c:Vals ys its') (d:ys.length<=sizeLine) :
   Inv X pins σ (upd H l (.lst ys)) { s with heap:=s.heap.update l (Obj.mapSeq f),toks:=t' }:=by
 have q:=PySem.IsL.update e f;rw[b] at q;refine I.write (x:=l) (e:=l) (by rw[a];exact trivial) (.inl rfl) (fun i u g h=>(Heap.get?_update_other s.heap (Obj.mapSeq f) (Ne.symm g)).trans h) ⟨_,q⟩ ?_;exact⟨d,its',_,c,q⟩
theorem Inv.lnew {its:List Value}{t':Nat}(I:Inv X pins σ H s)(a:Vals ys its)(b:ys.length<=sizeLine) :
   Inv X pins σ (upd H s.heap.objs.size (.lst ys)) { s with heap:=s.heap.push { cls:=.type "list",data:=.seq its.toArray },toks:=t' } :=
 I.laid (fun _ _ q=>Qc _ q) (Qi _) ⟨b,its,0,a,Qj _ rfl⟩
theorem Inv.fresh (I:Inv X pins σ H s):H s.heap.objs.size=none:=I.hok.fresh (Qi _)
theorem Inv.lstM (I:Inv X pins σ H s) (b:H l=some (.lst xs)):xs.length<=sizeLine/\∃(a:List Value) (n:Nat),Vals xs a/\xs.length=a.length/\s.heap.get? l=some { cls:=.type "list",data:=.seq a.toArray n }:=by
 obtain⟨z,a,n,r,e⟩:=I.hok l _ b;exact⟨z,a,n,r,r.length,e⟩
theorem ya7 {n:Nat}(h:n<=sizeLine):Builtin.List.listTooLong n=false:=by
 unfold Builtin.List.listTooLong;exact Qg (by omega)
end
section
variable {X:Cx}
inductive zS8  (x:V)(vs:List V)(H:Hp)(Q:VK):Prop
 | mk (l xs y:_)(h0:x = .ref l)(h1:vs=[y])(h2:H l=some (.lst xs))(h3:xs.length<sizeLine)(h4:Q .non (upd H l (.lst (xs++[y])))):zS8  x vs H Q
def rAppend:V->List V->Hp->VK->Prop:=fun x vs H Q=>zS8  x vs H Q
theorem zh0:MtM X "list.append" rAppend:=by
 intro g s p H x i v j Q I c d h;obtain⟨l,k,y,rfl,rfl,b,m,q⟩:=h;cases c;obtain⟨u,rfl,f⟩:=d.one;obtain⟨z,a,n,r,o,e⟩:=I.lstM b;refine call_meets F.slot_list_append ⟨_,e,rfl⟩ F.entry_list_append (F.args_list_append_2 _ _) (PySem.list_append l a.toArray n u (by rw[Qk];omega)) ⟨e,?_⟩;refine⟨.non,_,I.lset (its':=a++[u]) b e (by simp) (r.append (.cons f .nil)) ?_,rfl,q⟩;rw[Qq,List.length_singleton];omega
def rExtend:V->List V->Hp->VK->Prop:=fun x vs H Q=>∃l b xs zs,x = .ref l/\vs=[.ref b]/\H l=some (.lst xs)/\H b=some (.lst zs)/\xs.length+zs.length<=sizeLine/\Q .non (upd H l (.lst (xs++zs)))
theorem mt_extend:MtM X "list.extend" rExtend:=by
 intro w s K H x A v B Q I i j h;obtain⟨l,b,C,D,rfl,rfl,d,k,E,q⟩:=h;cases i;obtain⟨u,rfl,m⟩:=j.one;cases m;obtain⟨z,a,n,r,G,e⟩:=I.lstM d;obtain⟨J,c,o,p,y,t⟩:=I.lstM k;have g:a.toArray.size+c.toArray.size<=sizeLine:=by rw[Qk,Qk];omega
 have f:¬ (!a.toArray.isEmpty && Builtin.List.listTooLong (a.toArray.size+c.toArray.size))=true:=by
   rw[ya7 g,Bool.and_false];exact Qu
 refine call_meets F.slot_list_extend ⟨_,e,rfl⟩ F.entry_list_extend (F.args_list_extend_2 _ _)
   (AutoSeq1.list_extend_list_list_0 l a.toArray n b c.toArray o f (by rw[Qk];omega) (by omega)) ⟨e,t,?_⟩
 refine⟨.non,_,I.lset (its':=a++c) d e (by simp) (r.append p) ?_,rfl,q⟩;rw[Qq];omega
def rPop:V->List V->Hp->VK->Prop:=fun x vs H Q=>∃l xs y,x = .ref l/\vs=[]/\H l=some (.lst xs)/\xs[xs.length-1]?=some y/\Q y (upd H l (.lst xs.dropLast))
theorem yo9:MtM X "list.pop" rPop:=by
 intro o s A H x p v t Q I f g h;obtain⟨l,w,y,rfl,rfl,b,i,q⟩:=h;cases f;have c:=g.zero;subst c;obtain⟨z,a,n,r,j,e⟩:=I.lstM b;obtain⟨u,k,m⟩:=r.get i;have d:a.toArray[a.toArray.size-1]?=some u:=by
   show a.toArray[a.length-1]?=some u;rw[<-QN,<-j];exact k
 refine call_meets F.slot_list_pop ⟨_,e,rfl⟩ F.entry_list_pop (F.args_list_pop_1 _) (MeetsSeq.list_pop_last l a.toArray n u d (by rw[Qk];omega)) ⟨e,?_⟩;refine⟨y,_,I.lset (its':=a.dropLast) b e ?_ r.dropLast ?_,m,q⟩
 . show a.toArray.eraseIdxIfInBounds (a.toArray.size-1)=a.dropLast.toArray
   rw[Qk,List.eraseIdxIfInBounds_toArray,erase_last]
 . rw[List.length_dropLast]
   omega
def rReverse:V->List V->Hp->VK->Prop:=fun x vs H Q=>∃l xs,x = .ref l/\vs=[]/\H l=some (.lst xs)/\Q .non (upd H l (.lst xs.reverse))
theorem mt_reverse:MtM X "list.reverse" rReverse:=by
 intro g s o H x i v j Q I d f h;obtain⟨l,k,rfl,rfl,b,q⟩:=h;cases d;have c:=f.zero;subst c;obtain⟨z,a,n,r,m,e⟩:=I.lstM b;refine call_meets F.slot_list_reverse ⟨_,e,rfl⟩ F.entry_list_reverse (F.args_list_reverse_1 _) (AutoSeq1.list_reverse_list_0 l a.toArray n (by rw[Qk];omega)) ⟨e,?_⟩;refine⟨.non,_,I.lset (its':=a.reverse) b e (by simp) r.reverse ?_,rfl,q⟩;rw[List.length_reverse];omega
inductive yp0  (x:V)(y:V)(H:Hp)(Q:VK):Prop
 | mk (l b xs zs:_)(h0:x = .ref l)(h1:y = .ref b)(h2:H l=some (.lst xs))(h3:H b=some (.lst zs))(h4:xs.length+zs.length<=sizeLine)(h5:∀p,H p=none->Q (.ref p) (upd H p (.lst (xs++zs)))):yp0  x y H Q
def rCat:R2:=fun x y H Q=>yp0  x y H Q
theorem yp1:OpR X (binaryOp .Add) rCat:=by
 intro o s E H x y v u Q I d f h;obtain⟨l,b,t,w,rfl,rfl,g,i,A,q⟩:=h;cases d;cases f;obtain⟨z,c,n,r,B,e⟩:=I.lstM g;obtain⟨C,a,D,j,p,k⟩:=I.lstM i;refine PySem.P.add_list e k ?_ (by rw[Qk,Qk];omega);have m:c.toArray++a.toArray=(c++a).toArray:=by simp
 rw[m];exact⟨.ref _,_,I.lnew (t':=s.toks) (r.append j) (by rw[Qq];omega),rfl,q _ I.fresh⟩
def rRep:R2:=fun x y H Q=>∃l k xs,x = .ref l/\y = .int k/\H l=some (.lst xs)/\-(2 ^ 63)<=k/\k<2 ^ 63/\xs.length*k.toNat<=sizeLine ∧
 ∀p,H p=none->Q (.ref p) (upd H p (.lst (List.replicate k.toNat xs).flatten))
theorem zY2 {b:Type}(xs:List b)(k:Nat):(List.replicate k xs).flatten.length=k*xs.length:=by
 induction k with
 | zero=>simp
 | succ k a=>rw[ZF,List.flatten_cons,Qq,a,Nat.succ_mul,Nat.add_comm]
theorem zY3:OpR X (binaryOp .Mult) rRep:=by
 intro K s N H x y v u Q I w A h;obtain⟨l,k,L,rfl,rfl,B,C,D,f,q⟩:=h;cases w;obtain⟨t,rfl⟩:=A;obtain⟨z,b,n,r,E,e⟩:=I.lstM B;have i:b.toArray.size*k.toNat<=sizeLine:=by rw[Qk,<-E];exact f
 have j:¬ b.toArray.size*k.toNat>(2 ^ 63-1) / 8:=by
   have:(sizeLine:Nat)<=(2 ^ 63-1) / 8:=by decide
   omega
 have o:¬ (!Builtin.List.listFitsIndex k)=true:=by
   rw[fitsIndex_both C D];exact Qu
 have g:¬ Builtin.List.listTooLong (b.toArray.size*k.toNat)=true:=by
   rw[ya7 i];exact Qu
 have p:List.foldl (fun c d=>c++d) #[] (List.replicate (if b.toArray.isEmpty=true then 0 else k.toNat) b.toArray)=(List.replicate k.toNat b).flatten.toArray:=by
   have G:∀m:Nat,List.foldl (fun c d=>c++d) #[] (List.replicate m b.toArray)=(List.replicate m b).flatten.toArray:=fun m=>by
     have:=zS7 b m [];rw[List.nil_append] at this;exact this
   rw[G];cases b with
   | nil=>simp
   | cons a M=>rw[Qh (by simp)]
 refine wpAny_binaryOp_repeat_ref (T:="list") (U:="int") (by decide) ⟨_,e,rfl⟩ (fun J=>typeIs_int J k t) noFill_list_mul F.fills_int_mul F.slot_int_rmul repeat_list F.slot_int_index.lookup
   (call_meets F.slot_int_rmul (typeIs_int s k t) F.entry_int_rmul (F.args_int_rmul_2 _ _) (int___rmul___int_list k t l b.toArray n)
     ⟨e,rfl,⟨_,e,rfl⟩,call_meets F.slot_list_mul ⟨_,e,rfl⟩ F.entry_list_mul (F.args_list_mul_2 _ _) (AutoListH.list___mul___list_int_3 l b.toArray n k t o j g) ⟨e,?_⟩⟩)
 rw[p];exact⟨.ref _,_,I.lnew (t':=s.toks) (r.rep k.toNat) (by rw[zY2,Nat.mul_comm];exact f),rfl,q _ I.fresh⟩
end
section
variable {prog:Program} {w:World} {A:Around} {E:VP} {s:Shared}
end
section
variable {X:Cx}
end
end L2
namespace Att
open PySem PySem.W PySem.Calls PyProof.Rows
theorem ints_of_wellAll {P:Params}{h:Heap}:∀(c:List Int) (d:List Value),WellAll P h d (c.map WData.int)->IntsAre d c:=by
 intro c
 induction c with
 | nil =>
   intro d w;rw[List.map_nil] at w;cases w;exact .nil
 | cons n c e =>
   intro d w;rw[QL] at w;cases w with
   | cons a b =>
     cases a;exact .cons _ _ (e _ b)
theorem script_of {l:OpenLaw}{n:Nat}(s:l.most=some n){P:Params}{h:Heap}{args:List WData}{f:List Value}
   (g:l.row.toRowW.claim.pre args=true) (o:WellAll P h f args) :
   ∃a i b,f=[Value.ref a]/\args=[WData.list (b.map WData.int)]/\h.get? a=some { cls:=.type "list",data:=.seq i.toArray }/\IntsAre i b/\b.length<=n:=by
 have p:WShape.hasAll [] args [.list .int]=true:=(pre_splitW g).1;have j:l.pre.holds [] { args:=args }=true:=(pre_splitW g).2;obtain⟨d,r,rfl,t,u⟩:=hasAllW_cons p;obtain rfl:=hasAllW_nil u;obtain⟨A,rfl,v⟩:=hasW_list t;obtain⟨b,rfl⟩:=items_int v;have k:b.length<=n:=by
   unfold OpenLaw.pre at j;have c:(WTm.not (.lt (.lit (.int (n:Int))) (.len (.arg 0)))).holds [] { args:=[.list (b.map .int)] }=true:=by
     have c:=(holds_andW j).1;rw[s] at c;exact c
   have e:=condW_of c (w_not (w_lt w_lit (w_len_list (w_arg rfl))));rw[Qb] at e;refine Nat.le_of_not_lt fun q=>?_
   have w:(n:Int)<((b.length:Nat):Int):=by omega
   first
     | (rw[Qf w] at e;exact absurd e (by decide))
     | (simp at e;omega)
 cases o with
 | cons x y =>
   cases y;cases x with
   | list z m=>exact⟨_,_,b,rfl,rfl,z,ints_of_wellAll b _ m,k⟩
theorem post_true (l:OpenLaw)(args:List WData):l.row.toRowW.claim.post args (.bool true) args=true :=
 postW_of (r:=l.row.toRowW) (X:=(true == true))
   (show WShape.has [] (.bool true) .bool=true by first | rfl | decide | simp[WShape.has,WShape.arms,WShape.armsAll])
   (show(WTm.eq .res (.lit (.bool true))).value [] { args:=args,res:=some (.bool true),after:=args }=some (.bool (true == true)) from w_eq_bool (w_res rfl) w_lit) rfl
theorem attach_call {l:OpenLaw}{n:Nat}{q:Program}{s:List Str}{t:(Str->Option Value)->Heap->Prop}{u:World->Heap->Prop}{d:DefRec}
   (F:l.most=some n) (B:d.params.defaults=[])
   (call:∀(w:World) (m b:Shared) (g mb:Str->Option Value) (e:Addr) (o:Obj) (p h k:Value) (a:Addr) (c:List Value) (i:List Int),
     Ground q s [] t w m g mb b.heap->u w b.heap →
     b.heap.get? e=some o->o.data = .func (docDef d.name d.params d.body d.scope p h k)->b.heap.CodeRec h d.name->g d.name=some (.ref e) →
     b.heap.get? a=some { cls:=.type "list",data:=.seq c.toArray }->IntsAre c i->i.length<=n->b.gens = #[] →
     codeAny (model l.prog w) callerA (.call (.ref e) ⟨[.ref a],[]⟩) (fun r j=>r = .ok (.ret (.bool true))/\OldK b.heap j.heap/\j.os=b.os/\AllBare j.gens) b) :
   WalkO q s t u l.row.toRowW d [] (fun f c=>PySem.call f c):=by
 intro w m b g mb G Y e o p h k H kV I J C v D K Q R V y S T E U;obtain rfl:H = .none:=Dflts.none v B;obtain rfl:kV = .none:=Dflts.noKw v;obtain⟨a,c,i,rfl,rfl,z,x,A⟩:=script_of F y E;refine enter_call (codeAny_mono (call w m b g mb e o p h k a c i G Y I (fd_plain J) C D z x A K) fun r j L=>?_);obtain⟨rfl,M,N,O⟩:=L;exact⟨.inl ⟨.bool true,.bool true,[],rfl,fun _=>rfl,.bool true,post_true l _,fun _=>⟨List.Pairwise.nil,fun _ P=>(nomatch P)⟩⟩,M,N,O⟩
section
variable {prog:Program} {w:World} {A:Around} {E:VP} {s:Shared} {K:Frag}
end
end Att
namespace L2
open PySem PySem.Spec PyProof.Rows
theorem zI8:∀ {a:List Value} {b:List Int},IntsAre a b->Vals (b.map V.int) a
 | _,_,.nil=>.nil
 | _,_,.cons n t h=>.cons ⟨t,rfl⟩ (zI8 h)
def Only (H:Hp):Prop:=∀b,H b=none\/∃o xs,H b=some (.frz o (.lst xs))
theorem law_call {P:Program}{w:World}{K:W.Frag}{i mb:Str->Option Value}{CX:CXT}{k:Nat}{y a:Addr}{fd:FuncData}{x:Str}{sp:Sp}{c:Shared}{vs:List Value}{ns:List Int}
   (I:K.In c.heap) (E:c.heap.Ns mainGlobals i) (f:c.heap.Ns builtinsNs mb) (Y:∀x:Str,x≠"__name__"->mb x=bootBuiltins x) (S:c.heap.NoLimit) (hg:c.gens = #[])
   (s:c.heap.get? a=some { cls:=.type "list",data:=.seq vs.toArray }) (J:IntsAre vs ns) (L:ns.length<=sizeLine) (hr:Room k callerA)
   (a2:∀t:Heap,K.In t->t.Ns mainGlobals i->FnOk P w K i t CX k y fd [x] sp) (R:∀(a3:Shared) (u:Value),BindsTo a3 fd ⟨[u],[]⟩ [(x,u)])
   (Z:∀H:Hp,Only H->SqL K H a (ns.map V.int)->sp [.ref a] H (fun v _=>v = .bl true) fun _ _ _=>False)
   (a0:∀H e g,CX [] H c (fun _ _ _=>False) e g->False) :
   codeAny (model P w) callerA (.call (.ref y) ⟨[.ref a],[]⟩) (fun r g=>r = .ok (.ret (.bool true))/\OldK c.heap g.heap/\g.os=c.os/\AllBare g.gens) c:=by
 have M:=zI8 J;have T:=J.length
 have D:∀H:Hp,Only H->SqL K H a (ns.map V.int)->HOk P w H c.heap->(∀b,H b≠none->b=a)->(H a≠none->K.lookup a=none) →
     codeAny (model P w) callerA (.call (.ref y) ⟨[.ref a],[]⟩) (fun r g=>r = .ok (.ret (.bool true))/\OldK c.heap g.heap/\g.os=c.os/\AllBare g.gens) c:=by
   intro H N hS F O hK;have C:∀ {b:Addr} {o:Obj},c.heap.get? b=some o->H b=none->(hidT c.heap H).get? b=some o:=fun e a4=>hidT_get e a4
   have a1:∀ {b:Addr} {o:Obj} {j:Array DictEntry} {l:Nat},c.heap.get? b=some o->o.data = .dict j l->H b=none:=fun {b o j l} e d=>by
     cases q:H b with
     | none=>rfl
     | some u =>
       have A:b=a:=O b (by rw[q];simp);subst A;rw[s] at e;cases e;have d':Data.seq vs.toArray _=Data.dict j l:=d;cases d'
   have p:∀ {b:Addr} {m:Str->Option Value},c.heap.Ns b m->(hidT c.heap H).Ns b m:=fun {b m} ⟨o,j,l,e,d,r⟩=>⟨o,j,l,C e (a1 e d),d,r⟩
   have G:K.In (hidT c.heap H):=fun b o e=>C (I b o e) (by
     cases q:H b with
     | none=>rfl
     | some u =>
       have A:b=a:=O b (by rw[q];simp);subst A;rw[hK (by rw[q];simp)] at e;cases e)
   have hM:Mod K i (hidT c.heap H):=⟨G,p E,⟨mb,p f,Y⟩,let⟨mc,h1,h2⟩:=S;⟨mc,p h1,h2⟩⟩;have e0:Env0 P w K i (hidT c.heap H) callerA [] c H:=⟨rfl,hM,fun b o e=>of_hidT e,Nat.le_of_eq (hidT_size _ _),trivial,fun b f=>absurd (show b∈([]:List Addr) from f) (by simp),F,.of_eq hg⟩;refine codeAny_mono ((a2 _ G (p E)).run callerA [] c H ⟨[.ref a],[]⟩ [.ref a] [.ref a] _ _ hr e0 (R c (.ref a)) (.cons rfl .nil) (Z H N hS)) fun r g h=>?_
   cases r with
   | error e=>exact(a0 H e g h).elim
   | ok fl =>
     cases fl with
     | next=>exact False.elim h
     | brk=>exact False.elim h
     | cont=>exact False.elim h
     | ret u =>
       obtain⟨v,H',os,U,un,X,r',q⟩:=h;have q':v = .bl true:=q;subst q';obtain rfl:u=Value.bool true:=r';refine⟨rfl,OldK.of_keep fun b o e=>?_,os,U⟩;cases q:H b with
       | none=>exact un.keep b o e q (by intro z;exact absurd (show b∈([]:List Addr) from z) (by simp)) (by simp)
       | some u =>
         rcases N b with z | ⟨ob,xs,z⟩
         . rw[q] at z;cases z
         . have z2:=un.frzs b ob _ z
           obtain⟨Q,_⟩:=F b _ z;obtain⟨e2,_⟩:=X b _ z2;rw[e] at Q;cases Q;exact e2
 cases B:K.lookup a with
 | some o =>
   have e:=I a o B;rw[s] at e;cases e;refine D (fun _=>none) (fun _=>.inl rfl) (.inr ⟨_,vs.toArray,_,B,rfl,rfl,rfl,by rw[Qk,T];exact L,by simpa using M⟩) (fun b u z=>by have n:(none:Option HO)=some u:=z;cases n) (fun b z=>absurd rfl z) fun z=>absurd rfl z
 | none =>
   refine D (fun b=>if b=a then some (.frz { cls:=.type "list",data:=.seq vs.toArray } (.lst (ns.map V.int))) else none) (fun b=>?_) (.inl (.inr ⟨{ cls:=.type "list",data:=.seq vs.toArray },Ql rfl⟩)) (fun b u z=>?_) (fun b z=>?_) fun _=>B
   . by_cases f:b=a
     . exact .inr ⟨_,_,Ql f⟩
     . exact .inl (Qh f)
   . by_cases f:b=a
     . have n:=(Ql f).symm.trans z
       cases n;subst f;exact⟨s,by rw[Qb];exact L,vs,_,M,s⟩
     . have n:=(Qh f).symm.trans z
       cases n
   . by_cases f:b=a
     . exact f
     . exact absurd (Qh f) z
theorem walk_of {l:W.OpenLaw}{n k:Nat}{q:Program}{y:List Str}{J:(Str->Option Value)->Heap->Prop}{p:World->Heap->Prop}{d:DefRec}{K:Params->W.Frag}{CX:World->CXT}{sp:World->Sp}{x:Str}
   (L:l.most=some n) (B:n<=sizeLine) (C:d.params.defaults=[]) (M:Room k callerA)
   (N:∀(w:World) (h:Heap),p w h->(K w.params).In h)
   (F:∀(w:World) (b:Str->Option Value) (c:Addr) (h:Heap),(K w.params).In h->h.Ns mainGlobals b->b d.name=some (.ref c) →
     ∃j:FuncData,(∀(s:Shared) (u:Value),BindsTo s j ⟨[u],[]⟩ [(x,u)]) ∧
       ∀i:Heap,(K w.params).In i->i.Ns mainGlobals b->FnOk l.prog w (K w.params) b i (CX w) k c j [x] (sp w))
   (D:∀(w:World) (H:Hp) (a:Addr) (g:List Int),g.length<=n->Only H->SqL (K w.params) H a (g.map V.int)->sp w [.ref a] H (fun v _=>v = .bl true) fun _ _ _=>False)
   (E:∀(w:World) (H:Hp) (s:Shared) (e:Value) (m:Shared),CX w [] H s (fun _ _ _=>False) e m->False) :
   W.WalkO q y J p l.row.toRowW d [] (fun f r=>PySem.call f r):=by
 refine Att.attach_call L C fun w Z O b mb c a0 pm cd U a r g G Y ho hd X I A z o P=>?_
 have t:=N w _ Y;obtain⟨j,Q,R⟩:=F w b c _ t G.T.g I;exact law_call t G.T.g G.T.b G.T.builtins G.T.nolimit P A z (QK o B) M R Q (fun H S T=>D w H a g o S T) fun H e m=>E w H O e m
noncomputable def zl9 (s:Stmt)(j:Nat):Stmt:=match s with
 | .ClassDef _ _ _ body _ _ _ _ _ _ _=>body.getD j (.Pass ⟨0,0,0,0⟩)
 | _=>.Pass ⟨0,0,0,0⟩
noncomputable def zi2 (s:Stmt):Arguments:=match s with
 | .FunctionDef _ a _ _ _ _ _ _ _ _=>a
 | _=>{ posonlyargs:=[],args:=[],vararg:=none,kwonlyargs:=[],kw_defaults:=[],kwarg:=none,defaults:=[] }
noncomputable def zd3 (s:Stmt):List Stmt:=match s with
 | .FunctionDef _ _ b _ _ _ _ _ _ _=>b
 | _=>[]
noncomputable def za8 (s:Stmt):Scope:=match s with
 | .FunctionDef _ _ _ _ _ _ sc _ _ _=>sc
 | _=>{ kind:=.function,names:=[],isGenerator:=false,isCoroutine:=false }
abbrev CX0:CXT:=fun _ _ _ _ _ _=>False
abbrev E0:XK:=fun _ _ _=>False
theorem zb3 {X:Cx}:zn8 CX0 X E0:=fun _ _ _ _ _ _ _ h=>h.elim
structure Fun (K:W.Frag)(x qual:Str)(st:Stmt)(f:Addr)(fd:FuncData):Prop where
 ex:∃(oc:Value) (od:Option Addr) (kV doc pm:Value) (an:Option Addr) (cdv ct:Value) (osl:Array (Option Value)),
   fd=W.fnOf x qual (zi2 st) (zd3 st) (za8 st) .none kV doc pm an cdv ct/\K.lookup f=some ⟨oc,od,.func fd,osl⟩/\W.codeIn K cdv qual=true
 kp:W.keepIn K (.ref f)=true
section
variable {P:Program} {w:World} {K:W.Frag} {mg:Str->Option Value} {base:Heap}
theorem Fun.ok {x d:Str}{st:Stmt}{f:Addr}{fd:FuncData}{N ps:List Str}{k:Nat}{sp:Sp}(F:Fun K x d st f fd)(S:zb8 N ps (za8 st))(len:∀a H Q E,sp a H Q E->a.length=ps.length)
   (e:∀(b:Value) (A:Around) (c:List Env) (s:Shared) (H:Hp) (a:List V) (Q:VK) (E:XK),Room k (A.deeper (envOfC d (za8 st) s.heap.objs.size f b))->sp a H Q E →
     ∃t,PSs (cxOf CX0 P w K mg base N d (za8 st) f b A c s H E).nox (zd3 st) t/\t { nx:=fun _ j=>Q .non j,rt:=Q } (start N a) H):FnOk P w K mg base CX0 (k+1) f fd ps sp:=by
 obtain⟨p,r,kV,n,u,v,b,y,o,rfl,l,g⟩:=F.ex;refine yo3 l g S len fun A c s H a Q E m i=>?_
 obtain⟨t,h,q⟩:=e b A c s H a Q E m i;exact⟨t,h.nox,q⟩
theorem Fun.binds {x i:Str}{st:Stmt}{f:Addr}{fd:FuncData}{ps:List Str}(F:Fun K x i st f fd)
   (h:∀(kV a c:Value) (d:Option Addr) (b e:Value) (g:List Value),g.length=ps.length->bindArgs (W.fnOf x i (zi2 st) (zd3 st) (za8 st) .none kV a c d b e) ⟨g,[]⟩=pure (ps.zip g)):zm6 K fd ps []:=by
 obtain⟨l,m,kV,a,c,d,b,e,j,rfl,n,k⟩:=F.ex;exact .all (h kV a c d b e)
theorem zN0 {x a:Str}{st:Stmt}{f:Addr}{j:Value}{m e:Option Addr}{i:Array (Option Value)}{kV d g b h:Value}(l:K.lookup f=some ⟨j,m,.func (W.fnOf x a (zi2 st) (zd3 st) (za8 st) .none kV d g e b h),i⟩)
 (c:W.codeIn K b a=true) (k:W.keepIn K (.ref f)=true):Fun K x a st f (W.fnOf x a (zi2 st) (zd3 st) (za8 st) .none kV d g e b h):=⟨⟨j,m,kV,d,g,e,b,h,i,rfl,l,c⟩,k⟩
end
theorem zi0 {A:Around}{k:Nat}(a:Room k A):A.units+1<cLine:=Nat.lt_of_le_of_lt (Nat.add_le_add_left (by decide:1<=64) _) a.units
theorem zc3 {n:Nat}(h:n<=1000):n<sizeLine:=Nat.lt_of_le_of_lt h (by decide)
section
variable {X:Cx}
theorem pv (i:Nat) {x:Str} {a:Pos} (c:X.N[i]?=some x:=by rfl) (d:Vis X.env.scope x:=by first | exact Or.inl rfl | exact Or.inr (Or.inl rfl) | exact Or.inr (Or.inr rfl)) (e:(x == ("__debug__" : Str))=false:=by decide)
 (b:(x == ("__classdict__" : Str))=false:=by decide):PE X (.Name x a) (tVar i):=pe_var c d e b
end
theorem iteF {A B:Prop}(h:B):if false=true then A else B:=by
 rw[Qh Qu];exact h
theorem iteT {A B:Prop}(h:A):if true=true then A else B:=by
 rw[Ql rfl];exact h
theorem ite2 {c A B:Prop}[Decidable c](a:c->A)(b:¬ c->B):if c then A else B:=by
 by_cases h:c
 . rw[Ql h]
   exact a h
 . rw[Qh h]
   exact b h
def Same (H H':Hp):Prop:=∀b o,H b=some o->H' b=some o
theorem Same.refl (H:Hp):Same H H:=fun _ _ h=>h
theorem Same.trans {H d e:Hp}(a:Same H d)(b:Same d e):Same H e:=fun c o h=>b c o (a c o h)
theorem Same.free {H H':Hp}(e:Same H H'){l:Addr}(h:H' l=Option.none):H l=Option.none:=by
 cases q:H l with
 | none=>rfl
 | some o =>
   rw[e l o q] at h;cases h
theorem Same.seq {K:W.Frag}{H H':Hp}{a:Addr}{xs:List V}(e:Same H H')(h:SqL K H a xs):SqL K H' a xs:=by
 rcases h with(h | ⟨o,h⟩) | h
 . exact .inl (.inl (e _ _ h))
 . exact .inl (.inr ⟨o,e _ _ h⟩)
 . exact .inr h
theorem cut3 {a b c:TS}{D:Ends}{d:St}{H:Hp}(h:let e:=c;let f:=tSeq b e;tSeq a f D d H):(tSeq a (tSeq b (c))) D d H:=h
theorem cut4 {a b c d:TS}{D:Ends}{e:St}{H:Hp}(h:let f:=d;let g:=tSeq c f;let i:=tSeq b g;tSeq a i D e H):(tSeq a (tSeq b (tSeq c (d)))) D e H:=h
theorem cut5 {a b c d e:TS}{D:Ends}{f:St}{H:Hp}(h:let g:=e;let i:=tSeq d g;let j:=tSeq c i;let k:=tSeq b j;tSeq a k D f H):(tSeq a (tSeq b (tSeq c (tSeq d (e))))) D f H:=h
theorem cut6 {a b c d e f:TS}{D:Ends}{g:St}{H:Hp}(h:let i:=f;let j:=tSeq e i;let k:=tSeq d j;let l:=tSeq c k;let m:=tSeq b l;tSeq a m D g H):(tSeq a (tSeq b (tSeq c (tSeq d (tSeq e (f)))))) D g H:=h
theorem cut7 {a b c d e f g:TS}{D:Ends}{i:St}{H:Hp}(h:let j:=g;let k:=tSeq f j;let l:=tSeq e k;let m:=tSeq d l;let n:=tSeq c m;let o:=tSeq b n;tSeq a o D i H):(tSeq a (tSeq b (tSeq c (tSeq d (tSeq e (tSeq f (g))))))) D i H:=h
theorem cut8 {a b c d e f g i:TS}{D:Ends}{j:St}{H:Hp}(h:let k:=i;let l:=tSeq g k;let m:=tSeq f l;let n:=tSeq e m;let o:=tSeq d n;let p:=tSeq c o;let q:=tSeq b p;tSeq a q D j H):(tSeq a (tSeq b (tSeq c (tSeq d (tSeq e (tSeq f (tSeq g (i)))))))) D j H:=h
theorem cut9 {a b c d e f g i j:TS}{D:Ends}{k:St}{H:Hp}(h:let l:=j;let m:=tSeq i l;let n:=tSeq g m;let o:=tSeq f n;let p:=tSeq e o;let q:=tSeq d p;let r:=tSeq c q;let s:=tSeq b r;tSeq a s D k H):(tSeq a (tSeq b (tSeq c (tSeq d (tSeq e (tSeq f (tSeq g (tSeq i (j))))))))) D k H:=h
theorem cut10 {b c d e f g i j k a:TS}{D:Ends}{l:St}{H:Hp}(h:let m:=a;let n:=tSeq k m;let o:=tSeq j n;let p:=tSeq i o;let q:=tSeq g p;let r:=tSeq f q;let s:=tSeq e r;let t:=tSeq d s;let u:=tSeq c t;tSeq b u D l H):(tSeq b (tSeq c (tSeq d (tSeq e (tSeq f (tSeq g (tSeq i (tSeq j (tSeq k (a)))))))))) D l H:=h
theorem cut13 {e f g i j k l m n a b c d:TS}{D:Ends}{o:St}{H:Hp}(h:let p:=d;let q:=tSeq c p;let r:=tSeq b q;let s:=tSeq a r;let t:=tSeq n s;let u:=tSeq m t;let v:=tSeq l u;let w:=tSeq k v;let x:=tSeq j w;let y:=tSeq i x;let z:=tSeq g y;let A:=tSeq f z;tSeq e A D o H):(tSeq e (tSeq f (tSeq g (tSeq i (tSeq j (tSeq k (tSeq l (tSeq m (tSeq n (tSeq a (tSeq b (tSeq c (d))))))))))))) D o H:=h
end L2
namespace L2
inductive X1 {α:Type}(p:α->Prop):Prop | mk (a:α) (h:p a)
inductive X2 {α β:Type}(p:α->β->Prop):Prop | mk (a:α) (b:β) (h:p a b)
inductive X3 {α β γ:Type}(p:α->β->γ->Prop):Prop | mk (a:α) (b:β) (c:γ) (h:p a b c)
inductive X4 {α β γ δ:Type}(p:α->β->γ->δ->Prop):Prop | mk (a:α) (b:β) (c:γ) (d:δ) (h:p a b c d)
inductive X5 {α β γ δ ε:Type}(p:α->β->γ->δ->ε->Prop):Prop | mk (a:α) (b:β) (c:γ) (d:δ) (e:ε) (h:p a b c d e)
inductive A2 (p q:Prop):Prop | mk (h0:p) (h1:q)
inductive A3 (p q r:Prop):Prop | mk (h0:p) (h1:q) (h2:r)
inductive A4 (p q r s:Prop):Prop | mk (h0:p) (h1:q) (h2:r) (h3:s)
inductive A5 (p q r s t:Prop):Prop | mk (h0:p) (h1:q) (h2:r) (h3:s) (h4:t)
inductive A6 (p q r s t u:Prop):Prop | mk (h0:p) (h1:q) (h2:r) (h3:s) (h4:t) (h5:u)
inductive A7 (p q r s t u v:Prop):Prop | mk (h0:p) (h1:q) (h2:r) (h3:s) (h4:t) (h5:u) (h6:v)
end L2
namespace L2
open PySem PySem.Spec PyProof.Rows
section
variable {prog:Program} {w:World} {A:Around} {R:Result->Shared->Prop} {s:Shared}
theorem compLoop_go {e b k:Expr}{f:List Expr}{scope:Scope}{l:Pos}{d g:Value}{env:Env}(I:Nat->Shared->Prop)
   (z:∀n s,I n s->wpAny (model prog w) A (pyNext d) (fun r i=>match r with
     | none=>R (.ok .next) i
     | some v=>wpAny (model prog w) A (letOwnedTupleGo b d v) (fun _ o=>wpAny (model prog w) A (assign b env v) (fun _ p =>
         wpAny (model prog w) A (forIn f true fun c r=>if r=true then do let ok <-isTrue c env (eval c env);pure (ForInStep.yield ok) else pure (ForInStep.yield r)) (fun ok j =>
           if ok=true then wpAny (model prog w) A (eval e env) (fun x q =>
             wpAny (model prog w) A (call (.builtin "list.append") [g,x]) (fun _ t=>∃m,m<n/\I m t) (fun _ _=>False) q) (fun _ _=>False) j
           else ∃m,m<n/\I m j) (fun _ _=>False) p) (fun _ _=>False) o) (fun _ _=>False) i) (fun _ _=>False) s)
   (n:Nat) (h:I n s) :
   codeAny (model prog w) A (.compLoop (.ListComp e [⟨b,k,f,0⟩] scope l) 0 d g env) R s:=by
 refine codeAny_loop rfl I (fun n s C=>?_) n h;show wpAny _ A ((compTurn (.ListComp e [⟨b,k,f,0⟩] scope l) 0 d g env).onRaise (fun x=>do noteFrame x env;theTreesLotGoes x)) _ _ s;refine wpAny_noted ?_;rw[compTurn_list];refine Qa (wpAny_standAt (Qa (Zs (z n s C) (fun r i u=>?_) fun _ _ a=>a.elim)));cases r with
 | none=>exact Qd u
 | some v =>
   refine Qa (Zs u (fun _ o B=>?_) fun _ _ a=>a.elim);refine Qa (Zs B (fun _ p D=>Qa (Zs D (fun ok j y=>?_) fun _ _ a=>a.elim)) fun _ _ a=>a.elim);cases ok with
   | false=>exact Qd ⟨rfl,y⟩
   | true=>exact Qa (Qa (Zs y (fun x q E=>Qa (Zs E (fun _ t F=>Qd (Qd ⟨rfl,F⟩)) fun _ _ a=>a.elim)) fun _ _ a=>a.elim))
end
abbrev P0{X:Cx}:=@pv X 0
abbrev P1{X:Cx}:=@pv X 1
abbrev P2{X:Cx}:=@pv X 2
abbrev P3{X:Cx}:=@pv X 3
abbrev P6{X:Cx}:=@pv X 6
abbrev P7{X:Cx}:=@pv X 7
abbrev P8{X:Cx}:=@pv X 8
abbrev P10{X:Cx}:=@pv X 10
abbrev P11{X:Cx}:=@pv X 11
theorem zN1 {scope:Scope}{env:Env}(h:∀y∈scope.names,y.2 = .free->∃c,env.cells.lookup y.1=some c) :
   ∃b,closureFor scope env=pure b/\(∀x c,b.lookup x=some c->env.cells.lookup x=some c)/\∀y∈scope.names,y.2 = .free->∃c,b.lookup y.1=some c:=by
 have all:∀(j:List (Str×NameKind)) (d:List (Str×Addr)) (f:Str×NameKind->List (Str×Addr)->Sem (ForInStep (List (Str×Addr)))),
     (∀n k c,f (n,k) c=if k == .free then(do let a <-cellOf env n;pure (.yield ((n,a)::c))) else pure (.yield c)) →
     (∀y∈j,y.2 = .free->∃c,env.cells.lookup y.1=some c)->(∀x c,d.lookup x=some c->env.cells.lookup x=some c) →
     ∃b,forIn j d f=pure b/\(∀x c,b.lookup x=some c->env.cells.lookup x=some c)/\(∀x c,d.lookup x=some c->∃l,b.lookup x=some l)/\∀y∈j,y.2 = .free->∃c,b.lookup y.1=some c:=by
   intro j
   induction j with
   | nil=>intro d f _ _ v;exact⟨d,by rw[List.forIn_nil],v,fun x c e=>⟨c,e⟩,fun y m=>nomatch m⟩
   | cons y r A =>
     intro d f o m v;obtain⟨n,k⟩:=y;rw[List.forIn_cons,o];by_cases p:k = .free
     . subst p
       obtain⟨c,C⟩:=m (n,.free) QQ rfl;have w:env.cells.lookup n=some c:=C;have D:cellOf env n=pure c:=by unfold cellOf;rw[w]
       rw[Ql (by decide),D,pure_bind,pure_bind];obtain⟨b,e,q,s,t⟩:=A ((n,c)::d) f o (fun y g=>m y (QH _ g)) (fun x l e=>by
         rw[Zn] at e;cases i:x == n with
         | true=>rw[i] at e;cases e;rw[eq_of_beq i];exact w
         | false=>rw[i] at e;exact v x l e)
       refine⟨b,e,q,fun x l E=>?_,fun y g u=>?_⟩
       . cases i:x == n with
         | true=>exact s x c (by rw[Zn,i])
         | false=>exact s x l (by rw[Zn,i];exact E)
       . rcases Qn.mp g with z | z
         . subst z;exact s n c (by rw[Zn];simp)
         . exact t y z u
     . have F:(k == NameKind.free)=false:=by simpa using p
       rw[F];rw[Qh (by decide),pure_bind];obtain⟨b,e,q,s,t⟩:=A d f o (fun y g=>m y (QH _ g)) v;refine⟨b,e,q,s,fun y g u=>?_⟩;rcases Qn.mp g with z | z
       . subst z;exact absurd u p
       . exact t y z u
 have B:∀f:Str×NameKind->List (Str×Addr)->Sem (ForInStep (List (Str×Addr))),
     (∀n k c,f (n,k) c=if k == .free then(do let a <-cellOf env n;pure (.yield ((n,a)::c))) else pure (.yield c)) →
     ∃b,(forIn scope.names [] f >>= fun r=>pure r)=pure b/\(∀x c,b.lookup x=some c->env.cells.lookup x=some c)/\∀y∈scope.names,y.2 = .free->∃c,b.lookup y.1=some c:=fun f o=>by
   obtain⟨b,e,q,_,t⟩:=all scope.names [] f o h (fun x c e=>by cases e);exact⟨b,by rw[e,pure_bind],q,t⟩
 unfold closureFor
 exact B _ (fun n k c=>by cases p:k == NameKind.free<;>simp[p])
noncomputable def Cx.comp (X:Cx)(scope:Scope)(cl:List (Str×Addr))(C:Addr)(N':List Str)(s0:Shared)(H0:Hp)(fp:List Addr):Cx :=
 { X with N:=N',s₀:=s0,H₀:=H0,env:=compEnvC scope cl C X.env,outer:=X.stack,ex:=fp,fn:=fun _=>false,pn:=[],xe:=fun _ _=>False }
noncomputable def selS (ix:List (Option Nat))(σ:St):St:=ix.map fun o=>o.bind fun j=>(σ[j]?).join
structure ze1 (ON:List Str)(osc scope:Scope)(N':List Str)(ix:List (Option Nat)):Prop where
 kind:scope.kind = .function
 nocell:∀y∈scope.names,y.2≠.cell
 names:∀y∈scope.names,y.2 = .local->scope.names.lookup y.1=some .local
 frees:∀y∈scope.names,y.2 = .free->osc.names.lookup y.1=some .cell
 len:ix.length=N'.length
 nd:N'.Nodup
 chk:((ix.zip N').all fun p=>match p.1 with | none=>true | some j=>decide (ON[j]?=some p.2) && decide (scope.names.lookup p.2=some .free))=true
theorem ze1.sel {b:List Str}{c scope:Scope}{a:List Str}{ix:List (Option Nat)}(S:ze1 b c scope a ix)(i j:Nat)(x:Str)(d:ix[i]?=some (some j))(e:a[i]?=some x):b[j]?=some x/\scope.names.lookup x=some .free:=by
 have f:(ix.zip a)[i]?=some (some j,x):=by rw[List.getElem?_zip_eq_some];exact⟨d,e⟩
 have:=List.all_eq_true.mp S.chk _ (QG f);simp only[Bool.and_eq_true,decide_eq_true_eq] at this;exact this
theorem zF0 {env:Env}:∀ {c:List (Str×NameKind)} {x:Str},c.lookup x=some .free →
   ((c.map fun(n,k)=>if (k == NameKind.free && env.scope.kind == .function && env.kindOf n == some .cell) then(n,NameKind.cell) else(n,k)).lookup x=some .cell ∨
    (c.map fun(n,k)=>if (k == NameKind.free && env.scope.kind == .function && env.kindOf n == some .cell) then(n,NameKind.cell) else(n,k)).lookup x=some .free)
 | [],_,h=>by simp at h
 | (n,k)::r,x,h=>by
   have f:=@zF0 env r x;rw[QL];cases a:x == n with
   | true =>
     rw[Zn,a] at h;cases h;by_cases b:(NameKind.free == NameKind.free && env.scope.kind == .function && env.kindOf n == some .cell)=true
     . left;simp only[b,if_true,Zn,a]
     . right
       have d:(NameKind.free == NameKind.free && env.scope.kind == .function && env.kindOf n == some .cell)=false:=by simpa using b
       simp only[d,Ze,if_false,Zn,a]
   | false =>
     rw[Zn,a] at h;have e:=f h;by_cases b:(k == NameKind.free && env.scope.kind == .function && env.kindOf n == some .cell)=true
     . simp only[b,if_true,Zn,a];exact e
     . have d:(k == NameKind.free && env.scope.kind == .function && env.kindOf n == some .cell)=false:=by simpa using b
       simp only[d,Ze,if_false,Zn,a];exact e
theorem zF1 {env:Env}:∀ {c:List (Str×NameKind)} {x:Str},(∀y∈c,y.2≠.cell) →
   ((c.map fun(n,k)=>if (k == NameKind.free && env.scope.kind == .function && env.kindOf n == some .cell) then(n,NameKind.cell) else(n,k)).lookup x=some .cell ∨
    (c.map fun(n,k)=>if (k == NameKind.free && env.scope.kind == .function && env.kindOf n == some .cell) then(n,NameKind.cell) else(n,k)).lookup x=some .free)->(x,NameKind.free)∈c
 | [],_,_,h=>by simp at h
 | (n,k)::r,x,hn,h=>by
   have g:=@zF1 env r x fun y i=>hn y (QH _ i)
   rw[QL] at h;cases f:x == n with
   | true =>
     have e:=eq_of_beq f;subst e;by_cases a:(k == NameKind.free && env.scope.kind == .function && env.kindOf x == some .cell)=true
     . have b:k = .free:=by
         have:=(Bool.and_eq_true_iff.mp (Bool.and_eq_true_iff.mp a).1).1;exact eq_of_beq this
       subst b;exact QQ
     . have d:(k == NameKind.free && env.scope.kind == .function && env.kindOf x == some .cell)=false:=by simpa using a
       simp only[d,Ze,if_false,Zn,beq_self_eq_true] at h;rcases h with h | h
       . have b:k = .cell:=Qo h
         exact absurd b (hn (x,k) QQ)
       . have b:k = .free:=Qo h
         subst b;exact QQ
   | false =>
     refine QH _ (g ?_);by_cases a:(k == NameKind.free && env.scope.kind == .function && env.kindOf n == some .cell)=true
     . simp only[a,if_true,Zn,f] at h;exact h
     . have d:(k == NameKind.free && env.scope.kind == .function && env.kindOf n == some .cell)=false:=by simpa using a
       simp only[d,Ze,if_false,Zn,f] at h;exact h
section
variable {X:Cx} {pins:PL} {σ:St} {H:Hp} {s:Shared}
theorem Inv.comp {scope:Scope}{t:List Str}{ix:List (Option Nat)}{h:List (Str×Addr)}{k:List Addr}{h':Heap}{t':Nat}(I:Inv X pins σ H s)(S:ze1 X.N X.env.scope scope t ix)(g:∀b∈k,FpOk X pins H b)(K:∀b∈k,b<s.heap.objs.size)
   (d:∀x c,h.lookup x=some c->X.env.cells.lookup x=some c) (F:∀y∈scope.names,y.2 = .free->∃c,h.lookup y.1=some c)
   (ns:h'.Ns s.heap.objs.size fun _=>none) (sb:∀b o,s.heap.get? b=some o->h'.get? b=some o) :
   Inv (X.comp scope h s.heap.objs.size t s H k) [] (selS ix σ) H { s with heap:=h',toks:=t' }:=by
 have J:∀b∈k,b≠s.heap.objs.size:=fun b a=>QF (K b a)
 have L:∀x c,h.lookup x=some c->∃v,s.heap.IsCell c v:=fun x c e=>I.cell x c (d x c e)
 refine⟨⟨I.ok.mod,S.kind,I.ok.glob,I.ok.blt,Qi _,fun x y c w A=>I.ok.inj x y c (d x c w) (d y c A),fun x M=>?_,fun x c z=>(by cases z),I.ok.hd,I.ok.frames,.inl rfl,fun b a=>⟨J b a,fun x c e=>?_⟩,I.bs,QK I.ok.bsz I.sz,fun b o e a=>?_,fun b a N=>?_,I.stack,I.stkFree⟩,
   rfl,I.bare,Un.kept sb,⟨_,ns,fun i x v w A Z=>?_⟩,fun x c e=>?_,I.hok.fresh (Qi _),fun x c e=>I.freeC x c (d x c e),fun p O=>(by cases O),I.hok.kept sb,?_⟩
 . obtain⟨c,e⟩:=F (x,.free) (zF1 S.nocell M) rfl
   exact⟨c,e⟩
 . exact(g b a).2.2.2.2.1 x c (d x c e)
 . rcases(g b a).2.2.2.1 with z | z
   . exact I.ok.noex b o e z
   . exact absurd (QO (Qr (I.ok.bs b o e).1) z) (Nat.lt_irrefl _)
 . rcases Qn.mp (I.stkSub b N) with z | z
   . exact(g b a).2.1 z
   . exact(g b a).2.2.1 z
 . -- what the block sees
   have f:ix[i]?.map (fun o=>o.bind fun j=>(σ[j]?).join)=some (some v):=by
     have:=A;unfold selS at this
     rwa [QP] at this
   cases B:ix[i]? with
   | none=>rw[B] at f;cases f
   | some o =>
     rw[B] at f;cases o with
     | none=>cases f
     | some j =>
       have l:(σ[j]?).join=some v:=Qo f;have P:σ[j]?=some (some v):=by
         cases q:σ[j]? with
         | none=>rw[q] at l;cases l
         | some z=>rw[q] at l;have:z=some v:=l;rw[this]
       obtain⟨Q,n⟩:=S.sel i j x B w;have G:=S.frees (x,.free) (PySem.mem_of_lookup n) rfl;obtain⟨m,_,R⟩:=I.loc;obtain⟨u,r,T⟩:=R j x v Q P (.inr (.inl G));refine⟨u,r,.inr ?_⟩;rcases T with⟨U,_⟩ | ⟨_,c,V,W⟩
       . exact absurd (U.symm.trans G) (by decide)
       . obtain⟨Y,E⟩:=F (x,.free) (PySem.mem_of_lookup n) rfl
         have:=d x Y E;rw[V] at this;cases this;refine⟨zF0 n,c,E,?_⟩;obtain⟨o,C,D⟩:=W;exact⟨o,sb c o C,D⟩
 . obtain⟨v,o,C,D⟩:=L x c e
   exact⟨v,o,sb c o C,D⟩
 . show(selS ix σ).length=t.length
   unfold selS;rw[Qb];exact S.len
theorem Inv.uncomp {scope:Scope}{d:List Str}{e:List (Str×Addr)}{a:List Addr}{C:Addr}{σ':St}{H':Hp}{s':Shared}(I:Inv X pins σ H s)(c:∀b∈a,FpOk X pins H b)(k:s.heap.objs.size<=C)
   (J:Inv (X.comp scope e C d s H a) [] σ' H' s'):Inv X pins σ H' s' :=
 I.call' (ch:=a) J.os J.base J.hok J.bare fun b f=>by
   obtain⟨l,g,m,h,i,j⟩:=c b f;exact⟨h,g,i,j⟩
end
def zs7 (D:Addr)(telt:TE)(N:St->Hp->Prop):St->Hp->Prop:=fun σ H=>telt σ H fun v H1=>∃acc,H1 D=some (.lst acc)/\acc.length<sizeLine/\N σ (upd H1 D (.lst (acc++[v])))
def ys5 (wi:TI)(ix:List (Option Nat))(g:TG)(tif:TT)(telt:TE):TE:=fun σ H Q=>wi σ H fun J H1=>∀D,H1 D=none->∃W:Nat->Nat->St->Hp->Prop,(∃m,W 0 m (selS ix σ) (upd H1 D (.lst []))) ∧
 ∀i m σ' H',W i m σ' H'->(J.stop i H'/\Q (.ref D) H')\/(J.go i H'/\∃N:St->Hp->Prop,(∀σ2 H2,N σ2 H2->∃m',m'<m/\W (i+1) m' σ2 H2) ∧
   ∀x H2,J.yld i H' x H2->g x σ' H2 fun σ3 H3=>tif σ3 H3 fun b H4=>if b=true then zs7 D telt N σ3 H4 else N σ3 H4)
def PIfs (X:Cx)(ifs:List Expr)(t:TT):Prop :=
 ∀(pins:PL) (s:Shared) (σ:St) (H:Hp) (Q:Bool->Hp->Prop),Inv X pins σ H s->t σ H Q →
   wpAny (model X.prog X.w) X.A (forIn ifs true fun c r=>if r=true then do let ok <-isTrue c X.env (eval c X.env);pure (ForInStep.yield ok) else pure (ForInStep.yield r)) (TP X pins σ Q) X.xe s
def zy5:TT:=fun _ H Q=>Q true H
theorem zr5 {X:Cx}:PIfs X [] zy5:=fun _ _ _ H _ I h=>wpAny_tests_nil ⟨H,I,h⟩
theorem zy6 {X:Cx}{c:Expr}{t:TT}(b:PT X c t):PIfs X [c] t:=fun a s d H Q I h=>wpAny_tests_one (b a s d H Q I h)
section
variable {X:Cx} {scope:Scope} {N':List Str} {ix:List (Option Nat)} {tg iter elt:Expr} {ifs:List Expr} {pos:Pos} {wi:TI} {g:TG} {tif:TT} {telt:TE}
theorem zN2 {RR:Value->Addr->Result->Shared->Prop}{t:PL}{F:St}{a:Shared}{p:Hp}{it:Addr}{j:List Addr}{G:Nat->Heap->Prop}{J:It}{q:List (Str×Addr)}{Q:VK}{E:VP}
   (hc:X.calm=true) (S:ze1 X.N X.env.scope scope N' ix)
   (c1:∀x c,q.lookup x=some c->X.env.cells.lookup x=some c) (c2:∀y∈scope.names,y.2 = .free->∃c,q.lookup y.1=some c)
   (hg:∀q C H I j,PG (X.comp scope q C N' H I j) tg g) (aq:∀q C H I j,PIfs (X.comp scope q C N' H I j) ifs tif) (he:∀q C H I j,PE (X.comp scope q C N' H I j) elt telt)
   (I2:Inv X t F p a) (T:Turn X.prog X.w X.K tg J j it G) (aa:G 0 a.heap) (f2:∀b∈j,FpOk X t p b)
   (ai:∀D,p D=none->∃W:Nat->Nat->St->Hp->Prop,(∃m,W 0 m (selS ix F) (upd p D (.lst []))) ∧
     ∀i m s H',W i m s H'->(J.stop i H'/\Q (.ref D) H')\/(J.go i H'/\∃N:St->Hp->Prop,(∀σ2 p,N σ2 p->∃O,O<m/\W (i+1) O σ2 p) ∧
       ∀x p,J.yld i H' x p->g x s p fun σ3 H3=>tif σ3 H3 fun b H4=>if b=true then zs7 D telt N σ3 H4 else N σ3 H4))
   (ar:∀D C k u H' m,Inv X t F H' u->a.heap.objs.size<=k->k<=C->u.heap.Ns C m->FpOk X t H' C->HOk X.prog X.w H' u.heap->Q (.ref D) H'->RR (.ref D) C (.ok .next) u) :
   wpAny (model X.prog X.w) X.A (newList []) (fun M k=>wpAny (model X.prog X.w) X.A (newFunctionEnv scope X.env.globals q [] X.env.qual none .none (some X.env)) (fun a7 s4 =>
     codeAny (model X.prog X.w) X.A (.compStart (.ListComp elt [⟨tg,iter,ifs,0⟩] scope pos) 0 (.ref it) M { a7 with scope:=relabel scope X.env }) (RR M a7.locals) s4) E k) E a:=by
 have a8:∀b∈j,b<a.heap.objs.size:=fun b f=>by
   obtain⟨o,e,_⟩:=T.obj _ _ aa b f;exact Qr e
 obtain⟨W,⟨m0,w0⟩,aj⟩:=ai a.heap.objs.size I2.fresh;refine wpAny_newObj_type (wpAny_newFunctionEnv S.nocell (by intro y hy;simp at hy) (fun w V Y=>?_) S.kind);dsimp only at V Y ⊢;have P:Inv X t F (upd p a.heap.objs.size (.lst [])) { a with heap:=a.heap.push { cls:=.type "list",dict:=none,data:=.seq ([]:List Value).toArray } } :=
   Inv.lnew (its:=[]) (t':=a.toks) I2 .nil (QD _)
 generalize ab:({ a with heap:=a.heap.push { cls:=.type "list",dict:=none,data:=.seq ([]:List Value).toArray } }:Shared)=k at P;have a0:k.heap=a.heap.push { cls:=.type "list",dict:=none,data:=.seq ([]:List Value).toArray }:=by rw[<-ab]
 have ak:k.heap.objs.size=a.heap.objs.size+1:=by rw[a0,Zw]
 have au:({ a with heap:=w,toks:=a.toks+([]:List (Str×Value)).length }:Shared) = { k with heap:=w,toks:=a.toks+([]:List (Str×Value)).length }:=by rw[<-ab]
 rw[<-a0] at V Y ⊢;have av:∀b∈j,b≠a.heap.objs.size:=fun b f=>QF (a8 b f)
 have f3:∀b∈j,FpOk X t (upd p a.heap.objs.size (.lst [])) b:=fun b f=>⟨by rw[za7 (av b f)];exact(f2 b f).1,(f2 b f).2⟩
 have ac:∀b o,k.heap.get? b=some o->w.get? b=some o:=fun b o e=>Y.extBut b o (QF (Qr e)) (Qc _ e)
 have K:Inv (X.comp scope q k.heap.objs.size N' k (upd p a.heap.objs.size (.lst [])) j) [] (selS ix F) (upd p a.heap.objs.size (.lst [])) { k with heap:=w,toks:=a.toks+([]:List (Str×Value)).length } :=
   P.comp S f3 (fun b f=>QO (a8 b f) (by rw[ak];exact Nat.le_succ _)) c1 c2 V ac
 have ad:G 0 w:=T.keep _ _ _ aa fun b f o e=>ac b o (by rw[a0];exact Qc _ e)
 generalize aw:k.heap.objs.size=C at *;generalize h:X.comp scope q C N' k (upd p a.heap.objs.size (.lst [])) j=l at K;have Z:∀ {H':Hp},(∀b∈j,H' b=none)->∀b∈j,FpOk l [] H' b:=fun {H'} hn b f=>by
   subst h;refine⟨hn b f,(K.ok.exf b f).1,K.ok.exfs b f,.inl f,(K.ok.exf b f).2,fun be hp=>(by cases hp)⟩
 rw[au];have a9:codeAny (model X.prog X.w) X.A (.compLoop (.ListComp elt [⟨tg,iter,ifs,0⟩] scope pos) 0 (.ref it) (.ref a.heap.objs.size) (compEnvC scope q C X.env)) (RR (.ref a.heap.objs.size) C) { k with heap:=w,toks:=a.toks+([]:List (Str×Value)).length }:=by
   refine compLoop_go (fun n u=>∃i s H',Inv l [] s H' u/\G i u.heap/\(∀b∈j,H' b=none)/\W i n s H') ?_ m0 ⟨0,_,_,K,ad,fun b f=>(f3 b f).1,w0⟩;rintro n s5 ⟨i,R,z,I5,ae,af,w5⟩;rcases aj i n R z w5 with⟨al,qn⟩ | ⟨go,N,hN,step⟩
   . have td:=T.done l (by subst h;rfl) (by subst h;rfl) (by subst h;rfl) (by subst h;exact hc) i [] s5 R z (fun _ _=>False) I5 (Z af) ae al
     have A:l.A=X.A:=by subst h;rfl
     rw[A] at td;refine thn td fun b9 s6 ⟨hr,U⟩=>?_
     subst hr;subst h;obtain⟨m,ax,_⟩:=U.loc;have I7:Inv X t F z s6:=P.uncomp f3 (Nat.le_of_eq aw) U;refine ar a.heap.objs.size C k.heap.objs.size s6 z m I7 (by omega) (by omega) ax ?_ U.hok qn;have ba:=P.fpOk (H':=z) (b:=C) (by omega) U.free;exact ba
   . have ti:=T.item l (by subst h;rfl) (by subst h;rfl) (by subst h;rfl) (by subst h;exact hc) i [] s5 R z (fun _ _=>False) I5 (Z af) ae go
     have A:l.A=X.A:=by subst h;rfl
     rw[A] at ti;refine thn ti fun b9 s6 ⟨bb,hr,h6⟩=>?_
     subst hr;refine thn h6 fun _ s7 ⟨x,H7,I7,r7,y7,a4,ay⟩=>?_
     have az:=I7.pinned (Z ay) (T.obj _ _ a4);have a6:∀ {pl:PL} {r:St} {v:Hp} {B:Shared},Inv l ([]++zI6 j s7.heap) r v B->N r v->∃m,m<n/\∃i s H',Inv l [] s H' B/\G i B.heap/\(∀b∈j,H' b=none)/\W i m s H':=fun {pl r v B} L n8=>by
       obtain⟨O,hm,w8⟩:=hN r v n8;refine⟨O,hm,i+1,r,v,L.unpinned,T.keep _ _ _ a4 fun b f o e=>(L.pin (b,o) (Zh _ (Zh _ (zw1 f e)))).1,fun b f=>?_,w8⟩;obtain⟨o,e,d⟩:=T.obj _ _ a4 b f;exact(L.pin (b,o) (Zh _ (Zh _ (zw1 f e)))).2.1
     have eE:l.env=compEnvC scope q C X.env:=by subst h;rfl
     have eP:l.prog=X.prog:=by subst h;rfl
     have eW:l.w=X.w:=by subst h;rfl
     have eX:l.xe=fun _ _=>False:=by subst h;rfl
     have b0:PG l tg g:=by subst h;exact hg _ _ _ _ _
     have am:PIfs l ifs tif:=by subst h;exact aq _ _ _ _ _
     have b1:PE l elt telt:=by subst h;exact he _ _ _ _ _
     have a1:=b0 _ s7 R H7 x bb _ az r7 (step x H7 y7);rw[eE,eP,eW,A,eX] at a1;refine thn a1 fun _ B ⟨r,v,L,q8⟩=>?_
     have a2:=am _ B r v _ L q8;rw[eE,eP,eW,A,eX] at a2;refine thn a2 fun ok s9 ⟨H9,I9,q9⟩=>?_
     cases ok with
     | false=>exact a6 (pl:=[]) I9 q9
     | true =>
       have b2:zs7 a.heap.objs.size telt N r H9:=q9;have a3:=b1 _ s9 r H9 _ I9 b2;rw[eE,eP,eW,A,eX] at a3;show wpAny _ _ _ _ _ _;refine thn a3 fun y ag ⟨bc,b3,ah,b4,M,hD,hl,b5⟩=>?_
       obtain⟨hz,its,bd,rv,b6⟩:=ah.hok a.heap.objs.size _ hD;have an:=rv.length;refine wpAny_list_append_plain (hsz:=by rw[Qk,<-an];exact Za hl) ⟨bd,b6⟩ fun b7 ao ap=>?_
       obtain⟨k',a5⟩:=ao;have ep:(its.toArray.push y)=(its++[y]).toArray:=by simp
       rw[ep] at a5;have b8:Inv l ([]++zI6 j s7.heap) r (upd b3 a.heap.objs.size (.lst (M++[bc]))) { ag with heap:=b7 } :=
         ah.write (x:=a.heap.objs.size) (e:=a.heap.objs.size) (t':=ag.toks) (by rw[hD];exact trivial) (.inl rfl) (fun b o f e=>ap.extBut b o f e) ⟨_,a5⟩ ⟨by rw[Qq];exact hl,its++[y],k',rv.append (.cons b4 .nil),a5⟩
       exact a6 (pl:=[]) b8 b5
 exact codeAny_compStart_list a9 (T.self _ 0 _ _ _ ad a9)
theorem zs8 (v:X.calm=true)(S:ze1 X.N X.env.scope scope N' ix)(w:PI X tg iter wi)
   (z:∀a C d f c,PG (X.comp scope a C N' d f c) tg g) (p:∀a C d f c,PIfs (X.comp scope a C N' d f c) ifs tif) (A:∀a C d f c,PE (X.comp scope a C N' d f c) elt telt)
   (hs:∀x,foldedSetIterable iter X.env x=pure x:=by intro _;rfl):PE X (.ListComp elt [⟨tg,iter,ifs,0⟩] scope pos) (ys5 wi ix g tif telt):=by
 intro i s l H Q I h;obtain⟨a,r,B,E⟩:=zN1 (scope:=scope) (env:=X.env) fun y F G=>I.ok.has y.1 (.inl (S.frees y F G))
 rw[eval_ListComp];refine wpAny_comprehension_free (use:=none) rfl hs r S.kind S.names (thn (w i s l H _ I h) fun xv s1 j=>thn j fun a0 s2 k=>?_);obtain⟨it,c,tn,a3,H2,e,J,T,t,K,n⟩:=k;subst e;refine zN2 (RR:=fun u C=>compPost (model X.prog X.w) X.A X.xe none (EP X i l Q) u C) (Q:=Q) v S B E z p A J T t K n ?_;intro D C s3 L M m N j k O P a1 q;obtain⟨R,U,a2,V,W,Y⟩:=P;refine⟨m,O,fun h' sb=>⟨.ref D,M,?_,rfl,q⟩⟩;exact N.turned (t':=L.toks) (fun b o Z e=>sb.extBut b o Z e) R U V W Y
theorem zL3 {i:Nat}{y:Str}{b o:Pos}(L:X.calm=true)(S:ze1 X.N X.env.scope scope N' ix)(M:PI X tg iter wi)
   (N:∀c C f h d,PG (X.comp scope c C N' f h d) tg g) (B:∀c C f h d,PIfs (X.comp scope c C N' f h d) ifs tif) (O:∀c C f h d,PE (X.comp scope c C N' f h d) elt telt)
   (P:X.N.Nodup) (l:X.N[i]?=some y) (p:X.env.scope.names.lookup y=some .local)
   (E:swapsWith (.ListComp elt [⟨tg,iter,ifs,0⟩] scope pos) (some (.Name y b)) o.line X.env=pure true:=by rfl)
   (hs:∀x,foldedSetIterable iter X.env x=pure x:=by intro _;rfl):PS X (.Assign [.Name y b] (.ListComp elt [⟨tg,iter,ifs,0⟩] scope pos) o) (tAsg (ys5 wi ix g tif telt) (zs6 i)):=by
 intro k s w a0 n I a1;obtain⟨c,F,R,T⟩:=zN1 (scope:=scope) (env:=X.env) fun y l U=>I.ok.has y.1 (.inl (S.frees y l U))
 rw[exec_Assign_Name_used _ _ _ _ E];refine Qa (wpAny_standAt (Qa ?_));show wpAny _ _ (do let _ <-comprehension (.ListComp elt [⟨tg,iter,ifs,0⟩] scope pos) scope X.env _ (newList []) false (eval iter X.env) (some (assign (.Name y b) X.env))) _ _ s
 refine Qa (Zs (wpAny_comprehension_free (use:=some (assign (.Name y b) X.env)) (Q:=fun _ j=>SP X k n .next j) rfl hs F S.kind S.names
   (thn (M k s w a0 _ I a1) fun xv s1 q=>thn q fun a6 s2 r=>?_)) (fun _ j V=>Qd (Qd V)) fun _ _ e=>e)
 obtain⟨it,d,tn,a9,H2,e,W,a2,G,Y,A⟩:=r;subst e;refine zN2 (RR:=fun H C=>compPost (model X.prog X.w) X.A X.xe (some (assign (.Name y b) X.env)) (fun _ j=>SP X k n .next j) H C) (Q:=fun v Z=>zs6 i v w Z n.nx) L S R T N B O W a2 G Y A ?_;intro D C s3 j H' m I' q r hm hf a7 a3;obtain⟨f0,t,a8,f3,u,f5⟩:=hf;show wpAny _ _ (assign (.Name y b) X.env (.ref D)) _ _ _;refine wpAny_assign_Name (zS1 I' P l (.inl p) (v:=.ref D) rfl (fun s4 I4 ⟨a,sb,ha⟩=>?_) (.inr p));have J:C≠a:=by
   rcases ha with z | z
   . rw[z];exact t
   . exact Ne.symm (u y a z)
 refine⟨m,hm.sameBut sb J,fun h' K=>⟨_,H',?_,a3⟩⟩;exact I4.turned (t':=s4.toks) (fun a4 a5 hb e=>K.extBut a4 a5 hb e) f0 t f3 u f5
end
section
variable {X:Cx}
inductive zS9 (K:W.Frag)(x:V)(vs:List V)(H:Hp)(Q:VK):Prop
 | mk (l:Addr)(ns:List Int)(k:Int)(h0:x = .ref l)(h1:vs=[.int k])(h2:SqL K H l (ns.map V.int))(h3:Q (.int (ns.count k:Nat)) H):zS9 K x vs H Q
def yh8 (K:W.Frag):V->List V->Hp->VK->Prop:=fun x vs H Q=>zS9 K x vs H Q
theorem zT0:MtR X "list.count" (yh8 X.K):=by
 intro e s m H x g v i Q I a b h;obtain⟨l,c,k,rfl,rfl,d,q⟩:=h;cases a;obtain⟨u,rfl,t,rfl⟩:=b.one;obtain⟨f,r,p,j⟩:=I.list d;exact count_list_ints p.isList (zn9 r) ⟨.int (c.count k:Nat),H,I.tok _,⟨_,rfl⟩,q⟩
inductive zT1 (K:W.Frag)(x:V)(vs:List V)(H:Hp)(Q:VK):Prop
 | mk (l:Addr)(ns:List Int)(k:Int)(h0:x = .ref l)(h1:vs=[.int k])(h2:SqT K H l (ns.map V.int))(h3:Q (.int (ns.count k:Nat)) H):zT1 K x vs H Q
def yh9 (K:W.Frag):V->List V->Hp->VK->Prop:=fun x vs H Q=>zT1 K x vs H Q
theorem zB3:MtR X "tuple.count" (yh9 X.K):=by
 intro p s D H x A v B Q I f g h;obtain⟨l,i,k,rfl,rfl,j,q⟩:=h;cases f;obtain⟨u,rfl,t,rfl⟩:=g.one;obtain⟨a,r,⟨⟨z,m,w,sl⟩,b,c,n,d⟩,C⟩:=I.tuple j;simp only at c d;subst c d;have e:=zn9 r;refine call_meets PySem.F.slot_tuple_count ⟨_,b,rfl⟩ PySem.F.entry_tuple_count (PySem.F.args_tuple_count_2 _ _) (SeqAt.tuple_countAt l a.toArray n m sl (.int k t) (isInt k)) ⟨b,fun y o=>(eq_isInt k t e y (by simpa using o)).at _ _,?_⟩;rw[show a.toArray.toList=a from rfl,countP_isInt k e];exact⟨.int (i.count k:Nat),H,I.tok _,⟨_,rfl⟩,q⟩
def tTM (r:V->List V->Hp->VK->Prop)(to:TE)(t:TA):TE:=fun σ H Q=>to σ H fun x H1=>(∃p ys,x = .ref p/\H1 p=some (.tup ys))/\t σ H1 fun xs H2=>r x xs H2 Q
variable {o e:Expr} {es:List Expr} {to:TE} {t:TA} {name:Str} {apos cpos:Pos} {id:String} {r:V->List V->Hp->VK->Prop}
theorem yi0 (m:Slot "tuple" name id) (q:typeOf (.builtin id)=pure (.type "method_descriptor")) (u:MtR X id r) (w:PE X o to) (y:PA X (e::es) t)
   (k:attributeBase o name X.env (eval o X.env)=eval o X.env:=by rfl)
   (n:((backTo cpos (starEach (e::es) X.env)).all (fun x=>!x.1) && (backToKw cpos (keywordEach [] X.env)).all (fun x=>x.1.isSome)
     && decide ((e::es).length+([]:List Keyword).length+(if ([]:List Keyword).isEmpty then 0 else 1)<30))=true:=by rfl)
   (l:(apos.endLine == cpos.line)=true:=by rfl) (hs:starEach (e::es) X.env=(false,eval e X.env)::starEach es X.env:=by rfl) (j:(backTo cpos (starEach es X.env)).any (·.1)=false:=by rfl) :
   PE X (.Call (.Attribute o name apos) (e::es) [] cpos) (tTM r to t):=by
 intro b s c H Q I h;refine wpAny_Call_method_late k n l rfl (thn (w b s c H _ I h) fun v z ⟨x,A,d,B,⟨p,S,ex,C⟩,D⟩=>?_);subst ex;cases B;obtain⟨_,R,_,f,g,E,F,_⟩:=d.hok p _ C;refine⟨"tuple",id,PySem.F.plainAttrs_tuple,m,q,⟨f,g,E⟩,fun a G=>by cases G;exact⟨f,g,F⟩,?_⟩;have i:=y cpos b z c A _ d D;rw[hs] at i ⊢
 refine Calls.callWith_builtin (by show(false || (backTo cpos (starEach es X.env)).any (·.1))=false;rw[j]<;>rfl) (Calls.evalArgs_plain ?_);exact thn i fun J K ⟨L,M,N,O,P⟩=>u b K c M (.ref p) L _ J Q N rfl O P
inductive ClsV:V->Value->Prop where
 | ty (n:String):ClsV (.ty n) (.type n)
 | own (C:Addr):ClsV (.ref C) (.ref C)
inductive yp2 (K:W.Frag)(xs:List V)(H:Hp)(Q:VK):Prop
 | mk (x cv t c b:_)(h0:xs=[x,cv])(h1:ClsV cv c)(h2:TyOf K H x t)(h3:W.kitOne K t c=some b)(h4:Q (.bl b) H):yp2 K xs H Q
def rIsi (K:W.Frag):List V->Hp->VK->Prop:=fun xs H Q=>yp2 K xs H Q
theorem zi6:zm4 X (.builtin "isinstance") (rIsi X.K):=by
 intro k s p H l m Q I r h;obtain⟨x,o,t,c,b,rfl,d,ty,e,q⟩:=h;obtain⟨u,f,rfl,g,a⟩:=ya4 r;have i:f=c:=by
   cases d with
   | ty n=>exact a
   | own C=>exact a
 subst i;exact isinst_ok I g ty e fun j=>⟨.bl b,H,I.tok j,rfl,q⟩
theorem zT2 {prog:Program}{w:World}{A:Around}{E:VP}{a t:Addr}{items:Array Value}(e:t≠a):∀(n i:Nat) (s:Shared) (Q:List Value->Shared->Prop),s.heap.IsListIter a t i->s.heap.IsList t items->i+n<=items.size →
   (∀c,c.IsListIter a t (i+n)->Heap.SameBut a s.heap c->Q ((items.toList.drop i).take n) { s with heap:=c })->wpAny (model prog w) A (draw (.ref a) n) Q E s
 | 0,i,s,Q,b,_,_,d=>by
   show wpAny _ _ (pure []) Q E s;exact Qd (by simpa using d s.heap b (Heap.SameBut.refl ..))
 | n+1,i,s,Q,b,h,p,d=>by
   have f:i<items.size:=by omega
   show wpAny _ _ (pyNext (.ref a) >>= _) Q E s;refine Qa (wpAny_pyNext_list_item b h (x:=items[i]) (by simp[f]) fun q j g=>?_);refine Qa (wpAny_holding (zT2 e n (i+1) _ _ j (h.extBut g.extBut e) (by omega) fun m k l=>Qd ?_));have o:items.toList.drop i=items[i]::items.toList.drop (i+1):=by simp[List.drop_eq_getElem_cons,f]
   have:=d m (by rw[show i+(n+1)=i+1+n by omega];exact k) (g.trans l);rw[o,List.take_succ_cons] at this;exact this
theorem unpackItems_list {prog:Program}{w:World}{A:Around}{E:VP}{s:Shared}{t:Addr}{items:Array Value}{Q:List Value->Shared->Prop}(l:A.handled=none)(a:s.heap.IsList t items)
   (m:∀f,Heap.ExtBut s.heap.objs.size s.heap f->Q items.toList { s with heap:=f }):wpAny (model prog w) A (unpackItems (.ref t) items.size none) Q E s:=by
 have c:t≠s.heap.objs.size:=by obtain⟨o,n,_⟩:=a;exact QF (Qr n)
 unfold unpackItems;refine Qa ?_
 . unfold notIterableAtAll
   refine Qa (wpAny_specialOf a.typeIs slot_list_iter.lookup ?_);refine Qd ?_;simp only[Ze,if_false];refine Qa (wpAny_holding (wpAny_pyIter_list a ?_));refine Qa (wpAny_holding (zT2 c items.size 0 _ _ ⟨_,Qj _ rfl,rfl,rfl⟩ (a.push _) (by omega) fun p h d=>?_));have i:List.take items.size (List.drop 0 items.toList)=items.toList:=by
     rw[List.drop_zero];exact Zg (by simp)
   rw[i];rw[Qh (by simp)];have j:p.IsList t items:=(a.push _).extBut d.extBut c;refine Qa (wpAny_holding (wpAny_pyNext_list_end l h j (by simp) fun q k=>?_));simp only[Option.isSome_none,Ze,if_false];refine Qd (m q fun b o g e=>k b o g (d.extBut b o g (Qc _ e)))
inductive yp3 (K:W.Frag)(n:Nat)(t:TGs)(v:V)(σ:St)(H:Hp)(Q:St->Hp->Prop):Prop
 | mk (a xs:_)(h0:v = .ref a)(h1:SqL K H a xs)(h2:xs.length=n)(h3:t xs σ H Q):yp3 K n t v σ H Q
def gLst (K:W.Frag)(n:Nat)(t:TGs):TG:=fun v σ H Q=>yp3 K n t v σ H Q
theorem zN3 {es:List Expr}{k:Nat}{t:TGs}{n:Nat}{i:Pos}(q:X.calm=true)(h:PGs X es t)
   (w:(assignEach es X.env).length=n:=by rfl) (j:(assignEach es X.env).findIdx? (·.1)=none:=by rfl):PG X (.Tuple es k i) (gLst X.K n t):=by
 intro d s g H v u Q I r c;obtain⟨a,x,y,z,A,c⟩:=c;subst y;cases r;obtain⟨l,f,B,F⟩:=I.list z;have m:=f.length;rw[assign_Tuple];refine Qa (wpAny_standAt ?_);unfold unpack;have p:(assignEach es X.env).length=l.toArray.size:=by rw[w,<-A,m,Qk]
 rw[p,j];refine Qa (wpAny_holding (unpackItems_list (I.ok.hd q) B.isList fun C D=>?_));have E:Inv X d g H { s with heap:=C }:=I.kept (t':=s.toks) fun b o e=>D b o (QF (Qr e)) e
 exact h d _ g H x _ Q E (by simpa using f) c
theorem zC7:∀ {b:List Value} {c:List Int},IntsAre b c->∃a:List (Int×Tok),b=a.map (fun p=>Value.int p.1 p.2)/\a.map (·.1)=c
 | _,_,.nil=>⟨[],rfl,rfl⟩
 | _,_,.cons n t h=>by
   obtain⟨a,d,e⟩:=zC7 h;exact⟨(n,t)::a,by rw[QL,d],by rw[QL,e]⟩
def iSeq (K:W.Frag)(tl:TE):TI:=fun σ H R=>tl σ H fun x H1=>∃a,x = .ref a/\(((∃xs,SqL K H1 a xs)/\R (Itl K a) H1)\/((∃xs,SqT K H1 a xs)/\R (Itt K a) H1))
theorem pi_seq {n l:Expr}{j:TE}(r:PE X l j):PI X n l (iSeq X.K j):=by
 intro m s A H R I h;refine thn (r m s A H _ I h) fun v c ⟨x,k,d,t,u⟩=>?_
 obtain⟨a,e,q⟩:=u;subst e;cases t;rcases q with⟨⟨w,f⟩,q⟩ | ⟨⟨w,f⟩,q⟩
 . obtain⟨i,y,p,z⟩:=d.list f
   refine wpAny_pyIter_list p.isList ?_;refine⟨c.heap.objs.size,[c.heap.objs.size],_,_,k,rfl,d.kept (t':=c.toks) fun b o e=>Qc _ e,zS2 a _,⟨_,Qj _ rfl,rfl,rfl⟩,fun b g=>?_,q⟩;have e:b=c.heap.objs.size:=by simpa using g
   subst e;exact d.fpOk (Qi _) (d.hok.fresh (Qi _))
 . obtain⟨i,y,p,z⟩:=d.tuple f
   refine wpAny_pyIter_tuple (show c.heap.IsTuple a i.toArray from p) ?_;refine⟨c.heap.objs.size,[c.heap.objs.size],_,_,k,rfl,d.kept (t':=c.toks) fun b o e=>Qc _ e,zM5 a _,⟨_,Qj _ rfl,rfl,rfl⟩,fun b g=>?_,q⟩;have e:b=c.heap.objs.size:=by simpa using g
   subst e;exact d.fpOk (Qi _) (d.hok.fresh (Qi _))
noncomputable def stE:Stmt->Expr
 | .Assign _ v _=>v
 | .Return (some v) _=>v
 | .Expr v _=>v
 | _=>.Constant .none 0 ⟨0,0,0,0⟩
noncomputable def ya8 (e:Expr)(j:Nat):Expr:=match e with
 | .Call _ as _ _=>as.getD j (.Constant .none 0 ⟨0,0,0,0⟩)
 | _=>.Constant .none 0 ⟨0,0,0,0⟩
noncomputable def zm0:Expr->Scope
 | .ListComp _ _ sc _=>sc
 | _=>{ kind:=.function,names:=[],isGenerator:=false,isCoroutine:=false }
noncomputable def stAt (l:List Stmt)(i:Nat):Stmt:=l.getD i (.Pass ⟨0,0,0,0⟩)
noncomputable def stBody:Stmt->List Stmt
 | .If _ b _ _=>b
 | .For _ _ b _ _=>b
 | .While _ b _ _=>b
 | _=>[]
end
theorem iteB {c:Bool}{A B:Prop}(e:c=false)(h:B):if c=true then A else B:=by
 subst e;exact iteF h
theorem iteA {c:Bool}{A B:Prop}(e:c=true)(h:A):if c=true then A else B:=by
 subst e;exact iteT h
theorem zt3 {a lo b:Int}(c:lo<=a)(d:a<=b):(decide (a<lo) || decide (b<a))=false:=by
 rw[Qg (by omega),Qg (by omega)];rfl
theorem zY4 {a b:Int}(h:b<=a):decide (a<b)=false:=Qg (by omega)
theorem fl0 {f:Str}{v:V}:(putF f v []).length<=1:=zo9 f v []
theorem flS {f:Str}{v:V}{fs:List (Str×V)}{k:Nat}(h:fs.length<=k):(putF f v fs).length<=k+1:=QK (zo9 f v fs) (Nat.succ_le_succ h)
theorem zm1 {fs:List (Str×V)}{k:Nat}(h:fs.length<=k)(a:k<1000:=by decide):fs.length<1000:=Nat.lt_of_le_of_lt h a
def zg6 (p:Addr)(H H':Hp):Prop:=∀b o,H b=some o->b≠p->H' b=some o
theorem Same.upd {H:Hp}{l:Addr}{o:HO}(h:H l=none):Same H (upd H l o):=fun b u e=>by
 rw[za7 (zb2 e h)];exact e
theorem Same.updT {H a:Hp}{l:Addr}{o:HO}(s:Same H a)(h:a l=none):Same H (L2.upd a l o):=s.trans (Same.upd h)
theorem Same.put {H a:Hp}{l:Addr}{o:HO}(s:Same H a)(h:H l=none):Same H (L2.upd a l o):=fun b u e=>by
 rw[za7 (zb2 e h)];exact s b u e
theorem upd_id {H:Hp}{m:Addr}{o:HO}(h:H m=some o):L2.upd H m o=H:=by
 funext b
 by_cases a:b=m
 . subst a;rw[za3,h]
 . rw[za7 a]
theorem mt_countTK {X:Cx} (K:W.Frag) (h:X.K=K):MtR X "tuple.count" (yh9 K):=h▸zB3
theorem zN4 {X:Cx} (K:W.Frag) (h:X.K=K):MtR X "list.count" (yh8 K):=h▸zT0
theorem zF2 {X:Cx}(K:W.Frag)(h:X.K=K):IxR X (rIxT K):=h▸zg5
theorem int_at {xs:List Int}{i:Nat}{v:V}(h:(xs.map V.int)[i]?=some v):∃z,v = .int z/\xs[i]?=some z:=by
 rw[QP] at h;cases e:xs[i]? with
 | none=>rw[e] at h;cases h
 | some z=>rw[e] at h;exact⟨z,(Qo h).symm,rfl⟩
theorem zF3 {xs:List Int}{j:Nat}{z:Int}(h:xs[j]?=some z):atI (xs.map V.int) (j:Int)=some (V.int z):=zo4 (by rw[QP,h];rfl)
theorem ze4 {xs:List Int}{i:Int}(h0:0<=i)(b:i<xs.length):atI (xs.map V.int) i=some (.int (xs.getD i.toNat 0)):=by
 obtain⟨j,rfl⟩:∃j:Nat,i=j:=⟨i.toNat,by omega⟩;have a:j<xs.length:=by omega
 rw[zF3 (z:=xs[j]) (by simp[a])];simp[a]
theorem ze3 {a b:Int}:decide (V.int a=V.int b)=decide (a=b):=by
 by_cases h:a=b
 . subst h;simp
 . rw[Qg h,Qg];intro e;cases e;exact h rfl
theorem comp_map {J:It}{c:Hp}{D:Addr}{n:Nat}{x:Nat->V}{f:Nat->V}{j:Nat}{o:St}{r:TE}{Q:Hp->Prop}(E:n<=sizeLine)
   (go:∀i g,i<n->J.go i (upd c D (.lst g))) (st:∀g,J.stop n (upd c D (.lst g))) (u:∀i g v a,i<n->J.yld i (upd c D (.lst g)) v a->a=upd c D (.lst g)/\v=x i)
   (w:∀i g R,i<n->R (f i) (upd c D (.lst g))->r (o.set j (some (x i))) (upd c D (.lst g)) R) (q:Q (upd c D (.lst ((List.range n).map f)))) :
   ∃W:Nat->Nat->St->Hp->Prop,(∃m,W 0 m o (upd c D (.lst []))) ∧
     ∀i m h a,W i m h a->(J.stop i a/\Q a)\/(J.go i a/\∃N:St->Hp->Prop,(∀k d,N k d->∃s,s<m/\W (i+1) s k d) ∧
       ∀v d,J.yld i a v d->zs6 j v h d fun p z=>zy5 p z fun b t=>if b=true then zs7 D r N p t else N p t):=by
 refine⟨fun i m h a=>m=n-i/\i<=n/\(∀v,h.set j (some v)=o.set j (some v))/\a=upd c D (.lst ((List.range i).map f)),⟨n,by simp,QD _,fun _=>rfl,rfl⟩,?_⟩;rintro i m h a ⟨rfl,F,A,rfl⟩;by_cases l:i<n
 . refine .inr ⟨go i _ l,fun k d=>(∀v,k.set j (some v)=o.set j (some v))/\d=upd c D (.lst ((List.range (i+1)).map f)),fun k d ⟨B,C⟩=>⟨n-(i+1),by omega,rfl,l,B,C⟩,fun v d y=>?_⟩
   obtain⟨rfl,rfl⟩:=u i _ v d l y;dsimp only[zs6,zy5];refine iteT ?_;dsimp only[zs7];rw[A];refine w i _ _ l ⟨_,za3,?_,?_,?_⟩
   . rw[Qb,List.length_range];omega
   . intro v;simp
   . rw[zg1,List.range_succ,Qm];rfl
 . have e:i=n:=by omega
   subst e;exact .inl ⟨st _,q⟩
theorem zY5 {K:W.Frag}{H:Hp}{a D:Addr}{xs:List V}{o:HO}(h:SqL K H a xs)(n:H D=none):SqL K (upd H D o) a xs:=(Same.upd n).seq h
theorem map_range_get {a e:Type}(xs:List a)(d:a)(f:a->e):(List.range xs.length).map (fun i=>f (xs.getD i d))=xs.map f:=by
 apply List.ext_getElem
 . simp
 . intro i b c
   simp at b c;simp[b]
theorem comp_list {K:W.Frag}{d:Hp}{a D:Addr}{xs:List V}{f:V->V}{j:Nat}{t:St}{s:TE}{Q:Hp->Prop}(h:SqL K d a xs)(o:d D=none)(B:xs.length<=sizeLine)
   (C:∀x c R,x∈xs->R (f x) (upd d D (.lst c))->s (t.set j (some x)) (upd d D (.lst c)) R) (q:Q (upd d D (.lst (xs.map f)))) :
   ∃W:Nat->Nat->St->Hp->Prop,(∃m,W 0 m t (upd d D (.lst []))) ∧
     ∀i m u g,W i m u g->((Itl K a).stop i g/\Q g)\/((Itl K a).go i g/\∃N:St->Hp->Prop,(∀w k,N w k->∃z,z<m/\W (i+1) z w k) ∧
       ∀v k,(Itl K a).yld i g v k->zs6 j v u k fun p E=>zy5 p E fun b A=>if b=true then zs7 D s N p A else N p A):=by
 refine comp_map (J:=Itl K a) (n:=xs.length) (x:=fun i=>xs.getD i .non) (f:=fun i=>f (xs.getD i .non)) B (fun i c l=>⟨xs,xs[i],zY5 h o,by simp[l]⟩) (fun c=>⟨xs,zY5 h o,Qi _⟩) (fun i c v g l y=>?_) (fun i c R l r=>?_) ?_
 . obtain⟨e,y⟩:=y
   have:=y xs (zY5 h o);exact⟨e,by rw[Qy,this];rfl⟩
 . refine C _ c R ?_ r
   rw[Qy,Qe l];exact ZA l
 . rw[map_range_get];exact q
section
variable {prog:Program} {w:World} {A:Around} {E:VP} {s:Shared}
theorem zN5 {a l:Addr}{i:Nat}{its:Array Value}{x:Value}{Q:VP}(d:s.heap.IsTupleIter a l i)(j:s.heap.IsTuple l its)(k:its[i]?=some x)
   (m:∀e,e.IsTupleIter a l (i+1)->Heap.SameBut a s.heap e->Q x { s with heap:=e }):wpAny (model prog w) A (Builtin.SmallTypes.nextOf (.ref a)) Q E s:=by
 obtain⟨n,c,f,b⟩:=id d;obtain⟨o,g,_,p,h⟩:=j;unfold Builtin.SmallTypes.nextOf;refine Qa (wpAny_callSpecial?_slot (name:=Str.ofString "__next__") d.typeIs F.slot_tuple_iterator_next (wpAny_call_entry F.slot_tuple_iterator_next d.typeIs F.entry_tuple_iterator_next ?_ (F.args_tuple_iterator_next_1 _)));show wpAny _ _ (field (.ref a) 0 >>= _) _ _ s;refine Qa (wpAny_field c b (x:=.ref l) rfl ?_);show wpAny _ _ (if (Value.ref l == Value.none)=true then _ else _) _ _ s;rw[Qh (show ¬ ((Value.ref l == Value.none)=true) from Qu)];show wpAny _ _ (field (.ref a) 1 >>= _) _ _ s;refine Qa (wpAny_field c b (x:=.int i 0) rfl ?_);show wpAny _ _ (seqItems? (.ref l) >>= _) _ _ s;refine Qa (wpAny_seqItems g h ?_);simp only[QZ,k];refine Qa (wpAny_setField c b (by simp) (Qd ⟨x,rfl,Qd (m _ ?_ (Heap.SameBut.update ..))⟩));refine⟨_,Zu _ c (Obj.isFreed_of_fields (Obj.data_mapFields b _)),(Obj.cls_mapFields ..).trans f,?_⟩;rw[Obj.data_mapFields b];simp[rawInt]
theorem nextOf_tup_end {b l:Addr}{i:Nat}{its:Array Value}{Q:VP}(h:A.handled=none)(c:s.heap.IsTupleIter b l i)(n:s.heap.IsTuple l its)(p:its[i]?=none)
   (q:∀g e,Heap.ExtBut b s.heap g->(∃o,g.get? e=some o/\o.cls = .type "StopIteration")->E (.ref e) { s with heap:=g }):wpAny (model prog w) A (Builtin.SmallTypes.nextOf (.ref b)) Q E s:=by
 obtain⟨t,d,r,f⟩:=id c;obtain⟨u,j,_,v,k⟩:=n;unfold Builtin.SmallTypes.nextOf;refine Qa (wpAny_callSpecial?_slot (name:=Str.ofString "__next__") c.typeIs F.slot_tuple_iterator_next (wpAny_call_entry F.slot_tuple_iterator_next c.typeIs F.entry_tuple_iterator_next ?_ (F.args_tuple_iterator_next_1 _)));show wpAny _ _ (field (.ref b) 0 >>= _) _ _ s;refine Qa (wpAny_field d f (x:=.ref l) rfl ?_);show wpAny _ _ (if (Value.ref l == Value.none)=true then _ else _) _ _ s;rw[Qh (show ¬ ((Value.ref l == Value.none)=true) from Qu)];show wpAny _ _ (field (.ref b) 1 >>= _) _ _ s;refine Qa (wpAny_field d f (x:=.int i 0) rfl ?_);show wpAny _ _ (seqItems? (.ref l) >>= _) _ _ s;refine Qa (wpAny_seqItems j k ?_);simp only[QZ,p];refine Qa (wpAny_rule (Qa (wpAny_setField d f (by simp) ?_)));show wpAny _ _ (newExc (.type "StopIteration") [] >>= _) _ _ _;refine Qa ?_;simp only[newExc,newTuple];refine Qa (wpAny_newObj_type ?_ (by size_fits));refine Qa (m:=firstArgMember _ _) (wpAny_of_eq (a:=Value.none) (by first | rfl | (simp only[firstArgMember];rfl)) ?_);refine wpAny_newObj_type ?_ (by size_fits);simp only[raiseNew];refine Qa (wpAny_handled ?_);first | rw[show A.in1.handled=none from h] | rw[h]
 refine Qa (Qd (wpAny_throw ?_));exact q _ _ (((Heap.SameBut.update ..).extBut.push _).push _) ⟨_,Qj _ rfl,rfl⟩
structure yf7 (z TI TO i1 i2:Addr):Prop where
 TIz:TI≠z
 TOz:TO≠z
 i1z:i1≠z
 i2z:i2≠z
 TITO:TI≠TO
 TIi1:TI≠i1
 TIi2:TI≠i2
 TOi1:TO≠i1
 TOi2:TO≠i2
 i12:i1≠i2
structure ZAt (h:Heap)(z TI TO i1 i2 l1 l2:Addr)(f0:Value)(i:Nat):Prop where
 hz:IsZip h z TI TO f0
 hTI:IsPair h TI (.ref i1) (.ref i2)
 hTO:∃a b,IsPair h TO a b
 h1:h.IsTupleIter i1 l1 i
 h2:h.IsTupleIter i2 l2 i
theorem zip_item {z TI TO i1 i2 g h:Addr}{k:Nat}{xs ys:Array Value}{x y:Value}{Q:Option Value->Shared->Prop}(D:yf7 z TI TO i1 i2)(L:∀l,l=g\/l=h->l≠z/\l≠TO/\l≠i1/\l≠i2)(a6:ZAt s.heap z TI TO i1 i2 g h .none k)
   (a1:s.heap.IsTuple g xs) (a2:s.heap.IsTuple h ys) (hx:xs[k]?=some x) (hy:ys[k]?=some y)
   (hQ:∀t,ZAt t z TI TO i1 i2 g h (rawInt s.heap.objs.size) (k+1)->IsPair t s.heap.objs.size x y →
     (∀c o,c≠z->c≠TO->c≠i1->c≠i2->s.heap.get? c=some o->t.get? c=some o)->Q (some (.ref s.heap.objs.size)) { s with heap:=t }) :
   wpAny (model prog w) A (pyNext (.ref z)) Q E s:=by
 obtain⟨j,N,⟨a7,b,a3⟩,h1,h2⟩:=a6;obtain⟨a4,aa,ab,ac⟩:=L g (.inl rfl);obtain⟨a5,Z,a0,ad⟩:=L h (.inr rfl);have P:s.TypeIs (.ref z) "zip":=⟨_,j,rfl⟩;unfold pyNext;refine Qa (wpAny_attempt (wpAny_callSpecial?_slot (name:=Str.ofString "__next__") P F.slot_zip_next (wpAny_call_entry F.slot_zip_next P F.entry_zip_next ?_ (F.args_zip_next_1 _))));show wpAny _ _ (field (.ref z) 2 >>= _) _ _ _;refine Qa (wpAny_field j rfl (x:=.bool false) rfl ?_);show wpAny _ _ (field (.ref z) 3 >>= _) _ _ _;refine Qa (wpAny_field j rfl (x:=.ref TI) rfl ?_);refine Qa (wpAny_seqItems N rfl ?_);show wpAny _ _ (Builtin.SmallTypes.ownedTupleIsFree (.ref z) >>= _) _ _ _;refine Qa ?_;unfold Builtin.SmallTypes.ownedTupleIsFree;refine Qa (wpAny_field j rfl (x:=.none) rfl (Qd ?_));simp only[if_true];refine Qa (wpAny_rule (Qa (wpAny_field j rfl (x:=.ref TO) rfl ?_)));refine Qa (wpAny_setField_rec j (by simp) fun g1 G d=>?_);replace G:IsZip g1 z TI TO .ellipsis:=G;refine Qa ?_;simp only[List.zipIdx_cons,List.zipIdx_nil,List.forIn_cons,List.forIn_nil];refine Qa (Qa (wpAny_onRaise ?_));show wpAny _ _ (Builtin.SmallTypes.nextOf (.ref i1) >>= _) _ _ _;refine Qa (zN5 (h1.extBut d.extBut D.i1z) (a1.extBut d.extBut a4) hx fun g2 j1 m=>Qd ?_);have R:IsPair g2 TO a7 b:=m.extBut _ _ D.TOi1 (d.extBut _ _ D.TOz a3);refine Qa (wpAny_seqItems R rfl (Qa (wpAny_updateSeq_pair R fun g3 H n=>?_)));replace H:IsPair g3 TO x b:=H;refine Qa (wpAny_letGo (Qd ?_));refine Qa (Qa (wpAny_onRaise ?_));show wpAny _ _ (Builtin.SmallTypes.nextOf (.ref i2) >>= _) _ _ _;refine Qa (zN5 (((h2.extBut d.extBut D.i2z).extBut m.extBut D.i12.symm).extBut n.extBut D.TOi2.symm) (((a2.extBut d.extBut a5).extBut m.extBut a0).extBut n.extBut Z) hy fun g4 j2 p=>Qd ?_);have S:IsPair g4 TO x b:=p.extBut _ _ D.TOi2 H;refine Qa (wpAny_seqItems S rfl (Qa (wpAny_updateSeq_pair S fun a u q=>?_)));replace u:IsPair a TO x y:=u;refine Qa (wpAny_letGo (Qd (Qd ?_)));refine Qa (wpAny_seqItems u rfl (Qa (wpAny_newTuple ?_)));have sz:a.objs.size=s.heap.objs.size:=by rw[q.1,p.1,n.1,m.1,d.1]
 have T:IsZip a z TI TO .ellipsis:=q.extBut _ _ D.TOz.symm (p.extBut _ _ D.i2z.symm (n.extBut _ _ D.TOz.symm (m.extBut _ _ D.i1z.symm G)));have U:∀c o,c≠z->c≠TO->c≠i1->c≠i2->s.heap.get? c=some o->a.get? c=some o:=fun c o f v I J e=>q.extBut _ _ v (p.extBut _ _ J (n.extBut _ _ v (m.extBut _ _ I (d.extBut _ _ f e))))
 have m1:a.IsTupleIter i1 g (k+1):=((j1.extBut n.extBut D.TOi1.symm).extBut p.extBut D.i12).extBut q.extBut D.TOi1.symm;have m2:a.IsTupleIter i2 h (k+1):=j2.extBut q.extBut D.TOi2.symm;have V:z<a.objs.size:=Qr T;show wpAny _ _ (Builtin.SmallTypes.ownedTupleHandOut (.ref z) (.ref a.objs.size) >>= _) _ _ _;refine Qa ?_;unfold Builtin.SmallTypes.ownedTupleHandOut;have z6:IsZip (a.push { cls:=.type "tuple",data:=.seq #[x,y] }) z TI TO .ellipsis:=Qc _ T;refine Qa (wpAny_setField_rec z6 (by simp) fun g7 K W=>?_);replace K:IsZip g7 z TI TO (rawInt a.objs.size):=K;refine wpAny_setField_rec K (by simp) fun r B X=>?_
 replace B:IsZip r z TI TO (rawInt a.objs.size):=B;have C:∀c o,c≠z->a.get? c=some o->r.get? c=some o:=fun c o f e=>X.extBut _ _ f (W.extBut _ _ f (Qc _ e))
 have Y:IsPair r a.objs.size x y:=X.extBut _ _ (Nat.ne_of_gt V) (W.extBut _ _ (Nat.ne_of_gt V) (Qj _ rfl));rw[sz] at B Y;refine Qd ⟨_,rfl,Qd ?_⟩;show Q (some (.ref a.objs.size)) _;rw[sz];have O:∀ {M l:Addr} {i:Nat},a.IsTupleIter M l i->M≠z->r.IsTupleIter M l i:=fun a8 ne=>let⟨o,ho,a9⟩:=a8;⟨o,C _ o ne ho,a9⟩
 exact hQ r ⟨B,C _ _ D.TIz (U _ _ D.TIz D.TITO D.TIi1 D.TIi2 N),⟨x,y,C _ _ D.TOz u⟩,O m1 D.i1z,O m2 D.i2z⟩ Y fun c o f v I J e=>C c o f (U c o f v I J e)
theorem zip_end {z TI TO i1 i2 g B:Addr}{k:Nat}{xs:Array Value}{Q:Option Value->Shared->Prop}(C:A.handled=none)(D:yf7 z TI TO i1 i2)(L:g≠z)(Z:ZAt s.heap z TI TO i1 i2 g B .none k)
   (u:s.heap.IsTuple g xs) (G:xs[k]?=none)
   (H:∀l,(∀c o,c≠z->c≠TO->c≠i1->c≠i2->s.heap.get? c=some o->l.get? c=some o)->Q none { s with heap:=l }):wpAny (model prog w) A (pyNext (.ref z)) Q E s:=by
 obtain⟨d,v,⟨a,b,P⟩,I,R⟩:=Z;have m:s.TypeIs (.ref z) "zip":=⟨_,d,rfl⟩;unfold pyNext;refine Qa (wpAny_attempt (wpAny_callSpecial?_slot (name:=Str.ofString "__next__") m F.slot_zip_next (wpAny_call_entry F.slot_zip_next m F.entry_zip_next ?_ (F.args_zip_next_1 _))));show wpAny _ _ (field (.ref z) 2 >>= _) _ _ _;refine Qa (wpAny_field d rfl (x:=.bool false) rfl ?_);show wpAny _ _ (field (.ref z) 3 >>= _) _ _ _;refine Qa (wpAny_field d rfl (x:=.ref TI) rfl ?_);refine Qa (wpAny_seqItems v rfl ?_);show wpAny _ _ (Builtin.SmallTypes.ownedTupleIsFree (.ref z) >>= _) _ _ _;refine Qa ?_;unfold Builtin.SmallTypes.ownedTupleIsFree;refine Qa (wpAny_field d rfl (x:=.none) rfl (Qd ?_));simp only[if_true];refine Qa (wpAny_rule (Qa (wpAny_field d rfl (x:=.ref TO) rfl ?_)));refine Qa (wpAny_setField_rec d (by simp) fun J h i=>?_);replace h:IsZip J z TI TO .ellipsis:=h;refine Qa ?_;simp only[List.zipIdx_cons,List.zipIdx_nil,List.forIn_cons,List.forIn_nil];refine Qa (Qa (wpAny_onRaise ?_));show wpAny _ _ (Builtin.SmallTypes.nextOf (.ref i1) >>= _) _ _ _;refine Qa (nextOf_tup_end C (I.extBut i.extBut D.i1z) (u.extBut i.extBut L) G fun K e n M=>?_);obtain⟨N,f,j⟩:=M;have p:IsZip K z TI TO .ellipsis:=n _ _ D.i1z.symm h;have y:e≠z:=fun q=>by subst q;rw[p] at f;cases f;simp at j
 refine wpAny_setField_rec p (by simp) fun S _ r=>?_
 refine Qa (wpAny_isInstance (T:="StopIteration") (b:=true) ⟨N,r.extBut _ _ y f,j⟩ isSubtype_stop ?_);exact Qd (H _ fun c o t _ O _ q=>r.extBut _ _ t (n _ _ O (i.extBut _ _ t q)))
noncomputable abbrev zp1 (h:Heap) (l1:Addr):Heap:=h.push { cls:=.type "tuple_iterator",data:=.fields #[.ref l1,.int 0 0] }
noncomputable abbrev zp2 (h:Heap) (l1 l2:Addr):Heap:=(zp1 h l1).push { cls:=.type "tuple_iterator",data:=.fields #[.ref l2,.int 0 0] }
noncomputable abbrev zp3 (h:Heap) (l1 l2:Addr):Heap:=(zp2 h l1 l2).push { cls:=.type "tuple",data:=.seq #[.ref h.objs.size,.ref (zp1 h l1).objs.size] }
noncomputable abbrev zp4 (h:Heap) (l1 l2:Addr):Heap:=(zp3 h l1 l2).push { cls:=.type "tuple",data:=.seq #[.none,.none] }
noncomputable abbrev zp5 (h:Heap) (l1 l2:Addr):Heap:=(zp4 h l1 l2).push { cls:=.type "zip",data:=.fields #[.none,.bool false,.bool false,.ref (zp2 h l1 l2).objs.size,.ref (zp3 h l1 l2).objs.size] }
theorem zip_made (a b:Addr)(xs ys:Array Value) :
   Meets (Builtin.«zip.__new__» ⟨[.type "zip",.ref a,.ref b],[]⟩) (fun _ R s=>s.heap.IsTuple a xs/\s.heap.IsTuple b ys/\R (.ok (.ret (.ref (zp4 s.heap a b).objs.size))) { s with heap:=zp5 s.heap a b }) :=
 .of_wp fun m w A R s h=>by
   obtain⟨c,g,d,e,f⟩:=s;obtain⟨i,j,h⟩:=h;have n:=sub_zip;have k:Heap.IsTuple (Shared.heap ⟨c,g,d,e,f⟩) a xs:=i;have l:Heap.IsTuple (Shared.heap ⟨c.push { cls:=.type "tuple_iterator",data:=.fields #[.ref a,.int 0 0] },g,d,e,f⟩) b ys:=Heap.IsTuple.push j _
   wp_walk using wpAny_pyIter_tuple k,wpAny_pyIter_tuple l
   exact⟨_,rfl,h⟩
theorem zip_call {a b:Addr}{xs ys:Array Value}{Q:VP}(n:s.heap.IsTuple a xs)(p:s.heap.IsTuple b ys)
   (h:∀d,ZAt d (s.heap.objs.size+4) (s.heap.objs.size+2) (s.heap.objs.size+3) s.heap.objs.size (s.heap.objs.size+1) a b .none 0 →
     (∀c o,s.heap.get? c=some o->d.get? c=some o)->Q (.ref (s.heap.objs.size+4)) { s with heap:=d }):wpAny (model prog w) A (call (.type "zip") [.ref a,.ref b]) Q E s:=by
 refine callType_new F.called_zip (by decide) (F.typeCall_zip_2 _ _) (F.newCall_zip_2 _ _) (fun q=>F.args_object_init_3 q _ _) F.entry_zip_new (zip_made a b xs ys) ⟨n,p,?_⟩;have e:(zp1 s.heap a).objs.size=s.heap.objs.size+1:=Zw ..;have f:(zp2 s.heap a b).objs.size=s.heap.objs.size+2:=by rw[Zw,e]
 have g:(zp3 s.heap a b).objs.size=s.heap.objs.size+3:=by rw[Zw,f]
 have j:(zp4 s.heap a b).objs.size=s.heap.objs.size+4:=by rw[Zw,g]
 have i:(zp5 s.heap a b).get? (zp4 s.heap a b).objs.size=some _:=Qj _ rfl;have k:(zp5 s.heap a b).get? (zp3 s.heap a b).objs.size=some _:=Qc _ (Qj _ rfl);have l:(zp5 s.heap a b).get? (zp2 s.heap a b).objs.size=some _:=Qc _ (Qc _ (Qj _ rfl));have m:(zp5 s.heap a b).get? (zp1 s.heap a).objs.size=some _:=Qc _ (Qc _ (Qc _ (Qj _ rfl)));have r:(zp5 s.heap a b).get? s.heap.objs.size=some _:=Qc _ (Qc _ (Qc _ (Qc _ (Qj _ rfl))));show _/\_;rw[f,g,j] at i;rw[e,f] at l;rw[g] at k;rw[e] at m;rw[j];refine⟨⟨_,i,rfl⟩,h _ ⟨i,l,⟨_,_,k⟩,⟨_,r,rfl,rfl⟩,⟨_,m,rfl,rfl⟩⟩ fun c o x=>?_⟩;exact Qc _ (Qc _ (Qc _ (Qc _ (Qc _ x))))
end
noncomputable def Itz (l1 l2:Addr):It :=
 ⟨fun i H=>∃xs ys x y,H l1=some (.tup xs)/\H l2=some (.tup ys)/\xs[i]?=some x/\ys[i]?=some y,
  fun i H v H'=>∃p xs ys x y,H p=none/\v = .ref p/\H l1=some (.tup xs)/\H l2=some (.tup ys)/\xs[i]?=some x/\ys[i]?=some y/\H'=upd H p (.tup [x,y]),
  fun i H=>∃xs ys,H l1=some (.tup xs)/\H l2=some (.tup ys)/\xs.length<=i⟩
theorem turn_zip {P:Program}{w:World}{K:W.Frag}{es:List Expr}{k0:Nat}{tp:Pos}{r E z TI TO i1 i2:Addr}(D:yf7 z TI TO i1 i2) :
   Turn P w K (.Tuple es k0 tp) (Itz r E) [z,TI,TO,i1,i2] z (fun i h=>ZAt h z TI TO i1 i2 r E .none i) where
 mem:=by simp
 obj:=fun i h Z b f=>by
   obtain⟨F,B,⟨a,c,C⟩,⟨N,G,c1,d1⟩,⟨O,J,c2,d2⟩⟩:=Z;simp only[Qn,Zk,or_false] at f;rcases f with rfl | rfl | rfl | rfl | rfl
   . exact⟨_,F,fun v q=>by cases (show Data.fields _=Data.cell v from q)⟩
   . exact⟨_,B,fun v q=>by cases (show Data.seq _ _=Data.cell v from q)⟩
   . exact⟨_,C,fun v q=>by cases (show Data.seq _ _=Data.cell v from q)⟩
   . exact⟨N,G,fun v q=>by rw[d1] at q;cases q⟩
   . exact⟨O,J,fun v q=>by rw[d2] at q;cases q⟩
 keep:=fun i h S Z k=>by
   obtain⟨F,B,⟨a,c,C⟩,⟨N,G,r1⟩,⟨O,J,r2⟩⟩:=Z;exact⟨k z (by simp) _ F,k TI (by simp) _ B,⟨a,c,k TO (by simp) _ C⟩,⟨N,k i1 (by simp) _ G,r1⟩,⟨O,k i2 (by simp) _ J,r2⟩⟩
 item:=by
   intro X T U V d i a3 s σ H a7 I t Z Y;subst T U V;obtain⟨xs,ys,x,y,u,Q,ex,ey⟩:=Y;obtain⟨_,vx,rx,tx⟩:=I.hok r _ u;obtain⟨_,vy,ry,ty⟩:=I.hok E _ Q;obtain⟨a0,hu,ru⟩:=rx.get ex;obtain⟨v,hv,rv⟩:=ry.get ey;have n:∀b∈[z,TI,TO,i1,i2],H b=none:=fun b f=>(t b f).1
   have a8:∀l,l=r\/l=E->l≠z/\l≠TO/\l≠i1/\l≠i2:=fun l hl=>by
     have hs:∃o,H l=some o:=by
       rcases hl with e | e
       . exact⟨_,by rw[e];exact u⟩
       . exact⟨_,by rw[e];exact Q⟩
     obtain⟨o,p⟩:=hs;exact⟨zb2 p (n z (by simp)),zb2 p (n TO (by simp)),zb2 p (n i1 (by simp)),zb2 p (n i2 (by simp))⟩
   refine zip_item D a8 Z (show s.heap.IsTuple r vx.toArray from tx.isTup) (show s.heap.IsTuple E vy.toArray from ty.isTup) (x:=a0) (y:=v) (by simpa using hu) (by simpa using hv) fun S L hp kk=>?_
   refine⟨_,rfl,wpAny_letOwnedTupleGo_zip L.hz fun h2 a4 sb=>?_⟩;have j:∀c o,c∉[z,TO,i1,i2]->s.heap.get? c=some o->h2.get? c=some o:=fun c o d e=>sb.extBut _ _ (fun q=>d (by simp[q])) (kk c o (fun q=>d (by simp[q])) (fun q=>d (by simp[q])) (fun q=>d (by simp[q])) (fun q=>d (by simp[q])) e)
   have M:∀c o,H c=some o->c∉[z,TO,i1,i2]:=fun c o e g=>by
     have:H c=none:=n c (by simp only[Qn,Zk,or_false] at g ⊢;rcases g with q | q | q | q<;>simp[q]);rw[this] at e;cases e
   have a5:z<s.heap.objs.size:=Qr Z.hz;have a6:IsPair h2 s.heap.objs.size a0 v:=sb.extBut _ _ (Nat.ne_of_gt a5) hp;have A:H s.heap.objs.size=none:=I.fresh;have I2:Inv X a3 σ (upd H s.heap.objs.size (.tup [x,y])) { s with heap:=h2 }:=by
     refine I.step (g':=s.gens) (d':=s.drawn) (t':=s.toks) (ch:=[z,TO,i1,i2]) (fun b f=>?_) (fun b o _ _ d e _=>j b o d e) (fun b o _ _ d e _=>⟨o.slots,j b o d e⟩)
       (fun b o _ e a1=>by rw[za7 (QF (Qr e))];exact a1)
       (fun b o d e=>⟨o,j b o d e⟩) (fun b zs e=>by rw[za7 (zb2 e A)];exact e) (fun b o zs e=>by rw[za7 (zb2 e A)];exact e) (fun b ps e=>⟨#[],by rw[za7 (zb2 e A),e];simp⟩) (fun m g=>?_) (fun b o e=>?_) I.bare
     . obtain⟨f0,f1,f2,f3,f4,f5⟩:=t b (by simp only[Qn,Zk,or_false] at f ⊢;rcases f with q | q | q | q<;>simp[q])
       exact⟨f3,f1,f4,f5⟩
     . obtain⟨o,R,ep,p,a2⟩:=g
       refine⟨o,R,ep,j _ o (fun g=>?_) p,a2⟩
       exact(t X.env.locals (by simp only[Qn,Zk,or_false] at g ⊢;rcases g with q | q | q | q<;>simp[q])).2.1 rfl
     . by_cases f:b=s.heap.objs.size
       . subst f
         rw[za3] at e;cases e;exact⟨(by show 2<=sizeLine;decide),[a0,v],.cons ru (.cons rv .nil),⟨_,a6,rfl,rfl,_,rfl⟩⟩
       . rw[za7 f] at e
         refine(I.hok b o e).stay (fun c v d q=>j c v ?_ q) (fun c q=>by rw[za7 (zb2 q A)];exact q) fun c zs q=>by rw[za7 (zb2 q A)];exact q
         rcases d with rfl | d
         . exact M _ _ e
         . exact M _ _ d
   exact⟨.ref s.heap.objs.size,_,I2,rfl,⟨_,xs,ys,x,y,A,rfl,u,Q,ex,ey,rfl⟩,⟨a4,sb.extBut _ _ D.TIz L.hTI,(let⟨a,c,q⟩:=L.hTO;⟨a,c,sb.extBut _ _ D.TOz q⟩),L.h1.extBut sb.extBut D.i1z,L.h2.extBut sb.extBut D.i2z⟩,fun b f=>by
     rw[za7]
     . exact n b f
     . obtain⟨o,e,_⟩:∃o,s.heap.get? b=some o/\True:=by
         simp only[Qn,Zk,or_false] at f;obtain⟨F,B,⟨a,c,C⟩,⟨N,G,_⟩,⟨O,J,_⟩⟩:=Z;rcases f with rfl | rfl | rfl | rfl | rfl
         . exact⟨_,F,trivial⟩
         . exact⟨_,B,trivial⟩
         . exact⟨_,C,trivial⟩
         . exact⟨_,G,trivial⟩
         . exact⟨_,J,trivial⟩
       exact QF (Qr e)⟩
 done:=by
   intro X T U V d i a3 s σ H a7 I t Z Y;subst T U V;obtain⟨xs,ys,u,Q,a9⟩:=Y;obtain⟨_,vx,rx,tx⟩:=I.hok r _ u;have aa:=rx.length;have n:∀b∈[z,TI,TO,i1,i2],H b=none:=fun b f=>(t b f).1
   refine zip_end (I.ok.hd d) D (zb2 u (n z (by simp))) Z (show s.heap.IsTuple r vx.toArray from tx.isTup) (by simp;omega) fun S kk=>⟨rfl,?_⟩
   have j:∀c o,c∉[z,TO,i1,i2]->s.heap.get? c=some o->S.get? c=some o:=fun c o d e=>kk c o (fun q=>d (by simp[q])) (fun q=>d (by simp[q])) (fun q=>d (by simp[q])) (fun q=>d (by simp[q])) e
   have M:∀c o,H c=some o->c∉[z,TO,i1,i2]:=fun c o e g=>by
     have:H c=none:=n c (by simp only[Qn,Zk,or_false] at g ⊢;rcases g with q | q | q | q<;>simp[q]);rw[this] at e;cases e
   refine I.step (g':=s.gens) (d':=s.drawn) (t':=s.toks) (ch:=[z,TO,i1,i2]) (fun b f=>?_) (fun b o _ _ d e _=>j b o d e) (fun b o _ _ d e _=>⟨o.slots,j b o d e⟩) (fun _ _ _ _ a1=>a1)
     (fun b o d e=>⟨o,j b o d e⟩) (fun _ _ e=>e) (fun _ _ _ e=>e) (fun b ps e=>⟨#[],by rw[e];simp⟩) (fun m g=>?_) (fun b o e=>?_) I.bare
   . obtain⟨f0,f1,f2,f3,f4,f5⟩:=t b (by simp only[Qn,Zk,or_false] at f ⊢;rcases f with q | q | q | q<;>simp[q])
     exact⟨f3,f1,f4,f5⟩
   . obtain⟨o,R,ep,p,a2⟩:=g
     refine⟨o,R,ep,j _ o (fun g=>?_) p,a2⟩
     exact(t X.env.locals (by simp only[Qn,Zk,or_false] at g ⊢;rcases g with q | q | q | q<;>simp[q])).2.1 rfl
   . refine(I.hok b o e).stay (fun c v d q=>j c v ?_ q) (fun _ q=>q) fun _ _ q=>q
     rcases d with rfl | d
     . exact M _ _ e
     . exact M _ _ d
 self:=fun _ _ _ _ _ Z h=>wpAny_pyIter_zip Z.hz h
section
variable {X:Cx} {es:List Expr} {k0:Nat} {tp:Pos}
def iZip (ta:TA):TI:=fun σ H R=>ta σ H fun vs H1=>∃l1 l2 xs ys,vs=[.ref l1,.ref l2]/\H1 l1=some (.tup xs)/\H1 l2=some (.tup ys)/\R (Itz l1 l2) H1
theorem pi_zip {a b:Expr} {n:TA} {p k:Pos} (y:Gl X "zip") (z:X.mg "zip" = none) (A:PA X [a,b] n) (hs:starEach [a,b] X.env=[(false,eval a X.env),(false,eval b X.env)]:=by rfl) (l:starEach [b] X.env=[(false,eval b X.env)]:=by rfl) :
   PI X (.Tuple es k0 tp) (.Call (.Name "zip" p) [a,b] [] k) (iZip n):=by
 intro g s v H R I h;refine Call_ (zI5 I y z boot_zip (PyProof.Rows.callWith_type1 (thn (A k g s v H _ I h) fun P c ⟨Q,o,f,B,C⟩=>?_) (by rw[hs,l]) (by rw[l];rfl)));obtain⟨r,t,S,T,e,D,E,q⟩:=C;subst e;obtain⟨U,V,rfl,w,x⟩:=ya4 B;cases w;cases x;obtain⟨_,F,W,G⟩:=f.hok r _ D;obtain⟨_,J,Y,K⟩:=f.hok t _ E;refine zip_call (show c.heap.IsTuple r F.toArray from G.isTup) (show c.heap.IsTuple t J.toArray from K.isTup) fun L Z M=>?_
 refine wpAny_pyIter_zip Z.hz ?_;have N:Inv X g v o { c with heap:=L }:=f.kept (t':=c.toks) M;have d:∀i j:Nat,i≠j->c.heap.objs.size+i≠c.heap.objs.size+j:=fun i j O=>by omega
 refine⟨_,_,_,_,o,rfl,N,turn_zip (es:=es) (k0:=k0) (tp:=tp) (TI:=c.heap.objs.size+2) (TO:=c.heap.objs.size+3) (i1:=c.heap.objs.size) (i2:=c.heap.objs.size+1) ⟨d 2 4 (by decide),d 3 4 (by decide),d 0 4 (by decide),d 1 4 (by decide),d 2 3 (by decide),d 2 0 (by decide),d 2 1 (by decide),d 3 0 (by decide),d 3 1 (by decide),d 0 1 (by decide)⟩,Z,fun b u=>?_,q⟩;have m:c.heap.objs.size<=b:=by
   simp only[Qn,Zk,or_false] at u
   rcases u with rfl | rfl | rfl | rfl | rfl<;>first | exact Nat.le_add_right _ _ | exact Qi _
 exact f.fpOk m (f.hok.fresh m)
theorem call_sum (o:X.calm=true):zm4 X (.builtin "sum") (fun e H Q=>∃l a,e=[.ref l]/\SqL X.K H l (a.map V.int)/\PySem.SumFits a/\Q (.int a.sum) H):=by
 intro E s M H e F Q I r h;obtain⟨l,a,rfl,t,i,q⟩:=h;obtain⟨u,rfl,v⟩:=zx8 r;cases v;obtain⟨m,w,p,G⟩:=I.list t;obtain⟨b,x,f⟩:=zC7 (zn9 w);have y:m.toArray=intItems b.toArray:=by
   unfold intItems;rw[x];simp
 have g:=p.isList;rw[y] at g;have c:∀j,numAt b.toArray j=a.getD j 0:=fun j=>by
   unfold numAt;rw[<-f];simp[Qy,QP]
 have d:∀j,j<=a.length->preSum (numAt b.toArray) j=(a.take j).sum:=by
   intro j
   induction j with
   | zero=>intro _;rfl
   | succ j z =>
     intro A;show preSum (numAt b.toArray) j+numAt b.toArray j=_;rw[z (by omega),c,QX,List.sum_append];have:a[j]?=some (a[j]'(by omega)):=by simp
     rw[Qy,this];simp
 have k:b.toArray.size=a.length:=by rw[<-f];simp
 refine sum_intList (I.ok.hd o) g (fun j A=>?_) fun J K L B=>?_
 . have n:j<a.length:=by omega
   obtain⟨C,D⟩:=i j n;rw[c,d (j+1) (by omega)];exact⟨C,D⟩
 . rw[k,d a.length (Qi _),QS]
   exact⟨.int a.sum,H,I.kept B,⟨_,rfl⟩,q⟩
theorem pg_tupK {es:List Expr}{k:Nat}{t:TGs}{n:Nat}{a:Pos}(K:W.Frag)(c:X.K=K)(d:X.calm=true)(h:PGs X es t)
 (e:(assignEach es X.env).length=n:=by rfl) (b:(assignEach es X.env).findIdx? (·.1)=none:=by rfl):PG X (.Tuple es k a) (gTup K n t):=c▸yn3 d h e b
end
theorem comp_zip {K:W.Frag}{e:Hp}{k l D:Addr}{xs ys:List V}{f:V->V->V}{rest:St}{o:TE}{Q:Hp->Prop}(r:e k=some (.tup xs))(t:e l=some (.tup ys))(P:xs.length=ys.length)(C:e D=none)(hn:xs.length<=sizeLine)
   (S:∀(i:Nat) x y c R,xs[i]?=some x->ys[i]?=some y->Same e c->R (f x y) c->o (some x::some y::rest) c R) (q:∀c,Same e c->c D=some (.lst (List.zipWith f xs ys))->Q c) :
   ∃W:Nat->Nat->St->Hp->Prop,(∃m,W 0 m (none::none::rest) (upd e D (.lst []))) ∧
     ∀i m g c,W i m g c->((Itz k l).stop i c/\Q c)\/((Itz k l).go i c/\∃N:St->Hp->Prop,(∀j d,N j d->∃E,E<m/\W (i+1) E j d) ∧
       ∀v d,(Itz k l).yld i c v d->gTup K 2 (yn1 (zs6 0) (yn1 (zs6 1) gNil)) v g d fun u T=>zy5 u T fun b F=>if b=true then zs7 D o N u F else N u F):=by
 have U:(List.zipWith f xs ys).length=xs.length:=by rw[List.length_zipWith,P,Nat.min_self]
 refine⟨fun i m g c=>m=xs.length-i/\i<=xs.length/\(∃a b,g=a::b::rest)/\Same e c/\c D=some (.lst ((List.zipWith f xs ys).take i)),⟨xs.length,by simp,QD _,⟨_,_,rfl⟩,Same.upd C,by rw[za3];rfl⟩,?_⟩;rintro i m g c ⟨rfl,hi,⟨a,b,rfl⟩,s,n⟩;by_cases z:i<xs.length
 . have ex:xs[i]?=some xs[i]:=by simp[z]
   have X:ys[i]?=some (ys[i]'(by omega)):=by simp
   refine .inr ⟨⟨xs,ys,_,_,s _ _ r,s _ _ t,ex,X⟩,fun j d=>(∃a b,j=a::b::rest)/\Same e d/\d D=some (.lst ((List.zipWith f xs ys).take (i+1))),fun j d h=>⟨xs.length-(i+1),by omega,rfl,z,h.1,h.2.1,h.2.2⟩,?_⟩;rintro v d ⟨p,I,J,G,H,w,rfl,L,M,A,B,rfl⟩;have Y:I=xs:=by have:=(s _ _ r).symm.trans L;cases this;rfl
   have Z:J=ys:=by have:=(s _ _ t).symm.trans M;cases this;rfl
   subst Y Z;have O:D≠p:=fun a0=>by rw[a0,w] at n;cases n
   refine⟨p,_,rfl,SqT.of za3,rfl,_,_,rfl,_,_,rfl,rfl,?_⟩;dsimp only[zy5];refine iteT ?_;show zs7 D o _ (some G::some H::rest) _;refine S i G H _ _ A B (s.updT w) ⟨_,by rw[za7 O];exact n,?_,⟨_,_,rfl⟩,(s.updT w).put C,?_⟩
   . rw[Zb];omega
   . rw[za3,QX,List.getElem?_zipWith,A,B]
     rfl
 . have a1:i=xs.length:=by omega
   subst a1;refine .inl ⟨⟨xs,ys,s _ _ r,s _ _ t,Qi _⟩,q c s ?_⟩;rw[n,<-U,QS]
noncomputable abbrev bmV:List Value:=[.type "ValueError",.type "Exception",.type "BaseException",.type "object"]
def MroV (bm:List Value):Prop:=bm=bmV\/∃D:Addr,bm = .ref D::bmV
theorem MroV.has {a:List Value}(m:MroV a){T:String}{b:Bool}(h:bmV.contains (.type T)=b):a.contains (.type T)=b:=by
 rcases m with rfl | ⟨D,rfl⟩
 . exact h
 . rw[List.contains_cons,h];rfl
theorem MroV.self {a:List Value}(m:MroV a)(C:Addr){T:String}{b:Bool}(h:bmV.contains (.type T)=b):(Value.ref C::a).contains (.type T)=b:=by
 rw[List.contains_cons,m.has h];rfl
theorem MroV.passes {a:List Value} (m:MroV a) (v:Value):refuseLoop v "__setattr__" a=pure ():=by
 rcases m with rfl | ⟨D,rfl⟩
 . exact PySem.F.store_ValueError.passes v
 . rw[refuseLoop_ref];exact PySem.F.store_ValueError.passes v
section
variable {prog:Program} {w:World} {A:Around} {E:VP} {R:Result->Shared->Prop} {h:Heap} {g:Array GenState} {d:Drawn} {t:Nat} {os:OsState}
variable {nm q:Str} {C N:Addr} {bs bm:List Value} {hdct:Bool} {sn:List Str} {sub:List Value} {ab:Bool} {col:Option Bool} {dd:Option Addr} {k0 k1 k2 k3 k5:Option Value}
theorem xnew_check {M:Model} (m:MroV bm) {rest:List Value} {Q:Unit->Shared->Prop} (a:h.get? C=some (excClassObj nm q C N bs bm hdct sn sub ab col dd k0 k1 k2 k3 k5 "ValueError.__new__"))
   (c:Q () ⟨h,g,d,t,os⟩):wpAny M A (checkBuiltinCall "ValueError.__new__" ⟨.ref C::rest,[]⟩) Q E ⟨h,g,d,t,os⟩:=by
 have b:=m.self C PySem.F.excBase_ValueError.hasB;have e:=PySem.F.excBase_ValueError.noStar;simp only[checkBuiltinCall,PySem.F.excBase_ValueError.newKind,PySem.F.excBase_ValueError.newSplit,PySem.F.excBase_ValueError.newRow]
 repeat (first | refine wpAny_loadPart_at a ?_ | (refine wpAny_isSubtype_exc a ?_;rw[b]) | refine wpAny_staticBase_exc a ?_ | refine wpAny_madeBy_exc a ?_ | simp only[bne_self_eq_false,Ze,if_false] | wp_step)
 exact c
theorem xnew_code (m:MroV bm) {rest:List Value} (a:h.get? C=some (excClassObj nm q C N bs bm hdct sn sub ab col dd k0 k1 k2 k3 k5 "ValueError.__new__"))
   (b:R (.ok (.ret (.ref (h.objs.size+1)))) ⟨(h.push { cls:=.type "tuple",data:=.seq rest.toArray }).push { cls:=.ref C,data:=.fields #[.ref h.objs.size,.none,.none,.none,.bool false,.none] },g,d,t,os⟩)
   (i:rest.length<=sizeLine):codeAny (model prog w) A (.builtin "ValueError.__new__" ⟨.ref C::rest,[]⟩) R ⟨h,g,d,t,os⟩:=by
 have j:=PySem.F.excBase_ValueError.ends;have c:=m.self C PySem.F.excBase_ValueError.hasB;have e:=m.self C PySem.F.excBase_ValueError.noAttr;have f:=m.self C PySem.F.excBase_ValueError.noName;refine codeAny_builtinAt PySem.F.excBase_ValueError.entry ?_;unfold Builtin.«BaseException.__new__»;refine PySem.wpAt_bind ?_;show PySem.wpAt _ _ _ (stack >>= _) _ _ _;refine PySem.wpAt_bind (PySem.wpAt_stack fun p below=>PySem.wpAt_of_wpAny ?_);wp_walk;refine PySem.wpAt_of_wpAny ?_;rw[PySem.F.excBase_ValueError.owner]
 repeat (first | with_reducible refine wpAny_madeHere_exc PySem.F.excBase_ValueError.canon a ?_ | with_reducible refine wpAny_loadPart_at a ?_ | (with_reducible refine wpAny_isSubtype_exc a ?_;first | rw[c] | rw[e] | rw[f]) | wp_step)
 show R _ _;rw[Zw];exact b
theorem xcall {K:W.Frag} (X:K.In h) (m:MroV bm) {rest:List Value} {c:Addr} {Q:VP} (a:h.get? C=some (excClassObj nm q C N bs bm hdct sn sub ab col dd k0 k1 k2 k3 k5 "ValueError.__new__"))
   (p:W.findIn K (.ref C) "__init__" = some (some (.ref c))) (s:W.isFn K (.ref c)=true) (k:rest.length<=sizeLine)
   (u:wpAny (model prog w) (A.under (.builtin "type.__call__" ⟨.ref C::rest,[]⟩)) (call (.ref c) (.ref (h.objs.size+1)::rest)) (fun r f=>r = .none/\Q (.ref (h.objs.size+1)) f) E
     ⟨(h.push { cls:=.type "tuple",data:=.seq rest.toArray }).push { cls:=.ref C,data:=.fields #[.ref h.objs.size,.none,.none,.none,.bool false,.none] },g,d,t,os⟩) :
   wpAny (model prog w) A (call (.ref C) rest) Q E ⟨h,g,d,t,os⟩:=by
 have z:=tc_lookup;have B:=tc_bind (.ref C);have D:(⟨h,g,d,t,os⟩:Shared).TypeIs (.ref C) "type":=⟨_,a,rfl⟩;refine wpAny_call (codeAny_of_tree ?_);show wpAny _ _ (callAny (.ref C) _) _ _ _
 repeat (any_goals (first | assumption | with_reducible refine wpAny_loadPart_at a ?_ | wp_step))
 refine⟨rfl,?_⟩;refine codeAny_call_builtin_at (Code.quiet_builtin _ (by decide +kernel)) entry_typeCall (wpAny_check_type_call_sub a ?_)
 repeat (first | with_reducible refine wpAny_loadPart_at a ?_ | with_reducible refine wpAny_madeBy_exc a ?_ | wp_step)
 refine codeAny_call_builtin_code (Code.quiet_builtin _ PySem.F.excBase_ValueError.quiet) (xnew_check m a (xnew_code m a ?_ k));show wpAny _ _ _ _ _ _;have i:∀b o,h.get? b=some o->((h.push { cls:=.type "tuple",data:=.seq rest.toArray }).push { cls:=.ref C,data:=.fields #[.ref h.objs.size,.none,.none,.none,.bool false,.none] }).get? b=some o:=fun b o e=>Qc _ (Qc _ e)
 have l:=i _ _ a;have X1:K.In ((h.push { cls:=.type "tuple",data:=.seq rest.toArray }).push { cls:=.ref C,data:=.fields #[.ref h.objs.size,.none,.none,.none,.bool false,.none] }):=X.keeps i;have j:((h.push { cls:=.type "tuple",data:=.seq rest.toArray }).push { cls:=.ref C,data:=.fields #[.ref h.objs.size,.none,.none,.none,.bool false,.none] }).get? (h.objs.size+1)=some { cls:=.ref C,data:=.fields #[.ref h.objs.size,.none,.none,.none,.bool false,.none] }:=by heap_get
 have n:(Value.ref C::bm).contains (.ref C)=true:=by simp
 unfold isInstance
 repeat (first | with_reducible refine wpAny_loadPart_at j ?_ | wp_step)
 refine wpAny_isSubtype_exc l ?_;rw[n]
 repeat (first | with_reducible refine wpAny_loadPart_at j ?_ | wp_step)
 show wpAny _ _ (typeLookup (.ref C) _) _ _ _;refine W.looks_findIn X1 p _ _ _ _ (fun _ _ e=>e) ?_;refine wpAny_holding (Qa ?_);unfold bindSpecial;refine Qa (W.looks_typeIn X1 (beq_iff_eq.mp s) _ _ _ _ (fun _ _ e=>e) ?_);rw[Ql (by decide)];refine Qd (Qa (Zs u (fun r f v=>?_) fun _ _ x=>x));obtain⟨rfl,y⟩:=v
 wp_walk
 exact y
end
open PySem.Builtin PySem.Builtin.ObjectAttr
section
variable {prog:Program} {w:World} {A:Around} {E:VP} {h:Heap} {g:Array GenState} {d:Drawn} {t:Nat} {os:OsState}
variable {nm q:Str} {C N x:Addr} {bs bm:List Value} {sn:List Str} {sub:List Value} {ab:Bool} {col:Option Bool} {dd:Option Addr} {k0 k1 k2 k3 k5:Option Value} {newId:String} {mA:Str->Option Value} {name:Str} {v:Value} {K:W.Frag}
theorem xsa_check {M:Model}(m:MroV bm){o:Obj}{a:Value}{Q:Unit->Shared->Prop}(c:h.get? C=some (excClassObj nm q C N bs bm true sn sub ab col dd k0 k1 k2 k3 k5 newId))(e:h.get? x=some o)(f:o.cls = .ref C)(i:Q () ⟨h,g,d,t,os⟩) :
   wpAny M A (checkBuiltinCall "object.__setattr__" ⟨[.ref x,a,v],[]⟩) Q E ⟨h,g,d,t,os⟩:=by
 have b:=m.self C PySem.F.store_ValueError.hasOwner;have j:=PySem.F.store_ValueError.args (.ref x) a v;simp only[checkBuiltinCall,PySem.F.store_ValueError.kind,PySem.F.store_ValueError.split];refine Qa ?_;unfold isInstance
 repeat (first | (with_reducible refine wpAny_loadPart_at e ?_;rw[f]) | (with_reducible refine wpAny_isSubtype_exc c ?_;rw[b]) | wp_step)
 exact i
theorem xsa_entry (X:K.In h)(m:MroV bm){G:Tok}{Q:PySem.Fin->Shared->Prop}{ns:List Str}(hC:h.get? C=some (excClassObj nm q C N bs bm true sn sub ab col dd k0 k1 k2 k3 k5 newId))(S:W.findIn K (.ref C) name=some none)(a6:x≠C)(I:h.Inst x C mA)
   (P:∀i T,i.Inst x C (fun y=>if y=name then some v else mA y) →
     (∀b o,b≠x->(∀a f,h.get? x=some a->a.dict=some f->b≠f)->h.get? b=some o->i.get? b=some o) →
     (∀a,h.get? x=some a->∃k,i.get? x=some k/\k.cls=a.cls/\k.data=a.data/\k.slots=a.slots/\(∀f,a.dict=some f->k.dict=some f)/\(a.dict=none->k.dict=some h.objs.size))->Q (.done (.ret .none)) ⟨i,g,d,T,os⟩) (hw:Within mA ns) (hsz:ns.length<=sizeLine) :
   wpAny (model prog w) A (Builtin.«object.__setattr__» ⟨[.ref x,.str name G,v],[]⟩) Q E ⟨h,g,d,t,os⟩:=by
 obtain⟨o,j,H,s,hd⟩:=I;have R:=m.passes (.ref x);have lk:∀(A:Around) (Q:Option Value->Shared->Prop) (E:VP),Q none ⟨h,g,d,t,os⟩->wpAny (model prog w) A (typeLookup (.ref C) name) Q E ⟨h,g,d,t,os⟩:=fun A Q E q=>W.looks_findIn X S A Q E _ (fun _ _ e=>e) q
 unfold Builtin.«object.__setattr__»
 repeat (first | rw[refuse_eq] | (rw[refuseLoop_ref,R]) | (with_reducible refine wpAny_loadPart_at j ?_;rw[H]) | with_reducible refine wpAny_mroOf_exc hC ?_ | with_reducible refine lk _ _ _ ?_ | wp_step)
 rcases hd with⟨L,U⟩ | ⟨f,p,u,V⟩
 . rw[L,Qh (by simp[typeHasDict])]
   split
   . rename_i hcd
     cases hcd
   split
   . rename_i c hcd
     exact absurd hcd (s c)
   . have M:(h.push { cls:=.type "dict",data:=.dict #[] }).get? x=some o:=Qc _ j
     have z:x≠h.objs.size:=QF (Qr j);refine Qa (wpAny_alloc' (Qa (wpAny_update' M (Qd ?_))));have Y:((h.push { cls:=.type "dict",data:=.dict #[] }).update x fun o=>{ cls:=o.cls,dict:=some h.objs.size,data:=o.data,slots:=o.slots }).get? h.objs.size=some { cls:=.type "dict",data:=.dict #[] }:=(Heap.get?_update_ne _ _ _ _ z.symm).trans (Heap.get?_push_at rfl rfl);have Z:((h.push { cls:=.type "dict",data:=.dict #[] }).update x fun o=>{ cls:=o.cls,dict:=some h.objs.size,data:=o.data,slots:=o.slots }).Ns h.objs.size (fun _=>none):=⟨_,#[],_,Y,rfl,fun e he=>absurd he (by simp),fun _=>rfl⟩;show wpAny _ _ (storeInDict h.objs.size (.str name G) name v) _ _ _;unfold storeInDict newKeyGuard;refine Qa (Qd (Qa (wpAny_nsSet1 (Heap.Ns1.of_empty Z) fun i n l=>?_)));obtain⟨oD,a0,a1,B,D,F⟩:=n.count (Within.cons name v Within.nil);refine Qa (wpAny_lookBehind B (by rw[D];exact pastItsLine_dict (QK F (by rw[Qz,ZK,sizeLine_eq];omega))) ?_)
     wp_walk
     have O:i.get? x=some { cls:=o.cls,dict:=some h.objs.size,data:=o.data,slots:=o.slots }:=by
       refine(l.2 x z).trans (Zu _ M ?_);have a2:=(Heap.get?_some_iff.mp j).2;obtain⟨oc,od,a3,a7⟩:=o
       cases a3<;>first | rfl | exact a2
     refine P i _ ⟨_,O,H,s,.inr ⟨h.objs.size,rfl,z.symm,?_⟩⟩ (fun b ob a4 _ r=>?_) (fun a J=>?_)
     . obtain⟨o',es,ep,e1,e2,e3,eu,e4⟩:=n
       exact⟨o',es,ep,e1,e2,e3,eu,fun y=>by rw[e4 y];by_cases hy:y=name<;>simp[hy,U]⟩
     . exact(l.2 b (QF (Qr r))).trans ((Heap.get?_update_ne _ _ _ _ a4).trans (Qc _ r))
     . obtain rfl:o=a:=Qo (j.symm.trans J)
       exact⟨_,O,rfl,rfl,rfl,fun f e=>(by rw[L] at e;cases e),fun _=>rfl⟩
 . rw[p]
   refine Qd ?_;show wpAny _ _ (storeInDict f (.str name G) name v) _ _ _;unfold storeInDict newKeyGuard;refine Qa (Qd (Qa (wpAny_nsSet1 V fun i n l=>?_)));obtain⟨oD,a0,a1,B,D,F⟩:=n.count (Within.cons name v hw);refine Qa (wpAny_lookBehind B (by rw[D];exact pastItsLine_dict (QK F (by rw[Qz];omega))) ?_)
   wp_walk
   refine P i _ ⟨o,(l.2 x u.symm).trans j,H,s,.inr ⟨f,p,u,n⟩⟩ (fun b ob _ a5 r=>(l.2 b (a5 o f j p)).trans r) (fun a J=>?_);obtain rfl:o=a:=Qo (j.symm.trans J);exact⟨o,(l.2 x u.symm).trans j,rfl,rfl,rfl,fun _ e=>e,fun e=>(by rw[p] at e;cases e)⟩
theorem yp4 (X:K.In h) (m:MroV bm) {Q:Unit->Shared->Prop} {ns:List Str} (k:h.get? C=some (excClassObj nm q C N bs bm true sn sub ab col dd k0 k1 k2 k3 k5 newId)) (r:W.findIn K (.ref C) "__setattr__" = some (some (.builtin "object.__setattr__")))
   (s:W.findIn K (.ref C) name=some none) (u:x≠C) (I:h.Inst x C mA)
   (z:∀c j,c.Inst x C (fun y=>if y=name then some v else mA y) →
     (∀b o,b≠x->(∀a i,h.get? x=some a->a.dict=some i->b≠i)->h.get? b=some o->c.get? b=some o) →
     (∀a,h.get? x=some a->∃f,c.get? x=some f/\f.cls=a.cls/\f.data=a.data/\f.slots=a.slots/\(∀i,a.dict=some i->f.dict=some i)/\(a.dict=none->f.dict=some h.objs.size))->Q () ⟨c,g,d,j,os⟩) (B:Within mA ns) (hsz:ns.length<=sizeLine) :
   wpAny (model prog w) A (setAttr (.ref x) name v) Q E ⟨h,g,d,t,os⟩:=by
 obtain⟨o,l,n,_⟩:=id I;have H:=PySem.F.store_ValueError.slot.bind (.ref x);have D:∀(A:Around) (Q:Option Value->Shared->Prop) (E:VP) (t:Nat),Q (some (.builtin "object.__setattr__")) ⟨h,g,d,t,os⟩->wpAny (model prog w) A (typeLookup (.ref C) "__setattr__") Q E ⟨h,g,d,t,os⟩:=fun A Q E t q=>W.looks_findIn X r A Q E _ (fun _ _ e=>e) q
 unfold setAttr callSpecial? specialOf
 repeat (any_goals (first | assumption | (with_reducible refine wpAny_loadPart_at l ?_;rw[n]) | refine D _ _ _ _ ?_ | wp_step))
 refine codeAny_call_builtin PySem.F.store_ValueError.slot.plain PySem.F.store_ValueError.entry (xsa_check m k l n (xsa_entry X m k s u I (fun c j F G p=>?_) B hsz))
 repeat (any_goals (first | assumption | wp_step))
 exact z c j F G p
end
noncomputable def ExcO (C e:Addr)(od:Option Addr):HO:=.ext fun h=>∃t:Addr,h.get? e=some { cls:=.ref C,dict:=od,data:=.fields #[.ref t,.none,.none,.none,.bool false,.none] }
structure XCls (K:W.Frag)(C:Addr):Prop where
 ob:∃nm q N bs bm sn sub ab col dd k0 k1 k2 k3 k5,K.lookup C=some (excClassObj nm q C N bs bm true sn sub ab col dd k0 k1 k2 k3 k5 "ValueError.__new__")/\MroV bm
 sa:W.findIn K (.ref C) "__setattr__" = some (some (.builtin "object.__setattr__"))
 kp:W.keepIn K (.ref C)=true
section
variable {X:Cx} {pins:PL} {σ:St} {H:Hp} {s:Shared} {C x:Addr} {od:Option Addr}
theorem zY6 (I:Inv X pins σ H s)(e:H x=some (ExcO C x od)):∃t:Addr,s.heap.get? x=some { cls:=.ref C,dict:=od,data:=.fields #[.ref t,.none,.none,.none,.bool false,.none] }:=(I.hok x _ e).1
theorem yi1 {P:Program}{w:World}{H:Hp}{h:Heap}{t:Addr}(e:h.get? x=some { cls:=.ref C,dict:=od,data:=.fields #[.ref t,.none,.none,.none,.bool false,.none] }):ze9 P w H h x (ExcO C x od) :=
 ⟨⟨t,e⟩,⟨_,e⟩,fun b c ⟨t,a⟩ k=>⟨t,k _ a⟩⟩
theorem cls_ne (I:Inv X pins σ H s){o:HO}{a:Obj}(b:X.K.lookup C=some a)(e:H x=some o):x≠C:=fun z=>by
 have c:=I.ok.mod.kin _ _ b;have:=(I.bs _ _ c).2;rw[z,this] at e;cases e
def XPut (D:St->Hp->Prop)(σ:St)(H:Hp)(a C:Addr)(od:Option Addr)(f:Str)(y:V):Prop:=match od with
 | none=>∀dx,H dx=none->dx≠a->D σ (upd (upd H dx (.xd (putF f y []))) a (ExcO C a (some dx)))
 | some dx=>∃fs,H dx=some (.xd fs)/\fs.length<1000/\D σ (upd H dx (.xd (putF f y fs)))
theorem yp5 {P:Program}{w:World}{H:Hp}{h:Heap}{a:Addr}{mA:Str->Option Value}{f:Str}{y:V}{u:Value}{fs:List (Str×V)}(i:fs.length<1000)(b:h.Ns1 a fun g=>if g=f then some u else mA g)(r:∀g,RelO (fs.lookup g) (mA g))(c:PySem.Within mA (fs.map (·.1)))(d:RelV y u) :
   ze9 P w H h a (.xd (putF f y fs)):=by
 refine⟨by have:=zo9 f y fs;omega,_,b,fun g=>?_,fun g e=>?_⟩
 . rw[zb1]
   by_cases q:g=f
   . rw[Ql q];simp only[q,if_true];exact d
   . rw[Qh q];simp only[q,if_false];exact r g
 . by_cases q:g=f
   . rw[q];exact(zu3 f y fs).1
   . refine(zu3 f y fs).2 g (c g fun z=>e ?_)
     simp only[q,if_false];exact z
theorem xsetattr_ok {f:Str}{y:V}{u:Value}{a3:St->Hp->Prop}{A:Around}{E:VP}(I:Inv X pins σ H s)(c:XCls X.K C)(na:zf1 X.K C f)(e:H x=some (ExcO C x od))(ry:RelV y u)(q:XPut a3 σ H x C od f y) :
   wpAny (model X.prog X.w) A (setAttr (.ref x) f u) (fun _ s'=>∃H',Inv X pins σ H' s'/\a3 σ H') E s:=by
 obtain⟨nm,qn,ae,bs,bm,sn,sub,ab,ac,dd,k0,k1,k2,k3,k5,hK,m⟩:=c.ob;have hC:=I.kIn _ _ hK;obtain⟨t,k⟩:=zY6 I e;have a0:=cls_ne I hK e;cases od with
 | none =>
   have R:s.heap.Inst x C (fun _=>none):=⟨_,k,rfl,fun c z=>(by cases z),.inl ⟨rfl,fun _=>rfl⟩⟩;obtain⟨i,g,d,tk,os⟩:=s;refine yp4 (ns:=[]) I.kIn m hC c.sa na a0 R (fun h' O S T U=>?_) PySem.Within.nil (QD _);obtain⟨W,Y,B,D,F,_,Z⟩:=U _ k;have G:=Z rfl;have r:h'.get? x=some { cls:=.ref C,dict:=some i.objs.size,data:=.fields #[.ref t,.none,.none,.none,.bool false,.none] }:=by
     rw[Y];obtain⟨c1,d1,a4,a5⟩:=W;simp only at B D F G;subst B D F G;rfl
   have M:∀b o,b≠x->i.get? b=some o->h'.get? b=some o:=fun b o h a=>T b o h (fun o0 j J K=>by rw[k] at J;cases J;cases K) a
   have l:H i.objs.size=none:=I.fresh;have a6:i.objs.size≠x:=fun z=>by rw[<-z,l] at e;cases e
   obtain⟨oI,v,_,_,P⟩:=S;have N:h'.Ns1 i.objs.size (fun g=>if g=f then some u else none):=by
     rw[r] at v;cases v;rcases P with⟨z,_⟩ | ⟨d',Q,_,L⟩
     . cases z
     . cases Q;exact L
   refine⟨_,?_,q _ l a6⟩;refine I.un (t':=O) (h':=h') ⟨fun b o a n _ _=>?_,fun b o a n _ _=>⟨o.slots,?_⟩,fun b o a n _=>?_,fun b o a _=>?_,fun b xs z=>?_,fun b o xs z=>?_,fun b ps z=>⟨#[],?_⟩⟩ fun b o z=>?_
   . exact M b o (fun z=>by rw[z,e] at n;cases n) a
   . exact M b o (fun z=>by rw[z,e] at n;cases n) a
   . rw[za7 (fun z=>by rw[z,e] at n;cases n),za7 (QF (Qr a))];exact n
   . by_cases h:b=x
     . subst h;exact⟨_,r⟩
     . exact⟨o,M b o h a⟩
   . rw[za7 (zC6 z e (by intro w;cases w)),za7 (zb2 z l)];exact z
   . rw[za7 (zC6 z e (by intro w;cases w)),za7 (zb2 z l)];exact z
   . rw[za7 (zC6 z e (by intro w;cases w)),za7 (zb2 z l),z];simp
   . by_cases h:b=x
     . subst h
       rw[za3] at z;cases z;exact yi1 r
     . rw[za7 h] at z
       by_cases a1:b=i.objs.size
       . subst a1
         rw[za3] at z;cases z;exact yp5 (mA:=fun _=>none) (by decide) N (fun g=>True.intro) PySem.Within.nil ry
       . rw[za7 a1] at z
         refine(I.hok b o z).stay (fun c a9 hc qv=>M c a9 ?_ qv) (fun c p=>?_) fun c xs p=>?_
         . rcases hc with rfl | hc
           . exact h
           . exact zC6 hc e (by intro w;cases w)
         . rw[za7 (zC6 p e (by intro w;cases w)),za7 (zb2 p l)];exact p
         . rw[za7 (zC6 p e (by intro w;cases w)),za7 (zb2 p l)];exact p
 | some j =>
   obtain⟨fs,K,hl,q⟩:=q;obtain⟨ad,mA,L,aa,wi⟩:=I.hok j _ K;have a7:j≠x:=zC6 K e (by intro w;cases w);have R:s.heap.Inst x C mA:=⟨_,k,rfl,fun c z=>(by cases z),.inr ⟨j,rfl,a7,L⟩⟩;have hz:(fs.map (·.1)).length<=sizeLine:=by rw[Qb,sizeLine_eq];omega
   obtain⟨i,g,d,tk,os⟩:=s;refine yp4 (ns:=fs.map (·.1)) I.kIn m hC c.sa na a0 R (fun h' O S T U=>?_) wi hz;obtain⟨W,Y,B,D,F,Z,_⟩:=U _ k;have G:=Z j rfl;have r:h'.get? x=some { cls:=.ref C,dict:=some j,data:=.fields #[.ref t,.none,.none,.none,.bool false,.none] }:=by
     rw[Y];obtain⟨c1,d1,a4,a5⟩:=W;simp only at B D F G;subst B D F G;rfl
   obtain⟨oI,v,_,_,P⟩:=S;have N:h'.Ns1 j (fun g=>if g=f then some u else mA g):=by
     rw[r] at v;cases v;rcases P with⟨z,_⟩ | ⟨d',Q,_,L⟩
     . cases z
     . cases Q;exact L
   refine⟨_,I.write (t':=O) (h':=h') (x:=j) (e:=j) (by rw[K];exact True.intro) (.inl rfl) (fun b o h a=>?_) (let⟨o,_,_,e',_⟩:=N;⟨o,e'⟩) (yp5 hl N aa wi ry),q⟩;by_cases a2:b=x
   . subst a2
     rw[show i.get? b=_ from k] at a;cases a;exact r
   . exact T b o a2 (fun o0 d0 J a8=>by rw[show i.get? x=_ from k] at J;cases J;cases a8;exact h) a
end
section
variable {X:Cx} {o value:Expr} {f:Str} {pos pos':Pos} {ta tv:TE}
def sXFld (K:W.Frag)(ta tv:TE)(f:Str):TS:=fun D σ H=>tv σ H fun y H1=>ta σ H1 fun x H2=>∃a C od,x = .ref a/\H2 a=some (ExcO C a od)/\XCls K C/\zf1 K C f/\XPut D.nx σ H2 a C od f y
theorem yi2 (e:PE X o ta)(g:PE X value tv)(hs:swapsWith value (some (.Attribute o f pos')) pos.line X.env=pure false):PS X (.Assign [.Attribute o f pos'] value pos) (sXFld X.K ta tv f):=by
 intro d s b H D I h;refine plainObj_wpAny_Assign_Attribute (thn (g d s b H _ I h) fun u i ⟨y,j,k,l,q⟩=>thn (e d i b j _ k q) fun m B ⟨x,E,p,r,a,C,F,ex,t,c,n,v⟩=>?_) hs;subst ex;obtain rfl:m=Value.ref a:=r;exact thn (xsetattr_ok p c n t l v) fun _ G ⟨w,z,A⟩=>⟨b,w,z,A⟩
end
structure ys6 (K:W.Frag)(C:Addr)(m:Str)(f:Addr):Prop where
 ga:W.specialIn K (.ref C) "__getattribute__" = some (some (.builtin "type.__getattribute__"))
 rd:W.readsIn K C (.type "type")=true
 fd:W.findCls K (.ref C) (.type "type") m=some (.val (.ref f))
 kp:W.keepIn K (.ref f)=true
section
variable {X:Cx} {CX:CXT} {k:Nat} {f C:Addr} {fd:FuncData} {ps:List Str} {sp:Sp} {dvs:List V} {ds:List Value} {E:XK} {x m:Str} {p pos apos:Pos} {e:Expr} {es:List Expr} {t:TA}
theorem pe_cmeth {pl:Sem Bool}(M:ys6 X.K C m f)(j:Gl X x)(l:X.mg x=some (.ref C))(F:FnOk X.prog X.w X.K X.mg X.base CX k f fd ps sp)(n:Room k X.A)(o:zm6 X.K fd ps ds)(q:Vals dvs ds)(u:zn8 CX X E)(v:PA X (e::es) t)
   (d:(x == ("__debug__" : Str))=false:=by decide)
   (g:starEach (e::es) X.env=(false,eval e X.env)::starEach es X.env:=by rfl) (i:(backTo pos (starEach es X.env)).any (·.1)=false:=by rfl)
   (w:eval (.Call (.Attribute (.Name x p) m apos) (e::es) [] pos) X.env=(do
     let a <-eval (.Name x p) X.env
     standAt apos.atName
     let(f,first) <-holding [a] (getMethod a m pl)
     callWith pos f first (backTo pos (starEach (e::es) X.env)) (backToKw pos (keywordEach [] X.env))):=by rfl) :
   PE X (.Call (.Attribute (.Name x p) m apos) (e::es) [] pos) (yo2 sp dvs E t):=by
 intro c s z H Q I h;refine W.methodCall_KW (pl:=pl) (zB0 I j l ?_ d) w;refine W.method_cls I.kIn M.ga (W.cls_value I.kIn M.rd M.fd (by rfl) ?_);refine W.callWith_K (first:=[]) (h₀:=X.base) I.ok.mod.kin M.kp (thn (v pos c _ z H _ (I.tok _) h) fun A B ⟨D,G,b,r,y⟩=>⟨b.kIn,?_⟩) g i;exact zX9 F n o q u b r y
end
noncomputable def del (H:Hp)(a:Addr):Hp:=fun b=>if b=a then none else H b
theorem ya9 (H:Hp)(a:Addr):del H a a=none:=Ql rfl
theorem zD9 {H:Hp}{a b:Addr}(h:b≠a):del H a b=H b:=Qh h
theorem ze9.got {P:Program}{w:World}{H:Hp}{h:Heap}{a:Addr}{o:HO}(x:ze9 P w H h a o):∃b,h.get? a=some b:=by
 cases o with
 | lst d=>obtain⟨_,_,_,_,e⟩:=x;exact⟨_,e⟩
 | tup d=>obtain⟨_,_,_,_,e,_⟩:=x;exact⟨_,e⟩
 | dK c=>obtain⟨_,_,_,_,o,_,_,e,_⟩:=x;exact⟨_,e⟩
 | dT c=>obtain⟨_,_,_,_,o,_,_,e,_⟩:=x;exact⟨_,e⟩
 | set S n=>obtain⟨o,_,_,_,e,_⟩:=x;exact⟨_,e⟩
 | ins C g fs=>obtain⟨_,_,_,e,_⟩:=x;exact⟨_,e⟩
 | own y=>obtain⟨_,e⟩:=x;exact⟨_,e⟩
 | xd fs=>obtain⟨_,_,⟨_,_,_,e,_⟩,_⟩:=x;exact⟨_,e⟩
 | rng i j=>obtain⟨_,_,_,e⟩:=x;exact⟨_,e⟩
 | frz b u=>obtain⟨e,_⟩:=x;exact⟨_,e⟩
 | tbl k=>exact⟨_,show h.get? a=some _ from x⟩
 | met f y=>exact⟨_,show h.get? a=some _ from x⟩
 | ext l=>obtain⟨_,⟨_,e⟩,_⟩:=x;exact⟨_,e⟩
def Fly (h:Heap)(H:Hp)(h0:Heap)(a:Addr)(cls:Value):Prop :=
 (H a=none/\h0.get? a=none)/\∃T a0,(H T=none/\h0.get? T=none)/\∃oe vs oT ts,h.get? a=some oe/\(oe.cls=cls/\vs[0]?=some a0)/\oe.data = .fields vs/\vs[1]?=some (.ref T)/\T≠a/\h.get? T=some oT/\oT.data = .fields ts/\ts[3]?=some Value.none
theorem Fly.from {h:Heap}{H:Hp}{h0 c:Heap}{a:Addr}{d:Value}(x:Fly h H h0 a d)(k:∀b o,c.get? b=some o->∃f,h0.get? b=some f):Fly h H c a d:=by
 have g:∀b,h0.get? b=none->c.get? b=none:=fun b e=>by
   cases q:c.get? b with
   | none=>rfl
   | some o=>obtain⟨f,z⟩:=k b o q;rw[e] at z;cases z
 obtain⟨⟨i,j⟩,T,l,⟨m,n⟩,r⟩:=x;exact⟨⟨i,g _ j⟩,T,l,⟨m,g _ n⟩,r⟩
theorem Fly.flying {h:Heap}{H:Hp}{h0 B:Heap}{a:Addr}{d:Value}{l:List Env}(x:Fly h H h0 a d)(g:h.FunFrames B l) :
   ∃T c,(H T=none/\h0.get? T=none)/\Heap.FlyingW (W.hideAll h (a::([T]++frs l))) l a d c h:=by
 obtain⟨_,T,c,z,i,j,k,m,n,p,q,r,s,t,u,v⟩:=x;refine⟨T,c,z,fun b o e=>W.of_hideAll _ e,W.hideAll_none _ QQ,W.funFrames_hide g fun f w b y=>?_,i,j,T,k,m,n,p,q,r,W.hideAll_none _ (by simp),s,t,u,v⟩;exact QH _ (QH _ (List.mem_filterMap.mpr ⟨f,w,y⟩))
theorem yi3 {P:Program}{w:World}{fs ts:List Addr}{l Q:List Env}{E H:Hp}{h0 g h B:Heap}{a:Addr}{C a0:Value}(u:Un fs [] E H h0 g)(ok:HOk P w H g)(F:g.FunFrames B l)
   (G:∀b∈frs l,(b∈fs\/h0.get? b=none)/\H b=none) (s:H a=none/\h0.get? a=none) (p:∀T∈ts,H T=none/\h0.get? T=none)
   (x:Heap.FlyingW (W.hideAll g (a::(ts++frs l))) Q a C a0 h) (I:g.UpToSlots h):Un fs [] E H h0 h/\HOk P w H h/\Fly h H h0 a C:=by
 obtain⟨R,_,_,S,U,T,V,J,X,Y,Z,e4,K,L,M,N,e9⟩:=x;have keep:∀b o,b∉a::(ts++frs l)->g.get? b=some o->h.get? b=some o:=fun b o d e=>R b o (W.hideAll_get _ e d)
 have r:∀b,b∈a::(ts++frs l)->H b=none/\(b∈frs l\/h0.get? b=none):=fun b d=>by
   rcases Qn.mp d with rfl | d
   . exact⟨s.1,.inr s.2⟩
   . rcases Qt.mp d with d | d
     . exact⟨(p b d).1,.inr (p b d).2⟩
     . exact⟨(G b d).2,.inl d⟩
 have A:∀b o,h0.get? b≠none->g.get? b=some o->∃sl,h.get? b=some { o with slots:=sl }:=fun b o n e=>by
   by_cases d:b∈a::(ts++frs l)
   . rcases(r b d).2 with q | q
     . obtain⟨_,t,j,k⟩:=F.mem q
       rw[e] at j;cases j;exact I b o e k
     . exact absurd q n
   . exact⟨o.slots,keep b o d e⟩
 refine⟨⟨fun b o e n m i=>?_,fun b o e n m i=>?_,u.free,fun b o e i=>?_,u.tups,u.frzs,u.tbls⟩,fun b o q=>?_,s,T,a0,?_,S,U,V,J,X,Y,Z,e4,L,M,N,e9⟩
 . refine keep b o (fun d=>?_) (u.keep b o e n m i)
   rcases(r b d).2 with q | q
   . rcases(G b q).1 with q | q
     . exact m q
     . rw[e] at q;cases q
   . rw[e] at q;cases q
 . obtain⟨sl,q⟩:=u.slot b o e n m i
   obtain⟨D,v⟩:=A b _ (by rw[e];simp) q;exact⟨D,v⟩
 . obtain⟨t,q⟩:=u.there b o e i
   obtain⟨D,v⟩:=A b _ (by rw[e];simp) q;exact⟨_,v⟩
 . refine(ok b o q).stay (fun c a1 y qv=>keep c a1 (fun f=>?_) qv) (fun _ z=>z) fun _ _ z=>z
   have n:=(r c f).1;rcases y with rfl | y
   . rw[q] at n;cases n
   . rw[y] at n;cases n
 . by_cases f:T∈a::(ts++frs l)
   . rcases Qn.mp f with z | f
     . exact absurd z L
     . rcases Qt.mp f with f | f
       . exact p T f
       . obtain⟨_,t,j,k⟩:=F.mem f
         obtain⟨sl,z⟩:=I T t j k;rw[M] at z;cases z;exact absurd N (k J)
   . have O:g.get? T=none:=by
       cases q:g.get? T with
       | none=>rfl
       | some o=>rw[W.hideAll_get _ q f] at K;cases K
     refine⟨?_,?_⟩
     . cases q:H T with
       | none=>rfl
       | some o=>obtain⟨ob,z⟩:=(ok T o q).got;rw[O] at z;cases z
     . cases q:h0.get? T with
       | none=>rfl
       | some o=>obtain⟨ob,z⟩:=u.there T o q (by simp);rw[O] at z;cases z
def CXE (P:Program)(w:World):CXT:=fun outer H s E e s'=>∃a cls H',e = .ref a/\s'.os=s.os/\AllBare s'.gens/\Un (frs outer) [] H H' s.heap s'.heap/\HOk P w H' s'.heap/\Fly s'.heap H' s.heap a cls/\E cls none H'
def yp6 (X:Cx)(E:XK):Prop:=∀(pins:PL) (σ:St) (H:Hp) (s:Shared) (x C:Addr) (od:Option Addr),Inv X pins σ H s->H x=some (ExcO C x od)->X.s₀.heap.get? x=none->E (.ref C) none (del H x)->X.xe (.ref x) s
section
variable {X:Cx} {pins:PL} {σ:St} {H H':Hp} {s s':Shared} {C x a:Addr} {od:Option Addr} {cls a0:Value}
theorem Inv.del (I:Inv X pins σ H s)(e:H x=some (ExcO C x od)):Inv X pins σ (L2.del H x) s:=by
 have f:∀b u,H b=some u->(∀d,u≠.ext d)->b≠x:=fun b u q n z=>by rw[z,e] at q;cases q;exact n _ rfl
 have:=I.un (t':=s.toks) (h':=s.heap) (H':=L2.del H x) ⟨fun b o a n _ _=>a,fun b o a n _ _=>⟨o.slots,a⟩,fun b o a n _=>?_,fun b o a _=>⟨o,a⟩,fun b g z=>?_,fun b o g z=>?_,fun b i z=>⟨#[],?_⟩⟩ fun b o z=>?_
 . exact this
 . unfold L2.del;split
   . rfl
   . exact n
 . rw[zD9 (f b _ z fun d w=>by cases w)];exact z
 . rw[zD9 (f b _ z fun d w=>by cases w)];exact z
 . rw[zD9 (f b _ z fun d w=>by cases w),z];simp
 . have h:b≠x:=fun q=>by rw[q,ya9] at z;cases z
   rw[zD9 h] at z;exact(I.hok b o z).stay (fun _ _ _ q=>q) (fun c q=>by rw[zD9 (f c _ q fun d w=>by cases w)];exact q) fun c g q=>by rw[zD9 (f c _ q fun d w=>by cases w)];exact q
theorem Inv.left {ts:List Addr}{c:Heap}{g:List Env}(I:Inv X pins σ H s)(e:X.ex=[])(h:H a=none/\X.s₀.heap.get? a=none)(f:∀T∈ts,H T=none/\X.s₀.heap.get? T=none)
   (x:Heap.FlyingW (W.hideAll s.heap (a::(ts++frs X.stack))) g a cls a0 c) (i:s.heap.UpToSlots c):Un X.fs [] X.H₀ H X.s₀.heap c/\HOk X.prog X.w H c/\Fly c H X.s₀.heap a cls:=by
 have u:=I.base;rw[e] at u;refine yi3 u I.hok I.stack (fun b d=>⟨?_,I.stkFree b d⟩) h f x i;rcases Qn.mp (I.stkSub b d) with z | z
 . right;rw[z];exact Heap.get?_none_of_le I.ok.above
 . exact .inl z
end
section
variable {P:Program} {w:World} {K:W.Frag} {mg:Str->Option Value} {base:Heap} {N:List Str} {qual:Str} {scope:Scope} {f:Addr} {cd:Value} {A:Around} {outer:List Env} {s:Shared} {H:Hp} {E:XK}
theorem raises_fn:yp6 (cxOf (CXE P w) P w K mg base N qual scope f cd A outer s H E) E:=by
 intro y F c d x C B I e n q;obtain⟨t,g⟩:=zY6 I e;have J:=I.del e;have h:del c x x=none:=ya9 _ _;refine wpAny_leaving_firstW (base:=W.hideAll d.heap (x::([]++frs (cxOf (CXE P w) P w K mg base N qual scope f cd A outer s H E).stack))) (outer:=outer) (L:=s.heap.objs.size) (a0:=.ref t) I.ok.frames ?_ rfl g (fun b o z=>W.of_hideAll _ z) (W.hideAll_none _ QQ) rfl rfl rfl fun D i=>?_
 . exact W.funFrames_hide I.stack fun a j b k=>QH _ (List.mem_filterMap.mpr ⟨a,j,k⟩)
 . obtain⟨l,m,p,r⟩:=i
   obtain⟨u,ok,v⟩:=J.left (ts:=[]) rfl ⟨h,n⟩ (fun _ z=>nomatch z) ⟨l,W.hideAll_none _ QQ,m,p⟩ r;exact⟨x,.ref C,_,rfl,I.os,I.bare,u,ok,v,q⟩
theorem passes_fn:zn8 (CXE P w) (cxOf (CXE P w) P w K mg base N qual scope f cd A outer s H E) E:=by
 intro v D x y e k I q;obtain⟨a,c,g,rfl,l,h,un,ok,m,q⟩:=q;have J:=I.call' (ch:=[]) l un ok h fun b z=>nomatch z
 have d:Fly k.heap g s.heap a c:=m.from fun b o z=>I.base.there b o z (fun z=>nomatch z)
 obtain⟨T,B,z,n⟩:=d.flying J.stack;refine wpAny_leaves_onW J.ok.frames rfl n fun C i p=>?_
 obtain⟨u,j,r⟩:=J.left (ts:=[T]) rfl d.1 (fun b t=>by rw[QM.mp t];exact z) i p;exact⟨a,c,g,rfl,J.os,J.bare,u,j,r,q⟩
end
section
variable {M:Model} {A:Around} {E:VP} {env:Env}
variable {nm q:Str} {C N:Addr} {bs bm:List Value} {hdct:Bool} {sn:List Str} {sub:List Value} {ab:Bool} {col:Option Bool} {dd:Option Addr} {k0 k1 k2 k3 k5:Option Value} {newId:String}
theorem xraise {s:Shared}{x:Sem Value}{Q:Flow->Shared->Prop}(m:MroV bm)(i:A.handled=none)
   (h:wpAny M A x (fun v a=>∃e b t,v = .ref e/\a.heap.get? C=some (excClassObj nm q C N bs bm hdct sn sub ab col dd k0 k1 k2 k3 k5 newId)/\a.heap.get? e=some { cls:=.ref C,dict:=b,data:=.fields #[.ref t,.none,.none,.none,.bool false,.none] }/\E (.ref e) a) E s) :
   wpAny M A (raiseStmt env (some x) none) Q E s:=by
 have f:(Value.ref C::bm).contains (.type "BaseException")=true:=m.self C (by decide);unfold raiseStmt;refine Qa (Zs h (fun v a j=>?_) fun _ _ x=>x);obtain⟨e,b,t,rfl,c,k,l⟩:=j;obtain⟨n,g,d,o,p⟩:=a
 repeat (first | with_reducible refine wpAny_loadPart_at k ?_ | with_reducible refine wpAny_loadPart_at c ?_ | (with_reducible refine wpAny_isSubtype_exc c ?_;rw[f]) | wp_step)
 exact wpAny_raiseNew_none i l
end
section
variable {X:Cx} {CX:CXT} {k:Nat} {f C:Addr} {fd:FuncData} {ps:List Str} {sp:Sp} {dvs:List V} {ds:List Value} {E Ei:XK} {x m:Str} {p pos cpos apos:Pos} {e:Expr} {es:List Expr} {t:TA}
theorem run_xmake2 {a:PL} {i:St} {H:Hp} {s:Shared} {Q:Addr->Hp->Prop} {us:List Value} {vs:List V} (c:XCls X.K C) (y:W.findIn X.K (.ref C) "__init__" = some (some (.ref f))) (z:W.isFn X.K (.ref f)=true) (F:FnOk X.prog X.w X.K X.mg X.base CX k f fd ps sp) (A:Room (k+1) X.A) (B:zm6 X.K fd ps ds) (D:Vals dvs ds)
   (G:zn8 CX X E) (I:Inv X a i H s) (r:Vals vs us) (J:vs.length<=sizeLine)
   (h:∀x,H x=none->sp (.ref x::(vs++dvs)) (upd H x (ExcO C x none)) (fun v K=>v = .non/\Q x K) E) :
   wpAny (model X.prog X.w) X.A (call (.ref C) us) (fun v n=>v = .ref (s.heap.objs.size+1)/\∃j,Inv X a i j n/\Q (s.heap.objs.size+1) j) X.xe s:=by
 obtain⟨Y,Z,a0,bs,bm,sn,sub,ab,U,dd,k0,k1,k2,k3,k5,L,m⟩:=c.ob;have M:=I.kIn _ _ L;have u:=h (s.heap.objs.size+1) (I.hok.fresh (Nat.le_succ _));have N:Inv X a i H { s with heap:=s.heap.push { cls:=.type "tuple",data:=.seq us.toArray } }:=I.kept (t':=s.toks) fun b o e=>Qc _ e
 have q:(s.heap.push { cls:=.type "tuple",data:=.seq us.toArray }).objs.size=s.heap.objs.size+1:=Zw ..;have l:Inv X a i (upd H (s.heap.objs.size+1) (ExcO C (s.heap.objs.size+1) none)) { s with heap:=(s.heap.push { cls:=.type "tuple",data:=.seq us.toArray }).push { cls:=.ref C,data:=.fields #[.ref s.heap.objs.size,.none,.none,.none,.bool false,.none] } }:=by
   refine N.laid (t':=s.toks) (fun b o e=>Qc _ e) (Nat.le_of_eq q) (yi1 (t:=s.heap.objs.size) ?_);rw[<-q];exact Qj _ rfl
 have w:Vals (V.ref (s.heap.objs.size+1)::(vs++dvs)) (Value.ref (s.heap.objs.size+1)::(us++ds)):=.cons rfl (r.append D);have O:(Value.ref (s.heap.objs.size+1)::us++ds).length=ps.length:=by
   have e:=w.length;rw[F.len _ _ _ _ u] at e;exact e.symm
 obtain⟨p,a1,d,tk,os⟩:=s;refine xcall I.kIn m M y z (by rw[<-r.length];exact J) ?_;refine wpAny_call (codeAny_mono (F.run _ X.stack _ _ ⟨Value.ref (p.objs.size+1)::us,[]⟩ (Value.ref (p.objs.size+1)::(us++ds)) _ _ E (A.make C us []) (l.env0.make C us []) (B _ (Value.ref (p.objs.size+1)::us) l.kIn O) w u) fun r n g=>?_);cases r with
 | error e=>exact G a i _ _ e n l g
 | ok P =>
   cases P with
   | ret a2 =>
     obtain⟨v,j,R,S,ev,T⟩:=l.after g;subst ev;exact⟨S,rfl,j,R,T⟩
   | next=>exact False.elim g
   | brk=>exact False.elim g
   | cont=>exact False.elim g
def tRaise (C:Addr)(sp:Sp)(dvs:List V)(Ei E:XK)(t:TA):TS:=fun _ σ H=>t σ H fun vs H1=>vs.length<=sizeLine/\∀x,H1 x=none →
 sp (.ref x::(vs++dvs)) (upd H1 x (ExcO C x none)) (fun v H2=>v = .non/\∃od,H2 x=some (ExcO C x od)/\E (.ref C) none (del H2 x)) Ei
theorem ps_raise (R:yp6 X E) (w:X.calm=true) (c:XCls X.K C) (y:W.findIn X.K (.ref C) "__init__" = some (some (.ref f))) (A:W.isFn X.K (.ref f)=true) (F:FnOk X.prog X.w X.K X.mg X.base CX k f fd ps sp) (B:Room (k+1) X.A) (D:Gl X x) (G:X.mg x=some (.ref C)) (J:zm6 X.K fd ps ds) (K:Vals dvs ds) (L:zn8 CX X Ei)
   (M:PA X (e::es) t) (n:(x == ("__debug__" : Str))=false:=by decide) (O:starEach (e::es) X.env=(false,eval e X.env)::starEach es X.env:=by rfl) (o:(backTo cpos (starEach es X.env)).any (·.1)=false:=by rfl) :
   PS X (.Raise (some (.Call (.Name x p) (e::es) [] cpos)) none pos) (tRaise C sp dvs Ei E t):=by
 intro i s l H a0 I h;obtain⟨nm,P,N,bs,Z,sn,sub,ab,col,dd,k0,k1,k2,k3,k5,S,m⟩:=c.ob;rw[arm_exec_Raise];simp only[evalOpt,Option.map];refine Qa (wpAny_standAt (xraise (C:=C) m (I.ok.hd w) (hdct:=true) (nm:=nm) (q:=P) (N:=N) (bs:=bs) (sn:=sn) (sub:=sub) (ab:=ab) (col:=col) (dd:=dd) (k0:=k0) (k1:=k1) (k2:=k2) (k3:=k3) (k5:=k5) (newId:="ValueError.__new__") ?_));refine Qa (Zs (wpAny_Call_Name_kw (zB0 I D G ?_ n)) (fun v s3 T=>Qa (wpAny_standAt (Qd T))) fun _ _ z=>z);refine W.callWith_K (h₀:=X.base) I.ok.mod.kin c.kp (thn (M cpos i s l H _ I h) fun us s1 ⟨vs,H1,b,r,U,q⟩=>⟨b.kIn,?_⟩) O o;refine thn (run_xmake2 (Q:=fun x a=>∃d,a x=some (ExcO C x d)/\E (.ref C) none (del a x)) c y A F B J K L b r U q) fun v V ⟨ev,a,g,d,j,Y⟩=>?_
 obtain⟨t2,u⟩:=zY6 g j;exact⟨_,_,_,ev,g.kIn _ _ S,u,R i l a V _ C d g j (Heap.get?_none_of_le (QK b.sz (Nat.le_succ _))) Y⟩
end
noncomputable def Cx.inTry (X:Cx)(pins:PL)(E:XK):Cx:={ X with pn:=X.pn++pins,xe:=fun e s1=>∃σ H s,Inv X pins σ H s/\CXE X.prog X.w X.stack H s E e s1 }
noncomputable def Cx.caught (X:Cx)(e:Value):Cx:={ X with A:=X.A.mark (some e),calm:=false,xe:=fun _ _=>False }
section
variable {X:Cx} {pins pins':PL} {σ:St} {H:Hp} {s:Shared} {E:XK} {e:Value} {D:Ends} {f:Flow}
theorem Inv.inTry (I:Inv X pins σ H s)(E:XK):Inv (X.inTry pins E) [] σ H s :=
 let ok:=I.ok
 ⟨⟨ok.mod,ok.kind,ok.glob,ok.blt,ok.above,ok.inj,ok.has,ok.cab,ok.hd,ok.frames,ok.stk,ok.exf,ok.bs,ok.bsz,ok.noex,ok.exfs,ok.funs,ok.frf⟩,I.os,I.bare,I.base,I.loc,I.cell,I.free,I.freeC,fun p a=>I.pin p (by
   rw[Zz] at a;exact a),I.hok,I.len⟩
theorem Inv.outTry (I:Inv (X.inTry pins E) pins' σ H s):Inv X pins σ H s :=
 let ok:=I.ok
 ⟨⟨ok.mod,ok.kind,ok.glob,ok.blt,ok.above,ok.inj,ok.has,ok.cab,ok.hd,ok.frames,ok.stk,ok.exf,ok.bs,ok.bsz,ok.noex,ok.exfs,ok.funs,ok.frf⟩,I.os,I.bare,I.base,I.loc,I.cell,I.free,I.freeC,fun p a=>I.pin p (Zo _ a),I.hok,I.len⟩
theorem Inv.caught (I:Inv X pins σ H s)(e:Value):Inv (X.caught e) pins σ H s :=
 let ok:=I.ok
 ⟨⟨ok.mod,ok.kind,ok.glob,ok.blt,ok.above,ok.inj,ok.has,ok.cab,(fun z=>nomatch z),ok.frames,ok.stk,ok.exf,ok.bs,ok.bsz,ok.noex,ok.exfs,ok.funs,ok.frf⟩,I.os,I.bare,I.base,I.loc,I.cell,I.free,I.freeC,I.pin,I.hok,I.len⟩
theorem Inv.uncaught (a:X.calm=true->X.A.handled=none)(I:Inv (X.caught e) pins σ H s):Inv X pins σ H s :=
 let ok:=I.ok
 ⟨⟨ok.mod,ok.kind,ok.glob,ok.blt,ok.above,ok.inj,ok.has,ok.cab,a,ok.frames,ok.stk,ok.exf,ok.bs,ok.bsz,ok.noex,ok.exfs,ok.funs,ok.frf⟩,I.os,I.bare,I.base,I.loc,I.cell,I.free,I.freeC,I.pin,I.hok,I.len⟩
theorem SP.outTry (h:SP (X.inTry pins E) pins' D f s):SP X pins D f s:=by
 cases f with
 | next=>obtain⟨a,b,I,q⟩:=h;exact⟨a,b,I.outTry,q⟩
 | brk=>obtain⟨a,b,I,q⟩:=h;exact⟨a,b,I.outTry,q⟩
 | cont=>obtain⟨a,b,I,q⟩:=h;exact⟨a,b,I.outTry,q⟩
 | ret u=>obtain⟨v,a,b,I,r,q⟩:=h;exact⟨v,a,b,I.outTry,r,q⟩
theorem SP.uncaught (c:X.calm=true->X.A.handled=none)(h:SP (X.caught e) pins D f s):SP X pins D f s:=by
 cases f with
 | next=>obtain⟨a,b,I,q⟩:=h;exact⟨a,b,I.uncaught c,q⟩
 | brk=>obtain⟨a,b,I,q⟩:=h;exact⟨a,b,I.uncaught c,q⟩
 | cont=>obtain⟨a,b,I,q⟩:=h;exact⟨a,b,I.uncaught c,q⟩
 | ret u=>obtain⟨v,a,b,I,r,q⟩:=h;exact⟨v,a,b,I.uncaught c,r,q⟩
theorem passes_try:zn8 (CXE X.prog X.w) (X.inTry pins E) E:=fun b a H s e c I q=>⟨a,H,s,I.outTry,q⟩
end
section
variable {X:Cx} {C:Addr} {E:XK} {x:Str} {p pos hpos:Pos} {body suite:List Stmt} {b₀:Stmt} {tb th:TS}
def tTry (E:XK)(C:Addr)(tb th:TS):TS:=fun D σ H=>tb D σ H/\∀σ' cls H',E cls none H'->cls = .ref C/\th D σ' H'
theorem ps_try (hs:X.stack=X.env::X.outer/\X.env.frame=some X.env.locals)(c:XCls X.K C)(U:Gl X x)(V:X.mg x=some (.ref C))(d:∀g,PSs (X.inTry g E) body tb)(Y:∀e,PSs (X.caught e) (b₀::suite) th)
   (M:(x == ("__debug__" : Str))=false:=by decide) :
   PS X (.Try body [.ExceptHandler (some (.Name x p)) none (b₀::suite) hpos] [] [] pos) (tTry E C tb th):=by
 intro g a1 σ a2 D I a3;obtain⟨v,k⟩:=a3;refine wpAny_Try_except (Zs (d g [] a1 σ a2 D (I.inTry E) v) (fun f h q=>?_) fun e h q=>?_)
 . cases f with
   | next=>exact wpAny_execs_nil (SP.outTry (f:=.next) q)
   | brk=>exact SP.outTry (f:=.brk) q
   | cont=>exact SP.outTry (f:=.cont) q
   | ret u=>exact SP.outTry (f:=.ret u) q
 . obtain⟨n,H0,s0,w,a,N,o,rfl,y,r,un,ok,A,q⟩:=q
   obtain⟨Z,qh⟩:=k n N o q;subst Z;have J:=w.call' (ch:=[]) y un ok r fun b z=>nomatch z
   have B:=J.stack;obtain⟨T,a0,z,F⟩:=A.flying B;have fr:X.A.frames=some (X.env::X.outer):=by rw[<-hs.1];exact J.ok.frames
   rw[hs.1] at F;obtain⟨nm,qn,a6,bs,bm,sn,sub,ab,a5,dd,k0,k1,k2,k3,k5,hK,m⟩:=c.ob;refine wpAny_looks_onW fr hs.2 F fun v K s=>?_
   refine wpAny_landsW K fun k j t=>?_
   have G:∀(i:Heap),Heap.FlyingW (W.hideAll h.heap (a::([T]++frs (X.env::X.outer)))) (X.env::X.outer) a (.ref C) a0 i->h.heap.UpToSlots i->Inv X g n o { h with heap:=i }:=fun i O P=>by
     obtain⟨u,Q,_⟩:=yi3 (l:=X.env::X.outer) un ok (by rw[<-hs.1];exact B) (fun b d=>by rw[<-hs.1] at d;exact⟨.inl d,J.stkFree b d⟩) A.1 (ts:=[T]) (fun b d=>by rw[QM.mp d];exact z) O P;exact w.call' (ch:=[]) (s':={ h with heap:=i }) y u Q r fun b z=>nomatch z
   have H:=G k j (s.trans t);refine wpAny_handleBy_cons (codeAny_handlers_test ?_) (by intro q;cases q);refine zB0 (X:=X.caught (.ref a)) (H.caught _) U V ?_ M;obtain⟨oe,he,L⟩:=j.there;refine wpAny_excMatches_sub_self (H.kIn _ _ hK) he L (m.has (by decide)) ?_;show codeAny _ _ _ _ _;refine codeAny_handlers_suite (lands_againW j fun h3 R S=>?_);have J3:=G h3 R ((s.trans t).trans S);exact Zs (Y (.ref a) g _ n o D (J3.caught _) qh) (fun f s' a4=>SP.uncaught I.ok.hd a4) fun _ _ z=>False.elim z
end
structure FunD (K:W.Frag)(x qual:Str)(st:Stmt)(f:Addr)(fd:FuncData):Prop where
 ex:∃(oc:Value) (od:Option Addr) (dV kV doc pm:Value) (an:Option Addr) (cdv ct:Value) (osl:Array (Option Value)),
   fd=W.fnOf x qual (zi2 st) (zd3 st) (za8 st) dV kV doc pm an cdv ct/\K.lookup f=some ⟨oc,od,.func fd,osl⟩/\W.codeIn K cdv qual=true
 kp:W.keepIn K (.ref f)=true
section
variable {P:Program} {w:World} {K:W.Frag} {mg:Str->Option Value} {base:Heap} {CX:CXT}
theorem Fun.d {x a:Str}{st:Stmt}{f:Addr}{fd:FuncData}(F:Fun K x a st f fd):FunD K x a st f fd:=by
 obtain⟨e,g,kV,b,i,j,c,k,d,h⟩:=F.ex;exact⟨⟨e,g,.none,kV,b,i,j,c,k,d,h⟩,F.kp⟩
theorem FunD.ok {x d:Str}{st:Stmt}{f:Addr}{fd:FuncData}{N ps:List Str}{k:Nat}{sp:Sp}(F:FunD K x d st f fd)(S:zb8 N ps (za8 st))(len:∀a H Q E,sp a H Q E->a.length=ps.length)
   (e:∀(b:Value) (A:Around) (c:List Env) (s:Shared) (H:Hp) (a:List V) (Q:VK) (E:XK),Room k (A.deeper (envOfC d (za8 st) s.heap.objs.size f b))->sp a H Q E →
     ∃t,PSs (cxOf CX0 P w K mg base N d (za8 st) f b A c s H E).nox (zd3 st) t/\t { nx:=fun _ j=>Q .non j,rt:=Q } (start N a) H):FnOk P w K mg base CX0 (k+1) f fd ps sp:=by
 obtain⟨p,r,u,kV,n,v,y,b,z,o,rfl,l,g⟩:=F.ex;refine yo3 l g S len fun A c s H a Q E m i=>?_
 obtain⟨t,h,q⟩:=e b A c s H a Q E m i;exact⟨t,h.nox,q⟩
theorem FunD.okE {x d:Str}{st:Stmt}{f:Addr}{fd:FuncData}{N ps:List Str}{k:Nat}{sp:Sp}(F:FunD K x d st f fd)(S:zb8 N ps (za8 st))(len:∀a H Q E,sp a H Q E->a.length=ps.length)
   (e:∀(b:Value) (A:Around) (c:List Env) (s:Shared) (H:Hp) (a:List V) (Q:VK) (E:XK),Room k (A.deeper (envOfC d (za8 st) s.heap.objs.size f b))->sp a H Q E →
     ∃t,PSs (cxOf (CXE P w) P w K mg base N d (za8 st) f b A c s H E) (zd3 st) t/\t { nx:=fun _ j=>Q .non j,rt:=Q } (start N a) H):FnOk P w K mg base (CXE P w) (k+1) f fd ps sp:=by
 obtain⟨p,r,u,kV,n,v,y,b,z,o,rfl,l,g⟩:=F.ex;refine yo3 l g S len fun A c s H a Q E m i=>?_
 obtain⟨t,h,q⟩:=e b A c s H a Q E m i;exact⟨t,h,q⟩
theorem yi4 {x a:Str}{st:Stmt}{f:Addr}{m:Value}{n e:Option Addr}{j:Array (Option Value)}{g kV d h b i:Value}(l:K.lookup f=some ⟨m,n,.func (W.fnOf x a (zi2 st) (zd3 st) (za8 st) g kV d h e b i),j⟩)
 (c:W.codeIn K b a=true) (k:W.keepIn K (.ref f)=true):FunD K x a st f (W.fnOf x a (zi2 st) (zd3 st) (za8 st) g kV d h e b i):=⟨⟨m,n,g,kV,d,h,e,b,i,j,rfl,l,c⟩,k⟩
end
inductive yp7 (K:W.Frag)(x:V)(y:V)(H:Hp)(Q:VK):Prop
 | mk (a b xs:_)(h0:x = .ref a)(h1:y = .ref b)(h2:SqL K H a xs)(h3:SqL K H b [])(h4:Q (.bl (!xs.isEmpty)) H):yp7 K x y H Q
def rNeE (K:W.Frag):R2:=fun x y H Q=>yp7 K x y H Q
theorem op_neE {X:Cx}(g:X.A.units<cLine):OpR X (compareOp .NotEq) (rNeE X.K):=by
 intro L s O H x y v u Q I l m h;obtain⟨a,b,j,rfl,rfl,n,o,q⟩:=h;cases l;cases m;obtain⟨d,r,⟨p,t,w,z,_,A⟩,N⟩:=I.list n;obtain⟨c,B,⟨C,D,E,F,_,G⟩,M⟩:=I.list o;have k:s.heap.IsList a d.toArray:=⟨p,w,z,t,A⟩;have f:s.heap.IsList b c.toArray:=⟨C,E,F,D,G⟩;obtain rfl:c=[]:=by cases B;rfl
 cases j with
 | nil =>
   obtain rfl:d=[]:=by cases r;rfl
   exact(PySem.SeqAt.RcNeAt.lists (e:=fun _=>true) k f rfl g (fun i J=>absurd J (by simp))) _ _ _ _ ⟨.bl false,H,I,rfl,q⟩
 | cons x j =>
   have K:=r.length;refine(PySem.SeqAt.RcNeAt.lists_lengths k f ?_ g) _ _ _ _ ⟨.bl true,H,I,rfl,q⟩;simp only[Qk,ZK,<-K,Qz];simp
section
variable {X:Cx} {pins pins':PL} {σ:St} {H:Hp} {s:Shared} {Ex:St->XK} {D:Ends} {fl:Flow}
end
section
variable {X:Cx} {CX:CXT} {k:Nat} {f C:Addr} {fd:FuncData} {ps:List Str} {sp:Sp} {dvs:List V} {ds:List Value} {Ex:St->XK} {x m:Str} {p pos apos:Pos} {e o:Expr} {es:List Expr} {ta:TE} {t:TA}
end
section
variable {X:Cx} {D:Addr} {Ex:St->XK} {x:Str} {p pos hpos:Pos} {body suite:List Stmt} {b₀:Stmt} {tb th:TS}
end
section
variable {X:Cx} {pins:PL} {σ:St} {H:Hp} {s:Shared}
end
section
variable {X:Cx} {D:Addr} {Ex:St->XK} {x n:Str} {i:Nat} {p pos hpos:Pos} {body suite:List Stmt} {b₀:Stmt} {tb th:TS}
end
section
variable {X:Cx}
inductive yi5  (x:V)(y:V)(H:Hp)(Q:VK):Prop
 | mk (a b xs ys:_)(h0:x = .ref a)(h1:y = .ref b)(h2:H a=some (.tup xs))(h3:H b=some (.tup ys))(h4:xs.length+ys.length<=sizeLine)(h5:∀p H',Same H H'->H' p=some (.tup (xs++ys))->Q (.ref p) H'):yi5  x y H Q
def rCatU:R2:=fun x y H Q=>yi5  x y H Q
theorem zo5:OpR X (binaryOp .Add) rCatU:=by
 intro w s J H x y v u Q I j k h;obtain⟨a,b,l,A,rfl,rfl,c,d,B,q⟩:=h;by_cases m:l=[]
 . subst m
   cases j;cases k;obtain⟨z,C,D,_⟩:=I.tuple (SqT.of c);obtain⟨L,S,E,_⟩:=I.tuple (SqT.of d);have F:z=[]:=C.nil_iff.mpr rfl;subst F;obtain⟨⟨O,T,M,sl⟩,o,r,n,t⟩:=id D;obtain⟨⟨N,P,K,R⟩,f,g,U,i⟩:=id E;simp only at r t g i;subst r t g i
   exact concat_meets ⟨_,o,rfl⟩ ⟨_,f,rfl⟩ noFill_tuple_add seq_tuple_add PySem.F.slot_tuple_add PySem.F.entry_tuple_add (PySem.F.args_tuple_add_2 _ _)
     (tuple_addW0 _ _ _ _ _ _ _ _ _ _ (by simp)) ⟨o,f,.ref b,H,I,rfl,q b H (Same.refl _) d⟩
 . refine op_catT w s J H _ _ v u Q I j k ⟨a,b,l,A,rfl,rfl,SqT.of c,SqT.of d,m,B,fun e=>?_,fun _ p G=>q p _ (Same.upd G) za3⟩
   subst e;exact q a H (Same.refl _) (by rw[Zz];exact c)
end
theorem yb0 {J:It}{u:Hp}{D:Addr}{n:Nat}{x:Nat->V}{j:Nat}{f:St}{t:TT}{s:TE}{Q:Hp->Prop}(d:Nat->Hp->Prop)(h0:d 0 (upd u D (.lst [])))
   (go:∀i a,i<n->d i a->J.go i a) (st:∀a,d n a->J.stop n a) (z:∀i v a c,i<n->d i a->J.yld i a v c->c=a/\v=x i)
   (step:∀i a (N:St->Hp->Prop),i<n->d i a->(∀c,d (i+1) c->N (f.set j (some (x i))) c)->t (f.set j (some (x i))) a fun b g=>if b=true then zs7 D s N (f.set j (some (x i))) g else N (f.set j (some (x i))) g)
   (q:∀a,d n a->Q a) :
   ∃W:Nat->Nat->St->Hp->Prop,(∃m,W 0 m f (upd u D (.lst []))) ∧
     ∀i m h a,W i m h a->(J.stop i a/\Q a)\/(J.go i a/\∃N:St->Hp->Prop,(∀k c,N k c->∃w,w<m/\W (i+1) w k c) ∧
       ∀v c,J.yld i a v c->zs6 j v h c fun p A=>t p A fun b g=>if b=true then zs7 D s N p g else N p g):=by
 refine⟨fun i m h a=>m=n-i/\i<=n/\(∀v,h.set j (some v)=f.set j (some v))/\d i a,⟨n,by simp,QD _,fun _=>rfl,h0⟩,?_⟩;rintro i m h a ⟨rfl,E,B,l⟩;by_cases o:i<n
 . refine .inr ⟨go i _ o l,fun k c=>(∀v,k.set j (some v)=f.set j (some v))/\d (i+1) c,fun k c ⟨C,r⟩=>⟨n-(i+1),by omega,rfl,o,C,r⟩,fun v c y=>?_⟩
   obtain⟨rfl,rfl⟩:=z i v _ c o l y;dsimp only[zs6];rw[B];exact step i _ _ o l fun c r=>⟨fun v=>by simp,r⟩
 . have e:i=n:=by omega
   subst e;exact .inl ⟨st _ l,q _ l⟩
theorem zp0 {l:Hp}{D:Addr}{lo:Int}{n:Nat}{j:Nat}{d:St}{k:TT}{h:TE}{Q:Hp->Prop}(e:Nat->Hp->Prop)(h0:e 0 (upd l D (.lst [])))
   (step:∀i a (N:St->Hp->Prop),i<n->e i a->(∀c,e (i+1) c->N (d.set j (some (.int (lo+i)))) c)->k (d.set j (some (.int (lo+i)))) a fun b f=>if b=true then zs7 D h N (d.set j (some (.int (lo+i)))) f else N (d.set j (some (.int (lo+i)))) f)
   (q:∀a,e n a->Q a) :
   ∃W:Nat->Nat->St->Hp->Prop,(∃m,W 0 m d (upd l D (.lst []))) ∧
     ∀i m o a,W i m o a->((Itr lo n).stop i a/\Q a)\/((Itr lo n).go i a/\∃N:St->Hp->Prop,(∀p c,N p c->∃r,r<m/\W (i+1) r p c) ∧
       ∀v c,(Itr lo n).yld i a v c->zs6 j v o c fun g t=>k g t fun b f=>if b=true then zs7 D h N g f else N g f) :=
 yb0 (J:=Itr lo n) (x:=fun i=>.int (lo+i)) e h0 (fun i a s _=>s) (fun a _=>Qi _) (fun i v a c s _ y=>y) step q
theorem zr6 {K:W.Frag}{s:Hp}{D a:Addr}{xs:List V}{j:Nat}{h:St}{r:TT}{p:TE}{Q:Hp->Prop}(g:Nat->Hp->Prop)(h0:g 0 (upd s D (.lst [])))
   (hs:∀i c,g i c->SqL K c a xs)
   (step:∀i x c (N:St->Hp->Prop),xs[i]?=some x->g i c->(∀d,g (i+1) d->N (h.set j (some x)) d)->r (h.set j (some x)) c fun b k=>if b=true then zs7 D p N (h.set j (some x)) k else N (h.set j (some x)) k)
   (q:∀c,g xs.length c->Q c) :
   ∃W:Nat->Nat->St->Hp->Prop,(∃m,W 0 m h (upd s D (.lst []))) ∧
     ∀i m t c,W i m t c->((Itl K a).stop i c/\Q c)\/((Itl K a).go i c/\∃N:St->Hp->Prop,(∀u d,N u d->∃w,w<m/\W (i+1) w u d) ∧
       ∀v d,(Itl K a).yld i c v d->zs6 j v t d fun o z=>r o z fun b k=>if b=true then zs7 D p N o k else N o k):=by
 refine yb0 (J:=Itl K a) (n:=xs.length) (x:=fun i=>xs.getD i .non) g h0 (fun i c l f=>⟨xs,xs[i],hs _ _ f,by simp[l]⟩) (fun c f=>⟨xs,hs _ _ f,Qi _⟩) (fun i v c d l f y=>?_) (fun i c N l f A=>?_) q
 . obtain⟨e,y⟩:=y
   have:=y xs (hs _ _ f);exact⟨e,by rw[Qy,this];rfl⟩
 . have e:xs[i]?=some (xs.getD i .non):=by rw[Qy,Qe l];rfl
   exact step i _ c N e f A
section
variable {M:Model} {A:Around} {E:VP} {s:Shared} {base:Heap} {env:Env} {outer l:List Env} {L e:Addr} {cls fl:Value} {od:Option Addr} {Q:Unit->Shared->Prop}
end
section
variable {P:Program} {w:World} {K:W.Frag} {mg:Str->Option Value} {base:Heap} {N:List Str} {qual:Str} {scope:Scope} {f:Addr} {cd:Value} {A:Around} {outer:List Env} {s:Shared} {H:Hp} {E:XK}
end
section
variable {X:Cx} {CX:CXT} {k:Nat} {f C:Addr} {fd:FuncData} {ps:List Str} {sp:Sp} {dvs:List V} {ds:List Value} {E Ei:XK} {x m:Str} {p pos cpos apos:Pos} {e:Expr} {es:List Expr} {t:TA}
end
section
variable {X:Cx} {pins pins':PL} {σ:St} {H:Hp} {s:Shared} {Ex:St->XK} {D:Ends} {fl:Flow}
end
section
variable {X:Cx} {D:Addr} {Ex:St->XK} {x n:Str} {i:Nat} {p pos hpos:Pos} {body suite:List Stmt} {b₀:Stmt} {tb th:TS}
end
section
variable {X:Cx} {pins:PL} {σ:St} {H:Hp} {s:Shared}
theorem kit_self {K:W.Frag}{C:Addr}:W.kitOne K (.ref C) (.ref C)=some true:=by
 unfold W.kitOne;rw[Ql (by simp)]
end
section
variable {X:Cx}
inductive yp8 (K:W.Frag)(x:V)(y:V)(H:Hp)(Q:VK):Prop
 | mk (a b xs:_)(h0:x = .ref a)(h1:y = .ref b)(h2:SqL K H a xs)(h3:SqL K H b [])(h4:Q (.bl xs.isEmpty) H):yp8 K x y H Q
def rEqE (K:W.Frag):R2:=fun x y H Q=>yp8 K x y H Q
theorem yf8 {X:Cx}(g:X.A.units<cLine):OpR X (compareOp .Eq) (rEqE X.K):=by
 intro L s O H x y v u Q I l m h;obtain⟨a,b,j,rfl,rfl,n,o,q⟩:=h;cases l;cases m;obtain⟨d,r,⟨p,t,w,z,_,A⟩,N⟩:=I.list n;obtain⟨c,B,⟨C,D,E,F,_,G⟩,M⟩:=I.list o;have k:s.heap.IsList a d.toArray:=⟨p,w,z,t,A⟩;have f:s.heap.IsList b c.toArray:=⟨C,E,F,D,G⟩;obtain rfl:c=[]:=by cases B;rfl
 cases j with
 | nil =>
   obtain rfl:d=[]:=by cases r;rfl
   exact(PySem.SeqAt.RcAt.lists (e:=fun _=>true) k f rfl g (fun i J=>absurd J (by simp))) _ _ _ _ ⟨.bl true,H,I,rfl,q⟩
 | cons x j =>
   have K:=r.length;refine(PySem.SeqAt.RcAt.lists_lengths k f ?_ g) _ _ _ _ ⟨.bl false,H,I,rfl,q⟩;simp only[Qk,ZK,<-K,Qz];simp
end
end L2
namespace L2
open PySem PySem.NumText
end L2
namespace L2
open PySem PySem.Spec PyProof.Rows
section
variable {prog:Program} {w:World} {A:Around} {R:Result->Shared->Prop} {s:Shared}
end
section
variable {X:Cx} {scope:Scope} {cl:List (Str×Addr)} {C:Addr} {N':List Str} {s0:Shared} {H0:Hp} {fp:List Addr} {Ex:XK} {pins:PL} {σ:St} {H:Hp} {s:Shared}
end
section
variable {X:Cx} {scope:Scope} {N':List Str} {ix:List (Option Nat)} {tg iter elt:Expr} {ifs:List Expr} {pos:Pos} {wi:TI} {g:TG} {tif:TT} {telt:TE}
end
section
variable {M:Model} {A:Around} {E:VP} {s:Shared}
end
section
variable {P:Program} {w:World} {K:W.Frag} {mg:Str->Option Value} {base:Heap} {N:List Str} {qual:Str} {scope:Scope} {f:Addr} {cd:Value} {A:Around} {outer:List Env} {s:Shared} {H:Hp} {E:XK}
end
section
variable {P:Program} {w:World} {K:W.Frag} {mg:Str->Option Value} {base:Heap} {N:List Str} {qual:Str} {fsc:Scope} {f:Addr} {cd:Value} {A:Around} {outer:List Env} {ss:Shared} {HH:Hp} {E:XK}
variable {scope:Scope} {N':List Str} {ix:List (Option Nat)} {tg iter elt:Expr} {ifs:List Expr} {pos:Pos} {wi:TI} {g:TG} {tif:TT} {telt:TE}
end
section
variable {X:Cx} {C1 C2:Addr} {E:XK} {x1 x2:Str} {p1 p2 pos hp1 hp2:Pos} {body su1 su2:List Stmt} {b₁ b₂:Stmt} {tb th1 th2:TS}
end
end L2
namespace Sx
open PySem PyProof.Rows
noncomputable abbrev SM (α:Type):=StateT SortSt Sem α
noncomputable def zF4:Bool->Keyed->Array Keyed->Nat->Nat->Nat->SM (Option Nat):=sortPriv% PySem.Builtin.gallop
noncomputable def yb1:Array Keyed->Array Keyed->SM (Array Keyed):=sortPriv% PySem.Builtin.mergeLo
noncomputable def yb2:Array Keyed->Array Keyed->SM (Array Keyed):=sortPriv% PySem.Builtin.mergeHi
noncomputable def yi6:Nat->SM Unit:=sortPriv% PySem.Builtin.setMinGallop
noncomputable def ys7 (left:Bool)(key:Keyed)(arr:Array Keyed)(base i:Nat):SM (Option Bool):=do
 let x <-elem' arr (base+i)
 if left=true then lt' x key else do
   let r <-lt' key x
   pure (r.map fun t=>!t)
noncomputable abbrev GS:=Option (Option Nat)×Nat×Nat
section
variable {M:Model} {A:Around} {E:VP} {s:Shared}
theorem yb3 {p:Nat->Bool}{f:Nat->GS->SM (ForInStep GS)}{n lo a:Nat}{st:SortSt}{Q:GS->SortSt->Prop}(mono:∀i j,i<j->j<n->p j=true->p i=true)
   (t:∀x l r (R:ForInStep GS->SortSt->Prop),(l≥r->R (.done (none,l,r)) st)->(l<r->p (l+(r-l) / 2)=true->R (.yield (none,l+(r-l) / 2+1,r)) st)->(l<r->p (l+(r-l) / 2)=false->R (.yield (none,l,l+(r-l) / 2)) st) →
     r<=n->wpS M A E s (f x (none,l,r)) R st)
   (u:lo<=a) (v:a<=n) (w:∀i,i<lo->p i=true) (y:∀i,a<=i->i<n->p i=false)
   (h:∀k,k<=n->(∀i,i<k->p i=true)->(∀i,k<=i->i<n->p i=false)->Q (none,k,k) st):wpS M A E s (forIn [0:n] ((none,lo,a):GS) f) Q st:=by
 refine wpS_forRange (I:=fun x c m=>m=st/\∃l r,c=(none,l,r)/\l<=r/\r<=n/\r-l<=n-x/\(∀i,i<l->p i=true)/\∀i,r<=i->i<n->p i=false)
   ?step ?fin ⟨rfl,lo,a,rfl,u,v,by omega,w,y⟩
 case fin =>
   rintro c m ⟨rfl,l,r,rfl,B,b,C,d,g⟩;obtain rfl:l=r:=by omega
   exact h l b d g
 case step =>
   rintro x c m _ G ⟨rfl,l,r,rfl,B,b,C,d,g⟩;refine t x l r _ (fun F=>?_) (fun q e=>⟨rfl,_,_,rfl,by omega,b,by omega,fun i a=>?_,g⟩) (fun q e=>⟨rfl,_,_,rfl,by omega,by omega,by omega,d,fun i a D=>?_⟩) b
   . obtain rfl:l=r:=by omega
     exact h l b d g
   . rcases QW i (l+(r-l) / 2) with z | z
     . exact mono i _ z (by omega) e
     . obtain rfl:i=l+(r-l) / 2:=by omega
       exact e
   . cases o:p i with
     | false=>rfl
     | true =>
       rcases QW (l+(r-l) / 2) i with z | z
       . have:=mono _ i z D o
         rw[e] at this;cases this
       . obtain rfl:i=l+(r-l) / 2:=by omega
         rw[e] at o;cases o
theorem wp_gallop {left:Bool}{key:Keyed}{arr:Array Keyed}{base:Nat}{p:Nat->Bool}{n hint:Nat}{st:SortSt}{Q:Option Nat->SortSt->Prop}
   (t:∀i,i<n->∀R:Option Bool->SortSt->Prop,R (some (p i)) st->wpS M A E s (ys7 left key arr base i) R st) (mono:∀i j,i<j->j<n->p j=true->p i=true) (U:hint<n)
   (h:∀k,k<=n->(∀i,i<k->p i=true)->(∀i,k<=i->i<n->p i=false)->Q (some k) st):wpS M A E s (zF4 left key arr base n hint) Q st:=by
 have V:∀i j,i<j->j<n->p i=false->p j=false:=fun i j T u e=>by
   cases W:p j with
   | false=>rfl
   | true=>rw[mono i j T u W] at e;cases e
 have O:∀j,j<n->p j=true->∀i,i<=j->p i=true:=fun j u e i v=>by
   rcases Nat.lt_or_eq_of_le v with z | rfl
   . exact mono i j z u e
   . exact e
 have N:∀i,p i=false->∀j,i<=j->j<n->p j=false:=fun i e j v u=>by
   rcases Nat.lt_or_eq_of_le v with z | rfl
   . exact V i j z u e
   . exact e
 unfold zF4;refine Qp (t hint U _ ?_);cases e:p hint with
 | true =>
   dsimp only;rw[Ql rfl]
   refine Qp (wpS_mono (wpS_forRange (I:=fun x c d=>d=st/\∃l o,c=(none,l,o)/\l<o/\x+1<=o/\hint+l<n/\p (hint+l)=true)
     (Q:=fun c d=>d=st/\∃l o,c=(none,l,o)/\l<o/\hint+l<n/\p (hint+l)=true/\(n-hint<=o\/p (hint+o)=false)) ?step ?fin ⟨rfl,0,1,rfl,by omega,by omega,by omega,e⟩) ?post)
   case fin =>
     rintro c d ⟨rfl,l,o,rfl,g,q,f,b⟩;exact⟨rfl,l,o,rfl,g,f,b,.inl (by omega)⟩
   case step =>
     rintro x c d _ X ⟨rfl,l,o,rfl,g,q,f,b⟩;dsimp only;by_cases a:o≥n-hint
     . rw[Ql a]
       exact Qx ⟨rfl,l,o,rfl,g,f,b,.inl a⟩
     . rw[Qh a]
       refine Qp (t _ (by omega) _ ?_);cases m:p (hint+o) with
       | true =>
         dsimp only;rw[Qh (by decide)];exact Qx ⟨rfl,_,_,rfl,by omega,by omega,by omega,m⟩
       | false =>
         dsimp only;rw[Ql (by decide)];exact Qx ⟨rfl,l,o,rfl,g,f,b,.inr m⟩
   case post =>
     rintro c d ⟨rfl,l,o,rfl,g,q,f,b⟩;dsimp only;have w:hint+l+1<=hint+min o (n-hint):=by omega
     have y:hint+min o (n-hint)<=n:=by omega
     have B:∀i,i<hint+l+1->p i=true:=fun i v=>O _ q f i (by omega)
     have C:∀i,hint+min o (n-hint)<=i->i<n->p i=false:=fun i P D=>by
       rcases b with z | z
       . omega
       . exact N _ z _ (by omega) D
     refine Qp (yb3 mono (fun x l r R F G H Y=>?_) w y B C fun k J K L=>Qx (h k J K L));dsimp only;by_cases a:l≥r
     . rw[Ql a]
       exact Qx (F a)
     . rw[Qh a]
       refine Qp (t _ (by omega) _ ?_);cases m:p (l+(r-l) / 2) with
       | true =>
         dsimp only;rw[Ql rfl];exact Qx (G (by omega) m)
       | false =>
         dsimp only;rw[Qh (by decide)];exact Qx (H (by omega) m)
 | false =>
   dsimp only;rw[Qh (by decide)]
   refine Qp (wpS_mono (wpS_forRange (I:=fun x c d=>d=st/\∃l o,c=(none,l,o)/\l<o/\x+1<=o/\l<=hint/\p (hint-l)=false)
     (Q:=fun c d=>d=st/\∃l o,c=(none,l,o)/\l<o/\l<=hint/\p (hint-l)=false/\(hint+1<=o\/(o<=hint/\p (hint-o)=true))) ?step ?fin ⟨rfl,0,1,rfl,by omega,by omega,by omega,e⟩) ?post)
   case fin =>
     rintro c d ⟨rfl,l,o,rfl,g,q,f,b⟩;exact⟨rfl,l,o,rfl,g,f,b,.inl (by omega)⟩
   case step =>
     rintro x c d _ X ⟨rfl,l,o,rfl,g,q,f,b⟩;dsimp only;by_cases a:o≥hint+1
     . rw[Ql a]
       exact Qx ⟨rfl,l,o,rfl,g,f,b,.inl a⟩
     . rw[Qh a]
       refine Qp (t _ (by omega) _ ?_);cases m:p (hint-o) with
       | true =>
         dsimp only;rw[Ql rfl];exact Qx ⟨rfl,l,o,rfl,g,f,b,.inr ⟨by omega,m⟩⟩
       | false =>
         dsimp only;rw[Qh (by decide)];exact Qx ⟨rfl,_,_,rfl,by omega,by omega,by omega,m⟩
   case post =>
     rintro c d ⟨rfl,l,o,rfl,g,q,f,b⟩;dsimp only;have w:hint+1-min o (hint+1)<=hint-l:=by
       rcases b with z | ⟨z,S⟩
       . omega
       . omega
     have y:hint-l<=n:=by omega
     have B:∀i,i<hint+1-min o (hint+1)->p i=true:=fun i v=>by
       rcases b with z | ⟨z,S⟩
       . omega
       . exact O _ (by omega) S i (by omega)
     have C:∀i,hint-l<=i->i<n->p i=false:=fun i P D=>N _ f _ P D
     refine Qp (yb3 mono (fun x l r R F G H Y=>?_) w y B C fun k J K L=>Qx (h k J K L));dsimp only;by_cases a:l≥r
     . rw[Ql a]
       exact Qx (F a)
     . rw[Qh a]
       refine Qp (t _ (by omega) _ ?_);cases m:p (l+(r-l) / 2) with
       | true =>
         dsimp only;rw[Ql rfl];exact Qx (G (by omega) m)
       | false =>
         dsimp only;rw[Qh (by decide)];exact Qx (H (by omega) m)
end
section
variable {α:Type} {R:α->α->Prop} {T out A B A1 A2 B1 B2:List α} {z:α}
structure MLo (R:α->α->Prop)(T out A B:List α):Prop where
 perm:(out++(A++B)).Perm T
 so:out.Pairwise R
 sa:A.Pairwise R
 sb:B.Pairwise R
 lo:∀x∈out,∀y∈A++B,R x y
 la:∀z,A.getLast?=some z->∀y∈B,R y z
theorem MLo.takeA (m:MLo R T out (A1++A2) B)(h:∀x∈A1,∀y∈B,R x y):MLo R T (out++A1) A2 B:=by
 have sa:=QI.mp m.sa;refine⟨by simpa [Zc] using m.perm,QI.mpr ⟨m.so,sa.1,fun x a y b=>m.lo x a y (by simp[b])⟩,sa.2.1,m.sb,fun x a y b=>?_,fun z c y b=>m.la z (by rw[List.getLast?_append,c];rfl) y b⟩;rcases Qt.mp a with a | a
 . exact m.lo x a y (by rcases Qt.mp b with q | q<;>simp[q])
 . rcases Qt.mp b with q | q
   . exact sa.2.2 x a y q
   . exact h x a y q
theorem MLo.takeB (m:MLo R T out A (B1++B2))(h:∀y∈B1,∀x∈A,R y x):MLo R T (out++B1) A B2:=by
 have sb:=QI.mp m.sb;refine⟨.trans ?_ m.perm,QI.mpr ⟨m.so,sb.1,fun x a y b=>m.lo x a y (by simp[b])⟩,m.sa,sb.2.1,fun x a y b=>?_,fun z c y b=>m.la z c y (by simp[b])⟩
 . rw[Zc]
   refine List.Perm.append_left out ?_;rw[<-Zc,<-Zc];exact List.Perm.append_right B2 List.perm_append_comm
 . rcases Qt.mp a with a | a
   . exact m.lo x a y (by rcases Qt.mp b with q | q<;>simp[q])
   . rcases Qt.mp b with q | q
     . exact h x a y q
     . exact sb.2.2 x a y q
theorem MLo.len (m:MLo R T out A B):out.length+(A.length+B.length)=T.length:=by
 have:=m.perm.length_eq;simpa using this
theorem MLo.dis (m:MLo R T out A B)(d:T.Pairwise fun x y=>R x y\/R y x){x y:α}(a:x∈A)(b:y∈B):R x y\/R y x:=by
 have c:=(m.perm.pairwise_iff (R:=fun x y=>R x y\/R y x) (fun h=>h.symm)).mpr d;exact(QI.mp (QI.mp c).2.1).2.2 x a y b
theorem MLo.memA (m:MLo R T out A B){x:α}(a:x∈A):x∈T:=m.perm.mem_iff.mp (by simp[a])
theorem MLo.memB (m:MLo R T out A B){x:α}(a:x∈B):x∈T:=m.perm.mem_iff.mp (by simp[a])
def Mer (R:α->α->Prop)(T m:List α):Prop:=m.Perm T/\m.Pairwise R
theorem MLo.doneA (m:MLo R T out A []):Mer R T (out++A) :=
 ⟨by simpa using m.perm,QI.mpr ⟨m.so,m.sa,fun x a y b=>m.lo x a y (by simp[b])⟩⟩
theorem MLo.doneB (m:MLo R T out [] B):Mer R T (out++B) :=
 ⟨by simpa using m.perm,QI.mpr ⟨m.so,m.sb,fun x a y b=>m.lo x a y (by simp[b])⟩⟩
theorem MLo.last (m:MLo R T out [z] B):Mer R T (out++(B++[z])):=by
 refine⟨.trans (List.Perm.append_left out List.perm_append_comm) m.perm,QI.mpr ⟨m.so,QI.mpr ⟨m.sb,List.pairwise_singleton _ _,fun x a y b=>?_⟩,fun x a y b=>m.lo x a y ?_⟩⟩
 . obtain rfl:y=z:=by simpa using b
   exact m.la y rfl x a
 . rcases Qt.mp b with q | q
   . simp[q]
   . simp at q;simp[q]
end
section
variable {α:Type} {R:α->α->Prop} {T:List α}
theorem zh1 {a:Array α}{i:Nat}(h:i<a.size):a.toList.drop i=a[i]::a.toList.drop (i+1):=by
 have b:i<a.toList.length:=by simpa using h
 rw[List.drop_eq_getElem_cons b];simp
theorem zN6 {a:Array α}{i:Nat}(h:a.size<=i):a.toList.drop i=[]:=List.drop_eq_nil_of_le (by simpa using h)
theorem zF5 (a:Array α)(i:Nat):(a.extract i).toList=a.toList.drop i:=by
 rw[Array.toList_extract,List.extract_eq_drop_take];exact Zg (by simp)
theorem zp6 (a:Array α)(i k:Nat):(a.extract i (i+k)).toList=(a.toList.drop i).take k:=by
 rw[Array.toList_extract,List.extract_eq_drop_take];congr 1;omega
theorem zL4 {e a b:Array α}{c d:Nat}(m:MLo R T e.toList (a.toList.drop c) (b.toList.drop d))(h:b.size<=d\/a.size<=c):Mer R T (e++a.extract c++b.extract d).toList:=by
 rw[Zf,Zf,zF5,zF5];rcases h with h | h
 . rw[zN6 h] at m ⊢
   simpa using m.doneA
 . rw[zN6 h] at m ⊢
   simpa using m.doneB
theorem zL5 {d a b:Array α}{c e:Nat}(m:MLo R T d.toList (a.toList.drop c) (b.toList.drop e))(h:c+1=a.size):Mer R T (d++b.extract e++a.extract c).toList:=by
 rw[Zf,Zf,zF5,zF5];rw[zh1 (a:=a) (i:=c) (by omega),zN6 (a:=a) (i:=c+1) (by omega)] at m ⊢;simpa using m.last
theorem yb4 {out a b : Array α} {ia ib : Nat} (m : MLo R T out.toList (a.toList.drop ia) (b.toList.drop ib)) (h : ia < a.size) (hb : ∀ y ∈ b.toList.drop ib, R a[ia] y) : MLo R T (out.push a[ia]).toList (a.toList.drop (ia + 1)) (b.toList.drop ib) := by
  rw [zh1 h] at m;rw [Array.toList_push]
  exact MLo.takeA (A1 := [a[ia]]) m fun x hx y hy => by obtain rfl : x = a[ia] := by simpa using hx
                                                        exact hb y hy
theorem zN7 {out a b : Array α} {ia ib : Nat} (m : MLo R T out.toList (a.toList.drop ia) (b.toList.drop ib)) (h : ib < b.size) (ha : ∀ x ∈ a.toList.drop ia, R b[ib] x) : MLo R T (out.push b[ib]).toList (a.toList.drop ia) (b.toList.drop (ib + 1)) := by
  rw [zh1 h] at m;rw [Array.toList_push]
  exact MLo.takeB (B1 := [b[ib]]) m fun x hx y hy => by obtain rfl : x = b[ib] := by simpa using hx
                                                        exact ha y hy
theorem lo_runA {e a b:Array α}{c d k:Nat}(m:MLo R T e.toList (a.toList.drop c) (b.toList.drop d))(h:∀x∈(a.toList.drop c).take k,∀y∈b.toList.drop d,R x y):MLo R T (e++a.extract c (c+k)).toList (a.toList.drop (c+k)) (b.toList.drop d):=by
 rw[Zf,zp6,<-List.drop_drop];rw[<-Zd k (a.toList.drop c)] at m;exact m.takeA h
theorem lo_runB {e a b:Array α}{d c k:Nat}(m:MLo R T e.toList (a.toList.drop d) (b.toList.drop c))(h:∀y∈(b.toList.drop c).take k,∀x∈a.toList.drop d,R y x):MLo R T (e++b.extract c (c+k)).toList (a.toList.drop d) (b.toList.drop (c+k)):=by
 rw[Zf,zp6,<-List.drop_drop];rw[<-Zd k (b.toList.drop c)] at m;exact m.takeB h
end
structure Cmp (M:Model)(A:Around)(s:Shared)(κ:SortKind)(lt:Keyed->Keyed->Bool)(T:List Keyed):Prop where
 ask:∀x∈T,∀y∈T,wpAny M A (keyLt' κ x.1 y.1) (fun b s'=>s'=s/\b=lt x y) (fun _ _=>False) s
 tr:∀x y z,lt x y=true->lt y z=true->lt x z=true
 as:∀x y,lt x y=true->lt y x=false
 di:T.Pairwise fun x y=>lt x y=true\/lt y x=true
abbrev LtR (lt:Keyed->Keyed->Bool):Keyed->Keyed->Prop:=fun x y=>lt x y=true
section
variable {M:Model} {A:Around} {E:VP} {s:Shared} {κ:SortKind} {lt:Keyed->Keyed->Bool} {T T':List Keyed}
theorem Cmp.sub (c:Cmp M A s κ lt T)(h:T'.Sublist T):Cmp M A s κ lt T':=⟨fun x a y b=>c.ask x (h.subset a) y (h.subset b),c.tr,c.as,c.di.sublist h⟩
theorem Cmp.perm (c:Cmp M A s κ lt T)(h:T'.Perm T):Cmp M A s κ lt T':=⟨fun x a y b=>c.ask x (h.mem_iff.mp a) y (h.mem_iff.mp b),c.tr,c.as,(h.pairwise_iff (fun z=>z.symm)).mpr c.di⟩
theorem yb5 {x y:Keyed}{st:SortSt}{Q:Option Bool->SortSt->Prop}(c:Cmp M A s κ lt T)(a:x∈T)(d:y∈T)(e:kindOf st=κ)(h:Q (some (lt x y)) st):wpS M A E s (lt' x y) Q st:=by
 rw[lt'_eq];refine Qp (wpS_get ?_);rw[e];refine Qp (wpS_lift (wpAny_attempt (Zs (c.ask x a y d) (fun b g z=>⟨z.1,?_⟩) fun _ _ f=>f.elim)));rw[z.2];exact Qx h
theorem zf2 {arr:Array Keyed}{i:Nat}{st:SortSt}{Q:Keyed->SortSt->Prop}(a:i<arr.size)(h:Q arr[i] st):wpS M A E s (elem' arr i) Q st:=by
 rw[elem'_eq,Zl arr i a];exact Qx h
theorem zL6 {st:SortSt}{g:Nat}{Q:Unit->SortSt->Prop}(h:Q () (SortSt.mk' (kindOf st) (arrOf st) (pendingOf st) g (failedOf st))):wpS M A E s (yi6 g) Q st:=by
 unfold yi6;exact wpS_modify h
theorem zY7 {left:Bool}{key:Keyed}{arr:Array Keyed}{base hint:Nat}{L:List Keyed}{st:SortSt}{Q:Option Nat->SortSt->Prop}(c:Cmp M A s κ lt T)(l:kindOf st=κ)(g:key∈T)(t:∀x∈L,x∈T)
   (u:∀i (h:i<L.length),arr[base+i]?=some L[i]) (hs:L.Pairwise (LtR lt)) (v:hint<L.length)
   (h:∀k,k<=L.length->(∀x∈L.take k,(if left=true then lt x key else !lt key x)=true)->(∀x∈L.drop k,(if left=true then lt x key else !lt key x)=false)->Q (some k) st) :
   wpS M A E s (zF4 left key arr base L.length hint) Q st:=by
 refine wp_gallop (p:=fun i=>match L[i]? with | some x=>if left=true then lt x key else !lt key x | none=>false) (fun i a R b=>?_) (fun i j o m e=>?_) v fun k q w y=>h k q (fun x f=>?_) fun x f=>?_
 . unfold ys7
   obtain⟨B,e⟩:=Array.getElem?_eq_some_iff.mp (u i a);refine Qp (zf2 B ?_);rw[e];have n:L[i]∈T:=t _ (ZA a);rw[Qe a] at b;dsimp only at b;cases left with
   | true =>
     rw[Ql rfl];exact yb5 c n g l b
   | false =>
     rw[Qh (by decide)];exact Qp (yb5 c g n l (Qx b))
 . have a:i<L.length:=by omega
   rw[Qe m] at e;rw[Qe a];have b:lt L[i] L[j]=true:=QR.mp hs i j a m o;cases left with
   | true =>
     dsimp only at e ⊢;rw[Ql rfl] at e ⊢;exact c.tr _ _ _ b e
   | false =>
     dsimp only at e ⊢;rw[Qh (by decide)] at e ⊢;cases z:lt key L[i] with
     | false=>rfl
     | true=>rw[c.tr _ _ _ z b] at e;cases e
 . obtain⟨i,a,rfl⟩:=List.mem_iff_getElem.mp f
   have r:i<k:=by simp at a;omega
   have d:i<L.length:=by simp at a;omega
   have:=w i r;rw[Qe d] at this;simpa using this
 . obtain⟨i,a,rfl⟩:=List.mem_iff_getElem.mp f
   have d:k+i<L.length:=by simp at a;omega
   have:=y (k+i) (by omega) d;rw[Qe d] at this;simpa using this
theorem yi7 {left:Bool}{key:Keyed}{a:Array Keyed}{i:Nat}{st:SortSt}{Q:Option Nat->SortSt->Prop}(c:Cmp M A s κ lt T)(g:kindOf st=κ)(d:key∈T)(l:∀x∈a.toList.drop i,x∈T)
   (hs:(a.toList.drop i).Pairwise (LtR lt)) (q:i<a.size)
   (h:∀k,k<=a.size-i->(∀x∈(a.toList.drop i).take k,(if left=true then lt x key else !lt key x)=true)->(∀x∈a.toList.drop (i+k),(if left=true then lt x key else !lt key x)=false)->Q (some k) st) :
   wpS M A E s (zF4 left key a i (a.size-i) 0) Q st:=by
 have e:(a.toList.drop i).length=a.size-i:=by simp
 have:=zY7 (E:=E) (left:=left) (key:=key) (arr:=a) (base:=i) (hint:=0) (L:=a.toList.drop i) (Q:=Q) c g d l (fun j m=>by
   have f:i+j<a.size:=by rw[e] at m;omega
   rw[Zl a (i+j) f];simp) hs (by rw[e];omega) fun k b n o=>h k (by rw[e] at b;exact b) n (fun x p=>o x (by rw[List.drop_drop];exact p))
 rw[e] at this;exact this
end
end Sx
namespace Sx
inductive Aa6 (p0 p1 p2 p3 p4 p5:Prop):Prop | mk (h0:p0) (h1:p1) (h2:p2) (h3:p3) (h4:p4) (h5:p5):Aa6 p0 p1 p2 p3 p4 p5
inductive Aa8 (p0 p1 p2 p3 p4 p5 p6 p7:Prop):Prop | mk (h0:p0) (h1:p1) (h2:p2) (h3:p3) (h4:p4) (h5:p5) (h6:p6) (h7:p7):Aa8 p0 p1 p2 p3 p4 p5 p6 p7
inductive Ex4 {α β γ δ:Type}(p:α->β->γ->δ->Prop):Prop | mk (a0:α) (a1:β) (a2:γ) (a3:δ) (h:p a0 a1 a2 a3):Ex4 p
inductive Ex5 {α β γ δ ε:Type}(p:α->β->γ->δ->ε->Prop):Prop | mk (a0:α) (a1:β) (a2:γ) (a3:δ) (a4:ε) (h:p a0 a1 a2 a3 a4):Ex5 p
inductive Ex7 {α β γ δ ε ζ η:Type}(p:α->β->γ->δ->ε->ζ->η->Prop):Prop | mk (a0:α) (a1:β) (a2:γ) (a3:δ) (a4:ε) (a5:ζ) (a6:η) (h:p a0 a1 a2 a3 a4 a5 a6):Ex7 p
open PySem PyProof.Rows
section
variable {M:Model} {A:Around} {E:VP} {s:Shared} {κ:SortKind} {lt:Keyed->Keyed->Bool} {T:List Keyed}
theorem yi8 {a b:Nat}(h:a=b):(a == b)=true:=by simpa using h
theorem yi9 {a b:Nat}(h:¬ a=b):¬ (a == b)=true:=by simpa using h
theorem ze5 {c d:Type}{a b:Nat}{X Y:StateT c Sem d}{Q:d->c->Prop}{st:c}(e:a=b->wpS M A E s X Q st)(f:¬ a=b->wpS M A E s Y Q st):wpS M A E s (if (a == b)=true then X else Y) Q st:=by
 by_cases h:a=b
 . rw[Ql (yi8 h)];exact e h
 . rw[Qh (yi9 h)];exact f h
theorem zf8 {a b:Type}{c:Prop}[Decidable c]{X Y:StateT a Sem b}{Q:b->a->Prop}{st:a}(d:c->wpS M A E s X Q st)(e:¬ c->wpS M A E s Y Q st):wpS M A E s (if c then X else Y) Q st:=by
 by_cases h:c
 . rw[Ql h];exact d h
 . rw[Qh h];exact e h
theorem yj0 {R:Nat->Prop}{G:Prop}(a:(∀o,R o)->G)(b:∀o,R o):G:=a b
theorem zN8 {R S:Array Keyed->Nat->Prop}{G:Prop}(a:(∀o j,S o j->R o j)->G)(b:∀o j,S o j->R o j):G:=a b
inductive Ex1 (p q r s t:Prop):Prop
 | mk (a:p)(b:q)(c:r)(d:s)(e:t)
section
variable (κ:SortKind) (lt:Keyed->Keyed->Bool) (T:List Keyed) (ar:Array Keyed) (pd:Array (Nat×Nat×Nat))
inductive LD {V:Type}:Option (Array Keyed)×V->SortSt->Prop
 | mk (r:Array Keyed)(g:Nat)(w:V)(h:Mer (LtR lt) T r.toList):LD (some r,w) (SortSt.mk' κ ar pd g none)
variable (a b:Array Keyed) (n:Nat)
inductive LoA:Option (Array Keyed)×Array Keyed×Nat×Nat×Nat->SortSt->Prop
 | mk (o:Array Keyed)(ja jb mg g:Nat)(m:MLo (LtR lt) T o.toList (a.toList.drop ja) (b.toList.drop jb))(h3:ja+1<a.size)(h4:jb<b.size)(h5:n<=o.size):LoA (none,o,ja,jb,mg) (SortSt.mk' κ ar pd g none)
inductive LoB (g:Nat)(n:Nat):Option (Array Keyed)×Array Keyed×Nat×Nat×Nat×Nat->SortSt->Prop
 | mk (o:Array Keyed)(ja jb ac bc:Nat)(m:MLo (LtR lt) T o.toList (a.toList.drop ja) (b.toList.drop jb))(h3:ja+1<a.size)(h4:jb<b.size)(h5:n<=o.size):LoB g n (none,o,ja,jb,ac,bc) (SortSt.mk' κ ar pd g none)
inductive LoC:Option (Array Keyed)×Array Keyed×Nat×Nat×Nat×Nat×Nat->SortSt->Prop
 | mk (o:Array Keyed)(ja jb mg ac bc g:Nat)(m:MLo (LtR lt) T o.toList (a.toList.drop ja) (b.toList.drop jb))(h3:ja+1<a.size)(h4:jb<b.size)(h5:n<=o.size):LoC (none,o,ja,jb,mg,ac,bc) (SortSt.mk' κ ar pd g none)
inductive Or2 {V:Type}(p q:V->SortSt->Prop)(v:V)(st:SortSt):Prop
 | l (h:p v st)
 | r (h:q v st)
end
theorem wp_mergeLo {a b:Array Keyed}{ar:Array Keyed}{t:Array (Nat×Nat×Nat)}{g:Nat}{Q:Array Keyed->SortSt->Prop}(c:Cmp M A s κ lt T)(hT:(a.toList++b.toList).Perm T)
   (sa:a.toList.Pairwise (LtR lt)) (sb:b.toList.Pairwise (LtR lt)) (ha:0<a.size) (hb:0<b.size) (first:∀x∈a.toList,lt b[0] x=true) (last:∀a0,a.toList.getLast?=some a0->∀y∈b.toList,lt y a0=true)
   (a1:∀m j,Mer (LtR lt) T m.toList->Q m (SortSt.mk' κ ar t j none)):wpS M A E s (yb1 a b) Q (SortSt.mk' κ ar t g none):=by
 unfold yb1;refine Qp (wpS_lift (wpAny_rule ⟨rfl,?_⟩));refine Qp (zf2 hb ?_);have m0:MLo (LtR lt) T (#[]:Array Keyed).toList (a.toList.drop 0) (b.toList.drop 0):=⟨by simpa using hT,by simp,by simpa using sa,by simpa using sb,by simp,by simpa using last⟩;have m1:MLo (LtR lt) T (#[b[0]]:Array Keyed).toList (a.toList.drop 0) (b.toList.drop 1):=zN7 m0 hb (by simpa using first);refine ze5 (fun h1=>Qx (a1 _ _ (zL4 m1 (.inl (by omega))))) fun h1=>?_
 refine ze5 (fun h2=>Qx (a1 _ _ (zL5 m1 h2))) fun h2=>?_
 refine Qp (wpS_get ?_);have ae:∀ {l:Array Keyed} {W O:Nat},MLo (LtR lt) T l.toList (a.toList.drop W) (b.toList.drop O)->O<b.size->l.size<a.size+b.size:=fun {l W O} m P=>by
   have e:=m.len;have e':=hT.length_eq;simp at e e';omega
 refine Qp (wpS_mono (wpS_forRange
   (LoA κ lt T ar t a b) (Q:=LD κ lt T ar t) ?step ?fin (.mk _ 0 1 _ g m1 (by omega) (by omega) (by simp))) ?post)
 case post =>
   rintro _ _ ⟨r,j,w,X⟩;exact Qx (a1 r j X)
 case fin =>
   rintro _ _ ⟨l,W,O,Y,j,m,a2,P,h⟩;have:=ae m P;omega
 case step =>
   rintro x _ _ _ h ⟨l,W,O,Y,j,m,a2,P,af⟩
   refine Qp (wpS_mono (wpS_forRange
     (fun y=>LoB κ lt T ar t a b j (l.size+y)) (Q:=Or2 (LD κ lt T ar t) (LoB κ lt T ar t a b j (l.size+1)))
     ?step1 ?fin1 (.mk l W O _ _ m a2 P (by omega))) ?post1)
   case fin1 =>
     rintro _ _ ⟨o,f,d,Z,bc,m,u,i,C⟩;exact .r (.mk o f d Z bc m u i (by omega))
   case step1 =>
     rintro y _ _ _ v ⟨o,f,d,Z,bc,m,u,i,C⟩;have U:f<a.size:=by omega
     have ma:a[f]∈a.toList.drop f:=by rw[zh1 U];exact .head _
     have mb:b[d]∈b.toList.drop d:=by rw[zh1 i];exact .head _
     refine Qp (zf2 i (Qp (zf2 U ?_)));refine Qp (yb5 c (m.memB mb) (m.memA ma) rfl ?_);cases e:lt b[d] a[f] with
     | true =>
       dsimp only;rw[Ql rfl];refine Qp (zf2 i ?_);have G:=zN7 m i fun x h=>by
         have q:=m.sa;rw[zh1 U] at h q;rcases Qn.mp h with rfl | h
         . exact e
         . exact c.tr _ _ _ e ((Zm.mp q).1 x h)
       refine ze5 (fun D=>Qx (Or2.l (.mk _ j _ (zL4 G (.inl (by omega)))))) fun D=>?_
       exact zf8 (fun _=>Qx (Or2.r (.mk _ _ _ _ _ G u (by omega) (by simp;omega)))) fun _=>Qx (LoB.mk _ _ _ _ _ G u (by omega) (by simp;omega))
     | false =>
       dsimp only;rw[Qh (by decide)];refine Qp (zf2 U ?_);have e':lt a[f] b[d]=true:=(m.dis c.di ma mb).resolve_right (by show ¬ lt _ _=true;rw[e];decide);have G:=yb4 m U fun x h=>by
         have q:=m.sb;rw[zh1 i] at h q;rcases Qn.mp h with rfl | h
         . exact e'
         . exact c.tr _ _ _ e' ((Zm.mp q).1 x h)
       refine ze5 (fun D=>Qx (Or2.l (.mk _ j _ (zL5 G D)))) fun D=>?_
       exact zf8 (fun _=>Qx (Or2.r (.mk _ _ _ _ _ G (by omega) i (by simp;omega)))) fun _=>Qx (LoB.mk _ _ _ _ _ G (by omega) i (by simp;omega))
   case post1 =>
     rintro _ _ (⟨r,j,w,X⟩ | ⟨o,f,d,Z,bc,m,u,i,C⟩)
     . exact Qx (LD.mk r j _ X)
     refine Qp (wpS_lift (wpAny_rule ⟨rfl,?_⟩))
     refine Qp (wpS_mono (wpS_forRange
       (fun _=>LoC κ lt T ar t a b (l.size+1)) (Q:=Or2 (LD κ lt T ar t) (LoC κ lt T ar t a b (l.size+1)))
       ?step2 ?fin2 (.mk o f d _ _ _ j m u i C)) ?post2)
     case fin2=>exact fun _ _ a1=>.r a1
     case post2 =>
       rintro _ _ (⟨r,j,w,X⟩ | ⟨o,f,d,Y,Z,bc,j,m,u,i,C⟩)
       . exact Qx (LD.mk r j _ X)
       exact Qp (zL6 (Qx (LoA.mk o f d _ _ m u i (by omega))))
     case step2 =>
       clear m u i C af a2 P;rintro y _ _ _ v ⟨o,f,d,Y,Z,bc,j,m,u,i,C⟩;dsimp only;have a6:∀K,wpS M A E s (yi6 K) (fun _ a7=>a7=SortSt.mk' κ ar t K none) (SortSt.mk' κ ar t j none):=fun K=>zL6 rfl
       refine yj0 (R:=?R0) (fun fin0=>?main0) ?fin0
       case main0 =>
         refine zf8 (fun ag=>?_) fun ag=>?_
         . generalize Y-1=K
           exact fin0 K
         . exact fin0 Y
       case fin0 =>
         intro K;refine Qp (wpS_mono (a6 _) fun _ a7 e=>?_);subst e;clear a6;refine Qp (zf2 i ?_);have mb:b[d]∈b.toList.drop d:=by rw[zh1 i];exact .head _
         refine Qp (yi7 c rfl (m.memB mb) (fun x h=>m.memA h) m.sa (by omega) fun k hk k1 k2=>?_);dsimp only;refine zN8 (R:=?R1) (S:=fun H p=>Ex1 (MLo (LtR lt) T H.toList (a.toList.drop p) (b.toList.drop d)) (l.size+1<=H.size) (∀x∈a.toList.drop p,lt b[d] x=true) (p+1<a.size) True) (fun fin1=>?main1) ?fin1
         case main1 =>
           have a3:∀x∈(a.toList.drop f).take k,∀y∈b.toList.drop d,lt x y=true:=fun x h y v=>by
             have q:=k1 x h;rw[Qh (by decide)] at q;have e:lt x b[d]=true:=(m.dis c.di (List.mem_of_mem_take h) mb).resolve_right (by simpa using q);have q':=m.sb;rw[zh1 i] at v q';rcases Qn.mp v with rfl | v
             . exact e
             . exact c.tr _ _ _ e ((Zm.mp q').1 y v)
           have I:=lo_runA m a3;have z:l.size+1<=(o++a.extract f (f+k)).size:=by simp;omega
           have F:∀x∈a.toList.drop (f+k),lt b[d] x=true:=fun x h=>by
             have q:=k2 x h;rw[Qh (by decide)] at q;simpa using q
           have a5:¬ f+k=a.size:=fun a0=>by
             obtain⟨w,hw⟩:∃w,(a.toList.drop f).getLast?=some w:=by
               rw[zh1 (show f<a.size by omega)];exact⟨_,List.getLast?_eq_getLast (by simp)⟩
             have w1:lt _ _=true:=m.la w hw _ mb;have w2:w∈(a.toList.drop f).take k:=by
               rw[Zg (by simp;omega)];exact List.mem_of_getLast? hw
             rw[c.as _ _ (a3 w w2 _ mb)] at w1;cases w1
           refine zf8 (fun a8=>?_) fun a8=>?_
           . refine ze5 (fun D=>Qx (Or2.l (.mk _ _ _ (zL5 I D)))) fun D=>?_
             refine ze5 (fun a0=>absurd a0 a5) fun _=>?_
             have a4:f+k+1<a.size:=by omega
             clear a3 a5 D a8;generalize o++a.extract f (f+k)=H at I z ⊢;generalize f+k=p at I F a4 ⊢;exact fin1 H p ⟨I,z,F,a4,trivial⟩
           . have ek:f+k=f:=by omega
             rw[ek] at F;exact fin1 o f ⟨m,C,F,u,trivial⟩
         case fin1 =>
           clear k1 k2 hk mb u C m;rintro H p ⟨I,z,F,a4,_⟩;refine Qp (zf2 i ?_);have B:=zN7 I i F;refine ze5 (fun h7=>Qx (Or2.l (.mk _ _ _ (zL4 B (.inl (by omega)))))) fun h7=>?_
           have h8:p<a.size:=by omega
           have ma:a[p]∈a.toList.drop p:=by rw[zh1 h8];exact .head _
           have o3:l.size+1<=(H.push b[d]).size:=by simp;omega
           have a9:d+1<b.size:=by omega
           clear I z F h7;generalize H.push b[d]=o1 at B o3 ⊢;refine Qp (zf2 h8 ?_);refine Qp (yi7 c rfl (B.memA ma) (fun x h=>B.memB h) B.sb (by omega) fun n hn n1 n2=>?_);dsimp only;refine zN8 (R:=?R2) (S:=fun z L=>Ex1 (MLo (LtR lt) T z.toList (a.toList.drop p) (b.toList.drop L)) (l.size+1<=z.size) (∀y∈b.toList.drop L,lt a[p] y=true) (L<b.size) True) (fun fin2=>?main2) ?fin2'
           case main2 =>
             have aa:∀y∈(b.toList.drop (d+1)).take n,∀x∈a.toList.drop p,lt y x=true:=fun y v x h=>by
               have q:=n1 y v;rw[Ql rfl] at q;have q':=B.sa;rw[zh1 h8] at h q';rcases Qn.mp h with rfl | h
               . exact q
               . exact c.tr _ _ _ q ((Zm.mp q').1 x h)
             have J:=lo_runB B aa;have o4:l.size+1<=(o1++b.extract (d+1) (d+1+n)).size:=by simp;omega
             have N:∀y∈b.toList.drop (d+1+n),lt a[p] y=true:=fun y v=>by
               have q:=n2 y v;rw[Ql rfl] at q;exact(J.dis c.di ma v).resolve_right (by show ¬ lt _ _=true;rw[q];decide)
             refine zf8 (fun ab=>?_) fun ab=>?_
             . refine ze5 (fun h9=>Qx (Or2.l (.mk _ _ _ (zL4 J (.inl (by omega)))))) fun h9=>?_
               have V:d+1+n<b.size:=by omega
               clear aa h9 ab;generalize o1++b.extract (d+1) (d+1+n)=z at J o4 ⊢;generalize d+1+n=L at J N V ⊢;exact fin2 z L ⟨J,o4,N,V,trivial⟩
             . have en:d+1+n=d+1:=by omega
               rw[en] at N;exact fin2 o1 (d+1) ⟨B,o3,N,a9,trivial⟩
           case fin2' =>
             clear n1 n2 hn ma B o3 a9 i;rintro z L ⟨J,o4,N,V,_⟩;refine Qp (zf2 h8 ?_);have m5:=yb4 J h8 N;refine ze5 (fun ad=>Qx (Or2.l (.mk _ _ _ (zL5 m5 ad)))) fun ad=>?_
             exact zf8 (fun _=>Qx (Or2.r (.mk _ _ _ _ _ _ _ m5 (by omega) V (by simp;omega)))) fun _=>Qx (LoC.mk _ _ _ _ _ _ _ m5 (by omega) V (by simp;omega))
end
end Sx
namespace Sx
open PySem PyProof.Rows
section
variable {α:Type} {R:α->α->Prop} {T:List α}
abbrev Rv (R:α->α->Prop):α->α->Prop:=fun x y=>R y x
abbrev MHi (R:α->α->Prop)(T:List α)(out a b:Array α)(na nb:Nat):Prop:=MLo (Rv R) T out.toList (b.toList.take nb).reverse (a.toList.take na).reverse
theorem Mer.rev {m:List α}(h:Mer (Rv R) T m):Mer R T m.reverse:=⟨(List.reverse_perm m).trans h.1,by rw[ZG];exact h.2⟩
theorem zq7 {a:Array α}{n:Nat}(h0:0<n)(h:n<=a.size):(a.toList.take n).reverse=a[n-1]::(a.toList.take (n-1)).reverse:=by
 obtain⟨k,rfl⟩:∃k,n=k+1:=⟨n-1,by omega⟩;have b:k<a.toList.length:=by simp;omega
 rw[List.take_succ_eq_append_getElem b,List.reverse_append];simp
theorem zy7 (a:Array α)(n:Nat):(a.extract 0 n).toList=a.toList.take n:=by
 have:=zp6 a 0 n;simpa using this
theorem zF6 {e a b:Array α}{c d:Nat}(m:MHi R T e a b c d)(h:c=0\/d=0):Mer R T (a.extract 0 c++b.extract 0 d++e.reverse).toList:=by
 rw[Zf,Zf,zy7,zy7,Array.toList_reverse];unfold MHi at m;rcases h with rfl | rfl
 . have q:=(MLo.doneA (by simpa using m)).rev
   simpa using q
 . have q:=(MLo.doneB (by simpa using m)).rev
   simpa using q
theorem zF7 {c a b:Array α}{d:Nat}(m:MHi R T c a b d 1)(f:0<b.size):Mer R T (b.extract 0 1++a.extract 0 d++c.reverse).toList:=by
 rw[Zf,Zf,zy7,zy7,Array.toList_reverse];unfold MHi at m;rw[zq7 (by omega) (by omega)] at m;have q:=(MLo.last (by simpa using m)).rev;have e:b.toList.take 1=[b[0]]:=by
   have z:=congrArg List.reverse (zq7 (a:=b) (n:=1) (by omega) (by omega));simpa using z
 rw[e];simpa using q
theorem zN9 {out a b : Array α} {na nb : Nat} (m : MHi R T out a b na nb) (h0 : 0 < na) (h : na ≤ a.size) (hb : ∀ y ∈ b.toList.take nb, R y a[na - 1]) : MHi R T (out.push a[na - 1]) a b (na - 1) nb := by
  unfold MHi at m ⊢;rw [zq7 h0 h] at m;rw [Array.toList_push]
  exact MLo.takeB (B1 := [a[na - 1]]) m fun x hx y hy => by obtain rfl : x = a[na - 1] := by simpa using hx
                                                            exact hb y (by simpa using hy)
theorem yb6 {out a b : Array α} {na nb : Nat} (m : MHi R T out a b na nb) (h0 : 0 < nb) (h : nb ≤ b.size) (ha : ∀ x ∈ a.toList.take na, R x b[nb - 1]) : MHi R T (out.push b[nb - 1]) a b na (nb - 1) := by
  unfold MHi at m ⊢;rw [zq7 h0 h] at m;rw [Array.toList_push]
  exact MLo.takeA (A1 := [b[nb - 1]]) m fun x hx y hy => by obtain rfl : x = b[nb - 1] := by simpa using hx
                                                            exact ha y (by simpa using hy)
theorem yb7 {a:Array α}{k n:Nat}(h:k<=n):(a.toList.take n).reverse=(a.extract k n).reverse.toList++(a.toList.take k).reverse:=by
 obtain⟨d,rfl⟩:∃d,n=k+d:=⟨n-k,by omega⟩;rw[Array.toList_reverse,zp6,<-List.reverse_append,<-List.take_add]
theorem hi_runA {f a b:Array α}{c e k:Nat}(m:MHi R T f a b c e)(i:k<=c)(h:∀x∈(a.toList.take c).drop k,∀y∈b.toList.take e,R y x):MHi R T (f++(a.extract k c).reverse) a b k e:=by
 unfold MHi at m ⊢;rw[yb7 i] at m;rw[Zf];refine m.takeB fun x g y j=>h x ?_ y (by simpa using j)
 obtain⟨d,rfl⟩:∃d,c=k+d:=⟨c-k,by omega⟩;rw[Array.toList_reverse,zp6] at g;rw[List.drop_take,ZE];simpa using g
theorem hi_runB {f a b:Array α}{e c k:Nat}(m:MHi R T f a b e c)(i:k<=c)(h:∀y∈(b.toList.take c).drop k,∀x∈a.toList.take e,R x y):MHi R T (f++(b.extract k c).reverse) a b e k:=by
 unfold MHi at m ⊢;rw[yb7 i] at m;rw[Zf];refine m.takeA fun x g y j=>h x ?_ y (by simpa using j)
 obtain⟨d,rfl⟩:∃d,c=k+d:=⟨c-k,by omega⟩;rw[Array.toList_reverse,zp6] at g;rw[List.drop_take,ZE];simpa using g
theorem zL7 {L:List α}{R:α->α->Prop}{x y:α}{n:Nat}{a:Array α}(h0:0<n)(h:n<=a.size)(hs:(a.toList.take n).Pairwise R)(d:x∈a.toList.take n):x=a[n-1]\/R x a[n-1]:=by
 have e:=zq7 h0 h;have b:((a.toList.take n).reverse).Pairwise fun p q=>R q p:=ZG.mpr hs
 rw[e] at b;have c:x∈(a.toList.take n).reverse:=by simpa using d
 rw[e] at c;rcases Qn.mp c with q | q
 . exact .inl q
 . exact .inr ((Zm.mp b).1 x q)
theorem MHi.sa {d a b:Array α}{c e:Nat}(m:MHi R T d a b c e):(a.toList.take c).Pairwise R:=ZG.mp (MLo.sb m)
theorem MHi.sb {d a b:Array α}{e c:Nat}(m:MHi R T d a b e c):(b.toList.take c).Pairwise R:=ZG.mp (MLo.sa m)
theorem MHi.ma {d a b:Array α}{c e:Nat}(m:MHi R T d a b c e){x:α}(h:x∈a.toList.take c):x∈T:=MLo.memB m (by simpa using h)
theorem MHi.mb {d a b:Array α}{e c:Nat}(m:MHi R T d a b e c){x:α}(h:x∈b.toList.take c):x∈T:=MLo.memA m (by simpa using h)
theorem MHi.dis {f a b:Array α}{c e:Nat}(m:MHi R T f a b c e)(d:T.Pairwise fun x y=>R x y\/R y x){x y:α}(g:x∈a.toList.take c)(h:y∈b.toList.take e):R x y\/R y x :=
 MLo.dis m (d.imp fun z=>z.symm) (by simpa using h) (by simpa using g)
theorem zF8 {a:Array α}{n:Nat}(h0:0<n)(h:n<=a.size):a[n-1]∈a.toList.take n:=by
 have:a[n-1]∈(a.toList.take n).reverse:=by rw[zq7 h0 h];exact .head _
 simpa using this
end
section
variable {M:Model} {A:Around} {E:VP} {s:Shared} {κ:SortKind} {lt:Keyed->Keyed->Bool} {T:List Keyed}
theorem yj1 {left:Bool}{key:Keyed}{a:Array Keyed}{n hint:Nat}{st:SortSt}{Q:Option Nat->SortSt->Prop}(c:Cmp M A s κ lt T)(g:kindOf st=κ)(d:key∈T)(i:∀x∈a.toList.take n,x∈T)
   (hs:(a.toList.take n).Pairwise (LtR lt)) (q:n<=a.size) (r:hint<n)
   (h:∀k,k<=n->(∀x∈a.toList.take k,(if left=true then lt x key else !lt key x)=true)->(∀x∈(a.toList.take n).drop k,(if left=true then lt x key else !lt key x)=false)->Q (some k) st) :
   wpS M A E s (zF4 left key a 0 n hint) Q st:=by
 have e:(a.toList.take n).length=n:=by simp;omega
 have:=zY7 (E:=E) (left:=left) (key:=key) (arr:=a) (base:=0) (hint:=hint) (L:=a.toList.take n) (Q:=Q) c g d i (fun j l=>by
   have f:0+j<a.size:=by rw[e] at l;omega
   rw[Zl a (0+j) f];simp) hs (by rw[e];omega) fun k b m o=>h k (by rw[e] at b;exact b) (fun x p=>m x (by rw[List.take_take,Zy (by rw[e] at b;exact b)];exact p)) o
 rw[e] at this;exact this
section
variable (κ:SortKind) (lt:Keyed->Keyed->Bool) (T:List Keyed) (ar:Array Keyed) (pd:Array (Nat×Nat×Nat)) (a b:Array Keyed) (n:Nat)
inductive HiA:Option (Array Keyed)×Nat×Nat×Array Keyed×Nat->SortSt->Prop
 | mk (o:Array Keyed)(ja jb mg g:Nat)(m:MHi (LtR lt) T o a b ja jb)(h3:0<ja)(h4:ja<=a.size)(h5:1<jb)(h6:jb<=b.size)(h7:n<=o.size):HiA (none,ja,jb,o,mg) (SortSt.mk' κ ar pd g none)
inductive HiB (g:Nat)(n:Nat):Option (Array Keyed)×Nat×Nat×Array Keyed×Nat×Nat->SortSt->Prop
 | mk (o:Array Keyed)(ja jb ac bc:Nat)(m:MHi (LtR lt) T o a b ja jb)(h3:0<ja)(h4:ja<=a.size)(h5:1<jb)(h6:jb<=b.size)(h7:n<=o.size):HiB g n (none,ja,jb,o,ac,bc) (SortSt.mk' κ ar pd g none)
inductive HiC:Option (Array Keyed)×Nat×Nat×Array Keyed×Nat×Nat×Nat->SortSt->Prop
 | mk (o:Array Keyed)(ja jb mg ac bc g:Nat)(m:MHi (LtR lt) T o a b ja jb)(h3:0<ja)(h4:ja<=a.size)(h5:1<jb)(h6:jb<=b.size)(h7:n<=o.size):HiC (none,ja,jb,o,mg,ac,bc) (SortSt.mk' κ ar pd g none)
end
theorem wp_mergeHi {a b:Array Keyed}{ar:Array Keyed}{z:Array (Nat×Nat×Nat)}{g:Nat}{Q:Array Keyed->SortSt->Prop}(c:Cmp M A s κ lt T)(hT:(a.toList++b.toList).Perm T)
   (sa:a.toList.Pairwise (LtR lt)) (sb:b.toList.Pairwise (LtR lt)) (ha:0<a.size) (hb:0<b.size) (first:∀x∈a.toList,lt b[0] x=true) (last:∀y∈b.toList,lt y a[a.size-1]=true)
   (a2:∀m l,Mer (LtR lt) T m.toList->Q m (SortSt.mk' κ ar z l none)):wpS M A E s (yb2 a b) Q (SortSt.mk' κ ar z g none):=by
 unfold yb2;refine Qp (wpS_lift (wpAny_rule ⟨rfl,?_⟩));have ta:a.toList.take a.size=a.toList:=Zg (by simp);have tb:b.toList.take b.size=b.toList:=Zg (by simp);have m0:MHi (LtR lt) T #[] a b a.size b.size:=by
   unfold MHi;rw[ta,tb];refine⟨.trans ?_ hT,by simp,ZG.mpr sb,ZG.mpr sa,by simp,fun aj hz y C=>?_⟩
   . exact((List.reverse_perm _).append (List.reverse_perm _)).trans List.perm_append_comm
   . have e:aj=b[0]:=by
       rw[List.getLast?_reverse,List.head?_eq_getElem?] at hz;have:b.toList[0]?=some b[0]:=by simp
       rw[this] at hz;exact(Qo hz).symm
     subst e;exact first y (by simpa using C)
 refine Qp (zf2 (show a.size-1<a.size by omega) ?_);have m1:=zN9 m0 ha (Qi _) (by rw[tb];exact last);rw[show(#[]:Array Keyed).push a[a.size-1] = #[a[a.size-1]] from rfl] at m1;refine ze5 (fun h1=>Qx (a2 _ _ (zF6 m1 (.inl h1)))) fun h1=>?_
 refine ze5 (fun h2=>?_) fun h2=>?_
 . refine Qx (a2 _ _ ?_)
   rw[h2] at m1 ⊢;exact zF7 m1 hb
 refine Qp (wpS_get ?_);have ae:∀ {u:Array Keyed} {O nb:Nat},MHi (LtR lt) T u a b O nb->0<O->O<=a.size->u.size<a.size+b.size:=fun {u O nb} m h0 h1=>by
   have e:=MLo.len m;have e':=hT.length_eq;simp at e e';omega
 refine Qp (wpS_mono (wpS_forRange
   (HiA κ lt T ar z a b) (Q:=LD κ lt T ar z) ?step ?fin (.mk _ _ _ _ g m1 (by omega) (by omega) (by omega) (by omega) (by simp))) ?post)
 case post =>
   rintro _ _ ⟨r,l,ad,hm⟩;exact Qx (a2 r l hm)
 case fin =>
   rintro _ _ ⟨u,O,nb,mg,l,m,h,f,t,i,p⟩;have:=ae m h f;omega
 case step =>
   rintro x _ _ _ p ⟨u,O,nb,mg,l,m,h,f,t,i,af⟩
   refine Qp (wpS_mono (wpS_forRange
     (fun y=>HiB κ lt T ar z a b l (u.size+y)) (Q:=Or2 (LD κ lt T ar z) (HiB κ lt T ar z a b l (u.size+1)))
     ?step1 ?fin1 (.mk u O nb _ _ m h f t i (by omega))) ?post1)
   case fin1 =>
     rintro _ _ ⟨o,j,d,ac,bc,m,h,f,t,i,F⟩;exact .r (.mk o j d ac bc m h f t i (by omega))
   case step1 =>
     clear m h f t i;rintro y _ _ _ C ⟨o,j,d,ac,bc,m,h,f,t,i,F⟩;have ma:=zF8 h f;have mb:=zF8 (show 0<d by omega) i;refine Qp (zf2 (show d-1<b.size by omega) (Qp (zf2 (show j-1<a.size by omega) ?_)));refine Qp (yb5 c (MHi.mb m mb) (MHi.ma m ma) rfl ?_);cases e:lt b[d-1] a[j-1] with
     | true =>
       dsimp only;rw[Ql rfl];refine Qp (zf2 (show j-1<a.size by omega) ?_);have G:=zN9 m h f fun x p=>by
         rcases zL7 (L:=[]) (x:=x) (y:=x) (by omega) i (MHi.sb m) p with rfl | q
         . exact e
         . exact c.tr _ _ _ q e
       refine ze5 (fun D=>Qx (Or2.l (.mk _ l _ (zF6 G (.inl D))))) fun D=>?_
       exact zf8 (fun _=>Qx (Or2.r (.mk _ _ _ _ _ G (by omega) (by omega) t i (by simp;omega)))) fun _=>Qx (HiB.mk _ _ _ _ _ G (by omega) (by omega) t i (by simp;omega))
     | false =>
       dsimp only;rw[Qh (by decide)];refine Qp (zf2 (show d-1<b.size by omega) ?_);have e':lt a[j-1] b[d-1]=true:=(MHi.dis m c.di ma mb).resolve_right (by show ¬ lt _ _=true;rw[e];decide);have G:=yb6 m (by omega) i fun x p=>by
         rcases zL7 (L:=[]) (x:=x) (y:=x) h f (MHi.sa m) p with rfl | q
         . exact e'
         . exact c.tr _ _ _ q e'
       refine ze5 (fun D=>?_) fun D=>?_
       . refine Qx (Or2.l (.mk _ l _ ?_))
         generalize o.push b[d-1]=Y at G ⊢;rw[D] at G ⊢;exact zF7 G hb
       exact zf8 (fun _=>Qx (Or2.r (.mk _ _ _ _ _ G h f (by omega) (by omega) (by simp;omega)))) fun _=>Qx (HiB.mk _ _ _ _ _ G h f (by omega) (by omega) (by simp;omega))
   case post1 =>
     clear m h f t i;rintro _ _ (⟨r,l,ad,hm⟩ | ⟨o,j,d,ac,bc,m,h,f,t,i,F⟩)
     . exact Qx (LD.mk r l _ hm)
     refine Qp (wpS_lift (wpAny_rule ⟨rfl,?_⟩))
     refine Qp (wpS_mono (wpS_forRange
       (fun _=>HiC κ lt T ar z a b (u.size+1)) (Q:=Or2 (LD κ lt T ar z) (HiC κ lt T ar z a b (u.size+1)))
       ?step2 ?fin2 (.mk o j d _ _ _ l m h f t i F)) ?post2)
     case fin2=>exact fun _ _ a2=>.r a2
     case post2 =>
       clear m h f t i F;rintro _ _ (⟨r,l,ad,hm⟩ | ⟨o,j,d,mg,ac,bc,l,m,h,f,t,i,F⟩)
       . exact Qx (LD.mk r l _ hm)
       exact Qp (zL6 (Qx (HiA.mk o j d _ _ m h f t i (by omega))))
     case step2 =>
       clear m h f t i F af;rintro y _ _ _ C ⟨o,j,d,mg,ac,bc,l,m,h,f,t,i,F⟩;dsimp only;have ag:∀U,wpS M A E s (yi6 U) (fun _ a6=>a6=SortSt.mk' κ ar z U none) (SortSt.mk' κ ar z l none):=fun U=>zL6 rfl
       refine yj0 (R:=?R0) (fun fin0=>?main0) ?fin0
       case main0 =>
         refine zf8 (fun ah=>?_) fun ah=>?_
         . generalize mg-1=U
           exact fin0 U
         . exact fin0 mg
       case fin0 =>
         intro U;refine Qp (wpS_mono (ag _) fun _ a6 e=>?_);subst e;have mb:=zF8 (show 0<d by omega) i;refine Qp (zf2 (show d-1<b.size by omega) ?_);refine Qp (yj1 c rfl (MHi.mb m mb) (fun x p=>MHi.ma m p) (MHi.sa m) f (show j-1<j by omega) fun k hk k1 k2=>?_);dsimp only;refine zN8 (R:=?R1) (S:=fun J v=>Ex1 (MHi (LtR lt) T J a b v d) (u.size+1<=J.size) (∀x∈a.toList.take v,lt x b[d-1]=true) (0<v) (v<=a.size)) (fun fin1=>?main1) ?fin1
         case main1 =>
           have a7:∀x∈(a.toList.take j).drop k,∀y∈b.toList.take d,lt y x=true:=fun x p y C=>by
             have q:=k2 x p;rw[Qh (by decide)] at q;have e:lt b[d-1] x=true:=by simpa using q
             rcases zL7 (L:=[]) (x:=y) (y:=y) (show 0<d by omega) i (MHi.sb m) C with rfl | q
             . exact e
             . exact c.tr _ _ _ q e
           have P:=hi_runA m hk a7;have B:u.size+1<=(o++(a.extract k j).reverse).size:=by simp;omega
           have K:∀x∈a.toList.take k,lt x b[d-1]=true:=fun x p=>by
             have q:=k1 x p;rw[Qh (by decide)] at q;have ai:x∈a.toList.take j:=by
               rw[<-Zy hk,<-List.take_take] at p;exact List.mem_of_mem_take p
             exact(MHi.dis m c.di ai mb).resolve_right (by show ¬ lt _ _=true;simpa using q)
           refine zf8 (fun a8=>?_) fun a8=>?_
           . refine ze5 (fun D=>Qx (Or2.l (.mk _ _ _ (zF6 P (.inl D))))) fun D=>?_
             have V:k<=a.size:=QK hk f;have W:0<k:=Nat.pos_of_ne_zero D;clear a8 a7 D;generalize o++(a.extract k j).reverse=J at P B ⊢;generalize k=v at P K W V ⊢;exact fin1 J v ⟨P,B,K,W,V⟩
           . have ek:k=j:=by omega
             rw[ek] at K ⊢;exact fin1 o j ⟨m,F,K,h,f⟩
         case fin1 =>
           clear hk k1 k2 mb h f F m;rintro J v ⟨P,B,K,W,V⟩;refine Qp (zf2 (show d-1<b.size by omega) ?_);have w:=yb6 P (by omega) i K;refine ze5 (fun h9=>?_) fun h9=>?_
           . refine Qx (Or2.l (.mk _ _ _ (?_)))
             generalize J.push b[d-1]=Y at w ⊢;rw[h9] at w ⊢;exact zF7 w hb
           have o3:u.size+1<=(J.push b[d-1]).size:=by simp;omega
           have a3:1<d-1:=by omega
           have Z:d-1<=b.size:=by omega
           clear P B K h9;generalize J.push b[d-1]=Y at w o3 ⊢;generalize d-1=I at w a3 Z ⊢;have ma:=zF8 W V;refine Qp (zf2 (show v-1<a.size by omega) ?_);refine Qp (yj1 c rfl (MHi.ma w ma) (fun x p=>MHi.mb w p) (MHi.sb w) Z (show I-1<I by omega) fun n hn n1 n2=>?_);dsimp only;refine zN8 (R:=?R2) (S:=fun B N=>Ex1 (MHi (LtR lt) T B a b v N) (u.size+1<=B.size) (∀y∈b.toList.take N,lt y a[v-1]=true) (1<N) (N<=b.size)) (fun fin2=>?main2) ?fin2'
           case main2 =>
             have a9:∀y∈(b.toList.take I).drop n,∀x∈a.toList.take v,lt x y=true:=fun y C x p=>by
               have q:=n2 y C;rw[Ql rfl] at q;have e:lt a[v-1] y=true:=(MHi.dis w c.di ma (List.mem_of_mem_drop C)).resolve_right (by show ¬ lt _ _=true;rw[q];decide);rcases zL7 (L:=[]) (x:=x) (y:=x) W V (MHi.sa w) p with rfl | q
               . exact e
               . exact c.tr _ _ _ q e
             have H:=hi_runB w hn a9;have o4:u.size+1<=(Y++(b.extract n I).reverse).size:=by simp;omega
             have X:∀y∈b.toList.take n,lt y a[v-1]=true:=fun y C=>by
               have q:=n1 y C;rw[Ql rfl] at q;exact q
             refine zf8 (fun aa=>?_) fun aa=>?_
             . refine ze5 (fun a4=>?_) fun a4=>?_
               . refine Qx (Or2.l (.mk _ _ _ (?_)))
                 generalize Y++(b.extract n I).reverse=B at H ⊢;rw[a4] at H ⊢;exact zF7 H hb
               refine ze5 (fun a5=>Qx (Or2.l (.mk _ _ _ (zF6 H (.inr a5))))) fun a5=>?_
               have a0:1<n:=by omega
               have a1:n<=b.size:=QK hn Z;clear aa a9 a4 a5;generalize Y++(b.extract n I).reverse=B at H o4 ⊢;generalize n=N at H X a0 a1 ⊢;exact fin2 B N ⟨H,o4,X,a0,a1⟩
             . have en:n=I:=by omega
               rw[en] at X ⊢;exact fin2 Y I ⟨w,o3,X,a3,Z⟩
           case fin2' =>
             clear hn n1 n2 ma a3 Z o3 w;rintro B N ⟨H,o4,X,a0,a1⟩;refine Qp (zf2 (show v-1<a.size by omega) ?_);have m5:=zN9 H W V X;refine ze5 (fun ab=>Qx (Or2.l (.mk _ _ _ (zF6 m5 (.inl ab))))) fun ab=>?_
             exact zf8 (fun _=>Qx (Or2.r (.mk _ _ _ _ _ _ _ (m5) (by omega) (by omega) (a0) (a1) (by simp;omega)))) fun _=>Qx (HiC.mk _ _ _ _ _ _ _ (m5) (by omega) (by omega) (a0) (a1) (by simp;omega))
end
section
variable {α:Type}
theorem yb8 (base:Nat):∀(m:List α) (k:Nat) (b:Array α),base+k+m.length<=b.size →
   ((m.zipIdx k).foldl (fun a x=>match x with | (p,j)=>a.setIfInBounds (base+j) p) b).toList=b.toList.take (base+k)++(m++b.toList.drop (base+k+m.length))
 | [],k,b,_=>by simp
 | x::m,k,b,h=>by
   simp only[Qz] at h;rw[List.zipIdx_cons,List.foldl_cons,yb8 base m (k+1) _ (by simp;omega)];have c:base+k<b.toList.length:=by simp;omega
   rw[Array.toList_setIfInBounds];have d:(b.toList.set (base+k) x).take (base+(k+1))=b.toList.take (base+k)++[x]:=by
     rw[show base+(k+1)=base+k+1 by omega,List.take_succ_eq_append_getElem (by simpa using c),List.take_set_of_le (Qi _)];simp
   have e:(b.toList.set (base+k) x).drop (base+(k+1)+m.length)=b.toList.drop (base+k+(x::m).length):=by
     rw[List.drop_set_of_lt (by omega)];congr 1;simp;omega
   rw[d,e];simp
end
theorem last_get {b:Type}{X:Array b}{a:b}(h:0<X.size)(z:X.toList.getLast?=some a):X[X.size-1]=a:=by
 obtain⟨L⟩:=X;have c:0<L.length:=by simpa using h
 simp only[List.getLast?_eq_getElem?] at z;rw[Qe (by omega)] at z;simpa using z
noncomputable def Rn (lt:Keyed->Keyed->Bool):Nat->List (Nat×Nat×Nat)->List (List Keyed)->Prop
 | _,[],[]=>True
 | f,(s,n,_)::pd,l::ls=>s=f/\n=l.length/\l≠[]/\l.Pairwise (LtR lt)/\Rn lt (f+l.length) pd ls
 | _,_,_=>False
section
variable {lt:Keyed->Keyed->Bool}
theorem Rn.len:∀ {f:Nat} {b:List (Nat×Nat×Nat)} {a:List (List Keyed)},Rn lt f b a->b.length=a.length/\a.length<=a.flatten.length
 | _,[],[],_=>⟨rfl,Qi _⟩
 | _,[],_::_,h=>h.elim
 | _,_::_,[],h=>h.elim
 | f,(s,n,_)::b,l::a,h=>by
   obtain⟨_,_,c,_,d⟩:=h;have:=d.len;have:0<l.length:=ZL.mpr c;simp only[Qz,List.flatten_cons,Qq];omega
theorem Rn.split:∀ {f:Nat} (b:List (Nat×Nat×Nat)) {c:List (Nat×Nat×Nat)} {d:List (List Keyed)},Rn lt f (b++c) d->∃a g,d=a++g/\a.length=b.length/\Rn lt f b a/\Rn lt (f+a.flatten.length) c g
 | f,[],c,d,h=>⟨[],d,rfl,rfl,trivial,by simpa using h⟩
 | f,_::_,c,[],h=>h.elim
 | f,(s,n,w)::b,c,l::d,h=>by
   obtain⟨i,j,k,m,o⟩:=h;obtain⟨a,g,e,p,q,r⟩:=Rn.split b o;refine⟨l::a,g,by rw[e];rfl,by simp[p],⟨i,j,k,m,q⟩,?_⟩;simpa [Nat.add_assoc] using r
theorem Rn.join:∀ {f:Nat} {d a:List (Nat×Nat×Nat)} {c b:List (List Keyed)},Rn lt f d c->Rn lt (f+c.flatten.length) a b->Rn lt f (d++a) (c++b)
 | f,[],a,[],b,_,h=>by simpa using h
 | f,[],a,_::_,b,h,_=>h.elim
 | f,_::_,a,[],b,h,_=>h.elim
 | f,(s,n,w)::d,a,l::c,b,h,h'=>by
   obtain⟨e,g,i,j,k⟩:=h;refine⟨e,g,i,j,Rn.join k ?_⟩;simpa [Nat.add_assoc] using h'
end
section
variable {M:Model} {A:Around} {E:VP} {s:Shared} {κ:SortKind} {lt:Keyed->Keyed->Bool} {T:List Keyed}
theorem zT3 {P a b S:List Keyed}(c:Cmp M A s κ lt (P++(a++(b++S)))){x y:Keyed}(d:x∈a)(e:y∈b):lt x y=true\/lt y x=true :=
 (QI.mp (QI.mp c.di).2.1).2.2 x d y (Zo _ e)
theorem yj2 {lt:Keyed->Keyed->Bool}{B:List Keyed}{b y:Keyed}(hs:B.Pairwise (LtR lt))(c:B[0]?=some b)(a:y∈B):y=b\/lt b y=true:=by
 cases B with
 | nil=>cases a
 | cons z B =>
   obtain rfl:z=b:=by simpa using c
   rcases Qn.mp a with q | q
   . exact .inl q
   . exact .inr ((Zm.mp hs).1 y q)
theorem le_last {lt:Keyed->Keyed->Bool}{B:List Keyed}{b y:Keyed}(hs:B.Pairwise (LtR lt))(c:B.getLast?=some b)(d:y∈B):y=b\/lt y b=true:=by
 have a:B.reverse.Pairwise (LtR fun p q=>lt q p):=ZG.mpr hs;exact yj2 (lt:=fun p q=>lt q p) a (by rw[<-List.head?_eq_getElem?,List.head?_reverse];exact c) (by simpa using d)
theorem wp_mergeAt {ar:Array Keyed}{u:Array (Nat×Nat×Nat)}{g i:Nat}{pre post:List (Nat×Nat×Nat)}{v U:Nat}{P a b S:List Keyed}{Q:Bool->SortSt->Prop}
   (c:Cmp M A s κ lt (P++(a++(b++S)))) (w:ar.toList=P++(a++(b++S))) (J:u.toList=pre++(P.length,a.length,v)::(P.length+a.length,b.length,U)::post) (K:i=pre.length)
   (hA:a≠[]) (hB:b≠[]) (B:a.Pairwise (LtR lt)) (D:b.Pairwise (LtR lt))
   (a4:∀V W o C,W.toList=pre++(P.length,a.length+b.length,v)::post->V.toList=P++(C++S)->C.Perm (a++b)->C.Pairwise (LtR lt)->Q true (SortSt.mk' κ V W o none)) :
   wpS M A E s (mergeAt' i) Q (SortSt.mk' κ ar u g none):=by
 have nA:0<a.length:=ZL.mpr hA;have L:0<b.length:=ZL.mpr hB;have sz:ar.size=P.length+(a.length+(b.length+S.length)):=by
   have:=congrArg List.length w;simpa using this
 have p0:u[i]?=some (P.length,a.length,v):=by
   rw[<-QN,J,K];simp
 have p1:u[i+1]?=some (P.length+a.length,b.length,U):=by
   rw[<-QN,J,K];simp
 have np:((u.setIfInBounds i (P.length,a.length+b.length,v)).eraseIdxIfInBounds (i+1)).toList=pre++(P.length,a.length+b.length,v)::post:=by
   rw[Array.toList_eraseIdxIfInBounds,Array.toList_setIfInBounds,J,K,List.set_append_right _ _ (by omega)];rw[Nat.sub_self,List.set_cons_zero,List.eraseIdx_append_of_length_le (by omega)];simp
 unfold mergeAt';refine Qp (wpS_get ?_);dsimp only;rw[p0,p1];refine Qp (m:=set _) (wpS_modify (f:=fun _=>_) ?_);have X:∀j (F:j<a.length),ar[P.length+j]?=some a[j]:=fun j F=>by
   rw[<-QN,w,Zx (by omega),ZE,Zi F,Qe F]
 have Y:∀j (F:j<b.length),ar[P.length+a.length+j]?=some b[j]:=fun j F=>by
   rw[<-QN,w,Zx (by omega),show P.length+a.length+j-P.length=a.length+j by omega,Zx (by omega),ZE,Zi F,Qe F]
 obtain⟨p,G⟩:∃p,b[0]?=some p:=⟨_,Qe L⟩;obtain⟨r,H⟩:∃r,a.getLast?=some r:=⟨_,List.getLast?_eq_getLast hA⟩;have mB:p∈b:=QG G;have mA:r∈a:=List.mem_of_getLast? H;have Z:∀x∈a,x∈P++(a++(b++S)):=fun x d=>by simp[d]
 have a0:∀x∈b,x∈P++(a++(b++S)):=fun x d=>by simp[d]
 have eb:ar[P.length+a.length]'(by omega)=p:=by
   have z:=Y 0 L;rw[Nat.add_zero,Zl ar _ (by omega)] at z;rw[Qe L] at G;exact(Qo z).trans (Qo G)
 refine Qp (zf2 (show P.length+a.length<ar.size by omega) ?_);rw[eb];refine Qp (zY7 c rfl (a0 _ mB) Z X B nA fun k hk k1 k2=>?_);have I:∀x∈a.take k,∀y∈b,lt x y=true:=fun x d y h=>by
   have q:=k1 x d;rw[Qh (by decide)] at q;have e:lt x p=true:=(zT3 c (List.mem_of_mem_take d) mB).resolve_right (by simpa using q);rcases yj2 D G h with rfl | z
   . exact e
   . exact c.tr _ _ _ e z
 have a1:∀x∈a.drop k,lt p x=true:=fun x d=>by
   have q:=k2 x d;rw[Qh (by decide)] at q;simpa using q
 have T:(∀x∈a,∀y∈b,lt x y=true)->Q true (SortSt.mk' κ ar ((u.setIfInBounds i (P.length,a.length+b.length,v)).eraseIdxIfInBounds (i+1)) g none):=fun z =>
   a4 _ _ _ (a++b) np (by rw[w];simp) (.refl _) (QI.mpr ⟨B,D,z⟩)
 refine ze5 (fun h1=>?_) fun h1=>?_
 . refine Qx (T fun x d y h=>I x ?_ y h)
   rw[Zg (by omega)];exact d
 have el:ar[P.length+k+(a.length-k)-1]'(by omega)=r:=by
   have z:=X (a.length-1) (by omega);have z':ar[P.length+k+(a.length-k)-1]?=some a[a.length-1]:=by rw[<-z];congr 1;omega
   rw[Zl ar _ (by omega)] at z';rw[List.getLast?_eq_getElem?,Qe (by omega)] at H;exact(Qo z').trans (Qo H)
 refine Qp (zf2 (show P.length+k+(a.length-k)-1<ar.size by omega) ?_);rw[el];refine Qp (zY7 c rfl (Z _ mA) a0 Y D (show b.length-1<b.length by omega) fun n N n1 n2=>?_);have a2:∀y∈b.take n,lt y r=true:=fun y h=>by
   have q:=n1 y h;rw[Ql rfl] at q;exact q
 have a3:∀y∈b.drop n,∀x∈a,lt x y=true:=fun y h x d=>by
   have q:=n2 y h;rw[Ql rfl] at q;have e:lt r y=true:=(zT3 c mA (List.mem_of_mem_drop h)).resolve_right (by rw[q];decide);rcases le_last B H d with rfl | z
   . exact e
   . exact c.tr _ _ _ z e
 refine ze5 (fun h2=>?_) fun h2=>?_
 . refine Qx (T fun x d y h=>a3 y ?_ x d)
   rw[h2];exact h
 have ex:(ar.extract (P.length+k) (P.length+a.length)).toList=a.drop k:=by
   rw[show P.length+a.length=P.length+k+(a.length-k) by omega,zp6,w,List.drop_append];rw[List.drop_eq_nil_of_le (by omega),ZE,List.nil_append,List.drop_append_of_le_length hk,List.take_append_of_le_length (by simp)];exact Zg (by simp)
 have t:(ar.extract (P.length+a.length) (P.length+a.length+n)).toList=b.take n:=by
   rw[zp6,w,<-Zc,List.drop_append,List.drop_eq_nil_of_le (by simp)];rw[show P.length+a.length-(P++a).length=0 by simp,List.nil_append,List.drop_zero,List.take_append_of_le_length N]
 have c':Cmp M A s κ lt (a.drop k++b.take n):=c.sub (by
   refine .trans ?_ (List.sublist_append_right P _);exact(List.drop_sublist k a).append ((List.take_sublist n b).trans (List.sublist_append_left b S)))
 have after:∀(m:Array Keyed) o,Mer (LtR lt) (a.drop k++b.take n) m.toList →
     Q true (SortSt.mk' κ (m.toList.zipIdx.foldl (fun a5 x=>match x with | (a6,j)=>a5.setIfInBounds (P.length+k+j) a6) ar) ((u.setIfInBounds i (P.length,a.length+b.length,v)).eraseIdxIfInBounds (i+1)) o none):=fun m o l=>by
   have ml:m.toList.length=a.length-k+n:=by
     have z:=l.1.length_eq;rw[Qq,List.length_drop,Zb,Zy N] at z;exact z
   refine a4 _ _ _ (a.take k++(m.toList++b.drop n)) np ?_ ?_ ?_
   . rw[yb8 _ _ 0 _ (by rw[ml];omega),ml,w]
     rw[Nat.add_zero,List.take_append,Zg (by omega),ZE,List.take_append_of_le_length hk];have e2:(P++(a++(b++S))).drop (P.length+k+(a.length-k+n))=b.drop n++S:=by
       rw[show P.length+k+(a.length-k+n)=(P++a).length+n by simp;omega,<-Zc,List.drop_append,List.drop_eq_nil_of_le (by omega),ZE,List.nil_append,List.drop_append_of_le_length N]
     rw[e2];simp
   . refine .trans (List.Perm.append_left _ (l.1.append_right _)) ?_
     rw[Zc,Zd,<-Zc,Zd]
   . refine QI.mpr ⟨B.sublist (List.take_sublist _ _),QI.mpr ⟨l.2,D.sublist (List.drop_sublist _ _),fun x d y h=>?_⟩,fun x d y h=>?_⟩
     . rcases Qt.mp (l.1.mem_iff.mp d) with q | q
       . exact a3 y h x (List.mem_of_mem_drop q)
       . have z:=D
         rw[<-Zd n b] at z;exact(QI.mp z).2.2 x q y h
     . rcases Qt.mp h with q | q
       . rcases Qt.mp (l.1.mem_iff.mp q) with q | q
         . have z:=B
           rw[<-Zd k a] at z;exact(QI.mp z).2.2 x d y q
         . exact I x d y (List.mem_of_mem_take q)
       . exact I x d y (List.mem_of_mem_drop q)
 have O:0<(ar.extract (P.length+k) (P.length+a.length)).size:=by
   rw[<-Qv,ex,List.length_drop];omega
 have R:0<(ar.extract (P.length+a.length) (P.length+a.length+n)).size:=by
   rw[<-Qv,t,Zb];omega
 have fy:(ar.extract (P.length+a.length) (P.length+a.length+n))[0]=p:=by
   have z:(ar.extract (P.length+a.length) (P.length+a.length+n))[0]?=some p:=by
     rw[<-QN,t,List.getElem?_take_of_lt (by omega)];exact G
   rw[Zl _ 0 R] at z;exact Qo z
 have lx:(a.drop k).getLast?=some r:=by
   have z:=H;rw[<-Zd k a,List.getLast?_append] at z;cases e:(a.drop k).getLast? with
   | some a7=>rw[e] at z;exact z
   | none =>
     have:=congrArg List.length (List.getLast?_eq_none_iff.mp e);simp at this;omega
 refine zf8 (fun h3=>?_) fun h3=>?_
 . refine Qp (wp_mergeLo c' (by rw[ex,t]) (by rw[ex];exact B.sublist (List.drop_sublist _ _)) (by rw[t];exact D.sublist (List.take_sublist _ _)) O R (by rw[ex,fy];exact a1) (by
     rw[ex,t];intro z hz y h;rw[lx] at hz;obtain rfl:=Qo hz;exact a2 y h) fun m o l=>?_)
   refine Qp (wpS_modify (Qp (wpS_get (Qx ?_))));exact after m o l
 . refine Qp (wp_mergeHi c' (by rw[ex,t]) (by rw[ex];exact B.sublist (List.drop_sublist _ _)) (by rw[t];exact D.sublist (List.take_sublist _ _)) O R (by rw[ex,fy];exact a1) (by
     rw[t];intro y h;have z:(ar.extract (P.length+k) (P.length+a.length)).toList.getLast?=some r:=by rw[ex];exact lx
     have e:=last_get O z;rw[e];exact a2 y h) fun m o l=>?_)
   refine Qp (wpS_modify (Qp (wpS_get (Qx ?_))));exact after m o l
end
noncomputable def at' (ar:Array Keyed)(i:Nat):Keyed:=ar.getD i (Value.none,Value.none)
def Up (lt:Keyed->Keyed->Bool)(ar:Array Keyed)(lo n:Nat):Prop:=∀i j,i<j->j<n->lt (at' ar (lo+i)) (at' ar (lo+j))=true
theorem at'_of {ar:Array Keyed}{i:Nat}{x:Keyed}(h:ar[i]?=some x):at' ar i=x:=by
 unfold at';rw[Array.getD_eq_getD_getElem?,h];rfl
theorem zw3 {ar:Array Keyed}{i:Nat}(h:i<ar.size):ar[i]=at' ar i:=(at'_of (Zl ar i h)).symm
theorem zu4 {ar a:Array Keyed}{i j:Nat}(h:ar[i]?=a[j]?):at' ar i=at' a j:=by
 unfold at';rw[Array.getD_eq_getD_getElem?,Array.getD_eq_getD_getElem?,h]
theorem zO0 {ar:Array Keyed}{i j:Nat}(a:j<=ar.size)(k:Nat):at' (mirror ar i j ((j-i) / 2)) k=if i<=k/\k<j then at' ar (i+j-1-k) else at' ar k:=by
 have e:=getElem?_mirror_all (i:=i) a k
 split
 . rename_i h;rw[Ql h] at e;exact zu4 e
 . rename_i h;rw[Qh h] at e;exact zu4 e
theorem zO1 {ar:Array Keyed}{a d:Nat}(hs:a<ar.size)(b:d<=a)(k:Nat) :
   at' (bubble ar a d) k=if k=a-d then at' ar a else if a-d<k/\k<=a then at' ar (k-1) else at' ar k:=by
 have e:=getElem?_bubble hs d b k
 split
 . rename_i h;rw[Ql h] at e;exact zu4 e
 . rename_i h
   rw[Qh h] at e
   split
   . rename_i h';rw[Ql h'] at e;exact zu4 e
   . rename_i h';rw[Qh h'] at e;exact zu4 e
def zO2 (lo:Nat)(ar br:Array Keyed):Prop:=∀i,i<lo->br[i]?=ar[i]?
section
variable {M:Model} {A:Around} {E:VP} {s:Shared} {κ:SortKind} {lt:Keyed->Keyed->Bool} {T:List Keyed} {ar:Array Keyed} {pd:Array (Nat×Nat×Nat)} {g:Nat}
theorem in_T (a:ar.toList.Perm T){i:Nat}(h:i<ar.size):at' ar i∈T:=by
 rw[<-zw3 h];exact a.mem_iff.mp (by simp)
theorem zB4 {i j:Nat}{Q:Option Bool->SortSt->Prop}(c:Cmp M A s κ lt T)(d:ar.toList.Perm T)(a:i<ar.size)(b:j<ar.size)
   (h:Q (some (lt (at' ar i) (at' ar j))) (SortSt.mk' κ ar pd g none)):wpS M A E s (ltAt' i j) Q (SortSt.mk' κ ar pd g none):=by
 rw[ltAt'_eq];refine Qp (wpS_get (Qp (zf2 a (Qp (zf2 b ?_)))));rw[zw3 a,zw3 b];exact yb5 c (in_T d a) (in_T d b) rfl h
theorem apart (c:Cmp M A s κ lt T)(e:ar.toList.Perm T){i j:Nat}(a:i<ar.size)(b:j<ar.size)(h:i≠j):lt (at' ar i) (at' ar j)=true\/lt (at' ar j) (at' ar i)=true:=by
 have d:=(c.perm e).di;rw[<-zw3 a,<-zw3 b];rcases QW i j with z | z
 . exact QR.mp d i j (by simpa using a) (by simpa using b) z
 . exact(QR.mp d j i (by simpa using b) (by simpa using a) (by omega)).symm
noncomputable abbrev AS:=Option (Option Nat)×Nat
theorem yp9 {f:Nat->AS->SM (ForInStep AS)}{lo a b:Nat}{st:SortSt}{Q:AS->SortSt->Prop}(c:Cmp M A s κ lt T)(r:ar.toList.Perm T)
   (t:∀x n (R:ForInStep AS->SortSt->Prop),1<=n->n<b->(lt (at' ar (lo+n)) (at' ar (lo+n-1))=true->R (.done (none,n)) st)->(lt (at' ar (lo+n)) (at' ar (lo+n-1))=false->R (.yield (none,n+1)) st)->wpS M A E s (f x (none,n)) R st)
   (y:lo+b<=ar.size) (B:1<=a) (u:a<=b) (w:Up lt ar lo a)
   (h:∀n,a<=n->n<=b->Up lt ar lo n->(n=b\/lt (at' ar (lo+n)) (at' ar (lo+n-1))=true)->Q (none,n) st):wpS M A E s (forIn [a:b] ((none,a):AS) f) Q st:=by
 refine wpS_forRange (I:=fun x v g=>g=st/\v=(none,x)/\Up lt ar lo x) ?step ?fin ⟨rfl,rfl,w⟩
 case fin =>
   rintro v g ⟨rfl,rfl,d⟩;rw[show max a b=b by omega] at d ⊢;exact h b u (Qi _) d (.inl rfl)
 case step =>
   rintro x v g m o ⟨rfl,rfl,d⟩;refine t x x _ (by omega) o (fun e=>h x m (by omega) d (.inr e)) fun e=>⟨rfl,rfl,fun i j p C=>?_⟩
   rcases QW j x with z | z
   . exact d i j p z
   . obtain rfl:j=x:=by omega
     have k:lt (at' ar (lo+j-1)) (at' ar (lo+j))=true:=(apart c r (by omega) (by omega) (by omega)).resolve_right (by rw[e];decide);rcases QW i (j-1) with q | q
     . have l:=d i (j-1) q (by omega)
       rw[show lo+(j-1)=lo+j-1 by omega] at l;exact c.tr _ _ _ l k
     . rw[show lo+i=lo+j-1 by omega]
       exact k
theorem wp_count {lo a:Nat}{Q:Option Nat->SortSt->Prop}(c:Cmp M A s κ lt T)(b:ar.toList.Perm T)(O:lo+a<=ar.size)(P:1<=a)
   (h:∀m o,o.toList.Perm T->zO2 lo ar o->1<=m->m<=a->Up lt o lo m->Q (some m) (SortSt.mk' κ o pd g none)):wpS M A E s (countRun' lo a) Q (SortSt.mk' κ ar pd g none):=by
 rw[countRun'_eq];refine Qp (yp9 (ar:=ar) (lo:=lo) c b (fun x n R l f u w=>?_) O (Qi 1) P (fun i j p y=>by omega) fun n l f B K=>?_)
 . dsimp only
   refine Qp (zB4 c b (by omega) (by omega) ?_);cases e:lt (at' ar (lo+n)) (at' ar (lo+n-1)) with
   | true=>dsimp only;rw[Ql rfl];exact Qx (u e)
   | false=>dsimp only;rw[Qh (by decide)];exact Qx (w e)
 dsimp only;by_cases C:n=a
 . rw[Ql (yi8 C)]
   exact Qx (h n ar b (fun _ _=>rfl) l f B)
 rw[Qh (yi9 C)];have L:=K.resolve_left C;by_cases G:n>1
 . rw[Ql G]
   refine Qp (zB4 c b (by omega) (by omega) ?_);have e:=B 0 (n-1) (by omega) (by omega);rw[Nat.add_zero,show lo+(n-1)=lo+n-1 by omega] at e;rw[e];dsimp only;rw[Ql rfl];exact Qx (h n ar b (fun _ _=>rfl) l f B)
 rw[Qh G];obtain rfl:n=1:=by omega
 refine Qp (wpS_lift (wpAny_rule ⟨rfl,?_⟩))
 refine Qp (wpS_mono (wpS_forRange (I:=fun x v k=>k=SortSt.mk' κ ar pd g none/\v=(none,x,0)/\∀i j,i<j->j<x->lt (at' ar (lo+j)) (at' ar (lo+i))=true)
   (Q:=fun v k=>k=SortSt.mk' κ ar pd g none/\∃x,v=(none,x,0)/\2<=x/\x<=a/\∀i j,i<j->j<x->lt (at' ar (lo+j)) (at' ar (lo+i))=true) ?step ?fin ⟨rfl,rfl,?ini⟩) ?post)
 case ini =>
   intro i j p y;obtain rfl:i=0:=by omega
   obtain rfl:j=1:=by omega
   rw[Nat.add_zero];exact L
 case fin =>
   rintro v k ⟨rfl,rfl,d⟩;rw[show max (1+1) a=a by omega] at d ⊢;exact⟨rfl,a,rfl,by omega,Qi _,d⟩
 case step =>
   rintro x v k V D ⟨rfl,rfl,d⟩;dsimp only;refine Qp (zB4 c b (by omega) (by omega) ?_);cases e:lt (at' ar (lo+x)) (at' ar (lo+x-1)) with
   | true =>
     dsimp only;rw[Ql rfl,Qh (by decide)];refine Qx ⟨rfl,rfl,fun i j p y=>?_⟩;rcases QW j x with z | z
     . exact d i j p z
     . obtain rfl:j=x:=by omega
       rcases QW i (j-1) with q | q
       . have H:=d i (j-1) q (by omega)
         rw[show lo+(j-1)=lo+j-1 by omega] at H;exact c.tr _ _ _ e H
       . rw[show lo+i=lo+j-1 by omega]
         exact e
   | false =>
     dsimp only;rw[Qh (by decide)];have S:lt (at' ar (lo+x-1)) (at' ar (lo+x))=true:=(apart c b (by omega) (by omega) (by omega)).resolve_right (by rw[e];decide);refine Qp (zB4 c b (by omega) (by omega) ?_);rw[S];dsimp only;rw[Ql rfl];exact Qx ⟨rfl,x,rfl,by omega,by omega,d⟩
 case post =>
   rintro v k ⟨rfl,x,rfl,W,D,d⟩;dsimp only;rw[Qh (by decide),reverseSlice'_eq];refine Qp (wpS_modify ?_);have r:(mirror ar lo (lo+x) ((lo+x-lo) / 2)).toList.Perm T:=.trans (Array.perm_iff_toList_perm.mp (mirror_perm _ _ _ _)) b;have J:zO2 lo ar (mirror ar lo (lo+x) ((lo+x-lo) / 2)):=fun i X=>by
     rw[getElem?_mirror_all (by omega),Qh (by omega)]
   have U:(mirror ar lo (lo+x) ((lo+x-lo) / 2)).size=ar.size:=mirror_size _ _ _ _;have F:Up lt (mirror ar lo (lo+x) ((lo+x-lo) / 2)) lo x:=fun i j p y=>by
     rw[zO0 (by omega),zO0 (by omega),Ql (by omega),Ql (by omega)];have:=d (x-1-j) (x-1-i) (by omega) (by omega);rw[show lo+(lo+x)-1-(lo+i)=lo+(x-1-i) by omega,show lo+(lo+x)-1-(lo+j)=lo+(x-1-j) by omega];exact this
   show wpS M A E s _ Q (SortSt.mk' κ (mirror ar lo (lo+x) ((lo+x-lo) / 2)) pd g none);generalize mirror ar lo (lo+x) ((lo+x-lo) / 2)=t at r J U F ⊢;refine Qp (yp9 (ar:=t) (lo:=lo) c r (fun x n R l f u w=>?_) (by omega) (by omega) D F fun n l f N _=>?_)
   . dsimp only
     refine Qp (zB4 c r (by omega) (by omega) ?_);cases e:lt (at' t (lo+n)) (at' t (lo+n-1)) with
     | true=>dsimp only;rw[Ql rfl];exact Qx (u e)
     | false=>dsimp only;rw[Qh (by decide)];exact Qx (w e)
   . exact Qx (h n t r J (by omega) f N)
theorem bubble_up {a:Array Keyed}{lo k l:Nat}(m:lo+k<a.size)(h:l<=k)(b:Up lt a lo k)(e:∀i,i<l->lt (at' a (lo+i)) (at' a (lo+k))=true)(f:∀i,l<=i->i<k->lt (at' a (lo+k)) (at' a (lo+i))=true) :
   Up lt (bubble a (lo+k) (lo+k-(lo+l))) lo (k+1):=by
 intro i j d n;rw[zO1 (by omega) (by omega),zO1 (by omega) (by omega),show lo+k-(lo+k-(lo+l))=lo+l by omega];by_cases g:i<l
 . rw[Qh (by omega),Qh (by omega)]
   by_cases c:j=l
   . subst c
     rw[Ql rfl];exact e i g
   . rw[Qh (by omega)]
     by_cases o:j<l
     . rw[Qh (by omega)]
       exact b i j d (by omega)
     . rw[Ql (by omega),show lo+j-1=lo+(j-1) by omega]
       exact b i (j-1) (by omega) (by omega)
 . by_cases c:i=l
   . subst c
     rw[Ql rfl,Qh (by omega),Ql (by omega),show lo+j-1=lo+(j-1) by omega];exact f (j-1) (by omega) (by omega)
   . rw[Qh (by omega),Ql (by omega),Qh (by omega),Ql (by omega),show lo+i-1=lo+(i-1) by omega,show lo+j-1=lo+(j-1) by omega]
     exact b (i-1) (j-1) (by omega) (by omega)
theorem wp_bin {lo n ok:Nat}{Q:Bool->SortSt->Prop}(c:Cmp M A s κ lt T)(L:ar.toList.Perm T)(Y:lo+n<=ar.size)(U:ok<=n)(N:Up lt ar lo ok)
   (h:∀o,o.toList.Perm T->zO2 lo ar o->Up lt o lo n->Q true (SortSt.mk' κ o pd g none)):wpS M A E s (binarySort' lo n ok) Q (SortSt.mk' κ ar pd g none):=by
 rw[binarySort'_eq]
 refine Qp (wpS_mono (wpS_forRange (I:=fun k v d=>v=(none,())/\∃a,d=SortSt.mk' κ a pd g none/\a.toList.Perm T/\a.size=ar.size/\zO2 lo ar a/\Up lt a lo (min k n))
   (Q:=fun v d=>v=(none,())/\∃a,d=SortSt.mk' κ a pd g none/\a.toList.Perm T/\zO2 lo ar a/\Up lt a lo n) ?step ?fin ⟨rfl,ar,rfl,L,rfl,fun _ _=>rfl,fun i j J Z=>N i j J (by omega)⟩) ?post)
 case post =>
   rintro v d ⟨rfl,a,rfl,t,B,u⟩;exact Qx (h a t B u)
 case fin =>
   rintro v d ⟨rfl,a,rfl,t,B,u,C⟩;rw[show min (max (max ok 1) n) n=n by omega] at C;exact⟨rfl,a,rfl,t,u,C⟩
 case step =>
   rintro k v d V W ⟨rfl,a,rfl,q,O,P,p⟩;rw[show min k n=k by omega] at p
   refine Qp (wpS_mono (wpS_forRange (I:=fun x v b=>b=SortSt.mk' κ a pd g none/\∃l r,v=(none,l,r)/\l<=r/\r<=k/\r-l<=k-x ∧
       (∀i,i<l->lt (at' a (lo+i)) (at' a (lo+k))=true)/\(∀i,r<=i->i<k->lt (at' a (lo+k)) (at' a (lo+i))=true))
     (Q:=fun v b=>b=SortSt.mk' κ a pd g none/\∃l r,v=(none,l,r)/\l<=k ∧
       (∀i,i<l->lt (at' a (lo+i)) (at' a (lo+k))=true)/\(∀i,l<=i->i<k->lt (at' a (lo+k)) (at' a (lo+i))=true)) ?istep ?ifin ⟨rfl,0,k,rfl,by omega,by omega,by omega,fun i D=>by omega,fun i F G=>by omega⟩) ?ipost)
   case ifin =>
     rintro v b ⟨rfl,l,r,rfl,R,w,S,f,m⟩;obtain rfl:l=r:=by omega
     exact⟨rfl,l,l,rfl,w,f,m⟩
   case istep =>
     rintro x v b _ X ⟨rfl,l,r,rfl,R,w,S,f,m⟩;dsimp only;by_cases y:l≥r
     . rw[Ql y]
       obtain rfl:l=r:=by omega
       exact Qx ⟨rfl,l,l,rfl,w,f,m⟩
     . rw[Qh y]
       refine Qp (zB4 c q (by omega) (by omega) ?_);cases e:lt (at' a (lo+k)) (at' a (lo+(l+r) / 2)) with
       | true =>
         dsimp only;rw[Ql rfl];refine Qx ⟨rfl,l,(l+r) / 2,rfl,by omega,by omega,by omega,f,fun i F G=>?_⟩;rcases QW ((l+r) / 2) i with z | z
         . exact c.tr _ _ _ e (p _ i z G)
         . obtain rfl:i=(l+r) / 2:=by omega
           exact e
       | false =>
         dsimp only;rw[Qh (by decide)];have H:lt (at' a (lo+(l+r) / 2)) (at' a (lo+k))=true:=(apart c q (by omega) (by omega) (by omega)).resolve_right (by rw[e];decide);refine Qx ⟨rfl,(l+r) / 2+1,r,rfl,by omega,by omega,by omega,fun i F=>?_,m⟩;rcases QW i ((l+r) / 2) with z | z
         . exact c.tr _ _ _ (p i _ z (by omega)) H
         . obtain rfl:i=(l+r) / 2:=by omega
           exact H
   case ipost =>
     rintro v b ⟨rfl,l,r,rfl,K,f,m⟩;show wpS M A E s (do moveDown' (lo+k) (lo+l);pure (ForInStep.yield (none,()))) _ _;rw[moveDown'_eq];refine Qp (wpS_modify (Qx ⟨rfl,bubble a (lo+k) (lo+k-(lo+l)),rfl,.trans (Array.perm_iff_toList_perm.mp (bubble_perm _ _ _)) q,(bubble_size _ _ _).trans O,fun i D=>?_,?_⟩))
     . rw[getElem?_bubble (by omega) _ (by omega),Qh (by omega),Qh (by omega)]
       exact P i D
     . rw[show min (k+1) n=k+1 by omega]
       exact bubble_up (by omega) K p f m
end
section
variable {M:Model} {A:Around} {E:VP} {s:Shared} {κ:SortKind} {lt:Keyed->Keyed->Bool} {T:List Keyed}
theorem zT4 {n:Array Keyed}{d:Array (Nat×Nat×Nat)}{g i:Nat}{q:List (List Keyed)}{rest:List Keyed}{Q:Bool->SortSt->Prop}(c:Cmp M A s κ lt T)(v:n.toList.Perm T)(G:Rn lt 0 d.toList q)
   (H:n.toList=q.flatten++rest) (X:i+1<d.size)
   (h:∀j k r o,j.toList.Perm T->Rn lt 0 k.toList o->j.toList=o.flatten++rest->k.size+1=d.size->o.flatten.length=q.flatten.length->Q true (SortSt.mk' κ j k r none)) :
   wpS M A E s (mergeAt' i) Q (SortSt.mk' κ n d g none):=by
 obtain⟨pre,a,b,post,t,I⟩:∃pre a b post,d.toList=pre++a::b::post/\pre.length=i:=by
   refine⟨d.toList.take i,d.toList[i]'(by simp;omega),d.toList[i+1]'(by simp;omega),d.toList.drop (i+2),?_,by simp;omega⟩;rw[<-List.drop_eq_getElem_cons,<-List.drop_eq_getElem_cons,Zd]
 have u:=G;rw[t] at u;obtain⟨l,J,K,Y,L,f⟩:=Rn.split pre u;obtain⟨sa,Z,pa⟩:=a;obtain⟨sb,nb,pb⟩:=b
 match J,f with
 | [],f=>exact f.elim
 | [_],f=>exact f.2.2.2.2.elim
 | Aa::Bb::lr,f =>
   obtain⟨w,N,x,O,y,P,R,S,B⟩:=f;rw[Nat.zero_add] at w y B;subst w N y P K;have p:n.toList=l.flatten++(Aa++(Bb++(lr.flatten++rest))):=by rw[H];simp
   refine wp_mergeAt (pre:=pre) (post:=post) (c.perm (T':=l.flatten++(Aa++(Bb++(lr.flatten++rest)))) (p▸v)) p t I.symm x R O S fun j k r C D F m U=>?_
   refine h j k r (l++C::lr) ?_ ?_ ?_ ?_ ?_
   . rw[F]
     refine .trans ?_ (p▸v);refine List.Perm.append_left _ ?_;rw[<-Zc Aa];exact List.Perm.append_right _ m
   . rw[D]
     refine Rn.join L ⟨by simp,by rw[m.length_eq];simp,fun z=>?_,U,?_⟩
     . have:=m.length_eq
       rw[z] at this;have z3:=ZL.mpr x;simp at this;omega
     . have e:0+l.flatten.length+C.length=l.flatten.length+Aa.length+Bb.length:=by rw[m.length_eq];simp;omega
       rw[e];exact B
   . rw[F];simp
   . have V:=congrArg List.length D
     have W:=congrArg List.length t;simp at V W;omega
   . have:=m.length_eq
     simp at this ⊢;omega
theorem Rn.power {f:Nat}{c:Nat}:∀ {b:List (Nat×Nat×Nat)} {a:List (List Keyed)} (k:Nat),Rn lt f b a->Rn lt f (b.modify k fun x=>(x.1,x.2.1,c)) a
 | [],a,k,h=>by cases k<;>exact h
 | _::_,[],k,h=>h.elim
 | (s,n,w)::b,l::a,0,h=>h
 | (s,n,w)::b,l::a,k+1,h=>⟨h.1,h.2.1,h.2.2.1,h.2.2.2.1,Rn.power (f:=f+l.length) k h.2.2.2.2⟩
theorem below_take {lo:Nat}{ar a:Array Keyed}(h:zO2 lo ar a)(hs:a.size=ar.size):a.toList.take lo=ar.toList.take lo:=by
 apply List.ext_getElem?;intro i;rcases QW i lo with z | z
 . rw[List.getElem?_take_of_lt z,List.getElem?_take_of_lt z,QN,QN]
   exact h i z
 . rw[Zt (by simp;omega),Zt (by simp;omega)]
theorem up_pairwise {ar:Array Keyed}{lo n:Nat}(c:Up lt ar lo n)(g:lo+n<=ar.size):((ar.toList.drop lo).take n).Pairwise (LtR lt):=by
 refine QR.mpr fun i j d e a=>?_
 have f:i<n:=by simp at d;omega
 have b:j<n:=by simp at e;omega
 have:=c i j a b;rw[<-zw3 (by omega),<-zw3 (by omega)] at this;show lt _ _=true;simpa using this
section
variable (κ:SortKind) (lt:Keyed->Keyed->Bool) (ar:Array Keyed)
inductive RnA (n:Nat):Option Unit×Nat->SortSt->Prop
 | mk (br:Array Keyed)(pd:Array (Nat×Nat×Nat))(g lo:Nat)(ls:List (List Keyed))(rest:List Keyed)(hT:br.toList.Perm ar.toList)(hR:Rn lt 0 pd.toList ls)(hL:br.toList=ls.flatten++rest)(hlo:ls.flatten.length=lo)(hx:n<=lo):RnA n (none,lo) (SortSt.mk' κ br pd g none)
inductive RnQ:Option Unit×Nat->SortSt->Prop
 | mk (br:Array Keyed)(pd:Array (Nat×Nat×Nat))(g:Nat)(ls:List (List Keyed))(n:Nat)(hT:br.toList.Perm ar.toList)(hR:Rn lt 0 pd.toList ls)(hL:br.toList=ls.flatten):RnQ (none,n) (SortSt.mk' κ br pd g none)
inductive RnM (tl:List Keyed)(lo:Nat):Option Unit×Unit->SortSt->Prop
 | mk (br:Array Keyed)(pd:Array (Nat×Nat×Nat))(g:Nat)(ls:List (List Keyed))(hT:br.toList.Perm ar.toList)(hR:Rn lt 0 pd.toList ls)(hL:br.toList=ls.flatten++tl)(h:ls.flatten.length=lo):RnM tl lo (none,()) (SortSt.mk' κ br pd g none)
inductive RnE (p:Nat->Prop):Option Unit×Unit->SortSt->Prop
 | mk (br:Array Keyed)(pd:Array (Nat×Nat×Nat))(g:Nat)(ls:List (List Keyed))(hT:br.toList.Perm ar.toList)(hR:Rn lt 0 pd.toList ls)(hL:br.toList=ls.flatten++[])(h:p pd.size):RnE p (none,()) (SortSt.mk' κ br pd g none)
inductive RnS (ls:List (List Keyed))(br:Array Keyed)(n:Nat):Prop
 | mk (run rest':List Keyed)(hT:br.toList.Perm ar.toList)(g1:run.length=n)(g2:run≠[])(g3:run.Pairwise (LtR lt))(g4:br.toList=ls.flatten++(run++rest'))
end
theorem wp_sortRuns {ar:Array Keyed}{Q:Unit->SortSt->Prop}(c:Cmp M A s κ lt ar.toList)
   (a7:∀h r g,h.toList.Perm ar.toList->h.toList.Pairwise (LtR lt)->Q () (SortSt.mk' κ h r g none)):wpS M A E s sortRuns' Q (SortSt.mk' κ ar #[] 7 none):=by
 rw[sortRuns'_eq];refine Qp (wpS_get ?_)
 try dsimp only
 have e0:(arrOf (SortSt.mk' κ ar #[] 7 none)).size=ar.size:=rfl;simp only[e0];generalize minRun' ar.size ar.size 0=mr
 refine Qp (wpS_mono (wpS_forRange
   (RnA κ lt ar) (Q:=RnQ κ lt ar) ?step ?fin (.mk ar #[] 7 0 [] ar.toList (.refl _) trivial rfl rfl (Qi _))) ?post)
 case fin =>
   rintro _ _ ⟨h,r,g,d,t,H,o,w,p,D,hx⟩;refine .mk h r g t _ o w ?_;have z1:=o.length_eq;have J:=congrArg List.length p;rw[Qq] at J;simp only[Qv] at z1 J;have:H.length=0:=by omega
   rw[QC this,Zz] at p;exact p
 case step =>
   rintro x _ _ _ hx ⟨h,r,g,d,t,H,o,w,p,D,a9⟩;have hs:h.size=ar.size:=by simpa using o.length_eq
   have hl:h.size=d+H.length:=by
     have:=congrArg List.length p;rw[Qq,D] at this;simpa using this
   refine zf8 (fun F=>?_) fun F=>?_
   . refine Qx (RnQ.mk h r g t _ o w ?_)
     have aa:d≥ar.size:=F;have:H.length=0:=by omega
     rw[QC this,Zz] at p;exact p
   replace F:¬ d≥ar.size:=F;refine Qp (wp_count c o (by omega) (by omega) fun m N I O a2 a6 P=>?_);dsimp only;have a3:N.size=h.size:=by have:=I.length_eq.trans o.length_eq.symm;simpa using this
   have L:∀(n:Nat) (i:Array Keyed),i.toList.Perm ar.toList->zO2 d h i->i.size=h.size->1<=n->d+n<=ar.size->Up lt i d n->RnS lt ar t i n:=fun n i y T U ab ac V=>by
     refine .mk ((i.toList.drop d).take n) ((i.toList.drop d).drop n) y (by simp;omega) (fun z=>?_) (up_pairwise V (by omega)) ?_
     . have:=congrArg List.length z
       simp at this;omega
     . rw[Zd]
       have a8:=below_take T U;have e':h.toList.take d=t.flatten:=by rw[p,<-D,List.take_append_of_le_length (Qi _),QS]
       rw[<-e',<-a8,Zd]
   refine zN8 (R:=?R) (S:=RnS lt ar t) (fun fin1=>?main) ?fin1
   case main =>
     refine zf8 (fun h2=>?_) fun h2=>?_
     . refine Qp (wpS_lift (wpAny_rule ⟨rfl,?_⟩))
       refine Qp (wp_bin c I (by omega) (by omega) P fun i y T V=>?_);have U:i.size=h.size:=by have:=y.length_eq.trans o.length_eq.symm;simpa using this
       have a4:=L (min (ar.size-d) mr) i y (fun a5 hi=>(T a5 hi).trans (O a5 hi)) U (by omega) (by omega) V;rw[Qh (by decide)];generalize min (ar.size-d) mr=n at a4 ⊢;exact fin1 i n a4
     . exact fin1 N m (L m N I O a3 a2 (by omega) P)
   case fin1 =>
     clear L a3 O P I a2 a6 F hl hs o p;rintro i n ⟨v,G,y,rfl,g2,u,g4⟩;refine Qp (wpS_get ?_)
     try dsimp only
     have a1:∀(b:Array Keyed) (a:Array (Nat×Nat×Nat)) (u:Nat) (f:List (List Keyed)),b.toList.Perm ar.toList->Rn lt 0 a.toList f->b.toList=f.flatten++(v++G)->f.flatten.length=d →
         RnA κ lt ar (x+1) (none,d+v.length) (SortSt.mk' κ b (a.push (d,v.length,0)) u none):=fun b a B f j e l q=>by
       refine .mk b _ B _ (f++[v]) G j ?_ (by rw[l];simp) (by simp[<-q]) ?_
       . rw[Array.toList_push]
         refine Rn.join e ⟨by rw[q];omega,rfl,g2,u,trivial⟩
       . have:0<v.length:=ZL.mpr g2
         omega
     cases eb:r.back? with
     | none =>
       refine Qp (wpS_modify (Qx ?_));exact a1 i r g t y w g4 D
     | some last =>
       obtain⟨s1,n1,K⟩:=last;dsimp only;generalize power' ar.size (2*s1+n1) (2*s1+n1+n1+v.length) ar.size=pw
       refine Qp (wpS_mono (wpS_forRange
         (fun _=>RnM κ lt ar (v++G) d) (Q:=RnM κ lt ar (v++G) d) ?stepM (fun _ _ z=>z) (.mk i r g t y w g4 D)) ?postM)
       case stepM =>
         rintro a0 _ _ _ hy ⟨b,a,B,f,j,e,l,q⟩;refine Qp (wpS_get ?_)
         try dsimp only
         by_cases C:a.size>1
         . rw[Ql C,Zl a (a.size-2) (by omega)]
           refine zf8 (fun h4=>?_) fun h4=>?_
           . exact Qx (RnM.mk b a B f j e l q)
           . refine Qp (zT4 c j e l (show a.size-2+1<a.size by omega) fun W X Y Z K w2 w3 w4 w5=>?_)
             rw[Qh (by decide)];exact Qx (RnM.mk W X Y Z K w2 w3 (w5.trans q))
         . rw[Qh C]
           exact Qx (RnM.mk b a B f j e l q)
       case postM =>
         rintro _ _ ⟨b,a,B,f,j,e,l,q⟩;refine Qp (wpS_modify (Qp (wpS_modify (Qx ?_))));exact a1 b (a.modify (a.size-1) fun x=>(x.1,x.2.1,pw)) B f j (by rw[Array.toList_modify];exact e.power _) l q
 case post =>
   rintro _ _ ⟨h,r,g,t,n,o,w,p⟩;dsimp only;have hz:r.size<=ar.size:=by
     have z1:=w.len;have J:=congrArg List.length p;have z3:=o.length_eq;simp only[Qv] at z1 J z3;omega
   refine Qp (wpS_mono (wpS_forRange
     (fun a0=>RnE κ lt ar fun k=>k<=1\/k+a0<=ar.size) (Q:=RnE κ lt ar fun k=>k<=1) ?stepE ?finE (.mk h r g t o w (by simpa using p) (.inr (by omega)))) ?postE)
   case finE =>
     rintro _ _ ⟨b,a,u,f,j,e,l,q⟩;exact .mk b a u f j e l (by omega)
   case stepE =>
     rintro a0 _ _ _ hy ⟨b,a,u,f,j,e,l,q⟩;refine Qp (wpS_get ?_)
     try dsimp only
     refine zf8 (fun C=>?_) fun C=>?_
     . exact Qx (RnE.mk b a u f j e l C)
     have e1:(pendingOf (SortSt.mk' κ b a u none)).size=a.size:=rfl;simp only[e1] at C ⊢;generalize(Option.any _ _:Bool)=tt
     refine Qp (zT4 c j e l (by split<;>omega) fun W X Y Z K w2 w3 w4 w5=>?_);rw[Qh (by decide)];exact Qx (RnE.mk W X Y Z K w2 w3 (by omega))
   case postE =>
     rintro _ _ ⟨b,a,u,f,j,e,l,q⟩;refine Qx (a7 b a u j ?_);rw[l];have z:=e.len.1
     match a,f,e with
     | ⟨[]⟩,[],_=>simp
     | ⟨[(_,_,_)]⟩,[ad],e=>simpa using e.2.2.2.1
     | ⟨_::_::_⟩,_,_=>simp at q
     | ⟨[_]⟩,_::_::_,_=>simp at z
end
end Sx
namespace Sx
open PySem PySem.W PySem.Calls PyProof.Rows
def RawD (h:Heap)(d:Addr)(es:Array DictEntry)(ep:Nat):Prop:=∃o,h.get? d=some o/\o.ExactDict/\o.data = .dict es ep
section
variable {prog:Program} {w:World} {A:Around} {E:VP} {s:Shared} {d it:Addr} {es:Array DictEntry} {ep i:Nat}
theorem RawD.typeIs (x:RawD s.heap d es ep):s.TypeIs (.ref d) "dict":=by
 obtain⟨o,a,b,_⟩:=x;exact⟨o,a,b.1⟩
theorem RawD.lt {h:Heap}(x:RawD h d es ep):d<h.objs.size:=let⟨_,a,_⟩:=x;Qr a
theorem RawD.at_ {h h':Heap}(x:RawD h d es ep)(e:∀o,h.get? d=some o->h'.get? d=some o):RawD h' d es ep:=let⟨o,a,r⟩:=x;⟨o,e o a,r⟩
theorem raw_iter {Q:VP}(f:(d == sysModules)=false)(c:RawD s.heap d es ep)
   (g:Q (.ref s.heap.objs.size) { s with heap:=s.heap.push { cls:=.type "dict_keyiterator",data:=.fields #[.ref d,.int 0 0,.int es.size 0,.int ep 0] } }):wpAny (model prog w) A (pyIter (.ref d)) Q E s:=by
 obtain⟨o,e,h,b⟩:=id c;have a:=c.typeIs;refine wpAny_pyIter_slot a F.slot_dict_iter (wpAny_call_entry F.slot_dict_iter a F.entry_dict_iter ?_ (F.args_dict_iter_1 _));unfold Builtin.«dict.__iter__»;refine Qa ?_;unfold Builtin.Dict.dictSlotNone;refine Qa (wpAny_notOrdered_dict a (Qd ?_));show wpAny _ _ (Builtin.Dict.showsAll d >>= _) _ _ s;unfold Builtin.Dict.showsAll;rw[Qh (by rw[f];exact Qu)];refine Qa (Qd (Qa (wpAny_dictEntries e b (Qa (wpAny_dictEpoch e b ?_)))));exact Qa (wpAny_newObj_type (Qd ⟨_,rfl,"dict_keyiterator",_,⟨_,Qj _ rfl,rfl⟩,F.slot_dict_keyiterator_next.lookup,g⟩))
theorem raw_next {Q:Option Value->Shared->Prop}(g:s.heap.IsKeyIter it d i es.size ep)(k:RawD s.heap d es ep)(l:i<es.size)
   (m:∀c,c.IsKeyIter it d (i+1) es.size ep->Heap.SameBut it s.heap c->Q (some es[i].key) { s with heap:=c }):wpAny (model prog w) A (pyNext (.ref it)) Q E s:=by
 obtain⟨o,e,n,b⟩:=id g;obtain⟨q,h,p,j⟩:=id k;have a:=g.typeIs;unfold pyNext
 refine Qa (wpAny_attempt (wpAny_callSpecial?_slot (name:=Str.ofString "__next__") a F.slot_dict_keyiterator_next
   (wpAny_call_entry F.slot_dict_keyiterator_next a F.entry_dict_keyiterator_next ?_ (F.args_dict_keyiterator_next_1 _))))
 refine Qa (Qd (Qa (Qa ?_)))
 first | refine Qa (wpAny_typeNameOfWhole_keyiter a (Qd ?_)) | refine Qa (wpAny_typeNameOf_keyiter a (Qd ?_))
 refine Qa (wpAny_fieldsOf e b ?_);simp only[show Builtin.Dict_items.ownsTuple "dict_keyiterator" = false by decide,Ze,if_false];show wpAny _ _ (if (Value.ref d == Value.none)=true then _ else _) _ _ s;rw[Qh (show ¬ ((Value.ref d == Value.none)=true) from Qu)];refine Qa (Qd (Qa (wpAny_dictEntries h j ?_)));rw[Qh (by simp)];refine Qa (Qd (Qa (wpAny_dictEpoch h j ?_)));rw[Qh (by simp)];refine Qd ?_;simp only[show ¬ ((i:Int)<0) from by omega,if_false,QZ,Array.getElem?_eq_getElem l];refine Qa ?_
 first | refine Qa (wpAny_typeNameOfWhole_keyiter a (Qd ?_)) | refine Qa (wpAny_typeNameOf_keyiter a (Qd ?_))
 refine Qa (wpAny_isOneOf_keyiter a ?_);show wpAny _ _ (setField (.ref it) 1 (rawInt ((i:Int)+1)) >>= _) _ _ s;refine Qa (wpAny_setField e b (by simp) ?_);have f:(s.heap.update it (Obj.mapFields (·.setIfInBounds 1 (rawInt ((i:Int)+1))))).IsKeyIter it d (i+1) es.size ep :=
   ⟨_,Zu _ e (Obj.isFreed_of_fields (Obj.data_mapFields b _)),(Obj.cls_mapFields ..).trans n,by rw[Obj.data_mapFields b];simp[rawInt]⟩
 refine Qa (wpAny_holding (Qa (wpAny_isOneOf_keyiter (s:={ s with heap:=s.heap.update it (Obj.mapFields (·.setIfInBounds 1 (rawInt ((i:Int)+1)))) }) f.typeIs ?_)));show wpAny _ _ (pure es[i].key) _ _ _;exact Qd (Qd ⟨_,rfl,Qd (m _ f (Heap.SameBut.update ..))⟩)
theorem raw_end {Q:Option Value->Shared->Prop}(k:A.handled=none)(e:s.heap.IsKeyIter it d es.size es.size ep)(l:RawD s.heap d es ep)
   (n:∀h,Heap.ExtBut it s.heap h->Q none { s with heap:=h }):wpAny (model prog w) A (pyNext (.ref it)) Q E s:=by
 obtain⟨o,i,q,j⟩:=id e;obtain⟨r,f,p,g⟩:=id l;have c:=e.typeIs;unfold pyNext
 refine Qa (wpAny_attempt (wpAny_callSpecial?_slot (name:=Str.ofString "__next__") c F.slot_dict_keyiterator_next
   (wpAny_call_entry F.slot_dict_keyiterator_next c F.entry_dict_keyiterator_next ?_ (F.args_dict_keyiterator_next_1 _))))
 refine Qa (Qd (Qa (Qa ?_)))
 first | refine Qa (wpAny_typeNameOfWhole_keyiter c (Qd ?_)) | refine Qa (wpAny_typeNameOf_keyiter c (Qd ?_))
 refine Qa (wpAny_fieldsOf i j ?_);simp only[show Builtin.Dict_items.ownsTuple "dict_keyiterator" = false by decide,Ze,if_false];show wpAny _ _ (if (Value.ref d == Value.none)=true then _ else _) _ _ s;rw[Qh (show ¬ ((Value.ref d == Value.none)=true) from Qu)];refine Qa (Qd (Qa (wpAny_dictEntries f g ?_)));rw[Qh (by simp)];refine Qa (Qd (Qa (wpAny_dictEpoch f g ?_)));rw[Qh (by simp)];refine Qd ?_;simp only[show ¬ ((es.size:Int)<0) from by omega,if_false,QZ,Array.getElem?_eq_none (Qi es.size)];refine Qa ?_
 first | refine Qa (wpAny_typeNameOfWhole_keyiter c (Qd ?_)) | refine Qa (wpAny_typeNameOf_keyiter c (Qd ?_))
 show wpAny _ _ (setField (.ref it) 0 .none >>= _) _ _ s;refine Qa (wpAny_setField i j (by simp) ?_);show wpAny _ _ (newExc (.type "StopIteration") [] >>= _) _ _ _;refine Qa ?_;simp only[newExc,newTuple];refine Qa (wpAny_newObj_type ?_ (by size_fits));refine Qa (m:=firstArgMember _ _) (wpAny_of_eq (a:=Value.none) (by first | rfl | (simp only[firstArgMember];rfl)) ?_);refine wpAny_newObj_type ?_ (by size_fits);simp only[raiseNew];refine Qa (wpAny_handled ?_);rw[show A.in1.handled=none from k];refine Qa (Qd (wpAny_throw ?_));refine Qa (wpAny_isInstance (T:="StopIteration") (b:=true) ⟨_,Qj _ rfl,rfl⟩ isSubtype_stop ?_);exact Qd (n _ (((Heap.SameBut.update ..).extBut.push _).push _))
theorem raw_walks (q:A.handled=none)(I d:Addr)(n:d≠I)(es:Array DictEntry)(ep:Nat) :
   Walks prog w A I [I,d] [I] es.size (fun i v=>∃h:i<es.size,v=es[i].key) (fun i h=>h.IsKeyIter I d i es.size ep/\RawD h d es ep) where
 sub:=fun b c=>by simp at c;simp[c]
 frame:=fun _ _ _ a k=>⟨let⟨o,t,r⟩:=a.1;⟨o,k I (by simp) o t,r⟩,a.2.at_ fun o e=>k d (by simp) o e⟩
 item:=fun i s Q E l a f=>raw_next a.1 a.2 l fun g m j=>f _ g s.toks ⟨l,rfl⟩ ⟨m,a.2.at_ fun o e=>j.extBut d o n e⟩ fun b o c e=>j.extBut b o (fun h=>c (by simp[h])) e
 done:=fun s Q E a f=>raw_end q a.1 a.2 fun g p=>f g s.toks fun b o c e=>p b o (fun h=>c (by simp[h])) e
 self:=fun _ _ _ _ a f=>wpAny_pyIter_keyiter a.1 f
theorem raw_src (lo:(d == sysModules)=false):KdlSrc prog w "dict" d d es.size (fun i v=>∃h:i<es.size,v=es[i].key) (fun h=>RawD h d es ep) where
 type:=fun _ a=>a.typeIs
 there:=fun _ a=>⟨a.lt,a.lt⟩
 keep:=fun _ _ a c=>a.at_ fun o e=>c d (.inl rfl) o e
 notList:=by decide
 notTuple:=by decide
 hint:=fun _ _ _ _ a b=>kdl_hint_dict a.typeIs b
 iter:=fun _ _ f a=>⟨_,_,(fun _ _ b=>raw_iter lo a b),raw_walks f _ d (QF a.lt) es ep,⟨⟨_,Qj _ rfl,rfl,rfl⟩,a.at_ fun o e=>Qc _ e⟩⟩
theorem raw_collect {R:List Value->Shared->Prop}(lo:(d == sysModules)=false)(k:A.handled=none)(l:RawD s.heap d es ep)(m:es.size<=sizeLine)
   (h:∀(c:Heap) (g:Nat),(∀b o,s.heap.get? b=some o->c.get? b=some o)->R (es.toList.map (·.key)) { s with heap:=c,toks:=g }):wpAny (model prog w) A (collect (.ref d)) R E s :=
 kdu_collect (raw_src (ep:=ep) (es:=es) lo) k l m fun c g a n f=>by
   have e:a.toList=es.toList.map (·.key):=by
     apply List.ext_getElem?;intro j;rcases QW j es.size with z | z
     . have i:j<a.size:=by rw[f.1];exact z
       obtain⟨_,q⟩:=f.2 j a[j] (Zl a j i);rw[QN,Zl a j i,QP,QN,Zl es j z,q];rfl
     . rw[Zt (by rw[Qv,f.1];exact z),Zt (by simpa using z)]
   rw[e];exact h c g n
end
noncomputable def lexB:List Int->List Int->Bool
 | [],[]=>false
 | [],_::_=>true
 | _::_,[]=>false
 | a::l,b::m=>if a=b then lexB l m else decide (a<b)
theorem yj3:∀ {x y z:List Int},lexB x y=true->lexB y z=true->lexB x z=true
 | [],[],_,h,_=>nomatch h
 | [],_::_,[],_,h=>nomatch h
 | [],_::_,_::_,_,_=>rfl
 | _::_,[],_,h,_=>nomatch h
 | _::_,_::_,[],_,h=>nomatch h
 | a::x,b::y,c::z,h,h'=>by
   unfold lexB at h h' ⊢;by_cases e:a=b
   . subst e
     rw[Ql rfl] at h;by_cases d:a=c
     . subst d
       rw[Ql rfl] at h' ⊢;exact yj3 h h'
     . rw[Qh d] at h' ⊢
       exact h'
   . rw[Qh e] at h
     have f:a<b:=by simpa using h
     by_cases d:b=c
     . subst d
       rw[Qh e];exact h
     . rw[Qh d] at h'
       have g:b<c:=by simpa using h'
       rw[Qh (by omega)];simp;omega
theorem lexB_as:∀ {x y:List Int},lexB x y=true->lexB y x=false
 | [],[],h=>nomatch h
 | [],_::_,_=>rfl
 | _::_,[],h=>nomatch h
 | a::x,b::y,h=>by
   unfold lexB at h ⊢;by_cases e:a=b
   . subst e
     rw[Ql rfl] at h ⊢;exact lexB_as h
   . rw[Qh e] at h
     have c:a<b:=by simpa using h
     rw[Qh (by omega)];simp;omega
theorem yj4:∀ {x y:List Int},x≠y->lexB x y=true\/lexB y x=true
 | [],[],h=>absurd rfl h
 | [],_::_,_=>.inl rfl
 | _::_,[],_=>.inr rfl
 | a::x,b::y,h=>by
   unfold lexB;by_cases e:a=b
   . subst e
     rw[Ql rfl,Ql rfl];exact yj4 fun z=>h (by rw[z])
   . rw[Qh e,Qh (Ne.symm e)]
     simp;omega
theorem L2P {c d:Type}{F G:c->d->Prop}{l:List c}{m:List d}(r:Paired F l m)(f:∀a b,F a b->G a b):Paired G l m:=by
 induction r with
 | nil=>exact .nil
 | cons x _ e=>exact .cons (f _ _ x) e
noncomputable def rowOf (h:Heap):Value->List Int
 | .ref a=>match h.get? a with
   | some o=>match o.data with
     | .seq xs _=>xs.toList.map numOf
     | _=>[]
   | none=>[]
 | _=>[]
def RowIs (h:Heap) (v:Value) (k:List Int):Prop:=∃a o xs n,v = .ref a/\h.get? a=some o/\o.cls = .type "tuple"/\o.data = .seq xs n/\IntsAre xs.toList k
theorem ints_nums {vs:List Value}{ns:List Int}(h:IntsAre vs ns):vs.map numOf=ns:=by
 induction h with
 | nil=>rfl
 | cons _ _ _ a=>rw[QL,a];rfl
theorem RowIs.row {h:Heap}{v:Value}{k:List Int}(x:RowIs h v k):rowOf h v=k:=by
 obtain⟨a,o,e,n,rfl,b,f,c,d⟩:=x;unfold rowOf;dsimp only;rw[b];dsimp only;rw[c];exact ints_nums d
theorem RowIs.keep {h h':Heap} {v:Value} {k:List Int} (x:RowIs h v k) (d:∀b o,h.get? b=some o->o.cls = .type "tuple"->h'.get? b=some o):RowIs h' v k:=by
 obtain⟨a,o,e,n,rfl,f,c,g,i⟩:=x;exact⟨a,o,e,n,rfl,d a o f c,c,g,i⟩
section
variable {prog:Program} {w:World} {A:Around} {E:VP} {s:Shared}
theorem lex_int {b:Bool}{p q:Int}{t u:Tok}{i:Nat}{Q:Bool->Shared->Prop}(h:Q (decide (p<q)) s):wpAny (model prog w) A (oneLt' (b && i == 0) (.int p t) (.int q u)) Q E s:=by
 cases (b && i == 0) with
 | true=>exact oneLt_int h
 | false=>exact kat_one _ _ (PyProof.Rows.lt_int h)
theorem yq0 {b:Bool}{Q:Bool->Shared->Prop}:∀(a c:List Value) (k l:List Int) (i:Nat),IntsAre a k->IntsAre c l->Q (lexB k l) s->KatLex prog w A b (decide (k.length<l.length)) Q (a.zip c) i s
 | [],[],[],[],i,_,_,h=>by
   refine kat_nil ?_;exact h
 | [],y::c,[],m::l,i,_,_,h=>by
   refine kat_nil ?_;have e:decide (([]:List Int).length<(m::l).length)=true:=by simp
   rw[e];exact h
 | x::a,[],m::k,[],i,_,_,h=>by
   refine kat_nil ?_;have e:decide ((m::k).length<([]:List Int).length)=false:=by simp
   rw[e];exact h
 | x::a,y::c,m::k,n::l,i,hx,hy,h=>by
   obtain⟨t,rfl,d⟩:∃t,x = .int m t/\IntsAre a k:=by cases hx;exact⟨_,rfl,by assumption⟩
   obtain⟨u,rfl,f⟩:∃t,y = .int n t/\IntsAre c l:=by cases hy;exact⟨_,rfl,by assumption⟩
   show KatLex prog w A b _ Q ((Value.int m t,Value.int n u)::a.zip c) i s;refine kat_cons (wpAny_eqBool_int ?_);unfold lexB at h;by_cases e:m=n
   . subst e
     rw[Ql rfl] at h;rw[show(m == m)=true by simp];refine kat_yes ?_;have g:decide ((m::k).length<(m::l).length)=decide (k.length<l.length):=by simp
     rw[g];exact yq0 a c k l (i+1) d f h
   . rw[Qh e] at h
     rw[show(m == n)=false by simpa using e];exact kat_no (lex_int h)
 | [],_,_::_,_,_,h,_,_=>nomatch h
 | _::_,_,[],_,_,h,_,_=>nomatch h
 | _,[],_,_::_,_,_,h,_=>nomatch h
 | _,_::_,_,[],_,_,h,_=>nomatch h
theorem rows_lt {b:Bool}{x y:Value}{k l:List Int}{Q:Bool->Shared->Prop}(i:RowIs s.heap x k)(j:RowIs s.heap y l)(h:Q (lexB k l) s):wpAny (model prog w) A (keyLt' (tuples' b) x y) Q E s:=by
 obtain⟨a,o,m,n,rfl,p,u,q,d⟩:=i;obtain⟨v,z,r,B,rfl,f,t,g,c⟩:=j;refine kat_lt p q f g ?_;have e:decide (m.size<r.size)=decide (k.length<l.length):=by
   rw[<-d.length,<-c.length,Qv,Qv]
 rw[e];exact yq0 _ _ _ _ 0 d c h
theorem zF9:∀(a:List Value),a.zip a=a.map fun v=>(v,v)
 | []=>rfl
 | v::a=>by rw[List.zip_cons_cons,zF9 a];rfl
theorem rows_map {h:Heap}{vs:List Value}{a:List (List Int)}(r:Paired (RowIs h) vs a):vs.map (rowOf h)=a:=by
 induction r with
 | nil=>rfl
 | cons x _ b=>rw[QL,x.row,b]
theorem zG0 {h:Heap}{vs:List Value}{b:List (List Int)}(r:Paired (RowIs h) vs b):∀v∈vs,∃k∈b,RowIs h v k:=by
 induction r with
 | nil=>intro v a;cases a
 | cons x _ c =>
   intro v a;rcases Qn.mp a with rfl | a
   . exact⟨_,.head _,x⟩
   . obtain⟨k,d,y⟩:=c v a
     exact⟨k,.tail _ d,y⟩
theorem rows_tups {h:Heap}{vs:List Value}{d:List (List Int)}(r:Paired (RowIs h) vs d)(g:∀k∈d,k≠[]):∃fs,KatTups h vs fs/\fs.length=vs.length/\∀f∈fs,∃m t,f = .int m t:=by
 induction r with
 | nil=>exact⟨[],KatTups.nil,rfl,fun f b=>by cases b⟩
 | @cons v k vs d x _ p =>
   obtain⟨fs,e,l,q⟩:=p fun k s=>g k (.tail _ s)
   obtain⟨a,o,j,n,rfl,u,w,A,c⟩:=x;have z:=g k (.head _);obtain⟨m,t,B⟩:∃m t,j[0]?=some (.int m t):=by
     rw[<-QN];cases i:j.toList with
     | nil=>rw[i] at c;cases c;exact absurd rfl z
     | cons y C=>rw[i] at c;cases c;exact⟨_,_,rfl⟩
   refine⟨.int m t::fs,KatTups.cons u w A B e,by simp[l],fun f b=>?_⟩;rcases Qn.mp b with rfl | b
   . exact⟨m,t,rfl⟩
   . exact q f b
theorem yb9 (vs:List Value):(vs.map fun v=>((v,v):Keyed)).map (·.2)=vs:=by
 rw[ZC];exact List.map_id vs
theorem sort_rows {a:Addr} {vs:List Value} {u:List (List Int)} {n:Nat} {P:PySem.Fin->Shared->Prop} (q:s.heap.get? a=some (seqObj "list" vs.toArray n)) (R:vs.length<=sizeLine)
   (B:Paired (RowIs s.heap) vs u) (Y:2<=vs.length->∀k∈u,k≠[]) (S:u.Nodup)
   (a3:∀F d c,(∀b o,b≠a->s.heap.get? b=some o->F.get? b=some o)->F.get? a=some (seqObj "list" (List.toArray d) c)->d.Perm vs->d.Pairwise (fun x y=>lexB (rowOf s.heap x) (rowOf s.heap y)=true)->P (.done (.ret .none)) { s with heap:=F }) :
   wpAny (model prog w) A (Builtin.«list.sort» ⟨[.ref a],[]⟩) P E s:=by
 have ha:a<s.heap.objs.size:=Qr q;rw[list_sort_plain];refine Qa (listItems_at q rfl ?_);refine Qa (listUpdate_at q rfl ?_ (by rw[Qk];exact R) (QD _));obtain⟨C,N⟩:∃C,(s.heap.update a (Obj.mapSeq fun _=>(#[]:Array Value))).get? a=some (seqObj "list" #[] C):=⟨_,get?_update_seq q fun _=>#[]⟩;have k1:∀b o,b≠a->s.heap.get? b=some o->(s.heap.update a (Obj.mapSeq fun _=>(#[]:Array Value))).get? b=some o:=fun b o l e=>(Heap.get?_update_other _ _ (Ne.symm l)).trans e
 refine Qa (seqEpoch_at N rfl ?_);refine Qa (wpAny_newTuple ?_ (by show vs.length<=_;exact R));refine Qa (wpAny_newList ?_ (QD _));refine wpAny_holding ?_;have r:(((s.heap.update a (Obj.mapSeq fun _=>(#[]:Array Value))).push (seqObj "tuple" vs.toArray 0)).push (seqObj "list" #[] 0)).get? a=some (seqObj "list" #[] C):=Qc _ (Qc _ N);have G:∀b o,b≠a->s.heap.get? b=some o->(((s.heap.update a (Obj.mapSeq fun _=>(#[]:Array Value))).push (seqObj "tuple" vs.toArray 0)).push (seqObj "list" #[] 0)).get? b=some o:=fun b o l e =>
   Qc _ (Qc _ (k1 b o l e))
 show wpAny (model prog w) A _ P E { s with heap:=((s.heap.update a (Obj.mapSeq fun _=>(#[]:Array Value))).push (seqObj "tuple" vs.toArray 0)).push (seqObj "list" #[] 0) };generalize((s.heap.update a (Obj.mapSeq fun _=>(#[]:Array Value))).push (seqObj "tuple" vs.toArray 0)).push (seqObj "list" #[] 0)=i at r G ⊢;have H:∀b o,s.heap.get? b=some o->o.cls = .type "tuple"->i.get? b=some o:=fun b o e I=>G b o (fun z=>by
   rw[z,q] at e;cases e;exact absurd (show Value.type "list" = Value.type "tuple" from I) (by simp)) e
 have M:∀(h:SortSt) (d:List Value),(arrOf h).map (·.2)=d.toArray->failedOf h=none->d.Perm vs->d.Pairwise (fun x y=>lexB (rowOf s.heap x) (rowOf s.heap y)=true) →
     wpAny (model prog w) A (do
       let X:=(arrOf h).map (·.2)
       let W:=(<-seqEpoch a) != C
       Builtin.List.listUpdate (.ref a) fun _=>X
       if let some e:=failedOf h then rule "list.sort.comparison-raised";throw e
       if W then rule "list.sort.modified";raiseError "ValueError" "list modified during sort"
       ret .none) P E { s with heap:=i }:=fun h d h1 f O h4=>by
   dsimp only;rw[h1];refine Qa (seqEpoch_at r rfl ?_);refine Qa (listUpdate_at r rfl ?_ (QD _) (by show d.toArray.size<=_;rw[Qk,O.length_eq];omega));rw[f];simp only[bne_self_eq_false,Ze,if_false];refine Qd ?_;obtain⟨c,I⟩:∃c,(i.update a (Obj.mapSeq fun _=>d.toArray)).get? a=some (seqObj "list" d.toArray c):=⟨_,get?_update_seq r fun _=>d.toArray⟩;exact a3 _ d c (fun b o l e=>(Heap.get?_update_other _ _ (Ne.symm l)).trans (G b o l e)) I O h4
 dsimp only;by_cases f:vs.toArray.size<2
 . rw[Ql f,Ql f]
   refine Qa (Qd ?_);rw[StateT.run_pure];refine Qa (Qd ?_);refine M _ vs ?_ rfl (.refl _) ?_
   . show(vs.toArray.zip vs.toArray).map (·.2)=vs.toArray
     apply Array.toList_inj.mp;rw[Array.toList_map,show(vs.toArray.zip vs.toArray).toList=vs.zip vs by simp,zF9,yb9]
   . rw[Qk] at f
     match vs,f with
     | [],_=>exact .nil
     | [_],_=>exact List.pairwise_singleton _ _
     | _::_::_,f=>exact absurd f (by simp)
 . rw[Qh f,Qh f]
   rw[Qk] at f;have Z:Paired (RowIs i) vs u:=L2P B fun v k x=>x.keep H
   obtain⟨fs,f1,f2,f3⟩:=rows_tups Z (Y (by omega));refine Qa (kat_kind (s:={ s with heap:=i }) (T:=.type "int") f1 (by omega) (fun v hv=>by obtain⟨m,t,rfl⟩:=f3 v hv;exact Looks.now) (by decide) ?_);have c:Cmp (model prog w) A { s with heap:=i } (tuples' (Value.type "int" != Value.type "tuple")) (fun x y=>lexB (rowOf s.heap x.1) (rowOf s.heap y.1)) (vs.toArray.zip vs.toArray).toList:=by
     rw[show(vs.toArray.zip vs.toArray).toList=vs.zip vs by simp,zF9];refine⟨fun x J y K=>?_,fun x y z=>yj3,fun x y=>lexB_as,?_⟩
     . obtain⟨x,a0,rfl⟩:=QA.mp J
       obtain⟨y,a1,rfl⟩:=QA.mp K;obtain⟨kx,_,U⟩:=zG0 B x a0;obtain⟨ky,_,V⟩:=zG0 B y a1;refine rows_lt (s:={ s with heap:=i }) (U.keep H) (V.keep H) ⟨rfl,?_⟩;rw[U.row,V.row]
     . rw[List.pairwise_map]
       have e:=rows_map B;rw[<-e] at S;have a2:vs.Pairwise fun x y=>rowOf s.heap x≠rowOf s.heap y:=List.pairwise_map.mp S
       exact a2.imp fun z=>yj4 z
   refine Qa (Zs (wp_sortRuns (E:=E) (Q:=fun _ h=>∃j D g,h=SortSt.mk' (tuples' (Value.type "int" != Value.type "tuple")) j D g none/\j.toList.Perm (vs.toArray.zip vs.toArray).toList/\j.toList.Pairwise (LtR fun x y=>lexB (rowOf s.heap x.1) (rowOf s.heap y.1))) c fun j D g p L=>⟨j,D,g,rfl,p,L⟩) ?_ fun _ _ e=>e);rintro⟨⟨⟩,h⟩ s' ⟨rfl,j,D,g,rfl,p,L⟩;rw[show(vs.toArray.zip vs.toArray).toList=vs.zip vs by simp,zF9] at p;refine M _ (j.toList.map (·.2)) ?_ rfl ?_ ?_
   . apply Array.toList_inj.mp
     simp
   . have:=p.map (·.2)
     rw[yb9] at this;exact this
   . rw[List.pairwise_map]
     refine L.imp_of_mem fun {x y} J K z=>?_
     obtain⟨v,_,rfl⟩:=QA.mp (p.mem_iff.mp J);obtain⟨a4,_,rfl⟩:=QA.mp (p.mem_iff.mp K);exact z
theorem sorted_rows {x:Value}{vs:List Value}{i:List (List Int)}{Q:VP}(r:vs.length<=sizeLine)(j:Paired (RowIs s.heap) vs i)(D:2<=vs.length->∀k∈i,k≠[])(H:i.Nodup)
   (I:∀(R:List Value->Shared->Prop) (E:VP),(∀(d:Heap) (f:Nat),(∀b o,s.heap.get? b=some o->d.get? b=some o)->R vs { s with heap:=d,toks:=f })->wpAny (model prog w) A.in1 (collect x) R E s)
   (h:∀(a:Heap) (f:Nat),(∀b o,s.heap.get? b=some o->a.get? b=some o)->∀(d:Heap) (g:List Value) (c:Nat),(∀b o,a.get? b=some o->d.get? b=some o)->d.get? a.objs.size=some (seqObj "list" (List.toArray g) c)->g.Perm vs →
     g.Pairwise (fun x y=>lexB (rowOf s.heap x) (rowOf s.heap y)=true)->Q (.ref a.objs.size) { s with heap:=d,toks:=f }) :
   wpAny (model prog w) A (call (.builtin "sorted") [x]) Q E s:=by
 refine Calls.call_function_entry kind_sorted plain_sorted entry_sorted (args_sorted1 _) ?_;unfold Builtin.«sorted»;refine Qa (m:=checkCount "sorted" 1 1 _) (Qd ?_);refine Qa (I _ _ fun a f t=>?_);refine Qa (wpAny_newList ?_ r);have l:∀b o,s.heap.get? b=some o->(a.push (seqObj "list" vs.toArray 0)).get? b=some o:=fun b o e=>Qc _ (t b o e)
 have u:(a.push (seqObj "list" vs.toArray 0)).get? a.objs.size=some (seqObj "list" vs.toArray 0):=Qj _ rfl;show wpAny _ _ _ _ _ { s with heap:=a.push (seqObj "list" vs.toArray 0),toks:=f };have F:Paired (RowIs (a.push (seqObj "list" vs.toArray 0))) vs i:=L2P j fun v k x=>x.keep fun b o e _=>l b o e
 have J:∀x y,x∈vs->y∈vs->lexB (rowOf (a.push (seqObj "list" vs.toArray 0)) x) (rowOf (a.push (seqObj "list" vs.toArray 0)) y)=true->lexB (rowOf s.heap x) (rowOf s.heap y)=true:=fun x y n p z=>by
   obtain⟨M,_,B⟩:=zG0 j x n;obtain⟨N,_,C⟩:=zG0 j y p;rw[(B.keep fun b o e _=>l b o e).row,(C.keep fun b o e _=>l b o e).row] at z;rw[B.row,C.row];exact z
 refine Qa (wpAny_holding (wpAny_call_entry slot_list_sort ⟨_,u,rfl⟩ entry_list_sort (sort_rows (s:={ s with heap:=a.push (seqObj "list" vs.toArray 0),toks:=f }) u r F D H fun d g c K G q L=>⟨_,rfl,?_⟩) (args_list_sort _)));refine Qd ⟨_,rfl,h a f t d g c (fun b o e=>K b o (QF (Qr e)) (Qc _ e)) G q ?_⟩;exact L.imp_of_mem fun {x y} n p z=>J x y (q.mem_iff.mp n) (q.mem_iff.mp p) z
end
end Sx
namespace L2
open PySem PySem.Spec PyProof.Rows
section
variable {κ:Type} [DecidableEq κ]
noncomputable def valV (kvs:List (κ×V))(k:κ):Option V:=(kvs.find? fun kv=>decide (kv.1=k)).map (·.2)
noncomputable def putK (kvs:List (κ×V))(k:κ)(v:V):List (κ×V) :=
 if (kvs.any fun kv=>decide (kv.1=k))=true then kvs.map (fun kv=>if kv.1=k then(kv.1,v) else kv) else kvs++[(k,v)]
theorem zG1 {p:κ×V}{r:List (κ×V)}{k:κ}(e:p.1=k):valV (p::r) k=some p.2:=by simp[valV,List.find?_cons,e]
theorem zy8 {p:κ×V}{r:List (κ×V)}{k:κ}(e:¬ p.1=k):valV (p::r) k=valV r k:=by simp[valV,List.find?_cons,e]
theorem zO3 (k:κ):∀a:List (κ×V),(a.any fun b=>decide (b.1=k))=(valV a k).isSome
 | []=>rfl
 | p::r=>by
   rw[List.any_cons];by_cases e:p.1=k
   . simp only[zG1 e,Qf e,Bool.true_or,Option.isSome_some]
   . rw[zy8 e,Qg e,Bool.false_or];exact zO3 k r
theorem zK3 (a:List (κ×V))(k:κ)(v:V):(putK a k v).length<=a.length+1:=by
 unfold putK
 split
 . rw[Qb];omega
 . rw[Qq,Qz,ZK];omega
theorem putK_new {a:List (κ×V)}{k:κ}(v:V)(h:valV a k=none):putK a k v=a++[(k,v)]:=by
 unfold putK;rw[zO3,h];exact Qh (by decide)
theorem RelO.isSome_eq {o:Option V}{u:Option Value}(r:RelO o u):o.isSome=u.isSome:=by
 cases o with
 | none=>cases u with
   | none=>rfl
   | some _=>exact(show False from r).elim
 | some _=>cases u with
   | none=>exact(show False from r).elim
   | some _=>rfl
theorem KV.val {d:List (κ×V)}{vs:List (κ×Value)}(r:KV d vs)(k:κ):RelO (valV d k) (valueAt vs k):=by
 unfold KV at r
 induction r with
 | nil=>exact True.intro
 | @cons p q j a h t g =>
   obtain⟨f,i⟩:=h;by_cases e:p.1=k
   . have c:q.1=k:=f.symm.trans e
     have b:valueAt (q::a) k=some q.2:=by simp[valueAt,List.find?_cons,c]
     rw[zG1 e,b];exact i
   . have c:¬ q.1=k:=fun z=>e (f.trans z)
     have b:valueAt (q::a) k=valueAt a k:=by simp[valueAt,List.find?_cons,c]
     rw[zy8 e,b];exact g
theorem KV.any {b:List (κ×V)}{vs:List (κ×Value)}(r:KV b vs)(k:κ):(b.any fun a=>decide (a.1=k))=vs.any fun a=>decide (a.1=k):=by
 unfold KV at r
 induction r with
 | nil=>rfl
 | cons h t c=>rw[List.any_cons,List.any_cons,c,h.1]
theorem KV.repl {c:List (κ×V)}{vs:List (κ×Value)}(r:KV c vs)(k:κ){y:V}{u:Value}(d:RelV y u) :
   KV (c.map fun a=>if a.1=k then(a.1,y) else a) (vs.map fun a=>if a.1=k then(a.1,u) else a):=by
 unfold KV at r ⊢
 induction r with
 | nil=>exact .nil
 | @cons p q i j h t f =>
   rw[QL,QL];refine .cons ?_ f;obtain⟨b,g⟩:=h;by_cases e:p.1=k
   . rw[Ql e,Ql (b.symm.trans e)];exact⟨b,d⟩
   . rw[Qh e,Qh (fun z=>e (b.trans z))];exact⟨b,g⟩
theorem KV.put {a:List (κ×V)}{vs:List (κ×Value)}(r:KV a vs)(k:κ){y:V}{u:Value}(b:RelV y u):KV (putK a k y) (stored vs k u):=by
 unfold putK stored;rw[r.any k];by_cases e:(vs.any fun c=>decide (c.1=k))=true
 . rw[Ql e,Ql e];exact r.repl k b
 . rw[Qh e,Qh e];exact Paired.snoc r ⟨rfl,b⟩
theorem KV.length {a:List (κ×V)}{vs:List (κ×Value)}(r:KV a vs):a.length=vs.length:=Paired.length r
end
theorem yc0 {P:Program}{w:World}{k:Key}{u:Value}(r:RelV (kV k) u):(zf6 P w).is k u=true:=by
 cases k with
 | inl i=>obtain⟨t,e⟩:=(show ∃t,u=Value.int i t from r);subst e;exact mixKind_int P w i t
 | inr x=>obtain⟨t,e⟩:=(show ∃t,u=Value.str x t from r);subst e;exact mixKind_str P w x t
theorem zT5 {P:Program}{w:World}:∀ {a:List Key} {b:List Value},Vals (a.map kV) b->ItemsAre (zf6 P w) a b
 | [],_,r=>by rw[List.map_nil] at r;cases r;exact .nil
 | k::a,_,r=>by
   rw[QL] at r;cases r with
   | cons h t=>exact .cons (yc0 h) (zT5 t)
abbrev KT (H:Hp):List (List Key×V)->List (List Key×Addr×Value)->Prop:=Paired fun p q=>p.1=q.1/\H q.2.1=some (.tup (p.1.map kV))/\RelV p.2 q.2.2
theorem KT.val {H:Hp}{d:List (List Key×V)}{xs:List (List Key×Addr×Value)}(r:KT H d xs)(k:List Key):RelO (valV d k) ((atKey xs k).map (·.2)):=by
 induction r with
 | nil=>exact True.intro
 | @cons p q j a h t g =>
   obtain⟨f,_,i⟩:=h;by_cases e:p.1=k
   . have c:q.1=k:=f.symm.trans e
     have b:atKey (q::a) k=some q.2:=by simp[atKey,List.find?_cons,c]
     rw[zG1 e,b];exact i
   . have c:¬ q.1=k:=fun z=>e (f.trans z)
     have b:atKey (q::a) k=atKey a k:=by simp[atKey,List.find?_cons,c]
     rw[zy8 e,b];exact g
theorem KT.repl {H:Hp}{c:List (List Key×V)}{xs:List (List Key×Addr×Value)}(r:KT H c xs)(k:List Key){y:V}{u:Value}(f:RelV y u) :
   KT H (c.map fun b=>if b.1=k then(b.1,y) else b) (xs.map (putAt k u)):=by
 induction r with
 | nil=>exact .nil
 | @cons p q j l h t g =>
   rw[QL,QL];refine .cons ?_ g;obtain⟨a,d,i⟩:=h;unfold putAt;by_cases e:p.1=k
   . rw[Ql e,Ql (a.symm.trans e)];exact⟨a,d,f⟩
   . rw[Qh e,Qh (fun z=>e (a.trans z))];exact⟨a,d,i⟩
theorem KT.put {H:Hp}{a:List (List Key×V)}{xs:List (List Key×Addr×Value)}(r:KT H a xs)(k:List Key){b:Addr}{y:V}{u:Value}(d:H b=some (.tup (k.map kV)))(c:RelV y u) :
   KT H (putK a k y) (storedH xs k b u):=by
 have e:(a.any fun f=>decide (f.1=k))=(atKey xs k).isSome:=by
   rw[zO3,(r.val k).isSome_eq,Option.isSome_map]
 unfold putK storedH;rw[e];by_cases q:(atKey xs k).isSome=true
 . rw[Ql q,Ql q];exact r.repl k c
 . rw[Qh q,Qh q];exact Paired.snoc r ⟨rfl,d,c⟩
theorem KT.keeps {H H':Hp}{a:List (List Key×V)}{xs:List (List Key×Addr×Value)}(r:KT H a xs)(d:∀b c,H b=some (.tup c)->H' b=some (.tup c)):KT H' a xs :=
 Paired.mapP r fun _ _ z=>⟨z.1,d _ _ z.2.1,z.2.2⟩
section
variable {P:Program} {w:World} {H:Hp} {h:Heap} {a:Addr}
theorem ys8 {u:HO}(ok:HOk P w H h)(e:Rd H a u):ze9 P w H h a u:=e.ok ok
theorem yc1 {b:List (Key×V)}(ok:HOk P w H h)(e:Rd H a (.dK b)):b.length<=sizeLine/\(a == sysModules)=false/\∃c,KV b c/\h.DictOf (zf6 P w) a c :=
 show ze9 P w H h a (.dK b) from ys8 ok e
theorem dk_of {b:List (Key×V)}(ok:HOk P w H h)(e:H a=some (.dK b)):b.length<=sizeLine/\(a == sysModules)=false/\∃c,KV b c/\h.DictOf (zf6 P w) a c:=yc1 ok (.inl e)
theorem zE0 {b:List Key}(ok:HOk P w H h)(e:H a=some (.tup (b.map kV))):(tupleKind (zf6 P w)).is h b a:=by
 obtain⟨_,c,r,o,d,f,_,n,g⟩:=(show ze9 P w H h a (.tup (b.map kV)) from ok a _ e);exact⟨o,c.toArray,n,d,f,g,by simpa using zT5 r⟩
theorem yc2 {c:List (List Key×V)}(ok:HOk P w H h)(e:Rd H a (.dT c)):c.length<=sizeLine/\(a == sysModules)=false ∧
   ∃d,KT H c d/\h.DictOfH (tupleKind (zf6 P w)) a d:=by
 obtain⟨z,y,d,r,o,g,i,j,k,n,s,u⟩:=(show ze9 P w H h a (.dT c) from ys8 ok e);refine⟨z,y,d,r,o,g,i,j,k,n,s,fun x b=>?_,u⟩;have all:∀ {l:List (List Key×V)} {m:List (List Key×Addr×Value)},KT H l m->∀x∈m,(tupleKind (zf6 P w)).is h x.1 x.2.1:=by
   intro l m q
   induction q with
   | nil=>intro x b;exact nomatch b
   | @cons p q A B f t v =>
     intro x b;rcases Qn.mp b with e | b
     . subst e
       exact zE0 ok (by rw[<-f.1];exact f.2.1)
     . exact v x b
 exact all r x b
theorem ys9 {b:List (List Key×V)}(ok:HOk P w H h)(e:H a=some (.dT b)):b.length<=sizeLine/\(a == sysModules)=false ∧
 ∃c,KT H b c/\h.DictOfH (tupleKind (zf6 P w)) a c:=yc2 ok (.inl e)
end
def DGet (H:Hp)(a:Addr)(y:V)(r:Option V):Prop :=
 (∃kvs k,Rd H a (.dK kvs)/\y=kV k/\r=valV kvs k)\/∃kvs k b,Rd H a (.dT kvs)/\y = .ref b/\H b=some (.tup (k.map kV))/\r=valV kvs k
def DPut (H:Hp)(a:Addr)(y v:V)(H':Hp):Prop :=
 (∃kvs k,H a=some (.dK kvs)/\y=kV k/\kvs.length<sizeLine/\H'=upd H a (.dK (putK kvs k v))) ∨
 ∃kvs k b,H a=some (.dT kvs)/\y = .ref b/\H b=some (.tup (k.map kV))/\kvs.length<sizeLine/\H'=upd H a (.dT (putK kvs k v))
theorem DGet.t {H:Hp}{a b:Addr}{c:List (List Key×V)}{k:List Key}(e:H a=some (.dT c))(d:H b=some (.tup (k.map kV))):DGet H a (.ref b) (valV c k):=.inr ⟨c,k,b,.inl e,rfl,d,rfl⟩
theorem DPut.t {H:Hp}{a b:Addr}{c:List (List Key×V)}{k:List Key}{v:V}(e:H a=some (.dT c))(d:H b=some (.tup (k.map kV)))(f:c.length<sizeLine) :
 DPut H a (.ref b) v (upd H a (.dT (putK c k v))):=.inr ⟨c,k,b,e,rfl,d,f,rfl⟩
section
variable {X:Cx} {pins:PL} {σ:St} {H:Hp} {s:Shared} {a:Addr} {y v:V} {u r:Value} {o:Option V} {A:Around} {E:VP}
theorem Inv.big (I:Inv X pins σ H s):sysModules<s.heap.objs.size:=by
 have h:mainGlobals<s.heap.objs.size:=(I.mod.glob.keeps I.bk).lt;exact Nat.lt_trans (by decide) h
theorem d_getItem {Q:VP}(w:A.units+1<cLine)(I:Inv X pins σ H s)(g:DGet H a y (some v))(n:RelV y u)(h:∀c q,Inv X pins σ H q->RelV v c->Q c q) :
   wpAny (model X.prog X.w) A (getItem (.ref a) u) Q E s:=by
 rcases g with⟨r,k,e,i,l⟩ | ⟨r,k,b,e,i,x,l⟩
 . subst i
   obtain⟨z,B,C,d,j⟩:=yc1 I.hok e;obtain⟨c,m,f⟩:=RelO.some_of (v:=v) (o:=valueAt C k) (by rw[l];exact d.val k);exact wpAny_getItem_of (yc0 n) j.mapOf m (h c _ (I.tok _) f)
 . subst i
   cases (show u=Value.ref b from n);obtain⟨z,B,D,d,j⟩:=yc2 I.hok e;obtain⟨c,m,f⟩:=RelO.some_of (v:=v) (o:=(atKey D k).map (·.2)) (by rw[l];exact d.val k);obtain⟨p,F,t⟩:=Option.map_eq_some_iff.mp m;refine wpAny_getItem_heap (tupleKind_room_in1 w) (zE0 I.hok x) j F ?_;rw[t];exact h c _ (I.tok _) f
theorem d_in {Q:VP}(p:A.units+1<cLine)(I:Inv X pins σ H s)(g:DGet H a y o)(j:RelV y u)(h:∀m,Inv X pins σ H m->Q (.bool o.isSome) m) :
   wpAny (model X.prog X.w) A (compareOp .In u (.ref a)) Q E s:=by
 rcases g with⟨n,k,e,d,l⟩ | ⟨n,k,b,e,d,r,l⟩
 . subst d
   obtain⟨z,f,t,c,i⟩:=yc1 I.hok e;refine wpAny_in_of (yc0 j) f i.mapOf ?_;rw[<-(c.val k).isSome_eq,<-l];exact h _ (I.tok _)
 . subst d
   cases (show u=Value.ref b from j);obtain⟨z,f,v,c,i⟩:=yc2 I.hok e;refine wpAny_in_heap (tupleKind_room_in1 p) (zE0 I.hok r) f i ?_;have q:=(c.val k).isSome_eq;rw[Option.isSome_map] at q;rw[<-q,<-l];exact h _ (I.tok _)
theorem d_notIn {Q:VP}(p:A.units+1<cLine)(I:Inv X pins σ H s)(g:DGet H a y o)(j:RelV y u)(h:∀m,Inv X pins σ H m->Q (.bool (!o.isSome)) m) :
   wpAny (model X.prog X.w) A (compareOp .NotIn u (.ref a)) Q E s:=by
 rcases g with⟨n,k,e,d,l⟩ | ⟨n,k,b,e,d,r,l⟩
 . subst d
   obtain⟨z,f,t,c,i⟩:=yc1 I.hok e;refine wpAny_notIn_of (yc0 j) f i.mapOf ?_;rw[<-(c.val k).isSome_eq,<-l];exact h _ (I.tok _)
 . subst d
   cases (show u=Value.ref b from j);obtain⟨z,f,v,c,i⟩:=yc2 I.hok e;refine wpAny_notIn_heap (tupleKind_room_in1 p) (zE0 I.hok r) f i ?_;have q:=(c.val k).isSome_eq;rw[Option.isSome_map] at q;rw[<-q,<-l];exact h _ (I.tok _)
theorem zY8 {h':Heap}{t':Nat}{c:HO}(I:Inv X pins σ H s)(d:Mut (H a))(hs:Heap.SameBut a s.heap h')(f:∃q,h'.get? a=some q)(new:ze9 X.prog X.w (upd H a c) h' a c) :
   Inv X pins σ (upd H a c) { s with heap:=h',toks:=t' } :=
 I.write (x:=a) (e:=a) d (.inl rfl) (fun b q g z=>(hs.2 b g).trans z) f new
theorem dk_new {P:Program}{w:World}{H':Hp}{h':Heap}{b:List (Key×V)}{vs:List (Key×Value)}(z:b.length<=sizeLine)(d:(a == sysModules)=false)(c:KV b vs)(dd:h'.DictOf (zf6 P w) a vs) :
 ze9 P w H' h' a (.dK b):=⟨z,d,vs,c,dd⟩
theorem d_setItem {H':Hp}{Q:Unit->Shared->Prop}(K:A.units+1<cLine)(I:Inv X pins σ H s)(g:DPut H a y v H')(B:RelV y u)(C:RelV v r)(h:∀D,Inv X pins σ H' D->Q () D) :
   wpAny (model X.prog X.w) A (setItem (.ref a) u r) Q E s:=by
 rcases g with⟨d,k,e,m,l,n⟩ | ⟨d,k,b,e,m,F,l,n⟩
 . subst m n
   obtain⟨z,o,L,f,p⟩:=dk_of I.hok e;have t:L.length<=sizeLine:=by rw[<-f.length];exact z
   have w:(putK d k v).length<=sizeLine:=by have:=zK3 d k v;omega
   refine wpAny_setItem_pairs (hsz:=t) (yc0 B) p fun G i x=>h _ ?_
   have M:∃q,G.get? a=some q:=let⟨q,_,_,j,_⟩:=i;⟨q,j⟩;exact zY8 I (by rw[e];exact True.intro) x M (dk_new w o (f.put k C) i)
 . subst m n
   cases (show u=Value.ref b from B);obtain⟨z,o,N,f,p⟩:=ys9 I.hok e;have t:N.length<=sizeLine:=by rw[<-Paired.length f];exact z
   have w:(putK d k v).length<=sizeLine:=by have:=zK3 d k v;omega
   refine wpAny_setItem_heap (hsz:=t) (tupleKind_room_in1 K) (zE0 I.hok F) p fun G i x=>h _ ?_
   obtain⟨q,O,P,j,R,S,T,_,U⟩:=i;refine zY8 I (by rw[e];exact True.intro) x ⟨q,j⟩ ⟨w,o,_,(f.put k F C).keeps fun c V J=>?_,q,O,P,j,R,S,T,U⟩;rw[za7 (zC6 J e (fun z=>nomatch z))];exact J
end
def NoSl (i:Expr):Prop:=∀ov iv,subscripted i false ov iv=operate [ov,iv] (getItem ov iv)
theorem subD_of {prog:Program}{w:World}{A:Around}{E:VP}{s:Shared}{env:Env}{c a:Expr}{k:Pos}{T id:String}{Q:VP}
   (l:typeLookup (.type T) "__getitem__" = pure (some (.builtin id))) (hs:NoSl a)
   (h:wpAny (model prog w) A (eval c env) (fun o f=>wpAny (model prog w) A (eval a env) (fun i b=>b.TypeIs o T/\wpAny (model prog w) A (getItem o i) Q E b) E f) E s) :
   wpAny (model prog w) A (eval (.Subscript c a k) env) Q E s:=by
 refine Subscript_ (Zs h (fun o f m=>Zs m (fun i b e=>?_) fun _ _ x=>x) fun _ _ x=>x);obtain⟨g,e⟩:=e;unfold subscriptTail;refine Qa ?_;rw[getitemInPython_of_ne g.not_modules];refine Qa (wpAny_specialOf g l ?_);have d:wpAny (model prog w) A (subscripted a false o i) (fun r j=>wpAny (model prog w) A (letTemporaryGo c o r >>= fun _=>pure r) Q E j) E b:=by
   rw[hs o i];exact wpAny_operating (Zs e (fun r j n=>Qa (wpAny_letTemporaryGo (Qd n))) fun _ _ x=>x)
 first
   | exact Qd (Qa d)
   | exact Qa (Qd (Qa d))
   | exact Qa d
theorem dict_typeIs {X:Cx} {d:PL} {h:St} {H:Hp} {s:Shared} {a:Addr} {y:V} {o:Option V} (I:Inv X d h H s) (g:DGet H a y o):s.TypeIs (.ref a) "dict":=by
 rcases g with⟨f,k,e,_,_⟩ | ⟨f,k,b,e,_,_,_⟩
 . obtain⟨_,_,i,_,c⟩:=yc1 I.hok e
   exact c.typeIs
 . obtain⟨_,_,j,_,c⟩:=yc2 I.hok e
   exact c.typeIs
def tDGet (td ty:TE):TE:=fun σ H Q=>td σ H fun x H1=>ty σ H1 fun y H2=>∃a v,x = .ref a/\DGet H2 a y (some v)/\Q v H2
def tDIn (ty td:TE):TE:=fun σ H Q=>ty σ H fun y H1=>td σ H1 fun x H2=>∃a o,x = .ref a/\DGet H2 a y o/\Q (.bl o.isSome) H2
def tDNotIn (ty td:TE):TE:=fun σ H Q=>ty σ H fun y H1=>td σ H1 fun x H2=>∃a o,x = .ref a/\DGet H2 a y o/\Q (.bl (!o.isSome)) H2
def sDPut (td ty tv:TE):TS:=fun D σ H=>tv σ H fun v H1=>td σ H1 fun x H2=>ty σ H2 fun y H3=>∃a H4,x = .ref a/\DPut H3 a y v H4/\D.nx σ H4
section
variable {X:Cx} {o i e value:Expr} {pos pos' tpos:Pos} {td ty tv:TE}
theorem zo6 (f:X.A.units+1<cLine)(j:PE X o td)(k:PE X i ty)(hs:NoSl i):PE X (.Subscript o i pos) (tDGet td ty):=by
 intro b s d H Q I h;refine subD_of PySem.F.slot_dict_getitem.lookup hs (thn (j b s d H _ I h) fun u l ⟨x,m,n,p,q⟩=>thn (k b l d m _ n q) fun A B ⟨y,r,c,t,a,v,ex,g,w⟩=>?_);subst ex;obtain rfl:u=Value.ref a:=p;exact⟨dict_typeIs c g,d_getItem f c g t fun C D z e=>⟨v,r,z,e,w⟩⟩
theorem pc_din (d:X.A.units+1<cLine)(e:PE X i ty)(f:PE X o td):PC X .In i o (tDIn ty td):=by
 intro b s c H Q I h;refine thn (e b s c H _ I h) fun z j ⟨y,k,l,m,n⟩=>thn (f b j c k _ l n) fun u A ⟨x,p,q,r,a,t,ex,g,v⟩=>?_
 subst ex;obtain rfl:u=Value.ref a:=r;exact d_in d q g m fun B w=>⟨.bl t.isSome,p,w,rfl,v⟩
theorem zq8 (d:X.A.units+1<cLine)(e:PE X i ty)(f:PE X o td):PC X .NotIn i o (tDNotIn ty td):=by
 intro b s c H Q I h;refine thn (e b s c H _ I h) fun z j ⟨y,k,l,m,n⟩=>thn (f b j c k _ l n) fun u A ⟨x,p,q,r,a,t,ex,g,v⟩=>?_
 subst ex;obtain rfl:u=Value.ref a:=r;exact d_notIn d q g m fun B w=>⟨.bl (!t.isSome),p,w,rfl,v⟩
theorem yj5 (d:X.A.units+1<cLine)(e:PE X o td)(f:PE X i ty)(j:PE X value tv)(hs:swapsWith value (some (.Subscript o i pos')) pos.line X.env=pure false) :
   PS X (.Assign [.Subscript o i pos'] value pos) (sDPut td ty tv):=by
 intro c s b H D I h;refine wpAny_Assign_Subscript (thn (j c s b H _ I h) fun r k ⟨v,l,m,n,p⟩=>thn (e c k b l _ m p) fun u q ⟨x,t,w,z,A⟩=>thn (f c q b t _ w A) fun J K ⟨y,L,B,C,a,E,ex,g,F⟩=>?_) hs;subst ex;obtain rfl:u=Value.ref a:=z;exact d_setItem d B g C n fun M G=>⟨b,E,G,F⟩
end
theorem dt_empty {P:Program} {w:World} {H:Hp} (h:Heap) (a:sysModules<h.objs.size):ze9 P w H (h.push { cls:=.type "dict",data:=.dict #[] }) h.objs.size (.dT []) :=
 ⟨QD _,beq_eq_false_iff_ne.mpr (Ne.symm (QF a)),[],.nil,_,#[],0,Qj _ rfl,⟨rfl,rfl,rfl⟩,rfl,rfl,List.nodup_nil⟩
noncomputable abbrev ik (k:List Int):List Key:=k.map Sum.inl
theorem zT6 (k:List Int):(ik k).map kV=k.map V.int:=by
 unfold ik;rw[ZC];rfl
def tDisp1 (tk tv:TE):TE:=fun σ H Q=>∀p,H p=none->tk σ (upd H p (.dT [])) fun x H1=>tv σ H1 fun y H2=>H2 p=some (.dT [])/\∃b k,x = .ref b/\H2 b=some (.tup (k.map V.int))/\Q (.ref p) (upd H2 p (.dT [(ik k,y)]))
theorem yc3 {X:Cx}{j:Pos}{d f:Expr}{l m:TE}(A:X.A.units+1<cLine)(B:PE X d l)(C:PE X f m):PE X (.Dict [some d] [f] j) (tDisp1 l m):=by
 intro i s t H a0 I q;have D:=I.hok.fresh (Qi s.heap.objs.size);have E:=I.laid (a:=s.heap.objs.size) (o:=.dT []) (h':=s.heap.push { cls:=.type "dict",data:=.dict #[] }) (t':=s.toks) (fun _ _ q=>Qc _ q) (Qi _) (dt_empty s.heap I.big);rw[arm_eval_Dict,zip_pairTrees [some d] [f] X.env j rfl rfl,dictDisplay_pairs _ (by intro z;cases z) (by show(1:Nat)<17;decide)];refine Qa (wpAny_standAt (Qa ?_));unfold subDict;refine Qa (wpAny_alloc (Qa (wpAny_holding ?_)));rw[Ql (by show(1:Nat)<=15;decide)];refine Qa (pairTrees_cons_walk (thn (B i _ t _ _ E (q _ D)) fun u F ⟨x,G,J,K,L⟩=>thn (C i F t G _ J L) fun a1 Z ⟨y,g,h,M,e,b,k,ex,N,O⟩=>pairTrees_nil_walk ?_));subst ex;obtain rfl:u=Value.ref b:=K;refine wpAny_holding ?_;rw[List.forIn_cons];obtain⟨z,P,xs,v,Q⟩:=ys9 h.hok e;cases v;have c:g b=some (.tup ((ik k).map kV)):=by rw[zT6];exact N
 refine Qa (Qa (Qa (wpAny_dictSet_heap (hsz:=QD _) (show(tupleKind (zf6 X.prog X.w)).room X.A from ZI A) (zE0 h.hok c) Q fun h' w R=>Qd ?_)));dsimp only;rw[List.forIn_nil];refine Qd (Qd (Qd (Qd ⟨.ref s.heap.objs.size,_,?_,rfl,O⟩)));have a2:DPut g s.heap.objs.size (.ref b) y _:=DPut.t e c (by show 0<sizeLine;rw[sizeLine_eq];decide);obtain⟨n,S,T,p,U,V,W,_,Y⟩:=w;refine zY8 h (by rw[e];exact True.intro) R ⟨n,p⟩ ⟨by show 1<=sizeLine;rw[sizeLine_eq];decide,P,_,((KT.put (H:=g) .nil (ik k) c M)).keeps fun a3 ys r=>?_,n,S,T,p,U,V,W,Y⟩;rw[za7 (zC6 r e (fun z=>nomatch z))];exact r
abbrev Tups (H:Hp)(ys:List V)(ks:List (List Int)):Prop:=Paired (fun y k=>∃b,y = .ref b/\H b=some (.tup (k.map V.int))) ys ks
theorem yq1 {P:Program}{w:World}{H:Hp}{h:Heap}{b:Addr}{k:List Int}(ok:HOk P w H h)(e:H b=some (.tup (k.map V.int))):Sx.RowIs h (.ref b) k:=by
 obtain⟨_,a,r,o,c,d,_,n,f⟩:=(show ze9 P w H h b (.tup (k.map V.int)) from ok b _ e);exact⟨b,o,a.toArray,n,rfl,c,d,f,by simpa using zn9 r⟩
theorem yc4 {P:Program}{w:World}{H:Hp}{h:Heap}(ok:HOk P w H h):∀ {a:List V} {c:List (List Int)} {d:List Value},Tups H a c->Vals a d->Paired (Sx.RowIs h) d c
 | _,_,_,.nil,.nil=>.nil
 | _,_,_,.cons ⟨b,e,f⟩ t,.cons r g=>by
   subst e;cases r;exact .cons (yq1 ok f) (yc4 ok t g)
noncomputable def refV:Value->V
 | .ref b=>.ref b
 | _=>.non
theorem Tups.mem {H:Hp}:∀ {c:List V} {d:List (List Int)},Tups H c d->∀y∈c,∃b k,y = .ref b/\k∈d/\H b=some (.tup (k.map V.int))
 | _,_,.nil,y,a=>nomatch a
 | _,_,.cons ⟨b,e,g⟩ t,y,a=>by
   rcases Qn.mp a with rfl | a
   . exact⟨b,_,e,.head _,g⟩
   . obtain⟨h,i,j,l,f⟩:=Tups.mem t y a
     exact⟨h,i,j,.tail _ l,f⟩
theorem yc5:∀ {b:List V} {c:List Value},Vals b c->∀u∈c,∃y∈b,RelV y u
 | _,_,.nil,u,a=>nomatch a
 | _,_,.cons r t,u,a=>by
   rcases Qn.mp a with rfl | a
   . exact⟨_,.head _,r⟩
   . obtain⟨y,d,e⟩:=yc5 t u a
     exact⟨y,.tail _ d,e⟩
theorem yj6 {P:Program}{w:World}{H:Hp}{h:Heap}(ok:HOk P w H h):∀(a:List Value),(∀u∈a,∃b k,u = .ref b/\H b=some (.tup (List.map V.int k)))->Tups H (a.map refV) (a.map (Sx.rowOf h))/\Vals (a.map refV) a
 | [],_=>⟨.nil,.nil⟩
 | u::a,hu=>by
   obtain⟨b,k,rfl,c⟩:=hu u (.head _);obtain⟨t,v⟩:=yj6 ok a fun u d=>hu u (.tail _ d)
   rw[QL,QL];refine⟨.cons ⟨b,rfl,?_⟩ t,.cons rfl v⟩;rw[(yq1 ok c).row];exact c
def yq2 (H:Hp)(ks:List (List Int))(Q:VK):Prop:=∀l zs js,H l=none->Tups H zs js->js.Perm ks->js.Pairwise (fun x y=>Sx.lexB x y=true)->Q (.ref l) (upd H l (.lst zs))
section
variable {X:Cx}
theorem zT7 {h:PL}{s:Shared}{l:St}{H:Hp}{Q:VK}{x:Value}{ys:List V}{e:List (List Int)}{us:List Value}(I:Inv X h l H s)(N:ys.length<=sizeLine)(m:Tups H ys e)(i:Vals ys us)(v:e.Nodup)(t:2<=ys.length->∀k∈e,k≠[])
   (w:∀(R:List Value->Shared->Prop) (E:VP),(∀(f:Heap) (a:Nat),(∀b o,s.heap.get? b=some o->f.get? b=some o)->R us { s with heap:=f,toks:=a })->wpAny (model X.prog X.w) X.A.in1 (collect x) R E s)
   (q:yq2 H e Q):wpAny (model X.prog X.w) X.A (call (.builtin "sorted") [x]) (EP X h l Q) X.xe s:=by
 have O:=i.length;have n:=yc4 I.hok m i;refine Sx.sorted_rows (by omega) n (fun z=>t (by omega)) v w fun g a A f d c B C j D=>?_
 have mem:∀u∈d,∃b k,u = .ref b/\H b=some (.tup (List.map V.int k)):=fun u F=>by
   obtain⟨y,G,J⟩:=yc5 i u (j.mem_iff.mp F);obtain⟨b,k,rfl,_,K⟩:=m.mem y G;exact⟨b,k,J,K⟩
 obtain⟨L,M⟩:=yj6 I.hok d mem;have p:Inv X h l H { s with heap:=g,toks:=a }:=I.kept A;have r:=j.map (Sx.rowOf s.heap);rw[Sx.rows_map n] at r;refine⟨.ref g.objs.size,_,p.laid (s:={ s with heap:=g,toks:=a }) (t':=a) (o:=.lst (d.map refV)) B (Qi _) (show ze9 X.prog X.w _ f _ (.lst _) from⟨?_,d,c,M,C⟩),rfl,q g.objs.size _ _ (p.hok.fresh (Qi _)) L r (List.pairwise_map.mpr D)⟩;rw[Qb,j.length_eq];omega
theorem call_sortL:zm4 X (.builtin "sorted") (fun d H Q=>∃p c a,d=[.ref p]/\SqL X.K H p c/\Tups H c a/\a.Nodup/\(2<=c.length->∀k∈a,k≠[])/\yq2 H a Q):=by
 intro w s B H d y Q I r h;obtain⟨p,c,a,rfl,i,j,l,g,q⟩:=h;obtain⟨u,rfl,m⟩:=zx8 r;cases m;obtain⟨x,f,n,t⟩:=I.list i;refine zT7 I t j f l g (fun R E v=>?_) q;have A:=f.length;have e:(s.heap.push (seqObj "list" #[] 0)).objs.size=s.heap.objs.size+1:=size_push' _ _;refine collect_list n.isList (v _ s.toks fun b o z=>?_) (by omega);rw[Heap.get?_update_ne _ _ _ _ (QF (Qr z))];exact Qc _ z
theorem zT8 {P:Program}{w:World}:∀ {H:Hp} {e:List (List Key×V)} {c:List (List Key×Addr×Value)},KT H e c->∀ {d:List (List Int)},e.map (·.1)=d.map ik →
   Tups H (c.map fun x=>V.ref x.2.1) d/\Vals (c.map fun x=>V.ref x.2.1) (c.map fun x=>(entryOfKey (tupleKind (zf6 P w)) x).key)
 | H,_,_,.nil,[],_=>⟨.nil,.nil⟩
 | H,_,_,.nil,_::_,h=>nomatch h
 | H,_,_,.cons _ _,[],h=>nomatch h
 | H,_,_,.cons (a:=p) (b:=x) hr t,k::d,h=>by
   rw[QL,QL] at h;injection h with f g
   obtain⟨i,j⟩:=zT8 (P:=P) (w:=w) t g;rw[QL,QL];refine⟨.cons ⟨_,rfl,?_⟩ i,.cons rfl j⟩;rw[hr.2.1,f,zT6]
theorem zw4 (j:X.calm=true):zm4 X (.builtin "sorted") (fun b H Q=>∃p a c,b=[.ref p]/\H p=some (.dT a)/\a.map (·.1)=c.map ik/\c.Nodup/\(2<=a.length->∀k∈c,k≠[])/\yq2 H c Q):=by
 intro G s O H b K Q I r h;obtain⟨p,a,c,rfl,l,m,n,i,q⟩:=h;obtain⟨u,rfl,t⟩:=zx8 r;cases t;obtain⟨z,y,b,d,o,e,L,v,A,B,f,M⟩:=(show ze9 X.prog X.w H s.heap p (.dT a) from I.hok p _ l);obtain⟨C,g⟩:=zT8 (P:=X.prog) (w:=X.w) d m;have N:a.length=b.length:=Paired.length d;have D:e.toList.map (·.key)=b.map fun x=>(entryOfKey (tupleKind (zf6 X.prog X.w)) x).key:=by rw[f,ZC];rfl
 have J:e.size=b.length:=by rw[<-Qv,f,Qb]
 rw[<-D] at g;refine zT7 I (by rw[Qb];omega) C g n (fun w=>i (by rw[Qb] at w;omega)) (fun R E F=>?_) q;exact Sx.raw_collect y (show X.A.in1.handled=none from I.ok.hd j) ⟨o,v,A,B⟩ (by omega) F
end
end L2
namespace Sx
open PySem PySem.W PySem.Calls PyProof.Rows
theorem below_go (xs:Array Nat)(j:Nat)(hs:xs.toList.Pairwise (· < ·)):∀(e d c:Nat),d<=c->c<=xs.size->c-d<=e->(∀k,k<d->xs.getD k j<j)->(∀k,c<=k->k<xs.size->j<=xs.getD k j) →
   (∀k,k<SetTable.below.go xs j e d c->xs.getD k j<j)/\(∀k,SetTable.below.go xs j e d c<=k->k<xs.size->j<=xs.getD k j)/\SetTable.below.go xs j e d c<=xs.size:=by
 have mono:∀a b,a<b->b<xs.size->xs.getD a j<xs.getD b j:=fun a b o m=>by
   have:=QR.mp hs a b (by simp;omega) (by simpa using m) o;simpa [Array.getD,m,show a<xs.size by omega] using this
 intro e
 induction e with
 | zero =>
   intro d c q g r i l;obtain rfl:d=c:=by omega
   exact⟨i,l,g⟩
 | succ e n =>
   intro d c q g r i l;unfold SetTable.below.go;by_cases h:d<c
   . rw[Ql h]
     dsimp only;by_cases f:xs.getD ((d+c) / 2) j<j
     . rw[Ql f]
       refine n _ _ (by omega) g (by omega) (fun k s=>?_) l;rcases QW k ((d+c) / 2) with z | z
       . exact Nat.lt_trans (mono k _ z (by omega)) f
       . obtain rfl:k=(d+c) / 2:=by omega
         exact f
     . rw[Qh f]
       refine n _ _ (by omega) (by omega) (by omega) i (fun k s p=>?_);rcases QW ((d+c) / 2) k with z | z
       . exact Za (Nat.lt_of_le_of_lt (Nat.not_lt.mp f) (mono _ k z p))
       . obtain rfl:k=(d+c) / 2:=by omega
         exact Nat.not_lt.mp f
   . rw[Qh h]
     obtain rfl:d=c:=by omega
     exact⟨i,l,g⟩
theorem zO4 (xs:Array Nat)(j:Nat)(hs:xs.toList.Pairwise (· < ·)):(∀k,k<SetTable.below xs j->xs.getD k j<j)/\(∀k,SetTable.below xs j<=k->k<xs.size->j<=xs.getD k j)/\SetTable.below xs j<=xs.size :=
 below_go xs j hs xs.size 0 xs.size (QD _) (Qi _) (by omega) (fun k h=>by omega) (fun k h a=>by omega)
theorem zo7 {a:Type}(xs:Array a)(p:Nat)(x:a):(SetTable.insertAt xs p x).toList=xs.toList.take p++x::xs.toList.drop p:=by
 unfold SetTable.insertAt;have b:(xs.extract p xs.size).toList=xs.toList.drop p:=zF5 xs p;rw[Zf,Array.toList_push,zy7,b];simp
abbrev ElsAre (es:List (Int×Value))(ns:List Int):Prop:=Paired (fun e n=>e.1=n/\∃tk,e.2 = .int n tk) es ns
theorem ElsAre.take {es:List (Int×Value)}{ns:List Int}(r:ElsAre es ns):∀i,ElsAre (es.take i) (ns.take i):=by
 induction r with
 | nil=>intro i;simp;exact .nil
 | cons x t a =>
   intro i;cases i with
   | zero=>exact .nil
   | succ i=>exact .cons x (a i)
theorem ElsAre.drop {es:List (Int×Value)}{ns:List Int}(r:ElsAre es ns):∀i,ElsAre (es.drop i) (ns.drop i):=by
 induction r with
 | nil=>intro i;simp;exact .nil
 | cons x t a =>
   intro i;cases i with
   | zero=>exact .cons x t
   | succ i=>exact a i
theorem ElsAre.app {es es':List (Int×Value)}{ns a:List Int}(r:ElsAre es ns)(b:ElsAre es' a):ElsAre (es++es') (ns++a):=by
 induction r with
 | nil=>exact b
 | cons x t c=>exact .cons x c
theorem ElsAre.len {es:List (Int×Value)}{ns:List Int}(r:ElsAre es ns):es.length=ns.length:=by
 induction r with
 | nil=>rfl
 | cons x t a=>simp[a]
theorem ElsAre.fst {es:List (Int×Value)}{ns:List Int}(r:ElsAre es ns):es.map (·.1)=ns:=by
 induction r with
 | nil=>rfl
 | cons x t a=>rw[QL,a,x.1]
structure SetS (byT:Bool)(h:Heap)(a:Addr)(ns:List Int)(ep:Nat):Prop where
 st:∃o es t,h.get? a=some o/\o.ExactSet/\o.data = .set es ep t/\ElsAre es.toList ns/\t.place.toList=ns.map Int.toNat/\t.dummies = #[]/\t.mask=(if ns.length<5 then 7 else 31)/\t.plain=true/\(byT=false->t.led=true)
 up:ns.Pairwise (· < ·)
 lo:∀n∈ns,1<=n/\n<=5
theorem yj7:∀ {b:List Int} {k:Int},b.Pairwise (· < ·)->(∀n∈b,k<n/\n<=5)->(b.length:Int)<=5-k\/b=[]:=by
 intro b
 induction b with
 | nil=>intro k _ _;exact .inr rfl
 | cons a r f =>
   intro k g c;have h:=c a QQ;have u:=Zm.mp g;rw[Qz];rcases f (k:=a) u.2 (fun n d=>⟨u.1 n d,(c n (QH _ d)).2⟩) with e | e
   . exact .inl (by omega)
   . subst e
     exact .inl (by simp only[ZK];omega)
theorem up_full:∀ {b:List Int} {k:Int},b.Pairwise (· < ·)->(∀n∈b,k<n/\n<=5)->(b.length:Int)=5-k->∀i:Nat,i<b.length->b[i]?=some (k+1+i):=by
 intro b
 induction b with
 | nil=>intro k _ _ _ i c;cases c
 | cons a r l =>
   intro k m f g i c;have h:=f a QQ;have u:=Zm.mp m;have d:∀n∈r,a<n/\n<=5:=fun n j=>⟨u.1 n j,(f n (QH _ j)).2⟩
   rw[Qz] at g c;have o:a=k+1:=by
     rcases yj7 u.2 d with e | e
     . omega
     . subst e
       simp only[ZK] at g;omega
   cases i with
   | zero=>exact congrArg some (by omega)
   | succ i =>
     have:=l u.2 d (by omega) i (by omega);show r[i]?=_;rw[this];exact congrArg some (by omega)
theorem five {ns:List Int}(c:ns.Pairwise (· < ·))(lo:∀n∈ns,1<=n/\n<=5):ns.length<=5/\(ns.length=5->ns=[1,2,3,4,5]):=by
 have b:∀n∈ns,(0:Int)<n/\n<=5:=fun n d=>⟨by have:=lo n d;omega,(lo n d).2⟩
 refine⟨?_,fun h=>?_⟩
 . rcases yj7 c b with e | e
   . omega
   . subst e;exact QD _
 . refine List.ext_getElem? fun i=>?_
   by_cases a:i<ns.length
   . rw[up_full c b (by omega) i a]
     rw[h] at a
     match i,a with
     | 0,_=>rfl
     | 1,_=>rfl
     | 2,_=>rfl
     | 3,_=>rfl
     | 4,_=>rfl
   . rw[Zt (by omega),Zt (by show 5<=i;omega)]
theorem nat_up {ns:List Int}(c:ns.Pairwise (· < ·))(lo:∀n∈ns,1<=n/\n<=5):(ns.map Int.toNat).Pairwise (· < ·) :=
 List.pairwise_map.mpr (c.imp_of_mem fun {a b} d e z=>by have:=lo a d;have:=lo b e;omega)
theorem zO5 {n:Int}(a:1<=n)(b:n<=5):hashInt n=n:=by
 have:n=1\/n=2\/n=3\/n=4\/n=5:=by omega
 rcases this with rfl | rfl | rfl | rfl | rfl<;>decide
theorem free_at {t:SetTable}{n:Int}(m:1<=n)(o:n<=5)(c:t.mask=7)(d:t.dummies = #[])(p:t.place.toList.Pairwise (· < ·))(g:n.toNat∉t.place.toList):t.freeSlot n=some (n.toNat,false):=by
 have b:t.slot n.toNat = .empty:=by
   unfold SetTable.slot;dsimp only;have e:¬ (t.place[SetTable.below t.place n.toNat]? == some n.toNat)=true:=fun z=>by
     have h:t.place[SetTable.below t.place n.toNat]?=some n.toNat:=by simpa using z
     exact g (by have:=Array.mem_of_getElem? h;simpa using this)
   have i:¬ SetTable.has t.dummies n.toNat=true:=by
     rw[d];unfold SetTable.has;simp
   rw[Qh e,Qh i]
 have k:SetTable.bits n % (t.mask+1)=n.toNat:=by
   rw[c];have:n=1\/n=2\/n=3\/n=4\/n=5:=by omega
   rcases this with rfl | rfl | rfl | rfl | rfl<;>decide
 unfold SetTable.freeSlot SetTable.probe;have a:∃f,10*SetTable.turns t.mask=f+1:=⟨10*SetTable.turns t.mask-1,by unfold SetTable.turns;omega⟩;obtain⟨f,a⟩:=a;rw[a];unfold SetTable.probe.go;have l:(t.probeStart n).j=n.toNat:=k;rw[l,b];rfl
section
variable {prog:Program} {w:World} {A:Around} {E:VP} {s:Shared} {byT:Bool} {a:Addr} {ns:List Int} {ep:Nat}
theorem els_of {es:List (Int×Value)}(r:ElsAre es ns)(lo:∀n∈ns,1<=n/\n<=5):ElemsOf (intKind prog w) es:=by
 induction r with
 | nil=>intro e a;cases a
 | @cons e n es ns x t c =>
   intro d a;rcases Qn.mp a with rfl | a
   . obtain⟨f,h,b⟩:=x
     have l:=lo n (.head _);refine⟨⟨n,by rw[b];exact intKind_is _ _ _ _,?_⟩,by rw[b];rfl⟩;rw[f];exact(zO5 l.1 l.2).symm
   . exact c (fun m g=>lo m (.tail _ g)) d a
theorem yj8 {es:List (Int×Value)}(r:ElsAre es ns)(n:Int):(es.findIdx? fun e=>(intKind prog w).is n e.2)=none↔n∉ns:=by
 rw[List.findIdx?_eq_none_iff]
 induction r with
 | nil=>simp
 | @cons e m es ns x t a =>
   obtain⟨f,b,c⟩:=x;rw[List.forall_mem_cons,a];have d:((intKind prog w).is n e.2=false)↔n≠m:=by
     rw[c,KeyKind.is_eq_decide (knd:=intKind prog w) (intKind_is _ _ m b) n];simp
   rw[d];simp[not_or]
theorem fits_of {t:SetTable}{k:Nat}(a:t.place.size=k)(b:t.dummies = #[])(c:k<=t.mask):t.fits k=true:=by
 unfold SetTable.fits SetTable.fill;rw[a,b];simpa using c
theorem pick5 {b:Type}(es:Array b)(a:es.size=5):(#[0,1,2,3,4]:Array Nat).filterMap (es[·]?)=es:=by
 obtain⟨L⟩:=es
 match L,a with
 | [_,_,_,_,_],_=>rfl
theorem set_add {n:Int}{c:Tok}{Q:Bool->Shared->Prop}(S:SetS byT s.heap a ns ep)(Y:1<=n)(Z:n<=5)
   (h:∀M R a4 ae,Heap.SameBut a s.heap M->SetS byT M a R a4->(∀k,k∈R↔k∈ns\/k=n)->Q ae { s with heap:=M,toks:=s.toks+1 }):wpAny (model prog w) A (setAdd a (.int n c)) Q E s:=by
 obtain⟨⟨a0,es,t,r,J,p,e,l,f,K,C,L⟩,u,d⟩:=S;have h5:=five u d;have hl:=e.len;have a5:t.place.size=es.size:=by rw[<-Qv,l,Qb,<-hl,Qv]
 have ag:es.size=ns.length:=by rw[<-hl,Qv]
 have hf:t.fits es.size=true:=fits_of a5 f (by rw[K];split<;>omega);unfold setAdd;refine wpAny_holding (Qa ((intKind prog w).pyHash (k:=n) (intKind_is _ _ _ _) ?_));unfold setAddHashed setAddHashedIn;refine wpAny_holding (Qa (wpAny_setState_of (s:={ s with toks:=s.toks+1 }) r p hf ?_));dsimp only;have P:ElemsOf (intKind prog w) es.toList:=els_of e d;rw[byScan_of (knd:=intKind prog w) rfl (show es.size<scanBound by unfold scanBound;omega) P];simp only[↓reduceIte];unfold setAddByScan;refine Qa (Qa (wpAny_rule (Qa (wpAny_setScan_of (knd:=intKind prog w) (k:=n) (s:={ s with toks:=s.toks+1 }) (intKind_is _ _ _ _) r p hf P ?_))));by_cases q:n∈ns
 . cases hr:List.findIdx? (fun a1=>(intKind prog w).is n a1.2) es.toList with
   | none=>exact absurd q ((yj8 e n).mp hr)
   | some ah =>
     dsimp only;refine Qd (Qd (h s.heap ns ep false (Heap.SameBut.refl a s.heap) ⟨⟨a0,es,t,r,J,p,e,l,f,K,C,L⟩,u,d⟩ fun k=>?_));exact⟨.inl,fun z=>z.elim id fun z=>by rw[z];exact q⟩
 . rw[(yj8 e n).mpr q]
   dsimp only;have a6:ns.length<5:=by
     rcases QW ns.length 5 with z | z
     . exact z
     . exfalso
       apply q;rw[h5.2 (by omega)];have:n=1\/n=2\/n=3\/n=4\/n=5:=by omega
       simpa using this
   have B:t.mask=7:=by rw[K,Ql a6]
   have T:t.place.toList.Pairwise (· < ·):=by rw[l];exact nat_up u d
   have a7:n.toNat∉t.place.toList:=by
     rw[l];intro z;obtain⟨m,G,a1⟩:=QA.mp z;have:=d m G;exact q (by rw[show n=m by omega];exact G)
   obtain⟨b1,b2,b3⟩:=zO4 t.place n.toNat T;generalize hi:SetTable.below t.place n.toNat=i at b1 b2 b3;have a2:∀k (g:k<ns.length),t.place.getD k n.toNat=ns[k].toNat:=fun k g=>by
     have U:k<t.place.size:=by omega
     have:t.place.toList[k]?=(ns.map Int.toNat)[k]?:=by rw[l]
     rw[QN,Zl t.place k U,QP,Qe g] at this;have:=Qo this;simp[Array.getD,U,this]
   have c1:∀x∈ns.take i,x<n:=fun x v=>by
     obtain⟨k,g,rfl⟩:=List.mem_iff_getElem.mp v;have a8:k<i:=by simp at g;omega
     have o:k<ns.length:=by simp at g;omega
     have:=b1 k a8;rw[a2 k o] at this;have:=d ns[k] (ZA o);simp;omega
   have c2:∀x∈ns.drop i,n<x:=fun x v=>by
     obtain⟨k,g,rfl⟩:=List.mem_iff_getElem.mp v;have o:i+k<ns.length:=by simp at g;omega
     have:=b2 (i+k) (by omega) (by omega);rw[a2 (i+k) o] at this;have ai:=d ns[i+k] (ZA o);have ne:n≠ns[i+k]:=fun z=>q (by rw[z];exact ZA o)
     simp;omega
   have H:SetTable.insertAt t.place i n.toNat=((ns.take i++n::ns.drop i).map Int.toNat).toArray:=by
     apply Array.toList_inj.mp;rw[zo7,l];simp[List.map_take,List.map_drop]
   have a9:layNew t es n (.int n c)=(SetTable.insertAt es i (n,.int n c),{ t with place:=SetTable.insertAt t.place i n.toNat },false,false):=by
     unfold layNew;rw[free_at Y Z B f T a7];dsimp only;unfold SetTable.put;dsimp only;rw[hi];have y:SetTable.has t.dummies n.toNat=false:=by rw[f];unfold SetTable.has;simp
     rw[y];simp only[Ze,if_false];have hz:(SetTable.insertAt es i (n,Value.int n c)).size=(SetTable.insertAt t.place i n.toNat).size:=by
       rw[<-Qv,<-Qv,zo7,zo7];simp;omega
     have aa:({ t with place:=SetTable.insertAt t.place i n.toNat }:SetTable).fits (SetTable.insertAt es i (n,Value.int n c)).size=true:=by
       refine fits_of hz.symm f ?_;rw[hz,H];show _<=t.mask;rw[B];simp;omega
     unfold SetTable.orStandIn;rw[aa];simp
   have hh:(intKind prog w).hash n=n:=zO5 Y Z;rw[hh,a9];dsimp only;refine Qa (Qd ?_);rw[Ql C];refine Qa ?_;rw[hashByValue_scannable 8 (show(Value.int n c).scannable=true from rfl)];refine Qd ?_;rw[Ql (show plainKind (Value.int n c)=true from rfl)];have mem:∀k,k∈ns.take i++n::ns.drop i↔k∈ns\/k=n:=fun k=>by
     rw[Qt,Qn]
     conv=>rhs;rw[<-Zd i ns,Qt]
     constructor
     . rintro(z | z | z)
       . exact .inl (.inl z)
       . exact .inr z
       . exact .inl (.inr z)
     . rintro((z | z) | z)
       . exact .inl z
       . exact .inr (.inr z)
       . exact .inr (.inl z)
   have D:(ns.take i++n::ns.drop i).Pairwise (· < ·):=by
     refine QI.mpr ⟨u.sublist (List.take_sublist _ _),Zm.mpr ⟨c2,u.sublist (List.drop_sublist _ _)⟩,fun x v af N=>?_⟩;have:=c1 x v;rcases Qn.mp N with rfl | N
     . exact this
     . have:=c2 af N;omega
   have F:∀m∈ns.take i++n::ns.drop i,1<=m/\m<=5:=fun m G=>by
     rcases(mem m).mp G with z | z
     . exact d m z
     . omega
   have j:ElsAre (SetTable.insertAt es i (n,.int n c)).toList (ns.take i++n::ns.drop i):=by
     rw[zo7];exact(e.take i).app (.cons ⟨rfl,c,rfl⟩ (e.drop i))
   have I:(ns.take i++n::ns.drop i).length=ns.length+1:=by simp;omega
   have V:(SetTable.insertAt es i (n,Value.int n c)).size=ns.length+1:=by rw[<-Qv,j.len,I]
   have ab:(SetTable.insertAt t.place i n.toNat).size=ns.length+1:=by rw[H];simp;omega
   generalize ns.take i++n::ns.drop i=ms at mem D F j I H;generalize SetTable.insertAt es i (n,Value.int n c)=b at j V ⊢;have W:b.size<=sizeLine:=by rw[V,sizeLine_eq];omega
   refine Qa (wpAny_storeSet_of (s:={ s with toks:=s.toks+1 }) r p ?_ W);have X:=Heap.SameBut.update s.heap a (Obj.putSet b { t with place:=SetTable.insertAt t.place i n.toNat });have O:(s.heap.update a (Obj.putSet b { t with place:=SetTable.insertAt t.place i n.toNat })).get? a=some { a0 with data:=.set b (ep+1) { t with place:=SetTable.insertAt t.place i n.toNat } }:=by
     have:=Zu (Obj.putSet b { t with place:=SetTable.insertAt t.place i n.toNat }) r (by rw[putSet_of _ _ p];rfl);rw[putSet_of _ _ p] at this;exact this
   have a3:({ t with place:=SetTable.insertAt t.place i n.toNat }:SetTable).tooFull=decide (ns.length+1≥5):=by
     unfold SetTable.tooFull SetTable.fill;dsimp only;rw[ab,f,B];show decide ((ns.length+1+0)*5≥7*3)=_;by_cases z:ns.length+1≥5
     . rw[Qf z,Qf (by omega)]
     . rw[Qg z,Qg (by omega)]
   rw[a3];by_cases h6:ns.length+1≥5
   . rw[Ql (by simpa using h6)]
     have ac:=(five D F).2 (by omega);subst ac;have ad:relayAll { t with place:=SetTable.insertAt t.place i n.toNat } b (SetTable.grown b.size)=(b,{ mask:=31,place:=#[1,2,3,4,5],dummies:=#[],finger:=t.finger,led:=t.led,moves:=({ t with place:=SetTable.insertAt t.place i n.toNat }:SetTable).movedTo 31,plain:=t.plain },false):=by
       unfold relayAll;have e1:b.map (·.1) = #[1,2,3,4,5]:=by
         apply Array.toList_inj.mp;rw[Array.toList_map,j.fst]
       have y:b.size=5:=by omega
       rw[e1,y];have e3:SetTable.relaid { t with place:=SetTable.insertAt t.place i n.toNat } #[1,2,3,4,5] (SetTable.grown 5)=some ({ mask:=31,place:=#[1,2,3,4,5],dummies:=#[],finger:=t.finger,led:=t.led,moves:=({ t with place:=SetTable.insertAt t.place i n.toNat }:SetTable).movedTo 31,plain:=t.plain },#[0,1,2,3,4]):=by
         unfold SetTable.relaid SetTable.laid;have e4:SetTable.layClean (SetTable.sizeAbove (SetTable.grown 5)-1) #[1,2,3,4,5]=some #[none,some 0,some 1,some 2,some 3,some 4,none,none,none,none,none,none,none,none,none,none,none,none,none,none,none,none,none,none,none,none,none,none,none,none,none,none]:=by decide +kernel
         rw[e4];rfl
       rw[e3];dsimp only;have e5:(#[0,1,2,3,4]:Array Nat).filterMap (b[·]?)=b:=pick5 b y;rw[e5,y];rfl
     rw[ad];dsimp only;refine Qa (Qd (Qa (wpAny_storeSet_of (s:={ s with heap:=s.heap.update a (Obj.putSet b { t with place:=SetTable.insertAt t.place i n.toNat }),toks:=s.toks+1 }) O rfl ?_ W)));have g2:=Zu (Obj.putSet b { mask:=31,place:=#[1,2,3,4,5],dummies:=#[],finger:=t.finger,led:=t.led,moves:=({ t with place:=SetTable.insertAt t.place i n.toNat }:SetTable).movedTo 31,plain:=t.plain }) O (by rw[putSet_of (es:=b) (ep:=ep+1) _ _ rfl];rfl);rw[putSet_of (es:=b) (ep:=ep+1) _ _ rfl] at g2;exact Qd (Qd (h _ [1,2,3,4,5] (ep+1+1) true (X.trans (Heap.SameBut.update _ a _)) ⟨⟨_,b,_,g2,J,rfl,j,rfl,rfl,rfl,C,L⟩,D,F⟩ mem))
   . rw[Qh (by simpa using h6)]
     refine Qd (Qd (h _ ms (ep+1) true X ⟨⟨_,b,_,O,J,rfl,j,?_,f,?_,C,L⟩,D,F⟩ mem))
     . rw[H]
     . show t.mask=_
       rw[B,I,Ql (by omega)]
end
noncomputable def byT (w:World):Bool:=w.params.followText "set-order"
section
variable {prog:Program} {w:World} {A:Around} {E:VP} {s:Shared}
theorem SetS.other {b:Bool}{h h':Heap}{a:Addr}{ns:List Int}{ep:Nat}(S:SetS b h a ns ep)(k:∀o,h.get? a=some o->h'.get? a=some o):SetS b h' a ns ep:=by
 obtain⟨⟨o,c,t,d,r⟩,e,f⟩:=S;exact⟨⟨o,c,t,k o d,r⟩,e,f⟩
theorem set_fresh (h:Heap):SetS (byT w) (h.push { cls:=.type "set",dict:=none,data:=.set #[] 0 (.fresh 0 0 (!byT w)) }) h.objs.size [] 0 :=
 ⟨⟨_,#[],_,Qj _ rfl,⟨rfl,rfl,rfl⟩,rfl,.nil,rfl,rfl,rfl,rfl,fun e=>by show(!byT w)=true;rw[e];rfl⟩,.nil,fun n a=>by cases a⟩
theorem set_loop {I:Addr}{K c:List Addr}{G:Array GenState->Array GenState->Prop}{n:Nat}{P:Nat->Value->Prop}{St:Nat->Shared->Prop}{R:Result->Shared->Prop}{b:Bool}(W:WalksS prog w A.in1 I K c G n P St)(S:Addr)(D:S∉K)
   (val:Nat->Int) (L:∀i v,P i v->(∃t,v = .int (val i) t)/\1<=val i/\val i<=5) :
   ∀(k i:Nat) (s:Shared) (d:List Int) (m:Nat),n-i=k->i<=n->St i s->SetS b s.heap S d m->(∀x,x∈d↔∃j,j<i/\x=val j) →
     (∀a l p,Moved (S::c) G s a->SetS b a.heap S l p->(∀x,x∈l↔∃j,j<n/\x=val j)->R (.ok (.ret .none)) a) →
     codeAny (model prog w) A (.builtin "set.update.loop" ⟨[.ref S,.ref I],[]⟩) R s:=by
 have E:S∉c:=fun h=>D (W.sub _ h)
 have C:∀b∈c,b∈S::c:=fun b f=>QH _ f
 intro k
 induction k with
 | zero =>
   intro i s d m Y Z q r u y;obtain rfl:i=n:=by omega
   refine codeAny_builtin F.entry_set_update_loop ?_;rw[Around.under_plainId F.plain_set_update_loop _];show wpAny _ A.in1 (pyNext (.ref I) >>= _) _ _ s;refine Qa (W.done s _ _ q fun a g=>?_);show wpAny _ A.in1 (ret Value.none) _ _ a;exact Qd (y a d m (g.mono C) (r.other fun o B=>g.heap S _ E B) u)
 | succ k ih =>
   intro i s d m Y Z q r u y;have H:i<n:=by omega
   refine codeAny_builtin F.entry_set_update_loop ?_;rw[Around.under_plainId F.plain_set_update_loop _];show wpAny _ A.in1 (pyNext (.ref I) >>= _) _ _ s;refine Qa (W.item i s _ _ H q fun v a hP M g=>?_);obtain⟨⟨t,rfl⟩,v1,v2⟩:=L i v hP;show wpAny _ A.in1 (holding [Value.int (val i) t] (setAdd S (.int (val i) t)) >>= _) _ _ a;refine Qa (wpAny_holding (set_add (r.other fun o B=>g.heap S _ E B) v1 v2 fun h' l p b' J U V=>?_));refine Qd ⟨plainId_quiet F.plain_set_update_loop _,ih (i+1) _ l p (by omega) H (W.frame _ a _ _ M (Nat.le_succ _) fun b f o e=>?_) U (fun x=>?_) fun X N O Q T hx=>?_⟩
   . rw[J.2 b (fun h:b=S=>D (by rw[<-h];exact f))];exact e
   . rw[V,u]
     constructor
     . rintro(⟨j,hj,e⟩ | e)
       . exact⟨j,by omega,e⟩
       . exact⟨i,by omega,e⟩
     . rintro⟨j,hj,e⟩
       rcases QW j i with z | z
       . exact .inl ⟨j,z,e⟩
       . obtain rfl:j=i:=by omega
         exact .inr e
   . refine y X N O (Moved.trans W.gtrans ((g.mono C).then_heap (Nat.le_succ _) fun b o f e=>?_) Q) T hx
     rw[J.2 b (fun h:b=S=>f (by rw[h];exact QQ))];exact e
theorem code_set_newS (a:Value){Q₁:VP}
   (h:Q₁ (.ref s.heap.objs.size) { s with heap:=s.heap.push { cls:=.type "set",dict:=none,data:=.set #[] 0 (.fresh 0 0 (!byT w)) } }) :
   codeAny (model prog w) A (.call (.builtin "set.__new__") ⟨[.type "set",a],[]⟩) (wants Q₁ E) s:=by
 refine codeAny_of_tree ?_;show wpAny _ A.in1 (do checkBuiltinCall "set.__new__" ⟨[.type "set",a],[]⟩;again (.builtin "set.__new__" ⟨[.type "set",a],[]⟩)) _ _ s;refine Qa (wpAny_of_eq (PySem.F.newCall_set_1 a) (Qd ⟨plainId_quiet PySem.F.plain_set_new _,codeAny_builtin PySem.F.entry_set_new ?_⟩));rw[Around.under_plainId PySem.F.plain_set_new _];unfold Builtin.«set.__new__» Builtin.Frozenset.newClass;have b:=PySem.sub_set_self;obtain⟨c,g,d,e,f⟩:=s;dsimp only
 wp_walk
 refine wpAny_askSetting (Qd ?_);dsimp only;simp only[newObj];refine Qa (wpAny_alloc (Qd ?_));exact Qd h
end
section
variable {prog:Program} {w:World} {A:Around} {E:VP} {s:Shared}
theorem call_setS {l:Addr}{items:Array Value}{ns:List Int}{Q:VP}(hh:A.handled=none)(hl:s.heap.IsList l items)(G:IntsAre items.toList ns)(T:∀n∈ns,1<=n/\n<=5)
   (a3:∀(a:Heap) (f:Nat) (c:List Int) (d:Nat),SetS (byT w) a s.heap.objs.size c d->(∀x,x∈c↔x∈ns)->(∀b o,s.heap.get? b=some o->a.get? b=some o)->Q (.ref s.heap.objs.size) { s with heap:=a,toks:=f }) :
   wpAny (model prog w) A (call (.type "set") [.ref l]) Q E s:=by
 obtain⟨ah,tl,a7⟩:=PySem.F.called_set.mro;have a5:=PySem.F.called_set.made;have a8:=PySem.F.called_set.sub;refine wpAny_call (codeAny_of_tree ?_);show wpAny _ _ (callAny (.type "set") _) _ _ _;refine Qd ⟨Code.quiet_builtin _ (by decide +kernel),codeAny_builtin PySem.F.entry_type_call ?_⟩;rw[Around.under_plain (weight_type_call_type "set" [.ref l] []) rfl];have h1:=PySem.F.called_set.notType;have h2:=PySem.F.called_set.canCreate;have ad:=PySem.F.typeCall_set_1 (.ref l)
 repeat (any_goals (first | assumption | wp_step))
 refine codeAny_mono (code_set_newS (.ref l) (E:=E) (Q₁:=fun u H=>u = .ref s.heap.objs.size/\H = { s with heap:=s.heap.push { cls:=.type "set",dict:=none,data:=.set #[] 0 (.fresh 0 0 (!byT w)) } }) ⟨rfl,rfl⟩) fun r H p=>?_
 cases r with
 | error e=>exact p
 | ok fl =>
   cases fl with
   | ret u =>
     obtain⟨rfl,rfl⟩:=p;have hS:(s.heap.push { cls:=.type "set",dict:=none,data:=.set #[] 0 (.fresh 0 0 (!byT w)) }).get? s.heap.objs.size=some { cls:=.type "set",dict:=none,data:=.set #[] 0 (.fresh 0 0 (!byT w)) }:=Qj _ rfl;have hT:Shared.TypeIs { s with heap:=s.heap.push { cls:=.type "set",dict:=none,data:=.set #[] 0 (.fresh 0 0 (!byT w)) } } (.ref s.heap.objs.size) "set":=⟨_,hS,rfl⟩;have ae:=PySem.F.called_set.init.lookup;have af:=PySem.F.called_set.init.bind (.ref s.heap.objs.size)
     repeat (any_goals (first | assumption | wp_step))
     refine codeAny_mono (codeAny_call_builtin (R:=wants (fun r I=>r = .none/\∃a f c d,I = { s with heap:=a,toks:=f }/\SetS (byT w) a s.heap.objs.size c d/\(∀x,x∈c↔x∈ns) ∧
         (∀b o,s.heap.get? b=some o->a.get? b=some o)) E) PySem.F.called_set.init.plain PySem.F.entry_set_init (PySem.check_set_init_1 hT ?_)) fun r₂ I k=>?_
     . obtain⟨ol,y,z,J,B⟩:=hl
       obtain⟨a9,N,a6,M⟩:=ol;simp only at z B;subst z;subst B;have O:(s.heap.push { cls:=.type "set",dict:=none,data:=.set #[] 0 (.fresh 0 0 (!byT w)) }).get? l=some { cls:=.type "list",dict:=N,data:=.seq items J,slots:=M }:=Qc _ y;have aa:=PySem.F.sub_list_set;have ab:=PySem.F.sub_list_frozenset;have ag:(Value.type "list" == Value.type "dict")=false:=by decide
       have C:(s.heap.push { cls:=.type "set",dict:=none,data:=.set #[] 0 (.fresh 0 0 (!byT w)) }).IsList l items:=⟨_,O,rfl,J,rfl⟩;unfold Builtin.«set.__init__» noKeywords Builtin.Frozenset.updateFrom;generalize U:pyIter=PI
       wp_walk
       subst U;refine wpAny_pyIter_list C ?_;refine Qa (wpAny_runValue ?_);have D:l<s.heap.objs.size:=Qr y;have V:A.in1.in1.in1.handled=none:=by simp[hh]
       have P:l≠(s.heap.push { cls:=.type "set",dict:=none,data:=.set #[] 0 (.fresh 0 0 (!byT w)) }).objs.size:=by
         rw[Zw];exact QF (Nat.lt_succ_of_lt D)
       have W:s.heap.objs.size∉[(s.heap.push { cls:=.type "set",dict:=none,data:=.set #[] 0 (.fresh 0 0 (!byT w)) }).objs.size,l]:=by
         rw[Zw];simp only[Qn,QM,Zk,or_false,not_or];exact⟨QF (Nat.lt_succ_self _),Nat.ne_of_gt D⟩
       have ac:items.size=ns.length:=by rw[<-Qv];exact IntsAre.length G
       have S:∀(i:Nat) (v:Value),items[i]?=some v->(∃t,v = .int ((fun i=>ns.getD i 0) i) t)/\1<=ns.getD i 0/\ns.getD i 0<=5:=fun i v K=>by
         refine⟨PyProof.Rows.IntsAre.int_at G i v (by rw[QN];exact K),?_⟩;have F:i<ns.length:=by
           have:=(Array.getElem?_eq_some_iff.mp K).1;omega
         have:ns.getD i 0=ns[i]:=by simp[F]
         rw[this];exact T _ (ZA F)
       refine set_loop (b:=byT w) ((Walks.list V _ l P items).toS) s.heap.objs.size W (fun i=>ns.getD i 0) S (items.size-0) 0 _ [] 0 (by omega) (QD _)
         ⟨⟨_,Qj _ rfl,rfl,rfl⟩,(C.push _)⟩ ?hS0 (fun x=>⟨(fun a4=>nomatch a4),fun⟨j,g,_⟩=>absurd g (Nat.not_lt_zero _)⟩) ?hR
       case hS0 =>
         exact(set_fresh (w:=w) s.heap).other fun o ho=>Qc _ ho
       case hR =>
         intro s' c d h m q;obtain⟨a,g',d',X,Y⟩:=s';have eg:g'=s.gens:=h.gens;have ed:d'=s.drawn:=h.drawn;have eo:Y=s.os:=h.os;subst eg;subst ed;subst eo;show wpAny _ _ _ _ _ _;refine Qd ?_;show wpAny _ _ (ret Value.none) _ _ _;refine Qd ⟨rfl,a,X,c,d,rfl,m,fun x=>?_,fun b o e=>?_⟩
         . rw[q x,List.mem_iff_getElem]
           constructor
           . rintro⟨j,g,e⟩
             exact⟨j,by omega,by rw[e];simp[show j<ns.length by omega]⟩
           . rintro⟨j,g,e⟩
             exact⟨j,by omega,by rw[<-e];simp[g]⟩
         . have L:=Qr e
           have Z:b≠s.heap.objs.size:=QF L;have a0:b≠(s.heap.push { cls:=.type "set",dict:=none,data:=.set #[] 0 (.fresh 0 0 (!byT w)) }).objs.size:=by
             rw[Zw];exact QF (Nat.lt_succ_of_lt L)
           exact h.heap b o (by simp only[Qn,QM,Zk,or_false,not_or];exact⟨Z,a0⟩) (Qc _ (Qc _ e))
     . cases r₂ with
       | error e=>exact k
       | ok a1 =>
         cases a1 with
         | ret r =>
           obtain⟨rfl,a,f,c,d,rfl,m,q,a2⟩:=k
           repeat (any_goals (first | assumption | wp_step))
           exact a3 _ _ _ _ m q a2
         | _=>exact k.elim
   | _=>exact p.elim
end
theorem yj9 {f:Type}(next:Nat->Nat):∀(a k:Nat) (left:List f) (b:Array f),left.length<=a->(pickOrder.go next a k left b).toList.Perm (b.toList++left)
 | 0,k,left,b,h=>by
   obtain rfl:left=[]:=QC (by omega);unfold pickOrder.go;simp
 | a+1,k,left,b,h=>by
   unfold pickOrder.go;by_cases d:left=[]
   . subst d
     simp
   . have g:0<left.length:=ZL.mpr d
     have c:next k % left.length<left.length:=Nat.mod_lt _ g;rw[Qe c];dsimp only;refine(yj9 next a (k+1) _ _ (by rw[List.length_eraseIdx_of_lt c];omega)).trans ?_;rw[Array.toList_push,Zc];refine List.Perm.append_left _ ?_;have e:left=left.take (next k % left.length)++left[next k % left.length]::left.drop (next k % left.length+1):=by rw[<-List.drop_eq_getElem_cons c,Zd]
     rw[List.eraseIdx_eq_take_drop_succ]
     conv=>rhs;rw[e]
     rw[List.singleton_append];exact List.perm_middle.symm
theorem zT9 {a:Type}(next:Nat->Nat)(xs:Array a):(pickOrder next xs).toList.Perm xs.toList:=by
 have:=yj9 next xs.size 0 xs.toList #[] (by simp);unfold pickOrder;simpa using this
theorem zk6:PySem.Slot "set_iterator" "__next__" "set_iterator.__next__" :=
 .of (owner:="set_iterator") (n:="__next__") (by rw[typeLookup_type,builtinLookup_eq_fast];kernel_rfl) (by decide +kernel) (by decide +kernel) (by decide +kernel)
   (by first | exact .inl (by decide +kernel) | exact .inr (by decide +kernel)) (by rw[isSubtype_type];kernel_rfl)
theorem zC8:entryFor table "set_iterator.__next__" = some Builtin.«set_iterator.__next__»:=entryFor_of_tree (by kernel_rfl)
theorem yc6:Manifest.owners.lookup (String.ofList ['r','o','t','a','r','e','t','i','_','t','e','s'].reverse)=some Manifest.sig_set_iterator:=by kernel_rfl
theorem zG2 (a:Value):argsOk "set_iterator.__next__" ⟨[a],[]⟩:=by
 unfold argsOk;rw[signature?_of (id:="set_iterator.__next__") (n:=['_','_','t','x','e','n','_','_']) (o:=['r','o','t','a','r','e','t','i','_','t','e','s']) (by kernel_rfl) yc6];kernel_rfl
theorem zG3:PySem.Slot "set_iterator" "__iter__" "set_iterator.__iter__" :=
 .of (owner:="set_iterator") (n:="__iter__") (by rw[typeLookup_type,builtinLookup_eq_fast];kernel_rfl) (by decide +kernel) (by decide +kernel) (by decide +kernel)
   (by first | exact .inl (by decide +kernel) | exact .inr (by decide +kernel)) (by rw[isSubtype_type];kernel_rfl)
theorem entry_si_iter:entryFor table "set_iterator.__iter__" = some Builtin.«dict_keyiterator.__iter__» :=
 entryFor_alias (id':="dict_keyiterator.__iter__") (by kernel_rfl) rfl (by decide +kernel) (by kernel_rfl)
theorem args_si_iter (a:Value):argsOk "set_iterator.__iter__" ⟨[a],[]⟩:=by
 unfold argsOk;rw[signature?_of (id:="set_iterator.__iter__") (n:=['_','_','r','e','t','i','_','_']) (o:=['r','o','t','a','r','e','t','i','_','t','e','s']) (by kernel_rfl) yc6];kernel_rfl
theorem entry_s_iter:entryFor table "set.__iter__" = some Builtin.«frozenset.__iter__» :=
 entryFor_alias (id':="frozenset.__iter__") (by kernel_rfl) rfl (by decide +kernel) (by kernel_rfl)
def zq9 (h:Heap) (it a:Addr) (slot i n ep:Nat):Prop:=∃o,h.get? it=some o/\o.cls = .type "set_iterator"/\o.data = .fields #[.int slot 0,.int i 0,.ref a,.int n 0,.int ep 0]
def zt4 (h:Heap)(a:Addr)(es:Array (Int×Value))(ep:Nat)(t:SetTable):Prop:=∃o,h.get? a=some o/\o.ExactSet/\o.data = .set es ep t
noncomputable def ordOf (w:World)(a:Addr)(ep:Nat)(es:Array (Int×Value)):Array (Int×Value):=if byT w=true then pickOrder (w.params.setOrder a ep) es else es
noncomputable def zj4 (w:World)(t:SetTable):Nat->Nat
 | 0=>0
 | i+1=>if byT w=true then 0 else t.place.getD i 0+1
structure SetGood (w:World)(es:Array (Int×Value))(t:SetTable):Prop where
 fits:t.fits es.size=true
 size:t.place.size=es.size
 plain:t.plain=true
 led:byT w=false->t.led=true
 up:t.place.toList.Pairwise (· < ·)
theorem ord_size (w:World)(a:Addr)(ep:Nat)(es:Array (Int×Value)):(ordOf w a ep es).size=es.size:=by
 unfold ordOf
 split
 . rw[<-Qv,(zT9 _ _).length_eq,Qv]
 . rfl
theorem ord_perm (w:World)(a:Addr)(ep:Nat)(es:Array (Int×Value)):(ordOf w a ep es).toList.Perm es.toList:=by
 unfold ordOf
 split
 . exact zT9 _ _
 . exact .refl _
section
variable {prog:Program} {w:World} {A:Around} {E:VP} {s:Shared} {a it:Addr} {es:Array (Int×Value)} {ep:Nat} {t:SetTable}
theorem zt4.typeIs (x:zt4 s.heap a es ep t):s.TypeIs (.ref a) "set":=let⟨o,b,c,_⟩:=x;⟨o,b,c.1⟩
theorem zt4.at_ {h h':Heap}(x:zt4 h a es ep t)(k:∀o,h.get? a=some o->h'.get? a=some o):zt4 h' a es ep t:=let⟨o,b,r⟩:=x;⟨o,k o b,r⟩
theorem zq9.typeIs {b i n:Nat} (x:zq9 s.heap it a b i n ep):s.TypeIs (.ref it) "set_iterator":=let⟨o,c,d,_⟩:=x;⟨o,c,d⟩
theorem sl {j:Nat}(a:byT w=false):zj4 w t (j+1)=t.place.getD j 0+1:=by
 show(if byT w=true then 0 else _)=_;rw[Qh (by rw[a];decide)]
theorem si_next {i:Nat}{Q:Option Value->Shared->Prop}(g:SetGood w es t)(u:zq9 s.heap it a (zj4 w t i) i es.size ep)(V:zt4 s.heap a es ep t)(a5:a≠it)(c:i<es.size)
   (W:∀n,zq9 n it a (zj4 w t (i+1)) (i+1) es.size ep->Heap.SameBut it s.heap n->Q (some ((ordOf w a ep es)[i]'(by rw[ord_size];exact c)).2) { s with heap:=n }):wpAny (model prog w) A (pyNext (.ref it)) Q E s:=by
 have C:=u.typeIs;obtain⟨a8,o,X,h⟩:=id u;obtain⟨os,k,a6,l⟩:=id V;unfold pyNext;refine Qa (wpAny_attempt (wpAny_callSpecial?_slot (name:=Str.ofString "__next__") C zk6 (wpAny_call_entry zk6 C zC8 ?_ (zG2 _))));unfold Builtin.«set_iterator.__next__»;refine Qa (m:=slotArgs _ _ _) (Qd (Qa (wpAny_fieldsOf o h ?_)));dsimp only;refine Qa (wpAny_setEntries_of k l g.fits ?_);rw[Qh (by simp)];refine Qa ?_;have Y:∀(R:Option (Value×Nat)->Shared->Prop) (D:VP),R (some (((ordOf w a ep es)[i]'(by rw[ord_size];exact c)).2,zj4 w t (i+1))) s->wpAny (model prog w) A.in1 (setNext a (zj4 w t i) i ep) R D s:=fun R D e=>by
   unfold setNext;refine Qa (wpAny_setState_of k l g.fits ?_);dsimp only;unfold setsByText;refine Qa (Qa (wpAny_askSetting (Qd ?_)));cases b:byT w with
   | true =>
     have f:((model prog w).w.params.followText "set-order")=true:=b;have F:ordOf w a ep es=pickOrder (w.params.setOrder a ep) es:=by unfold ordOf;rw[Ql b]
     have G:∀j,zj4 w t j=0:=fun j=>by cases j with
       | zero=>rfl
       | succ j=>show(if byT w=true then 0 else _)=0;rw[Ql b]
     dsimp only;rw[Ql f,Qh (by simp)];refine Qa ?_;unfold setWalk;refine Qa (wpAny_setState_of k l g.fits ?_);dsimp only;unfold setsByText;refine Qa (Qa (wpAny_askSetting (Qd ?_)));dsimp only;rw[Ql f];refine Qa (wpAny_askSetting (Qd (Qd ?_)));dsimp only;have T:i<(pickOrder (w.params.setOrder a ep) es).size:=by rw[<-F,ord_size];exact c
     rw[Zl _ i T,G i];rw[G (i+1)] at e;have p:((ordOf w a ep es)[i]'(by rw[ord_size];exact c))=(pickOrder (w.params.setOrder a ep) es)[i]:=by congr 1
     rw[p] at e;exact e
   | false =>
     have f:¬ ((model prog w).w.params.followText "set-order")=true:=by rw[show(model prog w).w.params.followText "set-order" = false from b];decide
     have F:ordOf w a ep es=es:=by unfold ordOf;rw[Qh (by rw[b];decide)]
     have H:=g.plain;have I:=g.led b;have J:=g.up;have hz:=g.size;dsimp only;rw[Qh f];have K:SetTable.below t.place (zj4 w t i)=i:=by
       obtain⟨L,M,Z⟩:=zO4 t.place (zj4 w t i) J;have mono:∀x y,x<y->y<t.place.size->t.place.getD x 0<t.place.getD y 0:=fun x y U N=>by
         have:=QR.mp J x y (by simp;omega) (by simpa using N) U;simpa [Array.getD,N,show x<t.place.size by omega] using this
       have O:∀x d,x<t.place.size->t.place.getD x d=t.place.getD x 0:=fun x d hx=>by simp[Array.getD,hx]
       generalize hB:SetTable.below t.place (zj4 w t i)=B at L M Z;rcases Nat.lt_trichotomy B i with z | z | z
       . exfalso
         obtain⟨j,rfl⟩:∃j,i=j+1:=⟨i-1,by omega⟩;have q:=M B (Qi _) (by omega);rw[sl (by exact b),O B (t.place.getD j 0+1) (by omega)] at q;rcases QW B j with y | y
         . have:=mono B j y (by omega);omega
         . obtain rfl:B=j:=by omega
           omega
       . exact z
       . exfalso
         have q:=L i z;rw[O _ _ (by omega)] at q;cases i with
         | zero=>exact absurd q (Nat.not_lt_zero _)
         | succ j =>
           rw[sl b] at q;have:=mono j (j+1) (by omega) (by omega);omega
     have e5:zj4 w t (i+1)=t.place[i]'(by omega)+1:=by
       rw[sl b];simp[Array.getD,show i<t.place.size by omega]
     have p:((ordOf w a ep es)[i]'(by rw[ord_size];exact c))=es[i]:=by congr 1
     rw[p,e5] at e;have v:i<t.place.size:=by omega
     obtain⟨a4,S,a0,a1,a7,a2,a3⟩:=t;dsimp only at H I;subst H I;rw[Qh (by intro z;exact Bool.noConfusion (show false=true from z))];refine Qa (Qd ?_);dsimp only at K v e ⊢;rw[K];rw[Zl es i c,Zl S i v];exact Qd e
 refine Y _ _ ?_;dsimp only;refine Qa (wpAny_setField o h (by simp) ?_);have P:=Zu (Obj.mapFields (·.setIfInBounds 0 (rawInt (zj4 w t (i+1):Int)))) o (Obj.isFreed_of_fields (Obj.data_mapFields h _));have r:=Obj.data_mapFields h (·.setIfInBounds 0 (rawInt (zj4 w t (i+1):Int)));refine Qa (wpAny_setField (s:={ s with heap:=_ }) P r (by simp) ?_);have g2:=Zu (Obj.mapFields (·.setIfInBounds 1 (rawInt ((i:Int)+1)))) P (Obj.isFreed_of_fields (Obj.data_mapFields r _));have d2:=Obj.data_mapFields r (·.setIfInBounds 1 (rawInt ((i:Int)+1)));refine Qd ⟨_,rfl,Qd (W _ ⟨_,g2,?_,?_⟩ ((Heap.SameBut.update s.heap it _).trans (Heap.SameBut.update _ it _)))⟩
 . rw[Obj.cls_mapFields,Obj.cls_mapFields]
   exact X
 . rw[d2]
   simp[rawInt]
theorem si_end {Q:Option Value->Shared->Prop}(G:A.handled=none)(g:SetGood w es t)(h:zq9 s.heap it a (zj4 w t es.size) es.size es.size ep)(H:zt4 s.heap a es ep t)(Z:a≠it)
   (I:∀i,Heap.ExtBut it s.heap i->Q none { s with heap:=i }):wpAny (model prog w) A (pyNext (.ref it)) Q E s:=by
 have k:=h.typeIs;obtain⟨a2,l,hc,n⟩:=id h;obtain⟨os,e,a0,f⟩:=id H;unfold pyNext;refine Qa (wpAny_attempt (wpAny_callSpecial?_slot (name:=Str.ofString "__next__") k zk6 (wpAny_call_entry zk6 k zC8 ?_ (zG2 _))));unfold Builtin.«set_iterator.__next__»;refine Qa (m:=slotArgs _ _ _) (Qd (Qa (wpAny_fieldsOf l n ?_)));dsimp only;refine Qa (wpAny_setEntries_of e f g.fits ?_);rw[Qh (by simp)];refine Qa ?_;have J:∀(R:Option (Value×Nat)->Shared->Prop) (o:VP),R none s->wpAny (model prog w) A.in1 (setNext a (zj4 w t es.size) es.size ep) R o s:=fun R o p=>by
   unfold setNext;refine Qa (wpAny_setState_of e f g.fits ?_);dsimp only;unfold setsByText;refine Qa (Qa (wpAny_askSetting (Qd ?_)));cases c:byT w with
   | true =>
     have d:((model prog w).w.params.followText "set-order")=true:=c;have K:ordOf w a ep es=pickOrder (w.params.setOrder a ep) es:=by unfold ordOf;rw[Ql c]
     dsimp only;rw[Ql d,Qh (by simp)];refine Qa ?_;unfold setWalk;refine Qa (wpAny_setState_of e f g.fits ?_);dsimp only;unfold setsByText;refine Qa (Qa (wpAny_askSetting (Qd ?_)));dsimp only;rw[Ql d];refine Qa (wpAny_askSetting (Qd (Qd ?_)));dsimp only;have L:(pickOrder (w.params.setOrder a ep) es)[es.size]?=none:=by
       rw[<-K];exact Array.getElem?_eq_none (by rw[ord_size];exact Qi _)
     have M:(pickOrder ((model prog w).w.params.setOrder a ep) es)[es.size]?=none:=L;rw[M];exact p
   | false =>
     have d:¬ ((model prog w).w.params.followText "set-order")=true:=by rw[show(model prog w).w.params.followText "set-order" = false from c];decide
     have r:=g.plain;have u:=g.led c;have v:=g.up;have hz:=g.size;dsimp only;rw[Qh d];have C:es.size<=SetTable.below t.place (zj4 w t es.size):=by
       obtain⟨b1,N,b3⟩:=zO4 t.place (zj4 w t es.size) v;rcases QW (SetTable.below t.place (zj4 w t es.size)) es.size with z | z
       . exfalso
         have mono:∀x y,x<y->y<t.place.size->t.place.getD x 0<t.place.getD y 0:=fun x y F D=>by
           have:=QR.mp v x y (by simp;omega) (by simpa using D) F;simpa [Array.getD,D,show x<t.place.size by omega] using this
         have q:=N _ (Qi _) (by omega);generalize SetTable.below t.place (zj4 w t es.size)=B at q z;obtain⟨j,O⟩:∃j,es.size=j+1:=⟨es.size-1,by omega⟩;rw[O,sl c] at q;have P:t.place.getD B (t.place.getD j 0+1)=t.place.getD B 0:=by simp[Array.getD,show B<t.place.size by omega]
         rw[P] at q;rcases QW B j with y | y
         . have:=mono B j y (by omega);omega
         . obtain rfl:B=j:=by omega
           omega
       . exact z
     obtain⟨Y,V,S,U,a1,W,X⟩:=t;dsimp only at r u;subst r u;rw[Qh (by intro z;exact Bool.noConfusion (show false=true from z))];refine Qa (Qd ?_);dsimp only at C ⊢;rw[Array.getElem?_eq_none C];exact Qd p
 refine J _ _ ?_;dsimp only;refine Qa (wpAny_setField l n (by simp) ?_);refine Qa ?_;simp only[newExc,newTuple];refine Qa (wpAny_newObj_type ?_ (by size_fits));refine Qa (m:=firstArgMember _ _) (wpAny_of_eq (a:=Value.none) (by first | rfl | (simp only[firstArgMember];rfl)) ?_);refine wpAny_newObj_type ?_ (by size_fits);simp only[raiseNew];refine Qa (wpAny_handled ?_);rw[show A.in1.handled=none from G];refine Qa (Qd (wpAny_throw ?_));refine Qa (wpAny_isInstance (T:="StopIteration") (b:=true) ⟨_,Qj _ rfl,rfl⟩ isSubtype_stop ?_);exact Qd (I _ (((Heap.SameBut.update ..).extBut.push _).push _))
theorem s_iter {Q:VP}(g:SetGood w es t)(d:zt4 s.heap a es ep t)
   (i:Q (.ref s.heap.objs.size) { s with heap:=s.heap.push { cls:=.type "set_iterator",data:=.fields #[.int 0 0,.int 0 0,.ref a,.int es.size 0,.int ep 0] } }):wpAny (model prog w) A (pyIter (.ref a)) Q E s:=by
 have e:=d.typeIs;obtain⟨u,b,q,c⟩:=id d;refine wpAny_pyIter_slot e PySem.F.slot_set_iter (wpAny_call_entry PySem.F.slot_set_iter e entry_s_iter ?_ (PySem.F.args_set_iter_1 _));unfold Builtin.«frozenset.__iter__» Builtin.Frozenset.slot0;refine Qa (Qa (m:=slotArgs _ _ _) (Qd (Qd ?_)));unfold Builtin.Frozenset.sizeOf;refine Qa (Qa (wpAny_setEntries_of b c g.fits (Qd ?_)));unfold setDrawn;refine Qa (Qa (wpAny_setState_of b c g.fits ?_));dsimp only;unfold setsByText;refine Qa (Qa (wpAny_askSetting (Qd (Qd ?_))));dsimp only;have f:=g.plain;obtain⟨p,l,j,k,r,n,o⟩:=t;dsimp only at f;subst f;rw[Qh (by
   intro z;have h:(!((model prog w).w.params.followText "set-order") && false)=true:=z;rw[Bool.and_false] at h;exact Bool.noConfusion h)]
 refine Qa (Qd (Qa ?_));unfold setEpoch;refine Qa (wpAny_setState_of b c g.fits (Qd ?_));exact Qa (wpAny_newObj_type (Qd ⟨_,rfl,"set_iterator",_,⟨_,Qj _ rfl,rfl⟩,zk6.lookup,i⟩))
theorem s_hint {Q:Bool->Shared->Prop} (d:s.TypeIs (.ref a) "set") (h:Q false s):wpAny (model prog w) A (Builtin.List.listLengthHint (.ref a)) Q E s:=by
 unfold Builtin.List.listLengthHint;refine Qa (wpAny_specialOf d PySem.F.slot_set_len.lookup ?_);generalize e:("set.__len__" : String)=f
 wp_delta
 rw[show splitId f=some ("set","__len__") from by subst e;decide +kernel];subst e;refine Qa (wpAny_isInstance (T:="set") (b:=true) d (by rw[isSubtype_type];kernel_rfl) ?_);refine wpAny_ite_split (fun c=>absurd c (by decide)) (fun _=>?_);refine wpAny_ite_split (fun _=>?_) (fun c=>absurd (by decide +kernel) c);refine Qa (wpAny_typeOf d ?_);exact Qd h
theorem s_walks (x:A.handled=none)(I a:Addr)(j:a≠I)(g:SetGood w es t)(ep:Nat) :
   Walks prog w A I [I,a] [I] es.size (fun i v=>∃h:i<es.size,v=((ordOf w a ep es)[i]'(by rw[ord_size];exact h)).2) (fun i h=>zq9 h I a (zj4 w t i) i es.size ep/\zt4 h a es ep t) where
 sub:=fun b d=>by simp at d;simp[d]
 frame:=fun _ _ _ c n=>⟨let⟨o,y,r⟩:=c.1;⟨o,n I (by simp) o y,r⟩,c.2.at_ fun o e=>n a (by simp) o e⟩
 item:=fun i s Q E p c f=>si_next g c.1 c.2 j p fun k q m=>f _ k s.toks ⟨p,rfl⟩ ⟨q,c.2.at_ fun o e=>m.extBut a o j e⟩ fun b o d e=>m.extBut b o (fun h=>d (by simp[h])) e
 done:=fun s Q E c f=>si_end x g c.1 c.2 j fun k u=>f k s.toks fun b o d e=>u b o (fun h=>d (by simp[h])) e
 self:=fun s Q E i c f=>by
   have l:=c.1.typeIs;refine wpAny_pyIter_slot l zG3 (wpAny_call_entry zG3 l entry_si_iter ?_ (args_si_iter _));show wpAny _ _ (ret (.ref I)) _ _ _;exact Qd ⟨_,rfl,"set_iterator",_,l,zk6.lookup,f⟩
theorem s_src (g:SetGood w es t):KdlSrc prog w "set" a a es.size (fun i v=>∃h:i<es.size,v=((ordOf w a ep es)[i]'(by rw[ord_size];exact h)).2) (fun h=>zt4 h a es ep t) where
 type:=fun _ b=>b.typeIs
 there:=fun _ b=>⟨let⟨_,c,_⟩:=b;Qr c,let⟨_,c,_⟩:=b;Qr c⟩
 keep:=fun _ _ b f=>b.at_ fun o e=>f a (.inl rfl) o e
 notList:=by decide
 notTuple:=by decide
 hint:=fun _ _ _ _ b d=>s_hint b.typeIs d
 iter:=fun _ _ j b=>⟨_,_,(fun _ _ d=>s_iter g b d),s_walks j _ a (QF (let⟨_,c,_⟩:=b;Qr c)) g ep,⟨⟨_,Qj _ rfl,rfl,rfl⟩,b.at_ fun o e=>Qc _ e⟩⟩
end
end Sx
namespace L2
open PySem PySem.Spec PyProof.Rows
noncomputable def SetV (w:World)(p:Addr)(ms:List Int):HO:=.ext fun h=>∃ep,Sx.SetS (Sx.byT w) h p ms ep
section
variable {X:Cx}
theorem call_setI (f:X.calm=true):zm4 X (.type "set") (fun c H Q=>∃(l:Addr) (b:List Int),c=[.ref l]/\SqL X.K H l (b.map V.int)/\(∀n∈b,1<=n/\n<=5)/\∀p a,H p=none->(∀x,x∈a↔x∈b)->a.Pairwise (· < ·)->Q (.ref p) (upd H p (SetV X.w p a))):=by
 intro B s L H c D Q I r h;obtain⟨l,b,rfl,g,d,q⟩:=h;obtain⟨u,rfl,i⟩:=zx8 r;cases i;obtain⟨C,j,p,E⟩:=I.list g;refine Sx.call_setS (I.ok.hd f) p.isList (by simpa using zn9 j) d fun F m a v S w k=>?_
 refine⟨.ref s.heap.objs.size,_,I.laid (t':=m) (o:=SetV X.w s.heap.objs.size a) k (Qi _) ?_,rfl,q _ a (I.hok.fresh (Qi _)) w S.up⟩;refine⟨⟨v,S⟩,?_,fun G J ⟨e,y⟩ z=>⟨e,y.other z⟩⟩;obtain⟨o,K,t,A,_⟩:=S.st;exact⟨o,A⟩
theorem sorted_eq {a b:List Int}(p:a.Perm b)(c:a.Pairwise (·<=·))(d:b.Pairwise (· < ·)):a=b:=W.ksm_same p c (d.imp fun z=>Int.le_of_lt z)
theorem yc7:∀ {a:List (Int×Value)} {b:List Int},Sx.ElsAre a b->IntsAre (a.map (·.2)) b
 | _,_,.nil=>.nil
 | _,_,.cons ⟨_,c,h⟩ t=>by
   rw[QL,h];exact .cons _ _ (yc7 t)
theorem ints_perm {vs us:List Value}{ns:List Int}(p:vs.Perm us)(h:IntsAre us ns):∃a,IntsAre vs a/\a.Perm ns:=by
 induction p generalizing ns with
 | nil=>cases h;exact⟨[],.nil,.nil⟩
 | cons x _ f =>
   cases h with
   | cons n t h=>obtain⟨a,b,c⟩:=f h;exact⟨n::a,.cons n t b,c.cons n⟩
 | swap x y l =>
   cases h with
   | cons n t h=>cases h with
     | cons m u h=>exact⟨m::n::_,.cons m u (.cons n t h),.swap _ _ _⟩
 | trans _ _ d e =>
   obtain⟨a,b,c⟩:=e h;obtain⟨g,i,j⟩:=d b;exact⟨g,i,j.trans c⟩
theorem call_sortS (U:X.calm=true):zm4 X (.builtin "sorted") (fun A H Q=>∃(p:Addr) (e:List Int),A=[.ref p]/\H p=some (SetV X.w p e)/\∀l,H l=none->Q (.ref l) (upd H l (.lst (e.map V.int)))):=by
 intro J s σ H A us Q I a0 a4;obtain⟨p,e,rfl,Y,q⟩:=a4;obtain⟨u,rfl,Z⟩:=zx8 a0;cases Z;obtain⟨⟨ep,a5⟩,_,_⟩:=(show ze9 X.prog X.w H s.heap p (SetV X.w p e) from I.hok p _ Y);obtain⟨⟨o,f,t,ho,K,hd,v,w,L,M,N,O⟩,n,B⟩:=a5;have h5:=(Sx.five n B).1;have C:=v.len;have x:t.place.size=f.size:=by rw[<-Qv,w,Qb,<-C,Qv]
 have P:f.size=e.length:=by rw[<-C,Qv]
 have a6:Sx.SetGood X.w f t:=⟨Sx.fits_of x L (by rw[M];split<;>omega),x,N,O,by rw[w];exact Sx.nat_up n B⟩;refine Calls.call_function_entry kind_sorted plain_sorted entry_sorted (args_sorted1 _) ?_;unfold Builtin.«sorted»;refine Qa (m:=checkCount "sorted" 1 1 _) (Qd ?_);refine Qa (W.kdu_collect (Sx.s_src (ep:=ep) a6) (show X.A.in1.handled=none from I.ok.hd U) ⟨o,ho,K,hd⟩ (by rw[sizeLine_eq];omega) fun d h a k1 i=>?_);have a7:a.toList=(Sx.ordOf X.w p ep f).toList.map (·.2):=by
   apply List.ext_getElem?;intro j;rcases QW j f.size with z | z
   . have D:j<a.size:=by rw[i.1];exact z
     obtain⟨_,q⟩:=i.2 j a[j] (Zl a j D);have R:j<(Sx.ordOf X.w p ep f).size:=by rw[Sx.ord_size];exact z
     rw[QN,Zl a j D,QP,QN,Zl _ j R,q];rfl
   . rw[Zt (by rw[Qv,i.1];exact z),Zt (by rw[Qb,Qv,Sx.ord_size];exact z)]
 obtain⟨ns,hi,S⟩:=ints_perm (vs:=a.toList) (us:=f.toList.map (·.2)) (ns:=e) (by rw[a7];exact(Sx.ord_perm X.w p ep f).map _) (yc7 v);have T:a.toList.length=e.length:=by rw[Qv,i.1,P]
 refine Qa (wpAny_newList ?_ (by rw[T,sizeLine_eq];omega));have k:(d.push (seqObj "list" a.toList.toArray 0)).get? d.objs.size=some (seqObj "list" a.toList.toArray 0):=Qj _ rfl;show wpAny _ _ _ _ _ { s with heap:=d.push (seqObj "list" a.toList.toArray 0),toks:=h };refine Qa (wpAny_holding (wpAny_call_entry slot_list_sort ⟨_,k,rfl⟩ entry_list_sort (list_sort_tree (s:={ s with heap:=d.push (seqObj "list" a.toList.toArray 0),toks:=h }) k hi (by omega) fun g y a1 a2 a3=>⟨_,rfl,?_⟩) (args_list_sort _)));have E:Inv X J σ H { s with heap:=d,toks:=h }:=I.kept k1;have en:y=e:=sorted_eq (a2.trans S) a3 n;subst en;have ke:∀b u,d.get? b=some u->(sortedHeap (d.push (seqObj "list" a.toList.toArray 0)) d.objs.size a.toList g).get? b=some u:=fun b u z=>by
   have F:b≠d.objs.size:=QF (Qr z);unfold sortedHeap;rw[Heap.get?_update_ne _ _ _ _ F];refine Qc _ (Qc _ ?_);rw[Heap.get?_update_ne _ _ _ _ F];exact Qc _ z
 have r:∃c,(sortedHeap (d.push (seqObj "list" a.toList.toArray 0)) d.objs.size a.toList g).get? d.objs.size=some (seqObj "list" g.toList.toArray c):=by
   obtain⟨G,g1⟩:∃G,((d.push (seqObj "list" a.toList.toArray 0)).update d.objs.size (Obj.mapSeq fun _=>(#[]:Array Value))).get? d.objs.size=some (seqObj "list" #[] G):=⟨_,get?_update_seq k fun _=>#[]⟩;have g2:=Qc (seqObj "list" #[] 0) (Qc (seqObj "tuple" a.toList.toArray 0) g1);rw[Array.toArray_toList];exact⟨_,get?_update_seq g2 fun _=>g⟩
 obtain⟨c,r⟩:=r;refine Qd ⟨_,rfl,⟨.ref d.objs.size,_,E.laid (s:={ s with heap:=d,toks:=h }) (t':=h) (o:=.lst (y.map V.int)) ke (Qi _) (show ze9 X.prog X.w _ _ _ (.lst _) from⟨?_,g.toList,c,?_,r⟩),rfl,q _ (E.hok.fresh (Qi _))⟩⟩
 . rw[Qb,sizeLine_eq];omega
 . exact zI8 a1
end
end L2
namespace L2
open PySem
theorem Same.tups {H H':Hp}(s:Same H H'){ys:List V}{a:List (List Int)}(h:Tups H ys a):Tups H' ys a:=Paired.mapP h fun y k ⟨b,e,c⟩=>⟨b,e,s _ _ c⟩
theorem zk7 {H:Hp}{l:Addr}{o u:HO}(d:H l=some o)(f:∀g,o≠.tup g){ys:List V}{c:List (List Int)}(h:Tups H ys c):Tups (upd H l u) ys c :=
 Paired.mapP h fun y k ⟨b,e,a⟩=>⟨b,e,by rw[za7 (fun z=>by rw[z,d] at a;injection a with a;exact f _ a)];exact a⟩
theorem zr0 {H:Hp}{ys:List V}{a:List (List Int)}(h:Tups H ys a){b:Addr}{k:List Int}(c:H b=some (.tup (k.map V.int))):Tups H (ys++[.ref b]) (a++[k]):=Paired.snoc h ⟨b,rfl,c⟩
theorem pat {b c:Type}{R:b->c->Prop}{xs:List b}{ys:List c}(h:Paired R xs ys):∀ {i:Nat} {x:b},xs[i]?=some x->∃y,ys[i]?=some y/\R x y:=by
 induction h with
 | nil =>
   intro i x e;rw[List.getElem?_nil] at e;cases e
 | cons a t d =>
   intro i x e;cases i with
   | zero=>exact⟨_,rfl,Qo e▸a⟩
   | succ i=>exact d e
theorem zo8 {H:Hp}{ys:List V}{a:List (List Int)}(h:Tups H ys a){i:Nat}{y:V}(e:ys[i]?=some y):∃b k,y = .ref b/\a[i]?=some k/\H b=some (.tup (k.map V.int)):=by
 obtain⟨k,c,b,d,f⟩:=pat h e;exact⟨b,k,d,c,f⟩
theorem ze6 {H:Hp}{ys:List V}{a:List (List Int)}(h:Tups H ys a):ys.length=a.length:=Paired.length h
theorem zg6.same {H a c:Hp}{l:Addr}(s:Same H a)(d:H l=none)(x:zg6 l a c):Same H c:=fun b o e=>x b o (s b o e) (zb2 e d)
theorem Same.x {H a:Hp}{l:Addr}(s:Same H a):zg6 l H a:=fun b o e _=>s b o e
theorem zg6.trans {H a c:Hp}{l:Addr}(s:zg6 l H a)(s':zg6 l a c):zg6 l H c:=fun b o e d=>s' b o (s b o e d) d
theorem zg6.updX {H a:Hp}{l:Addr}{o:HO}(s:zg6 l H a):zg6 l H (L2.upd a l o):=fun b u e c=>by rw[za7 c];exact s b u e c
theorem zg6.put {H c:Hp}{l a:Addr}{o:HO}(s:zg6 l H c)(h:H a=none):zg6 l H (L2.upd c a o):=fun b u e d=>by rw[za7 (zb2 e h)];exact s b u e d
theorem zg6.free {H b:Hp}{l a:Addr}(s:zg6 l H b)(h:b a=none)(c:b l≠none):H a=none:=by
 cases e:H a with
 | none=>rfl
 | some o =>
   by_cases z:a=l
   . rw[z] at h;exact absurd h c
   . rw[s a o e z] at h;cases h
theorem yq3 {X:Cx} {o e:Expr} {es:List Expr} {c:TE} {t:TA} {name:Str} {b a:Pos} {T id:String} {r:V->List V->Hp->VK->Prop} (K:W.Frag) (h:X.K=K) (l:PlainAttrs T) (i:Slot T name id) (k:typeOf (.builtin id)=pure (.type "method_descriptor")) (m:MtR X id r) (n:PE X o c) (p:PA X (e::es) t)
 (f:attributeBase o name X.env (eval o X.env)=eval o X.env:=by rfl)
 (j:((backTo a (starEach (e::es) X.env)).all (fun x=>!x.1) && (backToKw a (keywordEach [] X.env)).all (fun x=>x.1.isSome)
   && decide ((e::es).length+([]:List Keyword).length+(if ([]:List Keyword).isEmpty then 0 else 1)<30))=true:=by rfl)
 (g:(b.endLine == a.line)=true:=by rfl) (hs:starEach (e::es) X.env=(false,eval e X.env)::starEach es X.env:=by rfl) (d:(backTo a (starEach es X.env)).any (·.1)=false:=by rfl) :
 PE X (.Call (.Attribute o name b) (e::es) [] a) (tBM K T r c t):=h▸zr4 l i k m n p f j g hs d
end L2
namespace L2
open PySem PySem.Spec PyProof.Rows
noncomputable def zY9:Expr->Bool
 | .Starred .. => false
 | _=>true
theorem zy9 {e:Expr}{es:List Expr}{env:Env}(h:zY9 e=true):starEach (e::es) env=(false,eval e env)::starEach es env:=by
 cases e<;>first | rfl | cases h
theorem zc7 {X:Cx}{e:Expr}{es:List Expr}{a:TE}{t:TA}(b:PE X e a)(c:PA X es t)(hs:zY9 e=true:=by rfl):PA X (e::es) (yo1 a t):=za0 b c (zy9 hs)
structure WE (X:Cx)(e:Expr)(t:TE):Prop where h:PE X e t
structure WA (X:Cx)(es:List Expr)(t:TA):Prop where h:PA X es t
structure WS (X:Cx)(st:Stmt)(t:TS):Prop where h:PS X st t
structure WSs (X:Cx)(st:List Stmt)(t:TS):Prop where h:PSs X st t
section
variable {X:Cx}
theorem zl1 {es:List Expr}{t:TA}{a:Pos}(h:WA X es t):WE X (.List es a) (tLst t):=⟨ze8 h.h⟩
theorem zp9 {es:List Expr}{t:TA}{a:Pos}{x1}(h:WA X es t):WE X (.Tuple es x1 a) (tTup t):=⟨zy4 h.h⟩
theorem zf5:WA X [] tNil:=⟨za1⟩
theorem za9 {e:Expr}{es:List Expr}{a:TE}{t:TA}(b:WE X e a)(c:WA X es t)(hs:zY9 e=true:=by rfl):WA X (e::es) (yo1 a t):=⟨za0 b.h c.h (zy9 hs)⟩
theorem we_ix {a b:Expr}{c d:TE}{e:Pos}{r:R2}(f:IxR X r)(g:WE X a c)(h:WE X b d)(hs:yh5 b):WE X (.Subscript a b e) (tOp r c d):=⟨zc9 f g.h h.h hs⟩
theorem yq4 {b:Pos}{i:Nat}{x:Str}{e:Expr}{c:TE}{a:Pos}(d:X.N.Nodup)(f:X.N[i]?=some x)(g:Loc X.env.scope x)(h:WE X e c)(hs:swapsWith e (some (.Name x a)) b.line X.env=pure false:=by rfl)(j:X.fn x=true\/X.env.scope.names.lookup x=some .local:=by first | exact .inl rfl | exact .inr rfl | assumption) :
 WS X (.Assign [.Name x a] e b) (tAsg c (zs6 i)):=⟨zb4 d f g h.h hs j⟩
theorem zO6 {e:Expr}{a:TE}{b:Pos}(c:WE X e a):WS X (.Return (some e) b) (tRet a):=⟨zb7 c.h⟩
theorem yk0 {c:Expr}{a b:List Stmt}{d:TT}{t u:TS}{e:Pos}(f:PT X c d)(g:WSs X a t)(h:WSs X b u):WS X (.If c a b e) (tIfS d t u):=⟨zc8 f g.h h.h⟩
theorem zu5 {st:Stmt}{rest:List Stmt}{t u:TS}(a:WS X st t)(b:WSs X rest u):WSs X (st::rest) (tSeq t u):=⟨za2 a.h b.h⟩
theorem zG4 {st:Stmt}{t:TS}(a:WS X st t):WSs X [st] t:=⟨za5 a.h⟩
theorem zL8:WSs X [] yr9:=⟨zb6⟩
end
theorem call_minL {X:Cx} (y:X.calm=true):zm4 X (.builtin "min") (fun g H Q=>∃p c,g=[.ref p]/\SqL X.K H p (List.map V.int c)/\0<c.length/\∀M,M∈c->(∀a∈c,M<=a)->Q (.int M) H):=by
 intro J s R H g K Q I r h;obtain⟨p,c,rfl,z,o,q⟩:=h;obtain⟨u,rfl,A⟩:=zx8 r;cases A;obtain⟨w,B,C,L⟩:=I.list z;have k:IntsAre w c:=zn9 B;obtain⟨b,e⟩:=k.allInts.items;have d:c=b.toList.map (·.1):=by
   rw[<-k.numsOf,<-nums_intItems,<-e]
 have x:0<b.size:=by
   have l:=o;rw[d,Qb,Qv] at l;exact l
 have m:=C.isList;rw[e] at m;refine min_intList (I.ok.hd y) m x fun v N O D E=>?_
 obtain⟨t,rfl⟩:=intItems_at D;obtain⟨P,F⟩:=argBest_lt (numAt b) (b.size-1);refine⟨.int _,H,I.kept E,⟨t,rfl⟩,q _ ?_ fun a n=>?_⟩
 . have f:argBest (fun i j=>decide (numAt b i<numAt b j)) (b.size-1)<(b.toList.map (·.1)).length:=by rw[Qb,Qv];omega
   rw[d,numAt_eq,Qy,Qe f];exact ZA f
 . rw[d] at n
   obtain⟨j,G,rfl⟩:=mem_getD n;rw[Qb,Qv] at G;rw[<-numAt_eq];exact F j (by omega)
end L2
open PySem
namespace L2
noncomputable def yc8 (x y:V):Bool:=scal x y && (match x with | .byt _=>false | _=>true)
theorem scalE_scal {x y:V}(h:yc8 x y=true):scal x y=true:=(Bool.and_eq_true_iff.mp h).1
theorem eqat_scal {A:Around}{s:Shared}{x y:V}{v u:Value}(e:yc8 x y=true)(d:RelV x v)(a:RelV y u):PySem.SeqAt.EqAt A s v u (decide (x=y)):=by
 have c:=scalE_scal e;cases x with
 | non =>
   cases d;cases y with
   | non=>cases a;exact PySem.SeqAt.EqAt.same _
   | bl j=>cases a;exact PySem.SeqAt.EqAt.none_bool _
   | int j=>obtain⟨b,rfl⟩:=a;exact PySem.SeqAt.EqAt.none_int _ _
   | str j=>obtain⟨b,rfl⟩:=a;exact PySem.SeqAt.EqAt.none_str _ _
   | _=>exact absurd (show false=true from c) Qu
 | bl i =>
   cases d;cases y with
   | non=>cases a;exact PySem.SeqAt.EqAt.bool_none _
   | bl j=>cases a;rw[yf6];exact PySem.SeqAt.EqAt.bool_bool _ _
   | str j=>obtain⟨b,rfl⟩:=a;exact PySem.SeqAt.EqAt.bool_str _ _ _
   | _=>exact absurd (show false=true from c) Qu
 | int i =>
   obtain⟨t,rfl⟩:=d;cases y with
   | non=>cases a;exact PySem.SeqAt.EqAt.int_none _ _
   | int j=>obtain⟨b,rfl⟩:=a;rw[zX6];exact PySem.SeqAt.EqAt.int_int _ _ _ _
   | str j=>obtain⟨b,rfl⟩:=a;exact PySem.SeqAt.EqAt.int_str _ _ _ _
   | _=>exact absurd (show false=true from c) Qu
 | str i =>
   obtain⟨t,rfl⟩:=d;cases y with
   | non=>cases a;exact PySem.SeqAt.EqAt.str_none _ _
   | bl j=>cases a;exact PySem.SeqAt.EqAt.str_bool _ _ _
   | int j=>obtain⟨b,rfl⟩:=a;exact PySem.SeqAt.EqAt.str_int _ _ _ _
   | str j=>obtain⟨b,rfl⟩:=a;rw[zX7];exact PySem.SeqAt.EqAt.str_str _ _ _ _
   | _=>exact absurd (show false=true from c) Qu
 | byt i=>have:=(Bool.and_eq_true_iff.mp e).2;cases this
 | _=>cases y<;>exact absurd (show false=true from c) Qu
noncomputable def eAt (xs ys:List V)(j:Nat):Bool:=match xs[j]?,ys[j]? with | some x,some y=>decide (x=y) | _,_=>true
theorem yk1:∀ {xs ys:List V},xs.length=ys.length->(List.range xs.length).all (eAt xs ys)=decide (xs=ys)
 | [],[],_=>rfl
 | x::xs,y::ys,h=>by
   have a:=yk1 (xs:=xs) (ys:=ys) (by simpa using h);rw[Qz,List.range_succ_eq_map,List.all_cons,List.all_map];have e:(eAt (x::xs) (y::ys) ∘ Nat.succ)=eAt xs ys:=by funext j;rfl
   rw[e,a];show(decide (x=y) && decide (xs=ys))=_;simp
theorem zL9:∀ {a:List V} {b:List Value},Vals a b->∀ {j:Nat} {x:V},a[j]?=some x->∃u,b[j]?=some u/\RelV x u
 | _,_,.nil,j,x,h=>by simp at h
 | _,_,.cons r t,0,x,h=>⟨_,rfl,by obtain rfl:=Qo h;exact r⟩
 | _,_,.cons r t,j+1,x,h=>zL9 t (j:=j) h
theorem eqat_items {A:Around}{s:Shared}{xs ys:List V}{us vs:List Value}(e:Vals xs us)(f:Vals ys vs)(hs:∀(j:Nat) x y,xs[j]?=some x->ys[j]?=some y->yc8 x y=true)(j:Nat)(g:j<us.toArray.size)(h:j<vs.toArray.size):PySem.SeqAt.EqAt A s us.toArray[j] vs.toArray[j] (eAt xs ys j):=by
 rw[Qk] at g h;have i:=e.length;have k:=f.length;have b:xs[j]?=some xs[j]:=Qe (by omega);have c:ys[j]?=some ys[j]:=Qe (by omega);unfold eAt;rw[b,c];refine eqat_scal (hs j _ _ b c) ?_ ?_
 . obtain⟨u,a,d⟩:=zL9 e b
   rw[List.getElem_toArray];rw[Qe g] at a;rw[Qo a];exact d
 . obtain⟨u,a,d⟩:=zL9 f c
   rw[List.getElem_toArray];rw[Qe h] at a;rw[Qo a];exact d
section
variable {X:Cx}
inductive yq5 (K:PySem.W.Frag)(x:V)(y:V)(H:Hp)(Q:VK):Prop
 | mk (a b xs ys:_)(h0:x = .ref a)(h1:y = .ref b)(h2:SqT K H a xs)(h3:SqT K H b ys)(h4:(∀(j:Nat) x y,xs[j]?=some x->ys[j]?=some y->yc8 x y=true))(h5:Q (.bl (decide (xs=ys))) H):yq5 K x y H Q
def rEqT (K:PySem.W.Frag):R2:=fun x y H Q=>yq5 K x y H Q
theorem yf9 (n:X.A.units<cLine):OpR X (compareOp .Eq) (rEqT X.K):=by
 intro D s G H x y v u Q I o p h;obtain⟨a,b,f,g,rfl,rfl,r,t,m,q⟩:=h;cases o;cases p;obtain⟨c,i,w,_⟩:=I.tuple r;obtain⟨d,k,A,_⟩:=I.tuple t;have E:=i.length;have F:=k.length;refine(PySem.SeqAt.RcAt.tuples (e:=eAt f g) (show s.heap.IsTuple a c.toArray from w) (show s.heap.IsTuple b d.toArray from A) n (fun j B C=>eqat_items i k m j B C)) _ _ _ _ (zd9 I q ?_);rw[Qk,Qk];by_cases l:f.length=g.length
 . rw[show min c.length d.length=f.length by omega,yk1 l,show c.length=d.length by omega]
   simp
 . rw[Qg (fun z=>l (by rw[z])),show(c.length == d.length)=false by simp;omega,Bool.and_false]
end
end L2
namespace L2
open PySem PySem.Spec PyProof.Rows
open Classical in
open Classical in
section
variable {X:Cx}
end
noncomputable def exOf (e:Expr):Expr:=match e with
 | .Subscript v _ _=>v
 | _=>.Constant .none 0 ⟨0,0,0,0⟩
section
variable {X:Cx}
end
section
variable {X:Cx}
end
end L2
namespace L2
open PySem PySem.W PySem.Calls PyProof.Rows
theorem zU0:entryFor table "dict.update.loop" = some Builtin.«dict.update.loop»:=by rfl
theorem zB5:plainId "dict.update.loop" = true:=by decide +kernel
section
variable {prog:Program} {w:World} {A:Around} {E:VP} {s:Shared}
theorem pair_items {a:Addr}{k v:Value}{Q:List Value->Shared->Prop}(d:s.heap.IsTuple a #[k,v])(q:Q [k,v] s):wpAny (model prog w) A (Builtin.Dict.pairItems (.ref a)) Q E s:=by
 obtain⟨e,j,b,l,c⟩:=d;obtain⟨i,g,h,f⟩:=e;simp only at b c;subst b;subst c;unfold Builtin.Dict.pairItems seqItems?
 wp_walk
 exact q
noncomputable def pxs (ky:Nat->List Int)(ka:Nat->Addr)(i:Nat):List (List Key×Addr×Value):=(List.range i).map fun j=>(ik (ky j),ka j,Value.bool true)
theorem pxs_succ (a:Nat->List Int)(b:Nat->Addr)(i:Nat):pxs a b (i+1)=pxs a b i++[(ik (a i),b i,.bool true)]:=by
 unfold pxs;rw[List.range_succ,Qm];rfl
theorem pxs_none {a:Nat->List Int}{b:Nat->Addr}{i:Nat}(h:∀j,j<i->ik (a j)≠ik (a i)):(atKey (pxs a b i) (ik (a i))).isSome=false:=by
 unfold atKey;rw[Option.isSome_map,List.find?_eq_none.mpr fun x c=>?_]
 . rfl
 obtain⟨j,d,rfl⟩:=QA.mp c;simpa using h j (List.mem_range.mp d)
theorem yk2 {knd:HeapKind prog w (List Key)}{h h':Heap}{D:Addr}{a:Nat->List Int}{b:Nat->Addr}{i:Nat}(d:Heap.DictOfH knd h D (pxs a b i))(hs:∀o,h.get? D=some o->h'.get? D=some o)(c:∀j,j<i->knd.is h' (ik (a j)) (b j)):Heap.DictOfH knd h' D (pxs a b i):=by
 obtain⟨o,e,f,g,k,l,m,_,n⟩:=d;refine⟨o,e,f,hs _ g,k,l,m,fun x p=>?_,n⟩;obtain⟨j,q,rfl⟩:=QA.mp p;exact c j (List.mem_range.mp q)
theorem tup2 {H:Hp}{h:Heap}{a k:Addr}(ok:HOk prog w H h)(e:H a=some (.tup [.ref k,.bl true])):h.IsTuple a #[.ref k,.bool true]:=by
 obtain⟨_,i,r,o,b,c,_,n,d⟩:=(show ze9 prog w H h a (.tup [.ref k,.bl true]) from ok a _ e);obtain⟨j,l,rfl,f,g⟩:=ya4 r;cases f;cases g;exact⟨o,b,c,n,d⟩
theorem keyI {H:Hp}{h:Heap}{a:Addr}{k:List Int}(ok:HOk prog w H h)(e:H a=some (.tup (k.map V.int))):(tupleKind (zf6 prog w)).is h (ik k) a:=zE0 ok (by rw[zT6];exact e)
theorem dict_loop {H:Hp}{h0:Heap}(z:∀q,(∀b o,h0.get? b=some o->q.get? b=some o)->HOk prog w H q){I:Addr}{O l:List Addr}{G:Array GenState->Array GenState->Prop}{n:Nat}{P:Nat->Value->Prop}{St:Nat->Shared->Prop}{R:Result->Shared->Prop}(W:WalksS prog w A.in1 I O l G n P St)(D:Addr)(J:D∉O)(Y:h0.get? D=none)(K:∀b∈l,h0.get? b=none)
   (hu:A.units+2<cLine) (hn:n<=1000) (f:Nat->List Int) (Q c:Nat->Addr) (S:∀i v,P i v->v = .ref (Q i)) (r:∀i,i<n->H (Q i)=some (.tup [.ref (c i),.bl true])/\H (c i)=some (.tup ((f i).map V.int))) (Z:∀i j,i<j->j<n->ik (f i)≠ik (f j)) :
   ∀(k i:Nat) (s:Shared),n-i=k->i<=n->St i s->(∀b o,h0.get? b=some o->s.heap.get? b=some o)->Heap.DictOfH (tupleKind (zf6 prog w)) s.heap D (pxs f c i) →
     (∀a,Moved (D::l) G s a->Heap.DictOfH (tupleKind (zf6 prog w)) a.heap D (pxs f c n)->R (.ok (.ret .none)) a) →
     codeAny (model prog w) A (.builtin "dict.update.loop" ⟨[.ref D,.ref I,rawInt (i:Int),.none],[]⟩) R s:=by
 have L:D∉l:=fun h=>J (W.sub _ h)
 have F:∀b∈l,b∈D::l:=fun b d=>QH _ d
 intro k
 induction k with
 | zero =>
   intro i s a0 hi x u B C;obtain rfl:i=n:=by omega
   refine codeAny_builtin zU0 ?_;rw[Around.under_plainId zB5 _];show wpAny _ A.in1 (pyNext (.ref I) >>= _) _ _ s;refine Qa (W.done s _ _ x fun a g=>?_);have m:∀b o,h0.get? b=some o->a.heap.get? b=some o:=fun b o e=>g.heap b o (fun d=>by rw[K b d] at e;cases e) (u b o e)
   have y:=yk2 B (fun o e=>g.heap D _ L e) (fun j t=>keyI (z _ m) (r j t).2);show wpAny _ A.in1 (Builtin.Dict.addKeywords D [] >>= _) _ _ a;unfold Builtin.Dict.addKeywords
   wp_walk
   exact C a (g.mono F) y
 | succ k ih =>
   intro i s a0 hi x u B C;have p:i<n:=by omega
   refine codeAny_builtin zU0 ?_;rw[Around.under_plainId zB5 _];show wpAny _ A.in1 (pyNext (.ref I) >>= _) _ _ s;refine Qa (W.item i s _ _ p x fun v a hP T g=>?_);obtain rfl:=S i v hP;have m:∀b o,h0.get? b=some o->a.heap.get? b=some o:=fun b o e=>g.heap b o (fun d=>by rw[K b d] at e;cases e) (u b o e)
   have y:=yk2 B (fun o e=>g.heap D _ L e) (fun j t=>keyI (z _ m) (r j (by omega)).2);have M:=z _ m;refine Qa (wpAny_holding (Qa (wpAny_tryCatch (pair_items (tup2 M (r i p).1) ?_))));show wpAny _ A.in1 (holding [.ref (c i),.bool true] (dictSet D (.ref (c i)) (.bool true))) _ _ a;refine wpAny_holding (wpAny_dictSet_heap (hsz:=?_) ?room (keyI M (r i p).2) y fun q N E=>?_)
   case room=>exact tupleKind_room_in1 (by omega)
   . have a1:storedH (pxs f c i) (ik (f i)) (c i) (.bool true)=pxs f c (i+1):=by
       unfold storedH;rw[pxs_none (fun j t=>Z j i t p),Qh Qu,pxs_succ]
     rw[a1] at N;refine Qd ⟨plainId_quiet zB5 _,ih (i+1) _ (by omega) p (W.frame _ a _ _ T (Nat.le_add_right _ _) fun b d o e=>?_) (fun b o e=>?_) N fun a2 U X=>?_⟩
     . rw[E.2 b (fun h:b=D=>J (by rw[<-h];exact d))];exact e
     . show q.get? b=some o
       rw[E.2 b (fun h:b=D=>by rw[h,Y] at e;cases e)];exact m b o e
     . refine C a2 (Moved.trans W.gtrans ((g.mono F).then_heap (Nat.le_add_right _ _) fun b o d e=>?_) U) X
       rw[E.2 b (fun h:b=D=>d (by rw[h];exact QQ))];exact e
   . unfold pxs
     rw[Qb,List.length_range];have:sizeLine=16777216:=by decide
     omega
end
section
variable {prog:Program} {w:World} {A:Around} {E:VP} {s:Shared}
theorem keys_none {l:Addr} {items:Array Value} {i:Nat} {g:Array (Option Value)} {Q:Option Value->Shared->Prop} (k:A.handled=none) (h:s.heap.get? l=some { cls:=.type "list",dict:=none,data:=.seq items i,slots:=g }) (q:∀a c,(∀b o,s.heap.get? b=some o->a.get? b=some o)->Q none { s with heap:=a,toks:=c }):wpAny (model prog w) A (getAttr? (.ref l) (Str.ofString "keys")) Q E s:=by
 have p:=F.slot_list_getattribute.lookup;have v:=F.slot_list_getattribute.bind (.ref l);unfold getAttr? getAttrBy?
 wp_walk
 have m:typeLookup (Value.type "list") (Str.ofString "keys")=pure none:=by rfl
 have j:codeAny (model prog w) A (Code.call (.builtin "list.__getattribute__") ⟨[.ref l]++[.str (Str.ofString "keys") s.toks],[]⟩) (fun r d=>∃a c e,r = .error (.ref e)/\d = { s with heap:=a,toks:=c }/\s.heap.NewAttrErr a e (.ref l) (Str.ofString "keys")) { s with toks:=s.toks+1 }:=by
   refine codeAny_call_builtin F.slot_list_getattribute.plain am_entry_list_getattribute ?_;refine F.slot_list_getattribute.check _ _ _ _ (.ref l) _ _ _ ⟨_,h,rfl⟩ (F.args_list_getattribute_2 _ _) ?_;exact meets_getattribute_miss_list l items i g (Str.ofString "keys") s.toks m (by decide +kernel) (by decide +kernel) prog w A (fun r d=>∃a c e,r = .error (.ref e)/\d = { s with heap:=a,toks:=c }/\s.heap.NewAttrErr a e (.ref l) (Str.ofString "keys")) { s with toks:=s.toks+1 } ⟨h,k,fun a c e f=>⟨a,c,e,rfl,rfl,f⟩⟩
 refine codeAny_mono j fun r d n=>?_
 obtain⟨a,c,e,rfl,rfl,f⟩:=n;obtain⟨t,u,x⟩:=f.there;dsimp only;unfold getattributeRaised hookBehind hookOrError attributeErrorLeaves;have y:=am_list_getattr_none;have z:isSubtype (Value.type "AttributeError") (Value.type "AttributeError")=pure true:=by rfl
 wp_walk
 exact q a c f.keeps
theorem dict_from {H:Hp} {l:Addr} {items:Array Value} {Q:VP} (Y:∀a,(∀b o,s.heap.get? b=some o->a.get? b=some o)->HOk prog w H a) (D:A.handled=none) (hu:A.units+5<cLine) {h:Nat} {r:Array (Option Value)} (u:s.heap.get? l=some { cls:=.type "list",dict:=none,data:=.seq items h,slots:=r }) (Z:items.size<=1000) (f:Nat->List Int) (p k:Nat->Addr)
   (L:∀i v,items[i]?=some v->v=Value.ref (p i)) (hp:∀i,i<items.size->H (p i)=some (.tup [.ref (k i),.bl true])/\H (k i)=some (.tup ((f i).map V.int))) (N:∀i j,i<j->j<items.size->ik (f i)≠ik (f j))
   (a0:∀(a:Heap) (tk:Nat),Heap.DictOfH (tupleKind (zf6 prog w)) a s.heap.objs.size (pxs f k items.size)->(∀b o,s.heap.get? b=some o->a.get? b=some o)->Q (.ref s.heap.objs.size) { s with heap:=a,toks:=tk }) :
   wpAny (model prog w) A (call (.type "dict") [.ref l]) Q E s:=by
 refine callType_codes F.kt_called_dict (F.kt_typeCall_dict_1 _) F.entry_dict_init (kt_code_dict_new (.ref l) (Q₁:=fun y G=>y = .ref s.heap.objs.size/\G = { s with heap:=s.heap.push { cls:=.type "dict",data:=.dict #[] } }) ⟨rfl,rfl⟩) fun y G he=>?_
 obtain⟨rfl,rfl⟩:=he;have I:(s.heap.push { cls:=.type "dict",data:=.dict #[] }).get? s.heap.objs.size=some { cls:=.type "dict",data:=.dict #[] }:=Qj _ rfl;refine⟨⟨_,I,rfl⟩,F.args_dict_init_2 _ _,?_⟩;have n:(s.heap.push { cls:=.type "dict",data:=.dict #[] }).get? l=some { cls:=.type "list",dict:=none,data:=.seq items h,slots:=r }:=Qc _ u;have a1:(s.heap.push { cls:=.type "dict",data:=.dict #[] }).IsList l items:=⟨_,n,rfl,h,rfl⟩;unfold Builtin.«dict.__init__» Builtin.Dict.selfAndRest Builtin.Dict.notOrdered Builtin.Dict.addrOf Builtin.Dict.updateCommon Builtin.Dict.updateFrom;generalize O:pyIter=PI;generalize P:getAttr?=GA
 wp_walk
 subst P;refine keys_none (by simp[D]) n fun d R q=>?_
 have z:d.IsList l items:=⟨_,q _ _ n,rfl,h,rfl⟩;have B:=q _ _ I;generalize S:({ s with heap:=d,toks:=R }:Shared)=s1
 wp_walk
 subst O;subst S;refine wpAny_pyIter_list z ?_;have C:l<s.heap.objs.size:=Qr u;have g:s.heap.objs.size<d.objs.size:=Qr B;have J:∀b o,s.heap.get? b=some o->d.get? b=some o:=fun b o e=>q _ _ (Qc _ e)
 have t:∀b,s.heap.objs.size<=b->s.heap.get? b=none:=fun b c=>by
   cases e:s.heap.get? b with
   | none=>rfl
   | some o=>exact absurd (Qr e) (Nat.not_lt.mpr c)
 have T:A.in1.in1.handled=none:=by simp[D]
 have M:l≠d.objs.size:=QF (Nat.lt_trans C g);refine Qd ⟨plainId_quiet zB5 _,?_⟩;refine dict_loop (A:=A.in1) (H:=H) (h0:=s.heap) Y ((Walks.list T d.objs.size l M items).toS) s.heap.objs.size ?hf (t _ (Qi _)) ?hw ?hu Z f p k L hp N items.size 0 _ (by omega) (QD _) ⟨⟨_,Qj _ rfl,rfl,rfl⟩,z.push _⟩ (fun b o e=>Qc _ (J b o e)) ?hD fun s' m U=>?_
 case hf =>
   simp only[Qn,QM,Zk,or_false,not_or];exact⟨QF g,Nat.ne_of_gt C⟩
 case hw =>
   intro b c;simp only[Qn,QM,Zk,or_false] at c;subst c;exact t _ (Za g)
 case hu=>simp;omega
 case hD=>exact⟨_,#[],0,Qc _ B,⟨rfl,rfl,rfl⟩,rfl,rfl,(fun x K=>by unfold pxs at K;simp at K),by unfold pxs;exact List.Pairwise.nil⟩
 obtain⟨a,g',d',W,X⟩:=s';have eg:g'=s.gens:=m.gens;have ed:d'=s.drawn:=m.drawn;have eo:X=s.os:=m.os;subst eg;subst ed;subst eo;refine⟨rfl,a0 a W U fun b o e=>m.heap b o ?_ (Qc _ (J b o e))⟩;have c:=Qr e;simp only[Qn,QM,Zk,or_false,not_or];exact⟨QF c,QF (Nat.lt_trans c g)⟩
end
end L2
namespace L2
open PySem PySem.Spec PyProof.Rows
abbrev Prs (H:Hp)(ys:List V)(ks:List (List Int)):Prop:=Paired (fun y k=>∃p a,y = .ref p/\H p=some (.tup [.ref a,.bl true])/\H a=some (.tup (k.map V.int))) ys ks
noncomputable def pOf (H:Hp)(ys:List V)(i:Nat):Addr:=match ys[i]? with | some (.ref p)=>p | _=>0
noncomputable def aOf (H:Hp)(p:Addr):Addr:=match H p with | some (.tup (.ref a::_))=>a | _=>0
theorem yg0 {H:Hp}{ys:List V}{b:List (List Int)}(h:Prs H ys b){i:Nat}(g:i<ys.length):ys[i]?=some (.ref (pOf H ys i))/\H (pOf H ys i)=some (.tup [.ref (aOf H (pOf H ys i)),.bl true])/\H (aOf H (pOf H ys i))=some (.tup ((b.getD i []).map V.int)):=by
 have e:=Qe g;obtain⟨k,j,p,a,c,d,l⟩:=pat h e;have m:pOf H ys i=p:=by unfold pOf;rw[e,c]
 have n:aOf H p=a:=by unfold aOf;rw[d]
 have f:b.getD i []=k:=by rw[Qy,j];rfl
 rw[m,n,f];exact⟨by rw[e,c],d,l⟩
theorem zU1 {e g:Type}{R:e->g->Prop}:∀ {c:List e} {d:List g},c.length=d.length->(∀(i:Nat) a b,c[i]?=some a->d[i]?=some b->R a b)->Paired R c d
 | [],[],_,_=>.nil
 | [],_::_,h,_=>nomatch h
 | _::_,[],h,_=>nomatch h
 | a::c,b::d,h,f=>.cons (f 0 a b rfl rfl) (zU1 (by simpa using h) fun i a b j k=>f (i+1) a b j k)
theorem yk3 {H:Hp}{ys:List V}{a:List (List Int)}(h:Prs H ys a):ys.length=a.length:=Paired.length h
theorem hu5_of {A:Around}{k:Nat}(a:Room k A):A.units+5<cLine:=Nat.lt_of_le_of_lt (Nat.add_le_add_left (by decide:5<=64) _) a.units
section
variable {X:Cx}
theorem call_dictP (hc : X.calm = true) (hu : X.A.units + 5 < cLine) : zm4 X (.type "dict") (fun xs H Q => ∃ (l : Addr) (ys : List V) (ks : List (List Int)), xs = [.ref l] ∧ H l = some (.lst ys) ∧ Prs H ys ks ∧ ks.Nodup ∧ ks.length ≤ 1000 ∧ ∀ d, H d = none → Q (.ref d) (upd H d (.dT (ks.map fun k => (ik k, .bl true))))) := by
  intro pins s σ H xs us Q I r h;obtain ⟨l, ys, ks, rfl, hl, hp, nd, hn, q⟩ := h;obtain ⟨u, rfl, ru⟩ := zx8 r;cases ru;obtain ⟨z, its, n, rv, hlen, e⟩ := I.lstM hl;have hkl := yk3 hp;have hk : ∀ h', (∀ b o, s.heap.get? b = some o → h'.get? b = some o) → HOk X.prog X.w H h' := fun h' k => (I.kept (t' := s.toks) k).hok
  refine dict_from (H := H) hk (I.ok.hd hc) hu e (by rw [Qk]; omega) (fun i => ks.getD i []) (pOf H ys) (fun i => aOf H (pOf H ys i)) (fun i v hv => ?_) (fun i hi => ?_) (fun i j hij hj e => ?_) fun h' tk dd k => ?_
  · have hi : i < its.length := by have := (Array.getElem?_eq_some_iff.mp hv).1; rw [Qk] at this; exact this
    have h1 := (yg0 hp (i := i) (by omega)).1;obtain ⟨u, hu', ru⟩ := zL9 rv h1;rw [List.getElem?_toArray, hu'] at hv;obtain rfl := Qo hv;exact ru
  · rw [Qk] at hi
    exact (yg0 hp (i := i) (by omega)).2
  · rw [Qk] at hj
    have e' : ks.getD i [] = ks.getD j [] := (List.map_inj_right (fun a b z => by injection z)).mp e;have := QR.mp nd i j (by omega) (by omega) hij;rw [Qy, Qy, Qe (by omega), Qe (by omega)] at e';exact this e'
  · have hf := I.hok.fresh (Qi s.heap.objs.size)
    obtain ⟨qo, es, ep, hq, h2, h3, h4, _, h5⟩ := dd;refine ⟨.ref s.heap.objs.size, _, I.laid (t' := tk) (o := .dT (ks.map fun k => (ik k, .bl true))) k (Qi _) ?_, rfl, q _ hf⟩;have hsz : its.toArray.size = ks.length := by rw [Qk]; omega
    refine ⟨by rw [Qb]; have : sizeLine = 16777216 := by decide
               omega, ?_, pxs (fun i => ks.getD i []) (fun i => aOf H (pOf H ys i)) its.toArray.size, ?_, qo, es, ep, hq, h2, h3, h4, h5⟩
    · exact beq_eq_false_iff_ne.mpr (Nat.ne_of_gt I.big)
    · rw [hsz]
      refine zU1 (by unfold pxs; simp) fun i p q h6 h7 => ?_
      rw [QP] at h6;obtain ⟨k', hk', rfl⟩ := Option.map_eq_some_iff.mp h6;have hi := (Qw.mp hk').1;unfold pxs at h7;rw [QP, List.getElem?_range hi] at h7;obtain rfl := Qo h7;have eg : ks.getD i [] = k' := by rw [Qy, hk']; rfl
      obtain ⟨_, _, h8⟩ := yg0 hp (i := i) (by omega);rw [eg] at h8;refine ⟨by show ik k' = ik (ks.getD i []); rw [eg], ?_, rfl⟩;show upd H s.heap.objs.size _ (aOf H (pOf H ys i)) = some (.tup ((ik k').map kV));rw [za7 (zb2 h8 hf), zT6];exact h8
end
section
variable {X:Cx}
end
section
variable {X:Cx} {e k:Expr} {te:TE} {tk:TO} {pos p2:Pos}
end
section
variable {X:Cx}
end
section
variable {X:Cx}
end
section
variable {X:Cx} {tg l:Expr} {tl:TE}
end
section
variable {prog:Program} {w:World} {A:Around} {E:VP} {s:Shared}
end
section
variable {X:Cx} {es:List Expr} {k0:Nat} {tp:Pos}
end
section
variable {X:Cx} {CX:CXT} {k:Nat} {f C:Addr} {fd:FuncData} {ps:List Str} {sp:Sp} {dvs:List V} {ds:List Value} {Ex:St->XK} {x m:Str} {p pos apos:Pos} {e o:Expr} {es:List Expr} {ta:TE} {t:TA}
end
abbrev Nw (H:Hp)(o:HO)(Q:VK):Prop:=∀l H',Same H H'->H l=none->H' l=some o->Q (.ref l) H'
theorem Nw.go {H:Hp}{o:HO}{Q:VK}(q:Nw H o Q):∀p,H p=none->Q (.ref p) (upd H p o):=fun p a=>q p _ (Same.upd a) a za3
section
variable {X:Cx} {es:List Expr} {t:TA} {pos:Pos}
def tLstS (t:TA):TE:=fun σ H Q=>t σ H fun xs H1=>xs.length<=sizeLine/\Nw H1 (.lst xs) Q
def tTupS (t:TA):TE:=fun σ H Q=>t σ H fun xs H1=>xs.length<=sizeLine/\Nw H1 (.tup xs) Q
theorem yk4 {x1}(h:PA X es t):PE X (.Tuple es x1 pos) (tTupS t):=by
 intro f s l H Q I g;refine wpAny_Tuple_spliced (thn (h pos f s l H _ I g) fun i a ⟨j,c,d,r,z,q⟩=>⟨by rw[<-r.length];exact z,?_⟩);have k:c a.heap.objs.size=none:=d.hok.fresh (Qi _);refine⟨.ref a.heap.objs.size,upd c a.heap.objs.size (.tup j),d.laid (t':=a.toks) (fun b u e=>Qc _ e) (Qi _) ?_,rfl,q.go _ k⟩;exact⟨z,i,r,⟨_,Qj _ rfl,rfl,rfl,_,rfl⟩⟩
theorem zw5 (h:PA X es t):PE X (.List es pos) (tLstS t):=by
 intro f s l H Q I g;refine wpAny_List_spliced (thn (h pos f s l H _ I g) fun i a ⟨j,c,d,r,z,q⟩=>⟨by rw[<-r.length];exact z,?_⟩);have k:c a.heap.objs.size=none:=d.hok.fresh (Qi _);refine⟨.ref a.heap.objs.size,upd c a.heap.objs.size (.lst j),d.laid (t':=a.toks) (fun b u e=>Qc _ e) (Qi _) ?_,rfl,q.go _ k⟩;exact⟨z,i,0,r,Qj _ rfl⟩
inductive yk5 (K:W.Frag)(x:V)(lo:Option Int)(hi:Option Int)(H:Hp)(Q:VK):Prop
 | mk (a xs:_)(h0:x = .ref a)(h1:SqL K H a xs)(h2:Nw H (.lst (cutV xs lo hi)) Q):yk5 K x lo hi H Q
def rSlLS (K:W.Frag):V->Option Int->Option Int->Hp->VK->Prop:=fun x lo hi H Q=>yk5 K x lo hi H Q
theorem sl_listS:SlR X (rSlLS X.K):=fun b s n H x v c d f g sl Q I h i j k ⟨a,l,e,m,q⟩=>yh7 b s n H x v c d f g sl Q I h i j k ⟨a,l,e,m,q.go⟩
inductive yk6 (K:W.Frag)(x:V)(lo:Option Int)(hi:Option Int)(H:Hp)(Q:VK):Prop
 | mk (a xs:_)(h0:x = .ref a)(h1:SqT K H a xs)(h2:¬ (HT.sIx xs.length 0 lo=0/\HT.sIx xs.length xs.length hi=xs.length))(h3:Nw H (.tup (cutV xs lo hi)) Q):yk6 K x lo hi H Q
def rSlTS (K:W.Frag):V->Option Int->Option Int->Hp->VK->Prop:=fun x lo hi H Q=>yk6 K x lo hi H Q
theorem zM0:SlR X (rSlTS X.K):=fun b s o H x v c d f g sl Q I h i j k ⟨a,l,e,m,n,q⟩=>zD8 b s o H x v c d f g sl Q I h i j k ⟨a,l,e,m,n,q.go⟩
inductive yk7  (x:V)(y:V)(H:Hp)(Q:VK):Prop
 | mk (l b xs zs:_)(h0:x = .ref l)(h1:y = .ref b)(h2:H l=some (.lst xs))(h3:H b=some (.lst zs))(h4:xs.length+zs.length<=sizeLine)(h5:Nw H (.lst (xs++zs)) Q):yk7  x y H Q
def rCatS:R2:=fun x y H Q=>yk7  x y H Q
theorem op_catS:OpR X (binaryOp .Add) rCatS:=fun a s k H x y v u Q I c d ⟨l,b,e,f,g,h,i,j,z,q⟩=>yp1 a s k H x y v u Q I c d ⟨l,b,e,f,g,h,i,j,z,q.go⟩
theorem call_list_ofS (K:W.Frag) (h:X.K=K):zm4 X (.type "list") (fun b H Q=>∃p a,b=[.ref p]/\(SqL K H p a\/SqT K H p a)/\Nw H (.lst a) Q):=by
 subst h;exact fun c s g H b d Q I r ⟨p,a,e,f,q⟩=>zq4 c s g H b d Q I r ⟨p,a,e,f,q.go⟩
end
section
variable {X:Cx} {Ex:St->XK} {pos:Pos} {body:List Stmt} {tb:TS} {h0:ExceptHandler} {l:List ExceptHandler} {L:List (Addr×TS)}
end
section
variable {X:Cx} {E:XK} {pos:Pos} {body:List Stmt} {tb:TS} {h0:ExceptHandler} {l:List ExceptHandler} {L:List (Addr×TS)}
end
section
variable {X:Cx}
end
open Builtin.Str StrLaws
section
variable {X:Cx}
end
end L2
namespace Sx
open PySem PySem.W PySem.Calls PyProof.Rows
section
variable {prog:Program} {w:World} {A:Around} {E:VP} {s:Shared} {d it v:Addr} {es:Array DictEntry} {ep i:Nat}
theorem rawv_next {Q:Option Value->Shared->Prop}(g:s.heap.IsValIter it d i es.size ep)(l:RawD s.heap d es ep)(m:i<es.size)
   (n:∀c,c.IsValIter it d (i+1) es.size ep->Heap.SameBut it s.heap c->Q (some es[i].val) { s with heap:=c }):wpAny (model prog w) A (pyNext (.ref it)) Q E s:=by
 obtain⟨o,e,p,b⟩:=id g;obtain⟨r,h,q,j⟩:=id l;have a:=g.typeIs;unfold pyNext
 refine Qa (wpAny_attempt (wpAny_callSpecial?_slot (name:=Str.ofString "__next__") a F.slot_dict_valueiterator_next
   (wpAny_call_entry F.slot_dict_valueiterator_next a F.entry_dict_valueiterator_next ?_ (F.args_dict_valueiterator_next_1 _))))
 refine Qa (Qd (Qa (Qa ?_)))
 first | refine Qa (wpAny_typeNameOfWhole_valiter a (Qd ?_)) | refine Qa (wpAny_typeNameOf_valiter a (Qd ?_))
 refine Qa (wpAny_fieldsOf e b ?_);simp only[show Builtin.Dict_items.ownsTuple "dict_valueiterator" = false by decide,Ze,if_false];show wpAny _ _ (if (Value.ref d == Value.none)=true then _ else _) _ _ s;rw[Qh (show ¬ ((Value.ref d == Value.none)=true) from Qu)];refine Qa (Qd (Qa (wpAny_dictEntries h j ?_)));rw[Qh (by simp)];refine Qa (Qd (Qa (wpAny_dictEpoch h j ?_)));rw[Qh (by simp)];refine Qd ?_;simp only[show ¬ ((i:Int)<0) from by omega,if_false,QZ,Array.getElem?_eq_getElem m];refine Qa ?_
 first | refine Qa (wpAny_typeNameOfWhole_valiter a (Qd ?_)) | refine Qa (wpAny_typeNameOf_valiter a (Qd ?_))
 refine Qa (wpAny_isOneOf_valiter a ?_);show wpAny _ _ (setField (.ref it) 1 (rawInt ((i:Int)+1)) >>= _) _ _ s;refine Qa (wpAny_setField e b (by simp) ?_);have f:(s.heap.update it (Obj.mapFields (·.setIfInBounds 1 (rawInt ((i:Int)+1))))).IsValIter it d (i+1) es.size ep :=
   ⟨_,Zu _ e (Obj.isFreed_of_fields (Obj.data_mapFields b _)),(Obj.cls_mapFields ..).trans p,by rw[Obj.data_mapFields b];simp[rawInt]⟩
 refine Qa (wpAny_holding ?_);have k:({ s with heap:=s.heap.update it (Obj.mapFields (·.setIfInBounds 1 (rawInt ((i:Int)+1)))) }:Shared).TypeIs (.ref it) "dict_valueiterator":=f.typeIs;refine Qa (wpAny_isOneOf_valiter k ?_);refine Qa (wpAny_isOneOf_valiter k ?_);show wpAny _ _ (pure es[i].val) _ _ _;exact Qd (Qd ⟨_,rfl,Qd (n _ f (Heap.SameBut.update ..))⟩)
theorem rawv_end {Q:Option Value->Shared->Prop}(k:A.handled=none)(e:s.heap.IsValIter it d es.size es.size ep)(l:RawD s.heap d es ep)
   (n:∀h,Heap.ExtBut it s.heap h->Q none { s with heap:=h }):wpAny (model prog w) A (pyNext (.ref it)) Q E s:=by
 obtain⟨o,i,q,j⟩:=id e;obtain⟨r,f,p,g⟩:=id l;have c:=e.typeIs;unfold pyNext
 refine Qa (wpAny_attempt (wpAny_callSpecial?_slot (name:=Str.ofString "__next__") c F.slot_dict_valueiterator_next
   (wpAny_call_entry F.slot_dict_valueiterator_next c F.entry_dict_valueiterator_next ?_ (F.args_dict_valueiterator_next_1 _))))
 refine Qa (Qd (Qa (Qa ?_)))
 first | refine Qa (wpAny_typeNameOfWhole_valiter c (Qd ?_)) | refine Qa (wpAny_typeNameOf_valiter c (Qd ?_))
 refine Qa (wpAny_fieldsOf i j ?_);simp only[show Builtin.Dict_items.ownsTuple "dict_valueiterator" = false by decide,Ze,if_false];show wpAny _ _ (if (Value.ref d == Value.none)=true then _ else _) _ _ s;rw[Qh (show ¬ ((Value.ref d == Value.none)=true) from Qu)];refine Qa (Qd (Qa (wpAny_dictEntries f g ?_)));rw[Qh (by simp)];refine Qa (Qd (Qa (wpAny_dictEpoch f g ?_)));rw[Qh (by simp)];refine Qd ?_;simp only[show ¬ ((es.size:Int)<0) from by omega,if_false,QZ,Array.getElem?_eq_none (Qi es.size)];refine Qa ?_
 first | refine Qa (wpAny_typeNameOfWhole_valiter c (Qd ?_)) | refine Qa (wpAny_typeNameOf_valiter c (Qd ?_))
 show wpAny _ _ (setField (.ref it) 0 .none >>= _) _ _ s;refine Qa (wpAny_setField i j (by simp) ?_);show wpAny _ _ (newExc (.type "StopIteration") [] >>= _) _ _ _;refine Qa ?_;simp only[newExc,newTuple];refine Qa (wpAny_newObj_type ?_ (by size_fits));refine Qa (m:=firstArgMember _ _) (wpAny_of_eq (a:=Value.none) (by first | rfl | (simp only[firstArgMember];rfl)) ?_);refine wpAny_newObj_type ?_ (by size_fits);simp only[raiseNew];refine Qa (wpAny_handled ?_);rw[show A.in1.handled=none from k];refine Qa (Qd (wpAny_throw ?_));refine Qa (wpAny_isInstance (T:="StopIteration") (b:=true) ⟨_,Qj _ rfl,rfl⟩ isSubtype_stop ?_);exact Qd (n _ (((Heap.SameBut.update ..).extBut.push _).push _))
theorem rawv_walks (q:A.handled=none)(I d:Addr)(n:d≠I)(es:Array DictEntry)(ep:Nat) :
   Walks prog w A I [I,d] [I] es.size (fun i v=>∃h:i<es.size,v=es[i].val) (fun i h=>h.IsValIter I d i es.size ep/\RawD h d es ep) where
 sub:=fun b c=>by simp at c;simp[c]
 frame:=fun _ _ _ a k=>⟨let⟨o,t,r⟩:=a.1;⟨o,k I (by simp) o t,r⟩,a.2.at_ fun o e=>k d (by simp) o e⟩
 item:=fun i s Q E l a f=>rawv_next a.1 a.2 l fun g m j=>f _ g s.toks ⟨l,rfl⟩ ⟨m,a.2.at_ fun o e=>j.extBut d o n e⟩ fun b o c e=>j.extBut b o (fun h=>c (by simp[h])) e
 done:=fun s Q E a f=>rawv_end q a.1 a.2 fun g p=>f g s.toks fun b o c e=>p b o (fun h=>c (by simp[h])) e
 self:=fun _ _ _ _ a f=>wpAny_pyIter_valiter a.1 f
theorem rawv_iter {Q:VP}(b:s.heap.IsValuesView v d)(h:RawD s.heap d es ep)
   (i:Q (.ref s.heap.objs.size) { s with heap:=s.heap.push { cls:=.type "dict_valueiterator",data:=.fields #[.ref d,.int 0 0,.int es.size 0,.int ep 0] } }):wpAny (model prog w) A (pyIter (.ref v)) Q E s:=by
 obtain⟨j,f,_,g⟩:=id b;obtain⟨o,c,_,a⟩:=id h;have e:=b.typeIs;refine wpAny_pyIter_slot e F.slot_dict_values_iter (wpAny_call_entry F.slot_dict_values_iter e F.entry_dict_values_iter ?_ (F.args_dict_values_iter_1 _));unfold Builtin.«dict_values.__iter__» Builtin.Dict_items.dictOf Builtin.Dict_items.newIterator;refine Qa (Qd (Qa (Qa (wpAny_field f g (x:=.ref d) rfl (Qd ?_)))));refine Qa (Qa (wpAny_dictEntries c a (Qa (wpAny_dictEpoch c a ?_))));simp only[show Builtin.Dict_items.ownsTuple "dict_valueiterator" = false from by decide,Ze,if_false];exact wpAny_newObj_type (Qd ⟨_,rfl,"dict_valueiterator",_,⟨_,Qj _ rfl,rfl⟩,F.slot_dict_valueiterator_next.lookup,i⟩)
theorem rawv_values {Q:VP}(b:(d == sysModules)=false)(a:RawD s.heap d es ep)
   (c:Q (.ref s.heap.objs.size) { s with heap:=s.heap.push { cls:=.type "dict_values",data:=.fields #[.ref d] } }):wpAny (model prog w) A (call (.builtin "dict.values") [.ref d]) Q E s:=by
 refine call_meetsIn F.slot_dict_values a.typeIs F.entry_dict_values (F.args_dict_values_1 _) (S:=fun _ R s=>(∃es ep,RawD s.heap d es ep)/\R (.ok (.ret (.ref s.heap.objs.size))) { s with heap:=s.heap.push { cls:=.type "dict_values",data:=.fields #[.ref d] } }) (.of_wp fun A R s ⟨⟨es,ep,a⟩,h⟩=>?_) ⟨⟨es,ep,a⟩,c⟩;refine Qa ?_;unfold Builtin.Dict.noArgs;refine Qa (wpAny_notOrdered_dict a.typeIs ?_);show wpAny _ _ (pure d) _ _ s;refine Qd ?_;show wpAny _ _ (Builtin.Dict.showsAll d >>= _) _ _ s;unfold Builtin.Dict.showsAll;rw[Qh (by rw[b];exact Qu)];exact Qa (Qd (Qa (wpAny_newObj_type (Qd ⟨_,rfl,h⟩))))
end
end Sx
namespace L2
open PySem PySem.Spec PyProof.Rows
noncomputable def yk8 (d v:Addr):HO:=.ext fun h=>h.IsValuesView v d
def rVals:V->List V->Hp->VK->Prop:=fun x vs H Q=>∃d kv,x = .ref d/\vs=[]/\H d=some (.dT kv)/\∀v H',Same H H'->H' v=some (yk8 d v)->Q (.ref v) H'
section
variable {X:Cx}
theorem mt_vals:MtR X "dict.values" rVals:=by
 intro n s E H x p v t Q I f g h;obtain⟨d,i,rfl,rfl,j,q⟩:=h;cases f;have c:=g.zero;subst c;obtain⟨z,y,u,w,o,A,B,a,b,l,C,D⟩:=(show ze9 X.prog X.w H s.heap d (.dT i) from I.hok d _ j);refine Sx.rawv_values y ⟨o,a,b,l⟩ ?_;have m:(s.heap.push { cls:=.type "dict_values",data:=.fields #[.ref d] }).IsValuesView s.heap.objs.size d:=⟨_,Qj _ rfl,rfl,rfl⟩;exact⟨.ref _,upd H s.heap.objs.size (yk8 d s.heap.objs.size),I.laid (fun _ _ q=>Qc _ q) (Qi _) ⟨m,⟨_,Qj _ rfl⟩,fun a b ⟨o,e,r⟩ k=>⟨o,k _ e,r⟩⟩,rfl,q _ _ (Same.upd I.fresh) za3⟩
theorem zO7 {P:Program}{w:World}{H:Hp}:∀ {c:List (List Key×V)} {d:List (List Key×Addr×Value)} {zs:List Int},Paired (fun p q=>p.fst=q.fst/\H q.snd.fst=some (HO.tup (List.map kV p.fst))/\RelV p.snd q.snd.snd) c d->c.map (·.2)=zs.map V.int →
   ∀ {i:Nat} {e:DictEntry},(d.map (entryOfKey (tupleKind (zf6 P w))))[i]?=some e->i<zs.length/\∃t,e.val = .int (zs.getD i 0) t
 | _,_,_,.nil,_,i,e,h=>by simp at h
 | _,_,[],.cons _ _,a,_,_,_=>by cases a
 | _,_,z::zs,.cons ⟨_,_,r⟩ t,a,0,e,h=>by
   injection a with b _
   have g:some _=some e:=h;obtain rfl:=Qo g;dsimp only at b;rw[b] at r;obtain⟨t,e⟩:=r;exact⟨Nat.zero_lt_succ _,t,e⟩
 | _,_,z::zs,.cons _ t,a,i+1,e,h=>by
   injection a with _ f
   obtain⟨j,k⟩:=zO7 (zs:=zs) t f (i:=i) (e:=e) (by simpa using h);exact⟨Nat.succ_lt_succ j,by simpa using k⟩
theorem call_maxV (C:X.calm=true):zm4 X (.builtin "max") (fun m H Q=>∃(v d:Addr) (k:List (List Key×V)) (c:List Int),m=[.ref v]/\H v=some (yk8 d v)/\H d=some (.dT k)/\k.map (·.2)=c.map V.int/\0<c.length/\∀M,M∈c->(∀a∈c,a<=M)->Q (.int M) H):=by
 intro S s σ H m W Q I r h;obtain⟨v,d,k,c,rfl,D,E,n,T,q⟩:=h;obtain⟨u,rfl,F⟩:=zx8 r;cases F;obtain⟨a0,a1,m,p,o,f,w,G,J,K,x,Y⟩:=(show ze9 X.prog X.w H s.heap d (.dT k) from I.hok d _ E);have z:s.heap.IsValuesView v d:=(show ze9 X.prog X.w H s.heap v (yk8 d v) from I.hok v _ D).1;have at_:∀ {i:Nat} (h:i<f.size),i<c.length/\∃t,f[i].val = .int (c.getD i 0) t:=fun {i} h=>by
   have e:f.toList[i]?=some f[i]:=by rw[QN,Zl f i h]
   rw[x] at e;exact zO7 p n e
 have U:f.size=c.length:=by
   rw[<-Qv,x,Qb,<-Paired.length p];have:=congrArg List.length n
   rwa [Qb,Qb] at this
 have l:Sx.RawD s.heap d f w:=⟨o,G,J,K⟩;refine call_max_walk (Sx.rawv_iter z l ?_);refine⟨_,_,_,_,_,_,_,rfl,Sx.rawv_walks (A:=X.A.in1) (I.ok.hd C) s.heap.objs.size d (QF l.lt) f w,⟨⟨_,Qj _ rfl,rfl,rfl⟩,l.at_ fun o e=>Qc _ e⟩,?_,(by omega),CmpOf.ints_gt (fun i=>c.getD i 0) (fun i v ⟨h,e⟩=>e▸(at_ h).2),fun u Z tk L N=>?_⟩
 . intro b g
   show b<(s.heap.push _).objs.size;rw[Zw];rcases Qn.mp g with rfl | g
   . exact Nat.lt_succ_self _
   . rw[QM.mp g]
     exact Nat.lt_succ_of_lt l.lt
 . obtain⟨B,e⟩:=L
   obtain⟨y,t,O⟩:=at_ B;rw[e,O];obtain⟨_,g⟩:=argBest_gt (fun i=>c.getD i 0) (f.size-1);refine⟨.int _,H,I.kept fun b o e=>N b o (fun P=>?_) (Qc _ e),⟨t,rfl⟩,q _ ?_ fun a R=>?_⟩
   . rw[QM.mp P] at e
     exact absurd (Qr e) (Nat.lt_irrefl _)
   . rw[Qy,Qe y]
     exact ZA y
   . obtain⟨j,hj,rfl⟩:=mem_getD R
     exact g j (by omega)
end
section
variable {M:Model} {A:Around} {E:VP}
end
section
variable {X:Cx} {pins:PL} {σ:St} {H:Hp} {s:Shared}
end
section
variable {X:Cx} {scope:Scope} {N':List Str} {ix:List (Option Nat)} {tg iter elt:Expr} {ifs:List Expr} {pos:Pos} {wi:TI} {g:TG} {tif:TT} {telt:TE}
end
theorem Room.m {j k:Nat}{A:Around}(r:Room k A)(h:j<=k:=by decide):Room j A:=r.mono h
structure Df (K:W.Frag)(mg:Str->Option Value)(x:Str)(ps:List Str)(st:Stmt)(f:Addr)(fd:FuncData):Prop where
 F:Fun K x x st f fd
 b:zm6 K fd ps []
 m:mg x=some (.ref f)
structure Dm (K:W.Frag)(x q:Str)(ps:List Str)(st:Stmt)(f:Addr)(fd:FuncData):Prop where
 F:Fun K x q st f fd
 b:zm6 K fd ps []
section
variable {K:W.Frag} {mg:Str->Option Value} {x q:Str} {ps:List Str} {st:Stmt} {f:Addr} {oc:Value} {od an:Option Addr} {osl:Array (Option Value)} {kV doc pm cdv ct:Value}
theorem dm_mk (l:K.lookup f=some ⟨oc,od,.func (W.fnOf x q (zi2 st) (zd3 st) (za8 st) .none kV doc pm an cdv ct),osl⟩)(c:W.codeIn K cdv q=true)(k:W.keepIn K (.ref f)=true)
   (b:∀(kV doc pm:Value) (an:Option Addr) (cdv ct:Value) (a:List Value),a.length=ps.length->bindArgs (W.fnOf x q (zi2 st) (zd3 st) (za8 st) .none kV doc pm an cdv ct) ⟨a,[]⟩=pure (ps.zip a)):∃d,Dm K x q ps st f d :=
 ⟨_,zN0 l c k,(zN0 l c k).binds b⟩
theorem df_mk {h:Heap}(X:K.In h)(G:h.Ns mainGlobals mg)(a:W.nsIn K mainGlobals x=some (some (.ref f)))(l:K.lookup f=some ⟨oc,od,.func (W.fnOf x x (zi2 st) (zd3 st) (za8 st) .none kV doc pm an cdv ct),osl⟩)(c:W.codeIn K cdv x=true)(k:W.keepIn K (.ref f)=true)
   (d:∀(kV doc pm:Value) (an:Option Addr) (cdv ct:Value) (b:List Value),b.length=ps.length->bindArgs (W.fnOf x x (zi2 st) (zd3 st) (za8 st) .none kV doc pm an cdv ct) ⟨b,[]⟩=pure (ps.zip b)):∃e,Df K mg x ps st f e :=
 ⟨_,zN0 l c k,(zN0 l c k).binds d,W.mg_of X G a⟩
end
section
variable {X:Cx} {CX:CXT} {E:XK} {x:Str} {f:Addr} {fd:FuncData} {k:Nat} {ps:List Str} {sp:Sp} {st:Stmt} {t:TA} {e:Expr} {es:List Expr} {p pos:Pos}
theorem za6 (F:FnOk X.prog X.w X.K X.mg X.base CX k f fd ps sp) (c:Room k X.A) (D:Df X.K X.mg x ps st f fd) (d:zn8 CX X E) (g:PA X (e::es) t) (h:Gl X x:=by rfl) (a:(x == ("__debug__" : Str))=false:=by decide)
   (i:starEach (e::es) X.env=(false,eval e X.env)::starEach es X.env:=by rfl) (b:(backTo pos (starEach es X.env)).any (·.1)=false:=by rfl):PE X (.Call (.Name x p) (e::es) [] pos) (yo2 sp [] E t) :=
 zw2 F c h D.m D.F.kp D.b .nil d g a i b
end
end L2
namespace Bt
open PySem L2
abbrev Pa:List Str:=["beam","standing"]
abbrev Pb:List Str:=["beam","start","goal"]
abbrev Pc:List Str:=["self","goal"]
abbrev Pd:List Str:=["_law_script"]
abbrev Pe:List Str:=["_law_scale","_law_first","_law_last","_law_found"]
abbrev Pf:List Str:=["beam","standing","move"]
abbrev Pg:List Str:=["self"]
abbrev Ph:List Str:=["_law_found","_law_due"]
abbrev Pi:List Str:=["_law_scale","_law_now","_law_last","_law_found"]
abbrev Pj:List Str:=["self","reason","word"]
abbrev Pk:List Str:=["self","reason"]
abbrev Pl:List Str:=["self","notches","room","hefts","limit"]
abbrev Pm:List Str:=["number","low","high"]
abbrev Pn:List Str:=["notches","room","limit"]
abbrev Po:List Str:=["beam","limit"]
abbrev Pp:List Str:=["beam","tipped"]
abbrev Pq:List Str:=["places","move"]
abbrev Pr:List Str:=["beam","places","place"]
abbrev Ps:List Str:=["beam","places","weight","taken","put"]
abbrev Pt:List Str:=["places","weight","taken"]
abbrev Pu:List Str:=["beam","places","taken","put"]
abbrev Pv:List Str:=["beam","held","added"]
abbrev Pw:List Str:=["self","reached","many","row","layers","again","shut"]
abbrev Px:List Str:=["self","limit","row","shut"]
abbrev Py:List Str:=["self","move"]
abbrev Pz:List Str:=["_law_script","_law_k"]
abbrev PB:List Str:=["_law_found"]
abbrev PD:List Str:=["_law_scale","_law_limit_here"]
abbrev PF:List Str:=["_law_scale"]
abbrev PH:List Str:=["_law_play","_law_goal"]
abbrev PJ:List Str:=["_law_play","_law_now","_law_made"]
abbrev PK:List Str:=["notches","weights"]
abbrev PM:List Str:=["beam","standing","weight"]
abbrev PN:List Str:=["beam","places","weight"]
abbrev PP:List Str:=["beam","layer","led"]
abbrev PR:List Str:=["goal","led"]
abbrev PU:List Str:=["beam","shut"]
abbrev PV:List Str:=["self","beam","start"]
abbrev PX:List Str:=["_law_cell","_law_count","_law_base","_law_mix"]
abbrev PY:List Str:=["_law_script","_law_k","_law_more","_law_shape_here"]
abbrev PZ:List Str:=["_law_hefts","_law_spots"]
abbrev Vc:List Str:=["_law_script","_law_low_here"]
abbrev Vd:List Str:=["_law_scale","_law_spots","_law_move"]
abbrev Ve:List Str:=["_law_scale","_law_spots"]
abbrev Vf:List Str:=["_law_scale","_law_origin"]
abbrev Vg:List Str:=["_law_found","_law_count"]
abbrev Vh:List Str:=["_law_scale","_law_spots","_law_row"]
abbrev Vi:List Str:=["_law_scale","_law_now","_law_last","_law_found","_law_far_here","_law_deep","_law_shut","_law_due","_law_spots","_law_k","_law_weights","_law_again"]
abbrev Vj:List Str:=["_law_scale","_law_spots","_law_cell"]
abbrev Vk:List Str:=["_law_play","_law_scale","_law_now","_law_last","_law_far_here"]
abbrev Vl:List Str:=["beam","standing","places","told","weight"]
abbrev Vm:List Str:=["beam","places","weight","held","lies","heft"]
abbrev Vn:List Str:=["beam","shut","free","inside","limits","standing","move"]
abbrev Vo:List Str:=["_law_script","_law_cell","_law_notches","_law_count","_law_room","_law_mode","_law_hefts"]
abbrev Vp:List Str:=["_law_scale","_law_spots","_law_notches","_law_room","_law_hefts","_law_limit_here","_law_total","_law_free","_law_made","_law_k","_law_lifted","_law_place"]
abbrev Vq:List Str:=["_law_scale","_law_spots","_law_cell","_law_near_here","_law_behind","_law_moved_one"]
noncomputable def top (i:Nat):Stmt:=PySem.Challenge.pw_beamtender_k25_play_asked.main.body.getD i (.Pass ⟨0,0,0,0⟩)
noncomputable abbrev zd6:Stmt:=zl9 (top 1) 0
noncomputable abbrev zg2:Stmt:=zl9 (top 12) 0
noncomputable abbrev zz0:Stmt:=zl9 (top 22) 0
noncomputable abbrev zI9:Stmt:=top 23
noncomputable abbrev zr7:Stmt:=top 24
noncomputable abbrev zt5:Stmt:=top 25
noncomputable abbrev zm8:Stmt:=top 26
noncomputable abbrev zZ0:Stmt:=top 27
noncomputable abbrev zt6:Stmt:=top 28
noncomputable abbrev zO8:Stmt:=top 30
noncomputable abbrev yg1:Stmt:=top 31
noncomputable abbrev zZ1:Stmt:=top 32
noncomputable abbrev zJ0:Stmt:=top 33
noncomputable abbrev zZ2:Stmt:=top 35
noncomputable abbrev zG5:Stmt:=top 36
noncomputable abbrev zO9:Stmt:=top 37
noncomputable abbrev zP0:Stmt:=top 38
noncomputable abbrev yg2:Stmt:=top 39
noncomputable abbrev zw6:Stmt:=top 40
noncomputable abbrev zr8:Stmt:=top 41
noncomputable abbrev zz1:Stmt:=top 42
noncomputable abbrev zt7:Stmt:=top 43
noncomputable abbrev zP1:Stmt:=top 44
noncomputable abbrev zE1:Stmt:=zl9 (top 46) 0
noncomputable abbrev zP2:Stmt:=top 47
noncomputable abbrev zz2:Stmt:=top 49
noncomputable abbrev zP3:Stmt:=top 51
noncomputable abbrev zw7:Stmt:=top 52
noncomputable abbrev zP4:Stmt:=top 53
noncomputable abbrev zh8:Stmt:=top 54
noncomputable abbrev zw8:Stmt:=zl9 (top 56) 0
noncomputable abbrev zZ3:Stmt:=top 57
noncomputable abbrev zi7:Stmt:=top 59
noncomputable abbrev zq0:Stmt:=top 60
noncomputable abbrev zz3:Stmt:=zl9 (top 63) 0
noncomputable abbrev zz4:Stmt:=zl9 (top 63) 1
noncomputable abbrev zz5:Stmt:=zl9 (top 63) 2
noncomputable abbrev zw9:Stmt:=zl9 (top 63) 3
noncomputable abbrev zt8:Stmt:=zl9 (top 63) 4
noncomputable abbrev zo1:Stmt:=zl9 (top 63) 5
noncomputable abbrev zx0:Stmt:=zl9 (top 63) 6
noncomputable abbrev yg3:Stmt:=top 65
noncomputable abbrev zJ1:Stmt:=top 66
noncomputable abbrev zP5:Stmt:=top 67
noncomputable abbrev zu6:Stmt:=top 68
noncomputable abbrev zZ4:Stmt:=top 69
noncomputable abbrev zP6:Stmt:=top 70
noncomputable abbrev zJ2:Stmt:=top 71
noncomputable abbrev zP7:Stmt:=top 72
noncomputable abbrev zP8:Stmt:=top 73
noncomputable abbrev zP9:Stmt:=top 74
noncomputable abbrev zz6:Stmt:=top 75
noncomputable abbrev zZ5:Stmt:=top 76
noncomputable abbrev zx1:Stmt:=top 77
noncomputable abbrev zQ0:Stmt:=top 78
noncomputable abbrev zt9:Stmt:=top 79
noncomputable abbrev zQ1:Stmt:=top 80
noncomputable abbrev zQ2:Stmt:=top 81
noncomputable abbrev zQ3:Stmt:=top 82
noncomputable abbrev zZ6:Stmt:=top 83
noncomputable abbrev zZ7:Stmt:=top 84
noncomputable abbrev zf7:Stmt:=top 85
noncomputable abbrev zu0:Stmt:=top 86
noncomputable abbrev zz7:Stmt:=top 87
noncomputable abbrev zQ4:Stmt:=top 88
noncomputable abbrev zJ3:Stmt:=top 89
noncomputable abbrev zQ5:Stmt:=top 90
noncomputable abbrev zU2:Stmt:=top 91
theorem sc_BeamError_init:zb8 Pj Pj (za8 zd6):={}
theorem sc_NoWay_init:zb8 Pk Pk (za8 zg2):={}
theorem sc_Beam_init:zb8 Pl Pl (za8 zz0):={}
theorem sc_outside:zb8 Pm Pm (za8 zI9):={}
theorem sc_check_bounds:zb8 Pn Pn (za8 zr7):={}
theorem zz8:zb8 ["hefts","heft"] ["hefts"] (za8 zt5):={}
theorem zj5:zb8 ["notches","weights","many","weight"] PK (za8 zm8):={}
theorem sc_under:zb8 Po Po (za8 zZ0):={}
theorem zr9:zb8 ["beam","standing","places","place"] Pa (za8 zt6):={}
theorem yk9:zb8 ["beam","standing","places"] Pa (za8 zO8):={}
theorem zJ4:ze1 ["beam","standing","places"] (za8 zO8) (zm0 (ya8 (stE (stAt (zd3 zO8) 1)) 0)) ["heft","place"] [none,none]:=⟨rfl,by decide +kernel,by decide +kernel,by decide +kernel,rfl,by decide +kernel,by decide +kernel⟩
theorem sc_past:zb8 Pp Pp (za8 yg1):={}
theorem sc_keeps:zb8 Pa Pa (za8 zZ1):={}
theorem zQ6:zb8 ["beam","standing","weight","places"] PM (za8 zJ0):={}
theorem yc9:zb8 ["beam","standing","move","places"] Pf (za8 zZ2):={}
theorem zG6:zb8 Vl Pa (za8 zG5):={}
theorem zQ7:ze1 Vl (za8 zG5) (zm0 (ya8 (stE (stAt (stBody (stAt (zd3 zG5) 2)) 0)) 0)) ["put","weight","places"] [none,some 4,some 2]:=⟨rfl,by decide +kernel,by decide +kernel,by decide +kernel,rfl,by decide +kernel,by decide +kernel⟩
theorem sc_turned:zb8 ["move"] ["move"] (za8 zO9):={}
theorem sc_behind:zb8 Pq Pq (za8 zP0):={}
theorem sc_full:zb8 Pr Pr (za8 yg2):={}
theorem sc_check_move:zb8 Ps Ps (za8 zw6):={}
theorem sc_check_weight:zb8 Pt Pt (za8 zr8):={}
theorem sc_check_put:zb8 Pu Pu (za8 zz1):={}
theorem sc_check_tilts:zb8 Pv Pv (za8 zt7):={}
theorem zM1:zb8 Vm PN (za8 zP1):={}
theorem zU3:ze1 Vm (za8 zP1) (zm0 (stE (stAt (zd3 zP1) 4))) ["put","lies","beam","places","held","heft"] [none,some 4,some 0,some 1,some 3,some 5]:=⟨rfl,by decide +kernel,by decide +kernel,by decide +kernel,rfl,by decide +kernel,by decide +kernel⟩
theorem sc_Way_init:zb8 Pw Pw (za8 zE1):={}
theorem zJ5:zb8 ["beam","start","goal","first","last"] Pb (za8 zP2):={}
theorem zG7:zb8 ["beam","start","goal","way"] Pb (za8 zz2):={}
theorem zu7:zb8 ["beam","start","goal","layers","led","layer","row"] Pb (za8 zP3):={}
theorem zl6:zb8 ["beam","layer","led","found","standing","move","reached"] PP (za8 zw7):={}
theorem zB6:zb8 ["goal","led","row","standing"] PR (za8 zP4):={}
theorem zz9:zb8 ["row","weights"] ["row"] (za8 zh8):={}
theorem zu8:ze1 ["row","weights"] (za8 zh8) (zm0 (stE (stAt (zd3 zh8) 0))) ["move"] [none]:=⟨rfl,by decide +kernel,by decide +kernel,by decide +kernel,rfl,by decide +kernel,by decide +kernel⟩
theorem zu9:ze1 ["row","weights"] (za8 zh8) (zm0 (ya8 (ya8 (stE (stAt (zd3 zh8) 1)) 0) 0)) ["weight","weights"] [none,some 1]:=⟨rfl,by decide +kernel,by decide +kernel,by decide +kernel,rfl,by decide +kernel,by decide +kernel⟩
theorem sc_Least_init:zb8 Px Px (za8 zw8):={}
theorem zm9:zb8 ["beam","start","goal","first","last","limit","shut","way"] Pb (za8 zZ3):={}
theorem zf9:zb8 Vn PU (za8 zi7):={}
theorem zq1:ze1 Vn (za8 zi7) (zm0 (ya8 (stE (stAt (zd3 zi7) 1)) 0)) ["standing"] [none]:=⟨rfl,by decide +kernel,by decide +kernel,by decide +kernel,rfl,by decide +kernel,by decide +kernel⟩
theorem sc_limit_to_move:zb8 Pf Pf (za8 zq0):={}
theorem zG8:zb8 ["self","beam","start","first"] PV (za8 zz3):={}
theorem sc_Play_move:zb8 Py Py (za8 zz4):={}
theorem zG9:zb8 ["self","last"] Pg (za8 zz5):={}
theorem sc_Play_trail:zb8 Pg Pg (za8 zw9):={}
theorem sc_Play_fewest:zb8 Pc Pc (za8 zt8):={}
theorem sc_Play_next_move:zb8 Pc Pc (za8 zo1):={}
theorem sc_Play_least:zb8 Pc Pc (za8 zx0):={}
theorem sc_w_at:zb8 Pz Pz (za8 yg3):={}
theorem sc_w_whole:zb8 PB PB (za8 zJ1):={}
theorem zo2:zb8 ["_law_cell","_law_count","_law_base","_law_mix","_law_made","_law_rest","_law_k"] PX (za8 zP5):={}
theorem zj6:zb8 Vo Pd (za8 zu6):={}
theorem zH0:ze1 Vo (za8 zu6) (zm0 (stE (stAt (zd3 zu6) 5))) ["_law_x"] [none]:=⟨rfl,by decide +kernel,by decide +kernel,by decide +kernel,rfl,by decide +kernel,by decide +kernel⟩
theorem zk3:zb8 ["_law_script","_law_k","_law_more","_law_shape_here","_law_notches","_law_room","_law_hefts","_law_mix","_law_cell","_law_made","_law_x","_law_place"] PY (za8 zZ4):={}
theorem zB7:zb8 ["_law_hefts","_law_spots","_law_total","_law_k"] PZ (za8 zP6):={}
theorem zE2:zb8 ["_law_script","_law_low_here","_law_cell","_law_kind"] Vc (za8 zJ2):={}
theorem zJ6:zb8 ["_law_cell","_law_more","_law_start"] ["_law_cell"] (za8 zP7):={}
theorem zg0:zb8 ["_law_script","_law_shape_here","_law_notches","_law_room","_law_hefts","_law_first","_law_last","_law_craft","_law_notch","_law_low_here"] Pd (za8 zP8):={}
theorem zk8:zb8 ["_law_scale","_law_spots","_law_move","_law_notches","_law_room","_law_hefts","_law_limit_here","_law_weight","_law_source","_law_target","_law_lifted"] Vd (za8 zP9):={}
theorem zi8:zb8 Vp Ve (za8 zz6):={}
theorem zK4:ze1 Vp (za8 zz6) (zm0 (stE (stAt (zd3 zz6) 2))) ["_law_x","_law_room","_law_spots"] [none,some 3,some 1]:=⟨rfl,by decide +kernel,by decide +kernel,by decide +kernel,rfl,by decide +kernel,by decide +kernel⟩
theorem zv0:zb8 ["_law_scale","_law_origin","_law_far_here","_law_todo","_law_k","_law_spots"] Vf (za8 zZ5):={}
theorem zC9:zb8 ["_law_found","_law_count","_law_place"] Vg (za8 zx1):={}
theorem zU4:zb8 ["_law_found","_law_due","_law_k"] Ph (za8 zQ0):={}
theorem zA0:zb8 ["_law_found","_law_due","_law_k"] Ph (za8 zt9):={}
theorem zB8:zb8 ["_law_scale","_law_spots","_law_row","_law_now","_law_move"] Vh (za8 zQ1):={}
theorem sc_w_with:zb8 PD PD (za8 zQ2):={}
theorem sc_w_beam:zb8 PF PF (za8 zQ3):={}
theorem sc_w_way:zb8 Pe Pe (za8 zZ6):={}
theorem sc_w_low:zb8 Pe Pe (za8 zZ7):={}
theorem zd5:zb8 Vi Pi (za8 zf7):={}
theorem zv1:ze1 Vi (za8 zf7) (zm0 (stE (stAt (zd3 zf7) 5))) ["_law_k"] [none]:=⟨rfl,by decide +kernel,by decide +kernel,by decide +kernel,rfl,by decide +kernel,by decide +kernel⟩
theorem zv2:ze1 Vi (za8 zf7) (zm0 (stE (stAt (zd3 zf7) 9))) ["_law_move"] [none]:=⟨rfl,by decide +kernel,by decide +kernel,by decide +kernel,rfl,by decide +kernel,by decide +kernel⟩
theorem zv3:ze1 Vi (za8 zf7) (zm0 (stE (stAt (zd3 zf7) 10))) ["_law_k","_law_weights"] [none,some 10]:=⟨rfl,by decide +kernel,by decide +kernel,by decide +kernel,rfl,by decide +kernel,by decide +kernel⟩
theorem zs0:zb8 ["_law_scale","_law_now","_law_last","_law_found","_law_low_here","_law_far_here"] Pi (za8 zu0):={}
theorem zB9:zb8 Vq Vj (za8 zz7):={}
theorem zK5:ze1 Vq (za8 zz7) (zm0 (exOf (stE (stAt (zd3 zz7) 3)))) ["_law_k","_law_behind","_law_spots"] [none,some 4,some 1]:=⟨rfl,by decide +kernel,by decide +kernel,by decide +kernel,rfl,by decide +kernel,by decide +kernel⟩
theorem sc_w_next:zb8 PH PH (za8 zQ4):={}
theorem zx2:zb8 ["_law_play","_law_scale","_law_now","_law_last","_law_far_here","_law_handed","_law_step","_law_behind"] Vk (za8 zJ3):={}
theorem sc_w_fits:zb8 PJ PJ (za8 zQ5):={}
theorem zn0:zb8 ["_law_script","_law_scale","_law_first","_law_last","_law_far_here","_law_play","_law_now","_law_made","_law_cells","_law_k","_law_move"] Pd (za8 zU2):={}
set_option genInjectivity false in
set_option genSizeOf false in
structure Adr where
 af:Addr
 ah:FuncData
 ag:Addr
 ak:FuncData
 aq:Addr
 a6:FuncData
 bh:Addr
 bi:FuncData
 aD:Addr
 aE:FuncData
 aH:Addr
 aI:FuncData
 ao:Addr
 ap:FuncData
 b5:Addr
 b6:FuncData
 aJ:Addr
 aK:FuncData
 co:Addr
 cp:FuncData
 cq:Addr
 cr:FuncData
 b7:Addr
 b8:FuncData
 bj:Addr
 bk:FuncData
 b9:Addr
 ca:FuncData
 cb:Addr
 cc:FuncData
 bt:Addr
 bu:FuncData
 bv:Addr
 bw:FuncData
 cs:Addr
 ct:FuncData
 aW:Addr
 aX:FuncData
 aF:Addr
 aG:FuncData
 a7:Addr
 a8:FuncData
 aL:Addr
 aM:FuncData
 cu:Addr
 cv:FuncData
 aA:Addr
 bf:FuncData
 aY:Addr
 bx:FuncData
 ar:Addr
 a9:FuncData
 bz:Addr
 bA:FuncData
 aZ:Addr
 a0:FuncData
 bB:Addr
 bC:FuncData
 aN:Addr
 aO:FuncData
 al:Addr
 a1:FuncData
 be:Addr
 cd:FuncData
 ax:Addr
 ay:FuncData
 aB:Addr
 aC:FuncData
 au:Addr
 ba:FuncData
 av:Addr
 bb:FuncData
 aw:Addr
 bc:FuncData
 am:Addr
 a2:FuncData
 aj:Addr
 aP:FuncData
 ai:Addr
 az:FuncData
 an:Addr
 a3:FuncData
 cw:Addr
 cx:FuncData
 bl:Addr
 bm:FuncData
 bD:Addr
 bE:FuncData
 bn:Addr
 bo:FuncData
 ce:Addr
 cf:FuncData
 bF:Addr
 bG:FuncData
 bp:Addr
 bq:FuncData
 bH:Addr
 bI:FuncData
 bJ:Addr
 bK:FuncData
 bL:Addr
 bM:FuncData
 bN:Addr
 bO:FuncData
 cg:Addr
 ch:FuncData
 a4:Addr
 a5:FuncData
 bP:Addr
 bQ:FuncData
 aQ:Addr
 aR:FuncData
 bR:Addr
 bS:FuncData
 bT:Addr
 bU:FuncData
 bV:Addr
 bW:FuncData
 ci:Addr
 cj:FuncData
 ck:Addr
 cl:FuncData
 aS:Addr
 aT:FuncData
 aU:Addr
 aV:FuncData
 bX:Addr
 bY:FuncData
 bZ:Addr
 b0:FuncData
 br:Addr
 bs:FuncData
 b1:Addr
 b2:FuncData
 bg:Addr
 b4:FuncData
 ae:Addr
 ac:Addr
 ab:Addr
 aa:Addr
 ad:Addr
 bd:Addr
 cm:Tok
 cA:Tok
 cy:Tok
 cn:Tok
 cB:Tok
 b3:Tok
 cz:Tok
structure Txt (K:W.Frag)(mg:Str->Option Value)(t:Adr):Prop where
 bE:FunD K "__init__" "BeamError.__init__" zd6 t.af t.ah
 bF:zm6 K t.ah Pj []
 ct:W.keepIn K (.ref t.af)=true
 b5:FunD K "__init__" "NoWay.__init__" zg2 t.ag t.ak
 b6:zm6 K t.ak Pk []
 cu:W.keepIn K (.ref t.ag)=true
 aS:Dm K "__init__" "Beam.__init__" Pl zz0 t.aq t.a6
 an:Df K mg "outside" Pm zI9 t.bh t.bi
 a3:Df K mg "check_bounds" Pn zr7 t.aD t.aE
 a8:Df K mg "check_hefts" ["hefts"] zt5 t.aH t.aI
 aR:Df K mg "check_standings" PK zm8 t.ao t.ap
 a4:Df K mg "under" Po zZ0 t.b5 t.b6
 ai:Df K mg "as_standing" Pa zt6 t.aJ t.aK
 aM:Df K mg "tilt" Pa zO8 t.co t.cp
 aN:Df K mg "past" Pp yg1 t.cq t.cr
 a5:Df K mg "keeps" Pa zZ1 t.b7 t.b8
 aO:Df K mg "in_hand" PM zJ0 t.bj t.bk
 bR:Df K mg "moved" Pf zZ2 t.b9 t.ca
 bt:Df K mg "moves" Pa zG5 t.cb t.cc
 be:Df K mg "turned" ["move"] zO9 t.bt t.bu
 ay:Df K mg "behind" Pq zP0 t.bv t.bw
 bz:Df K mg "full" Pr yg2 t.cs t.ct
 bf:Df K mg "check_move" Ps zw6 t.aW t.aX
 a6:Df K mg "check_weight" Pt zr8 t.aF t.aG
 bp:Df K mg "check_put" Pu zz1 t.a7 t.a8
 a9:Df K mg "check_tilts" Pv zt7 t.aL t.aM
 b7:Df K mg "puts" PN zP1 t.cu t.cv
 a0:Dm K "__init__" "Way.__init__" Pw zE1 t.aA t.bf
 ap:Df K mg "fewest" Pb zP2 t.aY t.bx
 aT:Df K mg "next_move" Pb zz2 t.ar t.a9
 bG:Df K mg "search" Pb zP3 t.bz t.bA
 bg:Df K mg "next_layer" PP zw7 t.aZ t.a0
 bH:Df K mg "row_to" PR zP4 t.bB t.bC
 ba:Df K mg "moved_again" ["row"] zh8 t.aN t.aO
 bh:Dm K "__init__" "Least.__init__" Px zw8 t.al t.a1
 bu:Df K mg "least" Pb zZ3 t.be t.cd
 aV:Df K mg "limit_to_leave" PU zi7 t.ax t.ay
 a1:Df K mg "limit_to_move" Pf zq0 t.aB t.aC
 bq:Dm K "__init__" "Play.__init__" PV zz3 t.au t.ba
 br:Dm K "move" "Play.move" Py zz4 t.av t.bb
 bs:Dm K "back" "Play.back" Pg zz5 t.aw t.bc
 bi:Dm K "trail" "Play.trail" Pg zw9 t.am t.a2
 bb:Dm K "fewest" "Play.fewest" Pc zt8 t.aj t.aP
 aW:Dm K "next_move" "Play.next_move" Pc zo1 t.ai t.az
 bj:Dm K "least" "Play.least" Pc zx0 t.an t.a3
 aC:Df K mg "_law_at" Pz yg3 t.cw t.cx
 aI:Df K mg "_law_whole" PB zJ1 t.bl t.bm
 bk:Df K mg "_law_figs" PX zP5 t.bD t.bE
 bA:Df K mg "_law_shape" Pd zu6 t.bn t.bo
 bv:Df K mg "_law_put" PY zZ4 t.ce t.cf
 az:Df K mg "_law_tilt" PZ zP6 t.bF t.bG
 bB:Df K mg "_law_limit" Vc zJ2 t.bp t.bq
 bI:Df K mg "_law_hard" ["_law_cell"] zP7 t.bH t.bI
 bJ:Df K mg "_law_case" Pd zP8 t.bJ t.bK
 bK:Df K mg "_law_lets" Vd zP9 t.bL t.bM
 bl:Df K mg "_law_near" Ve zz6 t.bN t.bO
 aJ:Df K mg "_law_far" Vf zZ5 t.cg t.ch
 bm:Df K mg "_law_is_spots" Vg zx1 t.a4 t.a5
 aF:Df K mg "_law_same" Ph zQ0 t.bP t.bQ
 au:Df K mg "_law_same_rows" Ph zt9 t.aQ t.aR
 aX:Df K mg "_law_walk" Vh zQ1 t.bR t.bS
 aY:Df K mg "_law_with" PD zQ2 t.bT t.bU
 bL:Df K mg "_law_beam" PF zQ3 t.bV t.bW
 bS:Df K mg "_law_way" Pe zZ6 t.ci t.cj
 bT:Df K mg "_law_low" Pe zZ7 t.ck t.cl
 bc:Df K mg "_law_exact_way" Pi zf7 t.aS t.aT
 bd:Df K mg "_law_exact_low" Pi zu0 t.aU t.aV
 bM:Df K mg "_law_pick" Vj zz7 t.bX t.bY
 bN:Df K mg "_law_next" PH zQ4 t.bZ t.b0
 a7:Df K mg "_law_asked" Vk zJ3 t.br t.bs
 bn:Df K mg "_law_fits" PJ zQ5 t.b1 t.b2
 co:Fun K "law" "law" zU2 t.bg t.b4
 cv:zm6 K t.b4 Pd []
 cw:mg "law" = some (.ref t.bg)
 cx:W.keepIn K (.ref t.bg)=true
 ad:Cls K t.ae
 b8:mg "Beam" = some (.ref t.ae)
 bU:Mk K t.ae t.aq
 ah:zf1 K t.ae "notches"
 av:zf1 K t.ae "room"
 al:zf1 K t.ae "hefts"
 aK:zf1 K t.ae "limit"
 aa:Cls K t.ac
 bP:mg "Way" = some (.ref t.ac)
 b9:Mk K t.ac t.aA
 ag:zf1 K t.ac "reached"
 aB:zf1 K t.ac "many"
 ao:zf1 K t.ac "row"
 aE:zf1 K t.ac "layers"
 aP:zf1 K t.ac "again"
 aU:zf1 K t.ac "shut"
 aj:Cls K t.ab
 bV:mg "Least" = some (.ref t.ab)
 ci:Mk K t.ab t.al
 ak:zf1 K t.ab "limit"
 aQ:zf1 K t.ab "row"
 aL:zf1 K t.ab "shut"
 ab:Cls K t.aa
 cm:mg "Play" = some (.ref t.aa)
 ck:Mk K t.aa t.au
 aw:zf1 K t.aa "beam"
 b1:zf1 K t.aa "start"
 ac:zf1 K t.aa "standing"
 aq:zf1 K t.aa "made"
 ax:mg "fewest_layers" = some (.ref t.aY)
 bC:mg "next_move_layers" = some (.ref t.ar)
 bW:mg "least_limits" = some (.ref t.be)
 ca:Meth K t.aa "move" t.av
 cb:Meth K t.aa "back" t.aw
 b2:Meth K t.aa "trail" t.am
 bX:Meth K t.aa "fewest" t.aj
 bD:Meth K t.aa "next_move" t.ai
 b3:Meth K t.aa "least" t.an
 aG:W.findIn K (.ref t.ac) "__class__" = some (some (.builtin "object.__class__"))/\W.specialIn K (.builtin "object.__class__") "__get__" = some (some (.builtin "getset_descriptor.__get__"))/\W.takesIn K (.builtin "object.__class__")=some true/\W.mroIn K t.ac (.type "object")=some true
 aZ:W.findIn K (.ref t.ab) "__class__" = some (some (.builtin "object.__class__"))/\W.specialIn K (.builtin "object.__class__") "__get__" = some (some (.builtin "getset_descriptor.__get__"))/\W.takesIn K (.builtin "object.__class__")=some true/\W.mroIn K t.ab (.type "object")=some true
 bY:mg "NoWay" = some (.ref t.ad)
 cf:mg "BeamError" = some (.ref t.bd)
 bw:XCls K t.ad
 cl:W.findIn K (.ref t.ad) "__init__" = some (some (.ref t.ag))
 cj:W.isFn K (.ref t.ag)=true
 bQ:zf1 K t.ad "reason"
 b4:zf1 K t.ad "word"
 cc:ys6 K t.bd "__init__" t.af
 aA:mg "tuple" = none
 ae:mg "len" = none
 am:mg "range" = none
 cp:mg "sum" = none
 cq:mg "zip" = none
 ar:mg "abs" = none
 aH:mg "sorted" = none
 cr:mg "set" = none
 a2:mg "max" = none
 cn:mg "dict" = none
 bx:mg "min" = none
 aD:mg "list" = none
 af:mg "isinstance" = none
 cs:mg "int" = none
 cd:mg "bool" = none
 bZ:mg "MOST_NOTCHES" = some (.int 4 t.cm)
 cg:mg "MOST_ROOM" = some (.int 3 t.cA)
 bo:mg "MOST_LIMIT" = some (.int 400 t.cy)
 b0:mg "MOST_WEIGHTS" = some (.int 5 t.cn)
 ch:mg "MOST_HEFT" = some (.int 20 t.cB)
 bO:mg "MOST_STANDINGS" = some (.int 1000 t.b3)
 ce:mg "MOST_MOVES" = some (.int 300 t.cz)
noncomputable def zq2 (cell base:Int)(mix:Bool):Nat->Int×List Int
 | 0=>(if mix=true then cell*48271 % 2147483647 else cell,[])
 | i+1 =>
   if mix=true then(((zq2 cell base mix i).1+(0+(i:Int))+1)*69621 % 2147483647,(zq2 cell base mix i).2++[(((zq2 cell base mix i).1+(0+(i:Int))+1)*69621 % 2147483647) / 8 % base])
   else((zq2 cell base mix i).1 / base,(zq2 cell base mix i).2++[(zq2 cell base mix i).1 % base])
noncomputable def figs (cell:Int)(n:Nat)(base:Int)(mix:Bool):List Int:=(zq2 cell base mix n).2
theorem zH1 (cell base:Int)(mix:Bool)(n:Nat):(figs cell n base mix).length=n:=by
 unfold figs
 induction n with
 | zero=>rfl
 | succ n a =>
   unfold zq2;cases mix
   . rw[Qh (by decide)];simp[a]
   . rw[Ql rfl];simp[a]
theorem zZ8 {cell base:Int}{mix:Bool}(d:0<base)(n:Nat):∀x∈figs cell n base mix,0<=x/\x<base:=by
 unfold figs
 induction n with
 | zero=>intro x a;cases a
 | succ n c =>
   unfold zq2;have b:∀z:Int,0<=z % base/\z % base<base:=fun z=>⟨Zr _ (by omega),Zp _ d⟩
   intro x a;cases mix
   . rw[Qh (by decide)] at a
     rcases Qt.mp a with h | h
     . exact c x h
     . obtain rfl:=QM.mp h;exact b _
   . rw[Ql rfl] at a
     rcases Qt.mp a with h | h
     . exact c x h
     . obtain rfl:=QM.mp h;exact b _
structure zg9 (n r:Int)(hs:List Int)(lim:Int):Prop where
 n1:1<=n
 n2:n<=4
 r1:1<=r
 r2:r<=3
 l1:0<=lim
 l2:lim<=400
 w:hs.length<=5
 h:∀x∈hs,1<=x/\x<=20
 most:(2*n+1) ^ hs.length<=1000
structure zc6 (n r:Int)(w:Nat)(xs:List Int):Prop where
 len:xs.length=w
 on:∀x∈xs,-n<=x/\x<=n
 room:∀x∈xs,x≠0->(xs.count x:Int)<=r
noncomputable abbrev at0 (ns:List Int)(k:Nat):Int:=ns.getD k 0
noncomputable def zs9 (ns:List Int):Bool:=decide (V.int (at0 ns 0 % 2)=V.int 1)
noncomputable def shN (ns:List Int):Int:=([2,3,1,4]:List Int).getD (at0 ns 1 % 4).toNat 0
noncomputable def shW (ns:List Int):Int :=
 if ([3,2,4,1,5,0]:List Int).getD (at0 ns 1 / 4 % 6).toNat 0<([5,4,3,3]:List Int).getD (shN ns-1).toNat 0 then([3,2,4,1,5,0]:List Int).getD (at0 ns 1 / 4 % 6).toNat 0 else([5,4,3,3]:List Int).getD (shN ns-1).toNat 0
noncomputable def shR (ns:List Int):Int:=1+at0 ns 1 / 24 % 3
noncomputable def shH0 (ns:List Int):List Int:=(figs (at0 ns 2) (shW ns).toNat 20 (zs9 ns)).map fun x=>1+x
noncomputable def shH (ns:List Int):List Int :=
 if at0 ns 0 / 2 % 5=1 then(List.replicate (shW ns).toNat ((shH0 ns).take 1)).flatten else if at0 ns 0 / 2 % 5=2 then(List.replicate (shW ns).toNat [20]).flatten else shH0 ns
theorem zJ7 (ns:List Int):shN ns=2\/shN ns=3\/shN ns=1\/shN ns=4:=by
 unfold shN;have a:0<=at0 ns 1 % 4:=Zr _ (by decide);have b:at0 ns 1 % 4<4:=Zp _ (by decide);have:at0 ns 1 % 4=0\/at0 ns 1 % 4=1\/at0 ns 1 % 4=2\/at0 ns 1 % 4=3:=by omega
 rcases this with e | e | e | e<;>rw[e]<;>decide
theorem cap_of {n:Int}:n=2\/n=3\/n=1\/n=4->([5,4,3,3]:List Int).getD (n-1).toNat 0=(if n=1 then 5 else if n=2 then 4 else 3):=by
 rintro(rfl | rfl | rfl | rfl)<;>decide
theorem six_of (z:Int):0<=([3,2,4,1,5,0]:List Int).getD (z % 6).toNat 0/\([3,2,4,1,5,0]:List Int).getD (z % 6).toNat 0<=5:=by
 have a:0<=z % 6:=Zr _ (by decide);have b:z % 6<6:=Zp _ (by decide);have:z % 6=0\/z % 6=1\/z % 6=2\/z % 6=3\/z % 6=4\/z % 6=5:=by omega
 rcases this with e | e | e | e | e | e<;>rw[e]<;>decide
theorem yq6 (ns:List Int):0<=shW ns/\shW ns<=(if shN ns=1 then 5 else if shN ns=2 then 4 else 3):=by
 unfold shW;obtain⟨a,b⟩:=six_of (at0 ns 1 / 4);rw[cap_of (zJ7 ns)];have c:(0:Int)<=(if shN ns=1 then 5 else if shN ns=2 then 4 else 3):=by repeat (first | decide | split)
 split<;>omega
theorem pow_cap {n:Int}(h:n=2\/n=3\/n=1\/n=4){w:Nat}(a:(w:Int)<=(if n=1 then 5 else if n=2 then 4 else 3)):(2*n+1) ^ w<=1000:=by
 have b:(if n=1 then(5:Int) else if n=2 then 4 else 3)<=5:=by repeat (first | decide | split)
 have:w=0\/w=1\/w=2\/w=3\/w=4\/w=5:=by omega
 rcases h with rfl | rfl | rfl | rfl<;>rcases this with rfl | rfl | rfl | rfl | rfl | rfl<;>first | decide | (exfalso;revert a;decide)
theorem yd1 (ns:List Int):(shH0 ns).length=(shW ns).toNat:=by unfold shH0;rw[Qb,zH1]
theorem shH_len (ns:List Int):(shH ns).length=(shW ns).toNat:=by
 unfold shH;have a:=yd1 ns
 split
 . rw[zY2,Zb,a]
   by_cases h:(shW ns).toNat=0
   . rw[h];simp
   . rw[Zy (by omega),Nat.mul_one]
 . split
   . rw[zY2];simp
   . exact a
theorem yl0 (ns:List Int):∀x∈shH0 ns,1<=x/\x<=20:=by
 intro x a;unfold shH0 at a;obtain⟨y,b,rfl⟩:=QA.mp a;have:=zZ8 (by decide) _ y b;omega
theorem shH_in (ns:List Int):∀x∈shH ns,1<=x/\x<=20:=by
 intro x a;unfold shH at a
 split at a
 . obtain⟨l,b,a⟩:=List.mem_flatten.mp a
   obtain⟨_,rfl⟩:=List.mem_replicate.mp b;exact yl0 ns x (List.mem_of_mem_take a)
 . split at a
   . obtain⟨l,b,a⟩:=List.mem_flatten.mp a
     obtain⟨_,rfl⟩:=List.mem_replicate.mp b;obtain rfl:=QM.mp a;omega
   . exact yl0 ns x a
theorem sh_ok (ns:List Int){lim:Int}(a:0<=lim)(b:lim<=400):zg9 (shN ns) (shR ns) (shH ns) lim:=by
 have c:=zJ7 ns;have f:=yq6 ns;have g:=shH_len ns;have h:(if shN ns=1 then(5:Int) else if shN ns=2 then 4 else 3)<=5:=by repeat (first | decide | split)
 have d:0<=at0 ns 1 / 24 % 3:=Zr _ (by decide);have e:at0 ns 1 / 24 % 3<3:=Zp _ (by decide);exact⟨by omega,by omega,by unfold shR;omega,by unfold shR;omega,a,b,by omega,shH_in ns,pow_cap c (by omega)⟩
noncomputable def zq5 (n r:Int)(last:Bool)(made:List Int)(x:Int):List Int :=
 made++[if (if last=true then n else x-n)≠0/\r<=(made.count (if last=true then n else x-n):Int) then 0 else(if last=true then n else x-n)]
noncomputable def putL (n r:Int)(last:Bool)(xs:List Int):List Int:=xs.foldl (zq5 n r last) []
noncomputable def yd2 (ns:List Int)(k:Nat)(more n r:Int)(w:Nat):List Int :=
 putL n r (decide (V.int ((at0 ns k+more) % 13)=V.int 12)) (figs (at0 ns k+more) w (2*n+1) (zs9 ns))
theorem zU5 (n r:Int)(last:Bool)(xs:List Int)(x:Int):putL n r last (xs++[x])=zq5 n r last (putL n r last xs) x:=by
 unfold putL;rw[List.foldl_append];rfl
theorem yl1 {n r:Int}(last:Bool)(u:0<=n)(v:1<=r)(xs:List Int)(d:∀x∈xs,0<=x/\x<2*n+1) :
   (putL n r last xs).length=xs.length/\(∀y∈putL n r last xs,-n<=y/\y<=n)/\∀y,y≠0->((putL n r last xs).count y:Int)<=r:=by
 have h:∀(k:Nat) (xs:List Int),xs.length=k->(∀x∈xs,0<=x/\x<2*n+1)->(putL n r last xs).length=xs.length/\(∀y∈putL n r last xs,-n<=y/\y<=n)/\∀y,y≠0->((putL n r last xs).count y:Int)<=r:=by
   intro k
   induction k with
   | zero =>
     intro xs c _;have:xs=[]:=QC c;subst this;exact⟨rfl,(fun y a=>nomatch a),fun y _=>by show((([]:List Int).count y:Nat):Int)<=r;simp;omega⟩
   | succ k j =>
     intro xs c d;obtain⟨b,x,rfl⟩:∃b x,xs=b++[x]:=⟨xs.dropLast,xs.getLast (by intro e;rw[e] at c;cases c),(List.dropLast_concat_getLast _).symm⟩;have i:b.length=k:=by rw[Qq,List.length_singleton] at c;omega
     obtain⟨l,m,o⟩:=j b i fun z q=>d z (Zo _ q)
     have t:=d x (Zh _ (QM.mpr rfl));rw[zU5];unfold zq5
     have s:-n<=(if last=true then n else x-n)/\(if last=true then n else x-n)<=n:=by split<;>omega
     generalize(if last=true then n else x-n)=p at s ⊢;refine⟨by rw[Qq,Qq,l];rfl,fun y a=>?_,fun y a=>?_⟩
     . rcases Qt.mp a with a | a
       . exact m y a
       . obtain rfl:=QM.mp a
         split<;>omega
     . rw[List.count_append,List.count_singleton]
       have g:=o y a;by_cases f:p≠0/\r<=((putL n r last b).count p:Int)
       . rw[Ql f]
         have:((0:Int) == y)=false:=by simpa using fun e=>a e.symm
         rw[this];simpa using g
       . rw[Qh f]
         by_cases e:p=y
         . subst e
           have:¬ r<=((putL n r last b).count p:Int):=fun z=>f ⟨a,z⟩
           simp;omega
         . have:(p == y)=false:=by simpa using e
           rw[this];simpa using g
 exact h xs.length xs rfl d
theorem yq7 (ns:List Int)(k:Nat)(a:Int){n r:Int}(w:Nat)(g:1<=n)(b:1<=r):zc6 n r w (yd2 ns k a n r w):=by
 unfold yd2;obtain⟨c,d,e⟩:=yl1 (n:=n) (r:=r) (decide (V.int ((at0 ns k+a) % 13)=V.int 12)) (by omega) b (figs (at0 ns k+a) w (2*n+1) (zs9 ns)) (zZ8 (by omega) w);exact⟨by rw[c,zH1],d,fun x _ f=>e x f⟩
noncomputable def zH2 (n r:Int) (h:Addr) (lim:Int):List (Str×V):=putF "limit" (.int lim) (putF "hefts" (.ref h) (putF "room" (.int r) (putF "notches" (.int n) [])))
theorem zk9 (n r:Int) (h:Addr) (lim:Int):(zH2 n r h lim).lookup ("notches" : Str)=some (V.int n):=by
 unfold zH2;rw[zb1,Qh (by decide +kernel),zb1,Qh (by decide +kernel),zb1,Qh (by decide +kernel),zb1,Ql rfl]
theorem zZ9 (n r:Int) (h:Addr) (lim:Int):(zH2 n r h lim).lookup ("room" : Str)=some (V.int r):=by
 unfold zH2;rw[zb1,Qh (by decide +kernel),zb1,Qh (by decide +kernel),zb1,Ql rfl]
theorem zx3 (n r:Int) (h:Addr) (lim:Int):(zH2 n r h lim).lookup ("hefts" : Str)=some (V.ref h):=by
 unfold zH2;rw[zb1,Qh (by decide +kernel),zb1,Ql rfl]
theorem b_limit (n r:Int) (h:Addr) (lim:Int):(zH2 n r h lim).lookup ("limit" : Str)=some (V.int lim):=by
 unfold zH2;rw[zb1,Ql rfl]
def zd7 (t:Adr)(H:Hp)(b:Addr)(n r:Int)(hs:List Int)(lim:Int):Prop :=
 zg9 n r hs lim/\∃dx h,H b=some (.ins t.ae dx (zH2 n r h lim))/\H h=some (.tup (hs.map V.int))
theorem zd7.same {t:Adr}{H H':Hp}{b:Addr}{n r:Int}{hs:List Int}{lim:Int}(B:zd7 t H b n r hs lim)(s:Same H H'):zd7 t H' b n r hs lim:=by
 obtain⟨ok,a,h,c,d⟩:=B;exact⟨ok,a,h,s _ _ c,s _ _ d⟩
def sp_outside (K:W.Frag)(t:Adr):Sp:=fun vs H Q _=>∃a lo hi:Int,vs=[.int a,.int lo,.int hi]/\Q (.bl (decide (a<lo) || decide (hi<a))) H
inductive zx9 (K:W.Frag)(t:Adr)(vs:List V)(H:Hp)(Q:VK)(E:XK):Prop
 | mk (n r l:Int)(h0:vs=[.int n,.int r,.int l])(h1:(1<=n/\n<=4/\1<=r/\r<=3/\0<=l/\l<=400))(h2:Q .non H):zx9 K t vs H Q E
def sp_check_bounds (K:W.Frag)(t:Adr):Sp:=fun vs H Q E=>zx9 K t vs H Q E
inductive zA1 (K:W.Frag)(t:Adr)(vs:List V)(H:Hp)(Q:VK)(E:XK):Prop
 | mk (a:Addr)(hs:List Int)(h0:vs=[.ref a])(h1:(SqL K H a (hs.map V.int)\/SqT K H a (hs.map V.int)))(h2:(hs.length<=5/\∀x∈hs,1<=x/\x<=20))(h3:Q .non H):zA1 K t vs H Q E
def sp_check_hefts (K:W.Frag)(t:Adr):Sp:=fun vs H Q E=>zA1 K t vs H Q E
def sp_check_standings (K:W.Frag)(t:Adr):Sp:=fun vs H Q _=>∃(n:Int) (w:Nat),vs=[.int n,.int w]/\(1<=n/\n<=4/\w<=5/\(2*n+1) ^ w<=1000)/\Q .non H
inductive zH3 (K:W.Frag)(t:Adr)(vs:List V)(H:Hp)(Q:VK)(E:XK):Prop
 | mk (p dx a:Addr)(n r lim:Int)(hs:List Int)(h0:vs=[.ref p,.int n,.int r,.ref a,.int lim])(h1:H p=some (.ins t.ae dx []))(h2:(SqL K H a (hs.map V.int)\/H a=some (.tup (hs.map V.int))))(h3:zg9 n r hs lim)(h4:∀H',zd7 t H' p n r hs lim->zg6 p H H'->Q .non H'):zH3 K t vs H Q E
def sp_Beam_init (K:W.Frag)(t:Adr):Sp:=fun vs H Q E=>zH3 K t vs H Q E
inductive zA2 (K:W.Frag)(t:Adr)(vs:List V)(H:Hp)(Q:VK)(E:XK):Prop
 | mk (b a:Addr)(n r lim:Int)(hs xs:List Int)(h0:vs=[.ref b,.ref a])(h1:zd7 t H b n r hs lim)(h2:zc6 n r hs.length xs)(h3:(SqL K H a (xs.map V.int)\/H a=some (.tup (xs.map V.int))))(h4:∀l H',Same H H'->H' l=some (.tup (xs.map V.int))->Q (.ref l) H'):zA2 K t vs H Q E
def sp_as_standing (K:W.Frag)(t:Adr):Sp:=fun vs H Q E=>zA2 K t vs H Q E
inductive yl2 (K:W.Frag)(t:Adr)(vs:List V)(H:Hp)(Q:VK)(E:XK):Prop
 | mk (a:Addr)(ns:List Int)(k:Nat)(h0:vs=[.ref a,.int k])(h1:SqL K H a (ns.map V.int))(h2:Q (.int (ns.getD k 0)) H):yl2 K t vs H Q E
def sp_w_at (K:W.Frag)(t:Adr):Sp:=fun vs H Q E=>yl2 K t vs H Q E
def sp_w_whole (K:W.Frag)(t:Adr):Sp:=fun vs H Q _=>∃i:Int,vs=[.int i]/\Q (.bl true) H
inductive zU6 (K:W.Frag)(t:Adr)(vs:List V)(H:Hp)(Q:VK)(E:XK):Prop
 | mk (cell base:Int)(n:Nat)(mix:Bool)(h0:vs=[.int cell,.int n,.int base,.bl mix])(h1:(n<=1000/\0<base/\base<1000))(h2:∀l,H l=none->Q (.ref l) (upd H l (.lst ((figs cell n base mix).map V.int)))):zU6 K t vs H Q E
def sp_w_figs (K:W.Frag)(t:Adr):Sp:=fun vs H Q E=>zU6 K t vs H Q E
inductive zU7 (K:W.Frag)(t:Adr)(vs:List V)(H:Hp)(Q:VK)(E:XK):Prop
 | mk (a b:Addr)(xs ys:List Int)(h0:vs=[.ref a,.ref b])(h1:(SqL K H a (xs.map V.int)\/SqT K H a (xs.map V.int)))(h2:(SqL K H b (ys.map V.int)\/SqT K H b (ys.map V.int)))(h3:ys.length<=1000)(h4:Q (.bl (decide (xs=ys))) H):zU7 K t vs H Q E
def sp_w_same (K:W.Frag)(t:Adr):Sp:=fun vs H Q E=>zU7 K t vs H Q E
def sp_w_shape (K:W.Frag)(t:Adr):Sp:=fun vs H Q _=>∃(a:Addr) (ns:List Int),vs=[.ref a]/\SqL K H a (ns.map V.int) ∧
 ∀l h H',Same H H'->H l=none->H h=none->H' h=some (.lst ((shH ns).map V.int))->H' l=some (.lst [.int (shN ns),.int (shR ns),.ref h])->Q (.ref l) H'
inductive yd3 (K:W.Frag)(t:Adr)(vs:List V)(H:Hp)(Q:VK)(E:XK):Prop
 | mk (a sh h:Addr)(ns:List Int)(k:Nat)(more n r:Int)(hs:List Int)(h0:vs=[.ref a,.int k,.int more,.ref sh])(h1:SqL K H a (ns.map V.int))(h2:H sh=some (.lst [.int n,.int r,.ref h]))(h3:SqL K H h (hs.map V.int))(h4:(1<=n/\n<=4/\1<=r/\hs.length<=5))(h5:∀l H',Same H H'->H l=none->H' l=some (.lst ((yd2 ns k more n r hs.length).map V.int))->Q (.ref l) H'):yd3 K t vs H Q E
def sp_w_put (K:W.Frag)(t:Adr):Sp:=fun vs H Q E=>yd3 K t vs H Q E
def yd4 (K:W.Frag):Sp:=fun vs H Q _=>∃(a:Addr) (ns:List Int),vs=[.ref a]/\SqL K H a (ns.map V.int)/\ns.length<=63/\∀H',Q (.bl true) H'
def sp_law (K:W.Frag)(t:Adr):Sp:=yd4 K
section
variable {P:Program} {w:World} {K:W.Frag} {mg:Str->Option Value} {base:Heap} {t:Adr}
theorem zk4 (T:Txt K mg t):FnOk P w K mg base CX0 1 t.bh t.bi Pm (sp_outside K t):=by
 refine T.an.F.ok sc_outside (fun c H Q E h=>?_) (fun g A f s H c Q E i h=>?_)
 . obtain⟨a,d,e,rfl,q⟩:=h
   rfl
 . obtain⟨a,d,e,rfl,q⟩:=h
   refine⟨_,(za5 (zb7 (pe_or (zg7 zM6 P0 P1 (zc1 _)) (zy2 (zg7 zy3 P0 P2 (zc1 _)))))),?_⟩;refine⟨_,rfl,_,rfl,_,_,rfl,rfl,_,rfl,?_⟩;refine ite2 (fun b=>?_) (fun b=>?_)
   . rw[b] at q
     exact q
   . rw[Bool.eq_false_iff.mpr b] at q
     exact⟨_,rfl,_,rfl,_,_,rfl,rfl,q⟩
theorem ok_check_bounds (T:Txt K mg t):FnOk P w K mg base CX0 2 t.aD t.aE Pn (sp_check_bounds K t):=by
 refine T.a3.F.ok sc_check_bounds (fun i H Q E h=>?_) (fun k A j s H i Q E a h=>?_)
 . obtain⟨n,r,l,rfl,⟨b,c,d,e,f,g⟩,q⟩:=h
   rfl
 . obtain⟨n,r,l,rfl,⟨b,c,d,e,f,g⟩,q⟩:=h
   refine⟨_,(za2 (zc8 (zd0 (za6 (zk4 T) a.m T.an zb3 (za0 P0 (za0 za4 (za0 (zo3 (v:=.int 4) rfl T.bZ ⟨_,rfl⟩) za1))))) (za5 ze2) zb6)
     (za2 (zc8 (zd0 (za6 (zk4 T) a.m T.an zb3 (za0 P1 (za0 za4 (za0 (zo3 (v:=.int 3) rfl T.cg ⟨_,rfl⟩) za1))))) (za5 ze2) zb6)
     (za5 (zc8 (zd0 (za6 (zk4 T) a.m T.an zb3 (za0 P2 (za0 za4 (za0 (zo3 (v:=.int 400) rfl T.bo ⟨_,rfl⟩) za1))))) (za5 ze2) zb6)))),?_⟩
   refine cut3 ?_;intro m o;refine⟨_,rfl,_,_,_,rfl,_,rfl,iteB (zt3 b c) ?_⟩;refine⟨_,rfl,_,_,_,rfl,_,rfl,iteB (zt3 d e) ?_⟩;exact⟨_,rfl,_,_,_,rfl,_,rfl,iteB (zt3 f g) q⟩
theorem ok_check_hefts (T:Txt K mg t):FnOk P w K mg base CX0 2 t.aH t.aI ["hefts"] (sp_check_hefts K t):=by
 refine T.a8.F.ok zz8 (fun n H Q E h=>?_) (fun y A u s H n Q E o h=>?_)
 . obtain⟨a,f,rfl,b,⟨p,m⟩,q⟩:=h
   rfl
 . obtain⟨a,f,rfl,b,⟨p,m⟩,q⟩:=h
   refine⟨_,(za2 (zc8 (zc2 zy3 (zb0 zc0 rfl T.ae QB (za0 P0 za1)) (zo3 (v:=.int 5) rfl T.b0 ⟨_,rfl⟩) (zc1 _)) (za5 ze2) zb6)
     (za5 (zh7 PassesOwn.never rfl (pi_seq P0) (zc5 (i:=1) zz8.nd rfl (Or.inl rfl)) (za5 (zc8 (zd0 (za6 (zk4 T) o.m T.an zb3 (za0 P1 (za0 za4 (za0 (zo3 (v:=.int 20) rfl T.ch ⟨_,rfl⟩) za1))))) (za5 ze2) zb6))))),?_⟩
   refine⟨_,rfl,a,f.map V.int,rfl,b,_,_,rfl,rfl,_,rfl,iteB (zY4 (by rw[Qb];omega)) ?_⟩;refine⟨_,rfl,a,rfl,?_⟩;have l:∀(i:Nat) x,(f.map V.int)[i]?=some x->∃z,x = .int z/\1<=z/\z<=20:=fun i x e=>by
     obtain⟨z,rfl,r⟩:=int_at e;exact⟨z,rfl,m z (QG r)⟩
   rcases b with b | b
   . refine .inl ⟨⟨_,b⟩,zl4 (K:=K) (a:=a) (xs:=f.map V.int) (fun i d c=>X1 fun v=>A2 (d=[some (.ref a),v]) (c=H)) ⟨_,rfl,rfl⟩ (fun i d c _ ⟨_,_,e⟩=>e▸b) ?_ ?_⟩
     . rintro i x d c g ⟨v,rfl,rfl⟩
       obtain⟨z,rfl,j,k⟩:=l i x g;exact⟨_,rfl,_,_,_,rfl,_,rfl,iteB (zt3 j k) ⟨_,rfl,rfl⟩⟩
     . rintro d c ⟨v,rfl,rfl⟩
       exact q
   . refine .inr ⟨⟨_,b⟩,zL0 (K:=K) (a:=a) (xs:=f.map V.int) (fun i d c=>X1 fun v=>A2 (d=[some (.ref a),v]) (c=H)) ⟨_,rfl,rfl⟩ (fun i d c _ ⟨_,_,e⟩=>e▸b) ?_ ?_⟩
     . rintro i x d c g ⟨v,rfl,rfl⟩
       obtain⟨z,rfl,j,k⟩:=l i x g;exact⟨_,rfl,_,_,_,rfl,_,rfl,iteB (zt3 j k) ⟨_,rfl,rfl⟩⟩
     . rintro d c ⟨v,rfl,rfl⟩
       exact q
theorem ok_check_standings (T:Txt K mg t):FnOk P w K mg base CX0 1 t.ao t.ap PK (sp_check_standings K t):=by
 refine T.aR.F.ok zj5 (fun d H Q E h=>?_) (fun k A j s H d Q E o h=>?_)
 . obtain⟨n,w,rfl,⟨e,f,g,c⟩,q⟩:=h
   rfl
 . obtain⟨n,w,rfl,⟨e,f,g,c⟩,q⟩:=h
   refine⟨_,(za2 (zb4 (i:=2) zj5.nd rfl (Or.inl rfl) za4)
     (za2 (zh7 PassesOwn.never rfl (zj9 rfl T.am (za0 P1 za1)) (zc5 (i:=3) zj5.nd rfl (Or.inl rfl)) (za5 (zb4 (i:=2) zj5.nd rfl (Or.inl rfl) (zb9 zm5 P2 (zb9 zf4 (zb9 zm5 za4 P0) za4)))))
     (za5 (zc8 (zc2 zy3 P2 (zo3 (v:=.int 1000) rfl T.bO ⟨_,rfl⟩) (zc1 _)) (za5 ze2) zb6)))),?_⟩
   refine cut3 ?_;intro l m;refine⟨_,rfl,_,rfl,by omega,by omega,zk0 (n:=(w:Int).toNat) (fun i b a=>X1 fun v=>A2 (b=[some (.int n),some (.int w),some (.int ((2*n+1) ^ i)),v]) (a=H)) ⟨none,by rw[Int.pow_zero];rfl,rfl⟩ ?_ ?_⟩
   . rintro i b a p ⟨v,rfl,rfl⟩
     exact⟨_,rfl,_,rfl,_,_,rfl,rfl,.inl ⟨by decide,by decide⟩,_,_,rfl,rfl,_,_,rfl,rfl,.inr ⟨by omega,by omega⟩,_,by rw[Int.pow_succ];rfl,rfl⟩
   . rintro b a ⟨v,rfl,rfl⟩
     exact⟨_,rfl,_,_,rfl,rfl,_,rfl,iteB (zY4 (by rw[QZ];exact c)) q⟩
theorem zH4 (T:Txt K mg t):FnOk P w K mg base CX0 3 t.aq t.a6 Pl (sp_Beam_init K t):=by
 refine T.aS.F.ok sc_Beam_init (fun D H Q E h=>?_) (fun J A I s H D Q E u h=>?_)
 . obtain⟨p,d,a,n,r,x,g,rfl,v,c,B,q⟩:=h
   rfl
 . obtain⟨p,d,a,n,r,x,g,rfl,v,c,B,q⟩:=h
   refine⟨_,(za2 (ze7 (za6 (ok_check_bounds T) u.m T.a3 zb3 (za0 P1 (za0 P2 (za0 (pv 4) za1)))))
     (za2 (ze7 (za6 (ok_check_hefts T) u.m T.a8 zb3 (za0 P3 za1)))
     (za2 (ze7 (za6 (ok_check_standings T) u.m T.aR zb3 (za0 P1 (za0 (zb0 zc0 rfl T.ae QB (za0 P3 za1)) za1))))
     (za2 (zj3 P0 P1 rfl)
     (za2 (zj3 P0 P2 rfl)
     (za2 (zj3 P0 (zi5 zl5 rfl T.aA Zv (za0 P3 za1)) rfl)
     (za5 (zj3 P0 (pv 4) rfl)))))))),?_⟩
   refine cut7 ?_;intro L M N O R S;have y:SqL K H a (g.map V.int)\/SqT K H a (g.map V.int):=c.imp id SqT.of;refine⟨_,rfl,_,rfl,_,rfl,n,r,x,rfl,⟨B.n1,B.n2,B.r1,B.r2,B.l1,B.l2⟩,?_⟩;refine⟨_,rfl,a,g,rfl,y,⟨B.w,B.h⟩,?_⟩;refine⟨_,rfl,_,rfl,a,_,rfl,y,n,g.length,by rw[Qb];rfl,⟨B.n1,B.n2,B.w,B.most⟩,?_⟩;refine⟨_,rfl,_,rfl,p,_,d,_,rfl,v,T.ad,T.ah,by decide,?_⟩;refine⟨_,rfl,_,rfl,p,_,d,_,rfl,za3,T.ad,T.av,zm1 fl0,?_⟩;have j:∀ {b:Addr} {o:HO},H b=some o->o≠.ins t.ae d []->b≠p:=fun e F=>zC6 e v F
   refine⟨_,rfl,a,g.map V.int,rfl,?_⟩;rcases c with c | c
   . have U:∀o,SqL K (upd (upd H p o) p o) a (g.map V.int)->True:=fun _ _=>trivial
     refine .inl ⟨?_,fun l m=>?_⟩
     . rcases c with(c | ⟨G,c⟩) | c
       . exact .inl (.inl (by rw[za7 (j c (by intro z;cases z)),za7 (j c (by intro z;cases z))];exact c))
       . exact .inl (.inr ⟨G,by rw[za7 (j c (by intro z;cases z)),za7 (j c (by intro z;cases z))];exact c⟩)
       . exact .inr c
     . have k:l≠p:=fun z=>by rw[z,za3] at m;cases m
       have C:H l=none:=by rw[za7 k,za7 k] at m;exact m
       refine⟨_,rfl,p,_,d,_,rfl,(by rw[za7 k.symm];exact za3),T.ad,T.al,zm1 (flS fl0),?_⟩;refine⟨_,rfl,_,rfl,p,_,d,_,rfl,za3,T.ad,T.aK,zm1 (flS (flS fl0)),?_⟩;refine q _ ⟨B,d,l,za3,by rw[za7 k,za7 k,za3]⟩ fun b o e f=>?_
       rw[za7 f,za7 f,za7 (zb2 e C),za7 f,za7 f];exact e
   . have i:a≠p:=j c (by intro z;cases z)
     refine .inr ⟨SqT.of (by rw[za7 i,za7 i];exact c),?_⟩;refine⟨_,rfl,p,_,d,_,rfl,za3,T.ad,T.al,zm1 (flS fl0),?_⟩;refine⟨_,rfl,_,rfl,p,_,d,_,rfl,za3,T.ad,T.aK,zm1 (flS (flS fl0)),?_⟩;refine q _ ⟨B,d,a,za3,by rw[za7 i,za7 i,za7 i,za7 i];exact c⟩ fun b o e f=>?_
     rw[za7 f,za7 f,za7 f,za7 f];exact e
def sp_BeamError_init (K:W.Frag) (t:Adr):Sp:=fun vs H Q _=>∃(x C:Addr) (u v:V),vs=[.ref x,u,v]/\H x=some (ExcO C x none)/\XCls K C/\zf1 K C "reason"/\zf1 K C "word" ∧
 ∀H',(∃od,H' x=some (ExcO C x od))->zg6 x H H'->Q .non H'
theorem ok_BeamError_init (T:Txt K mg t):FnOk P w K mg base CX0 1 t.af t.ah Pj (sp_BeamError_init K t):=by
 refine T.bE.ok sc_BeamError_init (fun k H Q E h=>?_) (fun n A m s H k Q E p h=>?_)
 . obtain⟨x,C,u,v,rfl,f,a,g,i,q⟩:=h
   rfl
 . obtain⟨x,C,u,v,rfl,f,a,g,i,q⟩:=h
   refine⟨_,(za2 (yi2 P0 P1 rfl)
     (za5 (yi2 P0 P2 rfl))),?_⟩
   refine⟨_,rfl,_,rfl,x,C,none,rfl,f,a,g,fun j c d=>?_⟩;refine⟨_,rfl,_,rfl,x,C,some j,rfl,za3,a,i,putF "reason" u [],by rw[za7 d];exact za3,by show(1:Nat)<1000;decide,?_⟩;refine q _ ⟨some j,by rw[za7 d.symm];exact za3⟩ fun b o e l=>?_
   rw[za7 (zb2 e c),za7 l,za7 (zb2 e c)];exact e
def sp_NoWay_init (K:W.Frag)(t:Adr):Sp:=fun vs H Q _=>∃(x:Addr) (u:V),vs=[.ref x,u]/\H x=some (ExcO t.ad x none) ∧
 ∀H',(∃od,H' x=some (ExcO t.ad x od))->zg6 x H H'->Q .non H'
theorem ok_NoWay_init (T:Txt K mg t):FnOk P w K mg base CX0 2 t.ag t.ak Pk (sp_NoWay_init K t):=by
 refine T.b5.ok sc_NoWay_init (fun b H Q E h=>?_) (fun i A g s H b Q E c h=>?_)
 . obtain⟨x,u,rfl,a,q⟩:=h
   rfl
 . obtain⟨x,u,rfl,a,q⟩:=h
   refine⟨_,(za5 (ze7 (pe_cmeth T.cc rfl T.cf (ok_BeamError_init T) c.m T.bF .nil zb3 (za0 P0 (za0 P1 (za0 zX5 za1)))))),?_⟩;exact⟨_,rfl,_,rfl,x,t.ad,u,_,rfl,a,T.bw,T.bQ,T.b4,fun d e f=>q d e f⟩
theorem Same.raised {H a H':Hp}{x:Addr}{o:HO}(s:Same H a)(f:a x=none)(g:zg6 x (upd a x o) H'):Same H (del H' x):=fun b u e=>by
 have d:=s b u e;have c:b≠x:=zb2 d f;rw[zD9 c];exact g b u (by rw[za7 c];exact d) c
theorem zf3 (T:Txt K mg t):FnOk P w K mg base CX0 2 t.aJ t.aK Pa (sp_as_standing K t):=by
 refine T.ai.F.ok zr9 (fun M H Q E h=>?_) (fun U A S s H M Q E N h=>?_)
 . obtain⟨b,a,n,r,L,O,xs,rfl,B,k,u,q⟩:=h
   rfl
 . obtain⟨b,a,n,r,L,O,xs,rfl,B,k,u,q⟩:=h
   refine⟨_,(za2 (zb4 (i:=2) zr9.nd rfl (Or.inl rfl) (zi5 zl5 rfl T.aA Zv (za0 P1 za1)))
     (za2 (zc8 (zc2 zn7 (zb0 zc0 rfl T.ae QB (za0 P2 za1)) (zb0 zc0 rfl T.ae QB (za0 (zc4 P0 rfl) za1)) (zc1 _)) (za5 ze2) zb6)
     (za2 (zh7 PassesOwn.never rfl (yn7 P2) (zc5 (i:=3) zr9.nd rfl (Or.inl rfl)) (za2 (zc8 (zd0 (za6 (zk4 T) N.m T.an zb3 (za0 P3 (za0 (zm2 zi4 (zc4 P0 rfl)) (za0 (zc4 P0 rfl) za1))))) (za5 ze2) zb6)
     (za5 (zc8 (PW.pt (zy1 (zc2 zn7 P3 za4 (zc1 _)) (zv9 (zc2 zy3 (yi0 PySem.F.slot_tuple_count PySem.F.type_tuple_count zB3 P2 (za0 P3 za1)) (zc4 P0 rfl) (zc1 _))))) (za5 ze2) zb6))))
     (za5 (zb7 P2))))),?_⟩
   refine cut4 ?_;intro W X Y;refine⟨_,rfl,a,xs.map V.int,rfl,?_⟩;rcases u with u | c
   . refine .inl ⟨u,fun l J=>?_⟩
     replace q:=q l _ (Same.upd J) za3;have c:(upd H l (.tup (xs.map V.int))) l=some (.tup (xs.map V.int)):=za3;replace B:=B.same (Same.upd (o:=.tup (xs.map V.int)) J);revert q c B;generalize upd H l (.tup (xs.map V.int))=R;intro q c B;obtain⟨ok,d,h,f,C⟩:=B;refine⟨_,rfl,_,_,rfl,.inr (SqT.of c),_,rfl,b,_,d,_,_,rfl,f,T.ad,T.al,zx3 _ _ _ _,h,_,rfl,.inr (SqT.of C),rfl,_,rfl,?_⟩;refine iteB (by rw[Qb,Qb,k.len];simp) ?_;refine⟨_,rfl,_,rfl,⟨_,SqT.of c⟩,zL0 (K:=K) (xs:=xs.map V.int) (fun i j g=>X1 fun v=>A2 (j=[some (.ref b),some (.ref a),some (.ref l),v]) (g=R)) ⟨none,rfl,rfl⟩ (fun i j g _ ⟨_,_,e⟩=>e▸SqT.of c) ?_ ?_⟩
     . rintro i x j g D ⟨v,rfl,rfl⟩
       obtain⟨z,rfl,F⟩:=int_at D;have m:=QG F;obtain⟨G,I⟩:=k.on z m;refine⟨_,rfl,_,rfl,b,_,d,_,_,rfl,f,T.ad,T.ah,zk9 _ _ _ _,_,rfl,_,rfl,b,_,d,_,_,rfl,f,T.ad,T.ah,zk9 _ _ _ _,z,-n,n,rfl,_,rfl,iteB (zt3 G I) ?_⟩;refine⟨_,rfl,rfl,_,rfl,?_⟩;refine ite2 (fun p=>?_) (fun p=>?_)
       . have y:z≠0:=by
           intro e;subst e;simp at p
         exact⟨_,rfl,⟨_,_,rfl,c⟩,_,rfl,_,xs,z,rfl,rfl,SqT.of c,_,rfl,b,_,d,_,_,rfl,f,T.ad,T.av,zZ9 _ _ _ _,_,_,rfl,rfl,_,rfl,iteB (zY4 (k.room z m y)) ⟨_,rfl,rfl⟩⟩
       . exact iteF ⟨_,rfl,rfl⟩
     . rintro j g ⟨v,rfl,rfl⟩
       exact⟨_,rfl,q⟩
   . refine .inr ⟨SqT.of c,?_⟩
     replace q:=q a _ (Same.refl _) c;obtain⟨ok,d,h,f,C⟩:=B;refine⟨_,rfl,_,_,rfl,.inr (SqT.of c),_,rfl,b,_,d,_,_,rfl,f,T.ad,T.al,zx3 _ _ _ _,h,_,rfl,.inr (SqT.of C),rfl,_,rfl,?_⟩;refine iteB (by rw[Qb,Qb,k.len];simp) ?_;refine⟨_,rfl,_,rfl,⟨_,SqT.of c⟩,zL0 (K:=K) (xs:=xs.map V.int) (fun i j g=>X1 fun v=>A2 (j=[some (.ref b),some (.ref a),some (.ref a),v]) (g=H)) ⟨none,rfl,rfl⟩ (fun i j g _ ⟨_,_,e⟩=>e▸SqT.of c) ?_ ?_⟩
     . rintro i x j g D ⟨v,rfl,rfl⟩
       obtain⟨z,rfl,F⟩:=int_at D;have m:=QG F;obtain⟨G,I⟩:=k.on z m;refine⟨_,rfl,_,rfl,b,_,d,_,_,rfl,f,T.ad,T.ah,zk9 _ _ _ _,_,rfl,_,rfl,b,_,d,_,_,rfl,f,T.ad,T.ah,zk9 _ _ _ _,z,-n,n,rfl,_,rfl,iteB (zt3 G I) ?_⟩;refine⟨_,rfl,rfl,_,rfl,?_⟩;refine ite2 (fun p=>?_) (fun p=>?_)
       . have y:z≠0:=by
           intro e;subst e;simp at p
         exact⟨_,rfl,⟨_,_,rfl,c⟩,_,rfl,_,xs,z,rfl,rfl,SqT.of c,_,rfl,b,_,d,_,_,rfl,f,T.ad,T.av,zZ9 _ _ _ _,_,_,rfl,rfl,_,rfl,iteB (zY4 (k.room z m y)) ⟨_,rfl,rfl⟩⟩
       . exact iteF ⟨_,rfl,rfl⟩
     . rintro j g ⟨v,rfl,rfl⟩
       exact⟨_,rfl,q⟩
noncomputable def zb5 (hs xs:List Int):Int:=(List.zipWith (fun h x=>h*x) hs xs).sum
noncomputable def absI (i:Int):Int:=if i<0 then -i else i
noncomputable def mulV (x y:V):V:=match x,y with
 | .int a,.int b=>.int (a*b)
 | _,_=>.non
theorem yd5:∀(a b:List Int),List.zipWith mulV (a.map V.int) (b.map V.int)=(List.zipWith (fun h x=>h*x) a b).map V.int
 | [],_=>rfl
 | _::_,[]=>rfl
 | h::a,x::b=>by
   show V.int (h*x)::List.zipWith mulV (a.map V.int) (b.map V.int)=_;rw[yd5 a b];rfl
theorem zJ8:∀ {b c:List Int} {B:Int},(∀h∈b,1<=h/\h<=20)->(∀x∈c,-B<=x/\x<=B)->0<=B->∀z∈List.zipWith (fun h x=>h*x) b c,-(20*B)<=z/\z<=20*B
 | [],_,_,_,_,_=>(fun z a=>by simp at a)
 | _::_,[],_,_,_,_=>(fun z a=>by simp at a)
 | h::b,x::c,B,h1,h2,hB=>fun z a=>by
   rw[List.zipWith_cons_cons] at a;rcases Qn.mp a with rfl | a
   . obtain⟨i,e⟩:=h1 h QQ
     obtain⟨f,g⟩:=h2 x QQ;have j:h*x<=h*B:=Int.mul_le_mul_of_nonneg_left g (by omega);have k:h*B<=20*B:=Int.mul_le_mul_of_nonneg_right e hB;have l:h * -B<=h*x:=Int.mul_le_mul_of_nonneg_left f (by omega);have m:h * -B = -(h*B):=Int.mul_neg h B;omega
   . exact zJ8 (fun y d=>h1 y (QH _ d)) (fun y d=>h2 y (QH _ d)) hB z a
theorem tilt_fits {n r lim:Int}{hs xs:List Int}(ok:zg9 n r hs lim)(a:zc6 n r hs.length xs):PySem.SumFits (List.zipWith (fun h x=>h*x) hs xs):=by
 refine PyProof.Rows.sumFits_of_bound (B:=80) (n:=5) (by decide) (fun z b=>?_) ?_ (by decide)
 . have:=zJ8 (B:=4) ok.h (fun x c=>by have:=a.on x c;have:=ok.n2;omega) (by decide) z b
   omega
 . rw[List.length_zipWith]
   have:=ok.w;omega
inductive yl3 (K:W.Frag)(t:Adr)(vs:List V)(H:Hp)(Q:VK)(E:XK):Prop
 | mk (b a:Addr)(n r lim:Int)(hs xs:List Int)(h0:vs=[.ref b,.ref a])(h1:zd7 t H b n r hs lim)(h2:zc6 n r hs.length xs)(h3:(SqL K H a (xs.map V.int)\/H a=some (.tup (xs.map V.int))))(h4:∀H',Same H H'->Q (.int (zb5 hs xs)) H'):yl3 K t vs H Q E
def sp_tilt (K:W.Frag)(t:Adr):Sp:=fun vs H Q E=>yl3 K t vs H Q E
inductive yd6 (K:W.Frag)(t:Adr)(vs:List V)(H:Hp)(Q:VK)(E:XK):Prop
 | mk (b a:Addr)(n r lim:Int)(hs xs:List Int)(h0:vs=[.ref b,.ref a])(h1:zd7 t H b n r hs lim)(h2:zc6 n r hs.length xs)(h3:(SqL K H a (xs.map V.int)\/H a=some (.tup (xs.map V.int))))(h4:∀H',Same H H'->Q (.bl (decide (absI (zb5 hs xs)<=lim))) H'):yd6 K t vs H Q E
def sp_keeps (K:W.Frag)(t:Adr):Sp:=fun vs H Q E=>yd6 K t vs H Q E
theorem zH5 (T:Txt K mg t):FnOk P w K mg base CX0 3 t.co t.cp Pa (sp_tilt K t):=by
 refine T.aM.F.ok yk9 (fun F H Q E h=>?_) (fun U A S s H F Q E G h=>?_)
 . obtain⟨b,a,n,r,d,e,g,rfl,B,c,j,q⟩:=h
   rfl
 . obtain⟨b,a,n,r,d,e,g,rfl,B,c,j,q⟩:=h
   refine⟨_,(za2 (zb4 (i:=2) yk9.nd rfl (Or.inl rfl) (za6 (zf3 T) G.m T.ai zb3 (za0 P0 (za0 P1 za1))))
     (za5 (zb7 (zb0 (call_sum rfl) rfl T.cp PyProof.Rows.boot_sum (za0 (zs8 rfl zJ4 (pi_zip rfl T.cq (za0 (zc4 P0 rfl) (za0 P2 za1))) (fun _ _ _ _ _=>(pg_tupK (n:=2) K rfl rfl (zd8 (zc5 (i:=0) zJ4.nd rfl (Or.inl rfl)) (zd8 (zc5 (i:=1) zJ4.nd rfl (Or.inl rfl)) zw0)))) (fun _ _ _ _ _=>zr5) (fun _ _ _ _ _=>(zb9 zm5 P0 P1))) za1))))),?_⟩
   refine⟨_,rfl,_,rfl,b,a,n,r,d,e,g,rfl,B,c,j,fun l V k m=>?_⟩;have ok:=B.1;obtain⟨_,I,h,J,o⟩:=B.same k;refine⟨_,rfl,b,_,I,_,_,rfl,J,T.ad,T.al,zx3 _ _ _ _,_,rfl,h,l,_,_,rfl,o,m,fun D L=>?_⟩;refine comp_zip (f:=mulV) (rest:=[]) o m (by rw[Qb,Qb,c.len]) L (Za (zc3 (by rw[Qb];have:=ok.w;omega))) (fun i x y p R M N z h=>?_) (fun p z C=>?_)
   . obtain⟨u,rfl,O⟩:=int_at M
     obtain⟨v,rfl,W⟩:=int_at N;have:=ok.h u (QG O);exact⟨_,rfl,_,rfl,_,_,rfl,rfl,.inl ⟨by omega,by omega⟩,h⟩
   . rw[yd5] at C
     exact⟨D,_,rfl,SqL.of C,tilt_fits ok c,q p (k.trans z)⟩
theorem not_past (a lim:Int):(!decide (lim<a))=decide (a<=lim):=by
 by_cases h:lim<a
 . rw[Qf h,Qg (by omega)];rfl
 . rw[Qg h,Qf (by omega)];rfl
inductive yl4 (K:W.Frag)(t:Adr)(vs:List V)(H:Hp)(Q:VK)(E:XK):Prop
 | mk (b:Addr)(n r lim:Int)(hs:List Int)(z:Int)(h0:vs=[.ref b,.int z])(h1:zd7 t H b n r hs lim)(h2:Q (.bl (decide (lim<absI z))) H):yl4 K t vs H Q E
def sp_past (K:W.Frag)(t:Adr):Sp:=fun vs H Q E=>yl4 K t vs H Q E
theorem zH6 (T:Txt K mg t):FnOk P w K mg base CX0 1 t.cq t.cr Pp (sp_past K t):=by
 refine T.aN.F.ok sc_past (fun c H Q E h=>?_) (fun i A g s H c Q E j h=>?_)
 . obtain⟨b,n,r,a,d,z,rfl,B,q⟩:=h
   rfl
 . obtain⟨b,n,r,a,d,z,rfl,B,q⟩:=h
   refine⟨_,(za5 (zb7 (zg7 zy3 (zb0 zh3 rfl T.ar QT (za0 P1 za1)) (zc4 P0 rfl) (zc1 _)))),?_⟩;obtain⟨_,e,h,f,k⟩:=B;exact⟨_,rfl,_,rfl,_,rfl,b,_,e,_,_,rfl,f,T.ad,T.aK,b_limit _ _ _ _,_,_,rfl,rfl,q⟩
theorem zQ8 (T:Txt K mg t):FnOk P w K mg base CX0 4 t.b7 t.b8 Pa (sp_keeps K t):=by
 refine T.a5.F.ok sc_keeps (fun k H Q E h=>?_) (fun o A m s H k Q E e h=>?_)
 . obtain⟨b,a,n,r,c,d,f,rfl,B,g,i,q⟩:=h
   rfl
 . obtain⟨b,a,n,r,c,d,f,rfl,B,g,i,q⟩:=h
   refine⟨_,(za5 (zb7 (ym9 (za6 (zH6 T) e.m T.aN zb3 (za0 P0 (za0 (za6 (zH5 T) e.m T.aM zb3 (za0 P0 (za0 P1 za1))) za1)))))),?_⟩;refine⟨_,rfl,_,rfl,_,rfl,b,a,n,r,c,d,f,rfl,B,g,i,fun l j=>⟨b,n,r,c,d,_,rfl,B.same j,_,rfl,?_⟩⟩;rw[not_past];exact q l j
noncomputable def ze0 (hs xs:List Int)(i:Nat):Int:=zb5 hs xs-hs.getD i 0*xs.getD i 0
theorem zv4:∀(a b:List Int) (i:Nat) (p:Int),a.length=b.length->i<b.length->zb5 a (b.set i p)=ze0 a b i+a.getD i 0*p
 | [],b,i,p,d,c=>by rw[<-d] at c;cases c
 | _::_,[],i,p,d,c=>by cases c
 | h::a,x::b,0,p,_,_=>by
   show h*p+zb5 a b=(h*x+zb5 a b)-h*x+h*p;omega
 | h::a,x::b,i+1,p,d,c=>by
   have e:=zv4 a b i p (by simpa using d) (by simpa using c);unfold ze0 at e ⊢;show h*x+zb5 a (b.set i p)=(h*x+zb5 a b)-a.getD i 0*b.getD i 0+a.getD i 0*p;omega
theorem zu1 {xs:List Int}{i:Nat}{p:Int}(a:i<xs.length):(xs.set i p).getD i 0=p:=by
 rw[Qy,List.getElem?_set_self a];rfl
theorem yd7 {hs xs:List Int}{i:Nat}{p:Int}(b:hs.length=xs.length)(a:i<xs.length):ze0 hs (xs.set i p) i=ze0 hs xs i:=by
 have:=zv4 hs xs i p b a;unfold ze0 at this ⊢;rw[this,zu1 a];omega
theorem set_back {xs:List Int}{i:Nat}(p:Int)(a:i<xs.length):(xs.set i p).set i (xs.getD i 0)=xs:=by
 rw[List.set_set,Qy,Qe a];exact List.set_getElem_self a
theorem zE3 {xs:List Int}{i:Nat}{p y:Int}(a:i<xs.length):((xs.set i p).count y:Int)=(xs.count y:Int)-(if xs.getD i 0=y then 1 else 0)+(if p=y then 1 else 0):=by
 have e:xs.getD i 0=xs[i]:=by rw[Qy,Qe a];rfl
 rw[e,List.count_set a];have:xs[i]=y->1<=xs.count y:=fun h=>List.count_pos_iff.mpr (h▸ZA a)
 by_cases b:xs[i]=y<;>by_cases c:p=y<;>simp[b,c]<;>have:=this b<;>omega
structure Lets (n r:Int)(hs:List Int)(lim:Int)(xs:List Int)(i:Nat)(p:Int):Prop where
 lt:i<xs.length
 on:-n<=p/\p<=n
 ne:p≠xs.getD i 0
 room:p≠0->(xs.count p:Int)<r
 held:absI (ze0 hs xs i)<=lim
 behind:absI (ze0 hs xs i+hs.getD i 0*p)<=lim
noncomputable instance (n r:Int) (hs:List Int) (lim:Int) (xs:List Int) (i:Nat) (p:Int):Decidable (Lets n r hs lim xs i p) :=
 decidable_of_iff (i<xs.length/\(-n<=p/\p<=n)/\p≠xs.getD i 0/\(p≠0->(xs.count p:Int)<r)/\absI (ze0 hs xs i)<=lim/\absI (ze0 hs xs i+hs.getD i 0*p)<=lim)
   ⟨fun⟨a,b,c,d,e,f⟩=>⟨a,b,c,d,e,f⟩,fun⟨a,b,c,d,e,f⟩=>⟨a,b,c,d,e,f⟩⟩
theorem zp7 {xs:List Int}{i:Nat}(a:i<xs.length):xs.getD i 0∈xs:=by
 rw[Qy,Qe a];exact ZA a
theorem Lets.valid {n r lim:Int}{w:Nat}{hs xs:List Int}{i:Nat}{p:Int}(L:Lets n r hs lim xs i p)(a:zc6 n r w xs):zc6 n r w (xs.set i p):=by
 refine⟨by rw[Zj];exact a.len,fun y b=>?_,fun y b c=>?_⟩
 . rcases List.mem_or_eq_of_mem_set b with h | rfl
   . exact a.on y h
   . exact L.on
 . rw[zE3 L.lt]
   by_cases e:p=y
   . subst e
     have:=L.room c;rw[Ql rfl,Qh (fun z=>L.ne z.symm)];omega
   . have d:y∈xs:=(List.mem_or_eq_of_mem_set b).resolve_right (fun z=>e z.symm)
     have:=a.room y d c;rw[Qh e]
     split<;>omega
theorem Lets.turned {n r lim:Int}{hs xs:List Int}{i:Nat}{p:Int}(L:Lets n r hs lim xs i p)(a:zc6 n r hs.length xs)(h0:absI (zb5 hs xs)<=lim):Lets n r hs lim (xs.set i p) i (xs.getD i 0):=by
 have b:=a.len.symm;refine⟨by rw[Zj];exact L.lt,a.on _ (zp7 L.lt),by rw[zu1 L.lt];exact L.ne.symm,fun c=>?_,by rw[yd7 b L.lt];exact L.held,?_⟩
 . rw[zE3 L.lt,Ql rfl,Qh L.ne]
   have:=a.room _ (zp7 L.lt) c;omega
 . rw[yd7 b L.lt]
   have e:ze0 hs xs i+hs.getD i 0*xs.getD i 0=zb5 hs xs:=by unfold ze0;omega
   rw[e];exact h0
theorem sum_zip:∀(a b:List Int),a.length=b.length->((List.range a.length).map fun i=>a.getD i 0*b.getD i 0).sum=(List.zipWith (fun h x=>h*x) a b).sum:=by
 intro a b f;congr 1;apply List.ext_getElem
 . simp;omega
 . intro i d g
   have e:i<a.length:=by simpa using d
   have c:i<b.length:=by omega
   simp[e,c]
noncomputable def yd8 (hs xs:List Int):Nat->Int
 | 0=>0
 | j+1=>yd8 hs xs j+hs.getD j 0*xs.getD j 0
theorem yd9 (hs xs:List Int):∀w,yd8 hs xs w=((List.range w).map fun i=>hs.getD i 0*xs.getD i 0).sum
 | 0=>rfl
 | w+1=>by
   unfold yd8;rw[yd9 hs xs w,List.range_succ,Qm,List.sum_append];simp
theorem sumTo_tilt {hs xs:List Int}(a:hs.length=xs.length):yd8 hs xs hs.length=zb5 hs xs:=by
 rw[yd9,sum_zip hs xs a];rfl
theorem zU8:∀ {zs:List Int} {B:Int},(∀z∈zs,-B<=z/\z<=B)->-(B*zs.length)<=zs.sum/\zs.sum<=B*zs.length
 | [],B,_=>by simp
 | z::zs,B,h=>by
   have b:=h z QQ;have c:=zU8 (zs:=zs) (B:=B) fun y a=>h y (QH _ a)
   rw[List.sum_cons,Qz,Int.natCast_add,Int.mul_add];omega
theorem zC0 {n r lim:Int}{hs xs:List Int}(ok:zg9 n r hs lim)(a:zc6 n r hs.length xs):absI (zb5 hs xs)<=240/\0<=absI (zb5 hs xs):=by
 have c:=zU8 (zJ8 (B:=n) ok.h a.on (by have:=ok.n1;omega));rw[List.length_zipWith,a.len,Nat.min_self] at c;have g:=ok.w;have b:=ok.most;have h:=ok.n1;have i:=ok.n2;have f:20*n*(hs.length:Int)<=240:=by
   have:n=1\/n=2\/n=3\/n=4:=by omega
   have d:hs.length=0\/hs.length=1\/hs.length=2\/hs.length=3\/hs.length=4\/hs.length=5:=by omega
   rcases this with rfl | rfl | rfl | rfl<;>rcases d with e | e | e | e | e | e<;>rw[e] at b ⊢<;>first | decide | (exfalso;revert b;decide)
 unfold zb5;unfold absI
 split<;>omega
inductive zQ9 (K:W.Frag)(t:Adr)(vs:List V)(H:Hp)(Q:VK)(E:XK):Prop
 | mk (b a:Addr)(n r lim k:Int)(i:Nat)(hs xs:List Int)(h0:vs=[.ref b,.ref a,.int k])(h1:zd7 t H b n r hs lim)(h2:zc6 n r hs.length xs)(h3:(SqL K H a (xs.map V.int)\/H a=some (.tup (xs.map V.int))))(h4:(k=(i:Int)+1/\i<xs.length))(h5:∀H',Same H H'->Q (.int (ze0 hs xs i)) H'):zQ9 K t vs H Q E
def sp_in_hand (K:W.Frag)(t:Adr):Sp:=fun vs H Q E=>zQ9 K t vs H Q E
theorem zE4 (T:Txt K mg t):FnOk P w K mg base CX0 4 t.bj t.bk PM (sp_in_hand K t):=by
 refine T.aO.F.ok zQ6 (fun u H Q E h=>?_) (fun I A F s H u Q E f h=>?_)
 . obtain⟨b,a,n,r,e,k,i,c,xs,rfl,B,d,o,⟨rfl,v⟩,q⟩:=h
   rfl
 . obtain⟨b,a,n,r,e,k,i,c,xs,rfl,B,d,o,⟨rfl,v⟩,q⟩:=h
   refine⟨_,(za2 (zb4 (i:=3) zQ6.nd rfl (Or.inl rfl) (za6 (zf3 T) f.m T.ai zb3 (za0 P0 (za0 P1 za1))))
     (za2 (zc8 (zd0 (za6 (zk4 T) f.m T.an zb3 (za0 P2 (za0 za4 (za0 (zb0 zc0 rfl T.ae QB (za0 P3 za1)) za1))))) (za5 ze2) zb6)
     (za5 (zb7 (zb9 zg4 (za6 (zH5 T) f.m T.aM zb3 (za0 P0 (za0 P3 za1))) (zb9 zm5 (zc9 zg5 (zc4 P0 rfl) (zb9 zg4 P2 za4) (fun _ _=>rfl)) (zc9 zg5 P3 (zb9 zg4 P2 za4) (fun _ _=>rfl)))))))),?_⟩
   refine cut3 ?_;intro J L;refine⟨_,rfl,_,rfl,b,a,n,r,e,c,xs,rfl,B,d,o,fun l M g j=>?_⟩;refine⟨_,rfl,_,rfl,l,_,rfl,.inr (SqT.of j),_,1,_,rfl,_,rfl,?_⟩;rw[Qb];refine iteB (zt3 (by omega) (by omega)) ?_;refine⟨_,rfl,_,rfl,b,l,n,r,e,c,xs,rfl,B.same g,d,.inr j,fun N m=>?_⟩;obtain⟨_,x,h,y,z⟩:=B.same (g.trans m);have G:=d.len;have p:((i:Int)+1-1).toNat=i:=by omega
   have C:atI (c.map V.int) ((i:Int)+1-1)=some (.int (c.getD i 0)):=by have:=ze4 (xs:=c) (i:=(i:Int)+1-1) (by omega) (by omega);rw[p] at this;exact this
   have D:atI (xs.map V.int) ((i:Int)+1-1)=some (.int (xs.getD i 0)):=by have:=ze4 (xs:=xs) (i:=(i:Int)+1-1) (by omega) (by omega);rw[p] at this;exact this
   have O:=B.1.h (c.getD i 0) (zp7 (by omega));refine⟨_,rfl,b,_,x,_,_,rfl,y,T.ad,T.al,zx3 _ _ _ _,_,rfl,_,_,rfl,rfl,h,_,_,_,rfl,rfl,SqT.of z,C,?_⟩;exact⟨_,rfl,_,rfl,_,_,rfl,rfl,l,_,_,_,rfl,rfl,SqT.of (m _ _ j),D,_,_,rfl,rfl,.inl ⟨by omega,by omega⟩,_,_,rfl,rfl,q _ (g.trans m)⟩
noncomputable def yl5 (r:Int)(xs:List Int)(p:Int):Bool:=decide (p≠0/\r<=(xs.count p:Int))
inductive yl6 (K:W.Frag)(t:Adr)(vs:List V)(H:Hp)(Q:VK)(E:XK):Prop
 | mk (b a:Addr)(n r lim p:Int)(hs xs:List Int)(h0:vs=[.ref b,.ref a,.int p])(h1:zd7 t H b n r hs lim)(h2:H a=some (.tup (xs.map V.int)))(h3:Q (.bl (yl5 r xs p)) H):yl6 K t vs H Q E
def sp_full (K:W.Frag)(t:Adr):Sp:=fun vs H Q E=>yl6 K t vs H Q E
theorem yl7 (T:Txt K mg t):FnOk P w K mg base CX0 1 t.cs t.ct Pr (sp_full K t):=by
 refine T.bz.F.ok sc_full (fun j H Q E h=>?_) (fun u A o s H j Q E v h=>?_)
 . obtain⟨b,a,n,r,i,p,k,c,rfl,B,f,q⟩:=h
   rfl
 . obtain⟨b,a,n,r,i,p,k,c,rfl,B,f,q⟩:=h
   refine⟨_,(za5 (zb7 (zD6 (zg7 zn7 P2 za4 (zc1 _)) (zy2 (zg7 yg9 (yi0 PySem.F.slot_tuple_count PySem.F.type_tuple_count zB3 P1 (za0 P2 za1)) (zc4 P0 rfl) (zc1 _)))))),?_⟩;obtain⟨_,l,h,m,x⟩:=B;unfold yl5 at q;refine⟨_,rfl,rfl,_,rfl,?_⟩;rw[ze3];refine ite2 (fun g=>?_) (fun g=>?_)
   . have d:p≠0:=by simpa using g
     refine⟨_,rfl,⟨_,_,rfl,f⟩,_,rfl,_,c,p,rfl,rfl,SqT.of f,_,rfl,b,_,l,_,_,rfl,m,T.ad,T.av,zZ9 _ _ _ _,_,_,rfl,rfl,?_⟩;have e:decide (p≠0/\r<=(c.count p:Int))=decide (r<=(c.count p:Int)):=by simp[d]
     rw[e] at q;exact q
   . have d:p=0:=by simpa using g
     have e:decide (p≠0/\r<=(c.count p:Int))=false:=by simp[d]
     rw[e] at q;exact q
theorem zH7 (xs:List Int)(i:Nat)(p:Int)(a:i<xs.length):cutV (xs.map V.int) none (some (i:Int))++[V.int p]++cutV (xs.map V.int) (some ((i:Int)+1)) none=(xs.set i p).map V.int:=by
 unfold cutV
 rw[HT.sIx_none,HT.sIx_nat,HT.sIx_none,show((i:Int)+1)=((i+1:Nat):Int) by omega,HT.sIx_nat,Qb,Zy (by omega),Zy (by omega),List.drop_zero,Nat.sub_zero,
   List.set_eq_take_append_cons_drop,Ql a,Qm,QL,Zc,List.map_take,List.map_drop]
 congr 1;show V.int p::_=_;congr 1;exact Zg (by simp)
def Mv (K:W.Frag)(H:Hp)(m:Addr)(k s p:Int):Prop:=SqL K H m [.int k,.int s,.int p]\/SqT K H m [.int k,.int s,.int p]
theorem Mv.ix {K:W.Frag}{H:Hp}{m:Addr}{k s p:Int}(h:Mv K H m k s p):(∀Q:VK,Q (.int k) H->rIx K (.ref m) (.int 0) H Q)/\(∀Q:VK,Q (.int s) H->rIx K (.ref m) (.int 1) H Q)/\(∀Q:VK,Q (.int p) H->rIx K (.ref m) (.int 2) H Q):=by
 rcases h with h | h
 . exact⟨fun Q q=>.inl ⟨m,_,_,_,rfl,rfl,h,rfl,q⟩,fun Q q=>.inl ⟨m,_,_,_,rfl,rfl,h,rfl,q⟩,fun Q q=>.inl ⟨m,_,_,_,rfl,rfl,h,rfl,q⟩⟩
 . exact⟨fun Q q=>.inr (.inl ⟨m,_,_,_,rfl,rfl,h,rfl,q⟩),fun Q q=>.inr (.inl ⟨m,_,_,_,rfl,rfl,h,rfl,q⟩),fun Q q=>.inr (.inl ⟨m,_,_,_,rfl,rfl,h,rfl,q⟩)⟩
theorem Same.seqT {K:W.Frag}{H H':Hp}{a:Addr}{xs:List V}(e:Same H H')(h:SqT K H a xs):SqT K H' a xs:=by
 rcases h with(h | ⟨o,h⟩) | h
 . exact .inl (.inl (e _ _ h))
 . exact .inl (.inr ⟨o,e _ _ h⟩)
 . exact .inr h
theorem Mv.same {K:W.Frag}{H H':Hp}{m:Addr}{k s p:Int}(h:Mv K H m k s p)(e:Same H H'):Mv K H' m k s p:=h.imp e.seq (fun z=>Same.seqT e z)
inductive zU9 (K:W.Frag)(t:Adr)(vs:List V)(H:Hp)(Q:VK)(E:XK):Prop
 | mk (a m:Addr)(k s p:Int)(i:Nat)(xs:List Int)(h0:vs=[.ref a,.ref m])(h1:H a=some (.tup (xs.map V.int)))(h2:Mv K H m k s p)(h3:(k=(i:Int)+1/\i<xs.length/\xs.length<=900))(h4:∀l H',Same H H'->H' l=some (.tup ((xs.set i p).map V.int))->Q (.ref l) H'):zU9 K t vs H Q E
def sp_behind (K:W.Frag)(t:Adr):Sp:=fun vs H Q E=>zU9 K t vs H Q E
theorem zr1 (T:Txt K mg t):FnOk P w K mg base CX0 1 t.bv t.bw Pq (sp_behind K t):=by
 refine T.ay.F.ok sc_behind (fun D H Q E h=>?_) (fun X a0 W s H D Q E Y h=>?_)
 . obtain⟨a,m,k,s,p,i,b,rfl,v,g,⟨rfl,B,F⟩,q⟩:=h
   rfl
 . obtain⟨a,m,k,s,p,i,b,rfl,v,g,⟨rfl,B,F⟩,q⟩:=h
   refine⟨_,(za5 (zb7 (zb9 zo5 (zb9 zo5 (zj7 zD8 P0 zm7 (zk5 (zb9 zg4 (zc9 zo0 P1 za4 (fun _ _=>rfl)) za4))) (zy4 (za0 (zc9 zo0 P1 za4 (fun _ _=>rfl)) za1))) (zj7 zD8 P0 (zk5 (zc9 zo0 P1 za4 (fun _ _=>rfl))) zm7)))),?_⟩;refine⟨_,rfl,_,rfl,g.ix.1 _ ⟨_,_,rfl,rfl,_,rfl,a,_,rfl,SqT.of v,?_,fun c G=>?_⟩⟩
   . have e:(i:Int)+1-1=(i:Int):=by omega
     rw[e,HT.sIx_none,HT.sIx_nat,Qb,Zy (by omega)];omega
   have j:Same H (upd H c (.tup (cutV (b.map V.int) none (some ((i:Int)+1-1))))):=Same.upd G;have x:(upd H c (.tup (cutV (b.map V.int) none (some ((i:Int)+1-1))))) c=some (.tup (cutV (b.map V.int) none (some ((i:Int)+1-1)))):=za3;revert j x;generalize upd H c (.tup (cutV (b.map V.int) none (some ((i:Int)+1-1))))=l;intro j x;refine⟨_,rfl,(g.same j).ix.2.2 _ ⟨(by show 1<=sizeLine;decide),fun d I=>?_⟩⟩;have n:Same l (upd l d (.tup [.int p])):=Same.upd I;have y:(upd l d (.tup [.int p])) d=some (.tup [.int p]):=za3;revert n y;generalize upd l d (.tup [.int p])=Z;intro n y;have C:=zj0 (b.map V.int) none (some ((i:Int)+1-1));rw[Qb] at C;refine⟨c,d,_,_,rfl,rfl,n _ _ x,y,Za (zc3 (by show _+1<=_;omega)),fun J o L M=>?_⟩;have u:=j.trans (n.trans L);refine⟨_,rfl,_,rfl,(g.same u).ix.1 _ ⟨_,rfl,a,_,rfl,SqT.of (u _ _ v),?_,fun f N=>?_⟩⟩
   . rw[show((i:Int)+1)=((i+1:Nat):Int) by omega,HT.sIx_nat,Qb]
     omega
   have r:Same o (upd o f (.tup (cutV (b.map V.int) (some ((i:Int)+1)) none))):=Same.upd N;have z:(upd o f (.tup (cutV (b.map V.int) (some ((i:Int)+1)) none))) f=some (.tup (cutV (b.map V.int) (some ((i:Int)+1)) none)):=za3;revert r z;generalize upd o f (.tup (cutV (b.map V.int) (some ((i:Int)+1)) none))=H4;intro r z;have A:=zH7 b i p B;rw[show(i:Int)=(i:Int)+1-1 by omega,show(i:Int)+1-1+1=(i:Int)+1 by omega] at A;refine⟨J,f,_,_,rfl,rfl,r _ _ M,z,?_,fun O R S U=>q O R (u.trans (r.trans S)) ?_⟩
   . rw[<-Qq,A,Qb,Zj]
     exact Za (zc3 (by omega))
   . rw[U,A]
inductive zV0 (K:W.Frag)(t:Adr)(vs:List V)(H:Hp)(Q:VK)(E:XK):Prop
 | mk (m:Addr)(k s p:Int)(h0:vs=[.ref m])(h1:Mv K H m k s p)(h2:∀l,H l=none->Q (.ref l) (upd H l (.tup [.int k,.int p,.int s]))):zV0 K t vs H Q E
def sp_turned (K:W.Frag)(t:Adr):Sp:=fun vs H Q E=>zV0 K t vs H Q E
theorem zV1 (T:Txt K mg t):FnOk P w K mg base CX0 1 t.bt t.bu ["move"] (sp_turned K t):=by
 refine T.be.F.ok sc_turned (fun b H Q E h=>?_) (fun e A d s H b Q E f h=>?_)
 . obtain⟨m,k,s,p,rfl,a,q⟩:=h
   rfl
 . obtain⟨m,k,s,p,rfl,a,q⟩:=h
   refine⟨_,(za5 (zb7 (zy4 (za0 (zc9 zo0 P0 za4 (fun _ _=>rfl)) (za0 (zc9 zo0 P0 za4 (fun _ _=>rfl)) (za0 (zc9 zo0 P0 za4 (fun _ _=>rfl)) za1)))))),?_⟩;refine⟨_,rfl,a.ix.1 _ ⟨_,rfl,a.ix.2.2 _ ⟨_,rfl,a.ix.2.1 _ ⟨(by show 3<=sizeLine;decide),fun l c=>?_⟩⟩⟩⟩;exact q l c
inductive zy0 (K:W.Frag)(t:Adr)(vs:List V)(H:Hp)(Q:VK)(E:XK):Prop
 | mk (a:Addr)(k s:Int)(i:Nat)(xs:List Int)(h0:vs=[.ref a,.int k,.int s])(h1:H a=some (.tup (xs.map V.int)))(h2:(k=(i:Int)+1/\i<xs.length/\s=xs.getD i 0))(h3:Q .non H):zy0 K t vs H Q E
def sp_check_weight (K:W.Frag)(t:Adr):Sp:=fun vs H Q E=>zy0 K t vs H Q E
theorem ok_check_weight (T:Txt K mg t):FnOk P w K mg base CX0 2 t.aF t.aG Pt (sp_check_weight K t):=by
 refine T.a6.F.ok sc_check_weight (fun c H Q E h=>?_) (fun l A j s H c Q E d h=>?_)
 . obtain⟨a,k,s,i,xs,rfl,b,⟨rfl,e,rfl⟩,q⟩:=h
   rfl
 . obtain⟨a,k,s,i,xs,rfl,b,⟨rfl,e,rfl⟩,q⟩:=h
   refine⟨_,(za2 (zc8 (zd0 (za6 (zk4 T) d.m T.an zb3 (za0 P1 (za0 za4 (za0 (zb0 zc0 rfl T.ae QB (za0 P0 za1)) za1))))) (za5 ze2) zb6)
     (za5 (zc8 (zc2 zn7 (zc9 zg5 P0 (zb9 zg4 P1 za4) (fun _ _=>rfl)) P2 (zc1 _)) (za5 ze2) zb6))),?_⟩
   have f:((i:Int)+1-1).toNat=i:=by omega
   have g:atI (xs.map V.int) ((i:Int)+1-1)=some (.int (xs.getD i 0)):=by have:=ze4 (xs:=xs) (i:=(i:Int)+1-1) (by omega) (by omega);rw[f] at this;exact this
   refine⟨_,rfl,_,rfl,a,_,rfl,.inr (SqT.of b),_,1,_,rfl,_,rfl,?_⟩;rw[Qb];refine iteB (zt3 (by omega) (by omega)) ?_;refine⟨_,rfl,_,rfl,_,_,rfl,rfl,a,_,_,_,rfl,rfl,SqT.of b,g,_,rfl,rfl,_,rfl,iteB (by simp) q⟩
inductive zH8 (K:W.Frag)(t:Adr)(vs:List V)(H:Hp)(Q:VK)(E:XK):Prop
 | mk (b a:Addr)(n r lim s p:Int)(hs xs:List Int)(h0:vs=[.ref b,.ref a,.int s,.int p])(h1:zd7 t H b n r hs lim)(h2:H a=some (.tup (xs.map V.int)))(h3:((-n<=p/\p<=n)/\p≠s/\(p≠0->(xs.count p:Int)<r)))(h4:Q .non H):zH8 K t vs H Q E
def sp_check_put (K:W.Frag)(t:Adr):Sp:=fun vs H Q E=>zH8 K t vs H Q E
theorem ok_check_put (T:Txt K mg t):FnOk P w K mg base CX0 2 t.a7 t.a8 Pu (sp_check_put K t):=by
 refine T.bp.F.ok sc_check_put (fun u H Q E h=>?_) (fun y A x s H u Q E f h=>?_)
 . obtain⟨b,a,n,r,c,s,p,g,i,rfl,B,j,⟨⟨k,l⟩,d,e⟩,q⟩:=h
   rfl
 . obtain⟨b,a,n,r,c,s,p,g,i,rfl,B,j,⟨⟨k,l⟩,d,e⟩,q⟩:=h
   refine⟨_,(za2 (zc8 (zd0 (za6 (zk4 T) f.m T.an zb3 (za0 P3 (za0 (zm2 zi4 (zc4 P0 rfl)) (za0 (zc4 P0 rfl) za1))))) (za5 ze2) zb6)
     (za2 (zc8 (zc2 zi9 P3 P2 (zc1 _)) (za5 ze2) zb6)
     (za5 (zc8 (zd0 (za6 (yl7 T) f.m T.bz zb3 (za0 P0 (za0 P1 (za0 P3 za1))))) (za5 ze2) zb6)))),?_⟩
   refine cut3 ?_;intro C D;have v:=B;obtain⟨_,m,h,o,F⟩:=B;refine⟨_,rfl,_,rfl,b,_,m,_,_,rfl,o,T.ad,T.ah,zk9 _ _ _ _,_,rfl,_,rfl,b,_,m,_,_,rfl,o,T.ad,T.ah,zk9 _ _ _ _,p,-n,n,rfl,_,rfl,iteB (zt3 k l) ?_⟩;refine⟨_,rfl,_,rfl,rfl,_,rfl,?_⟩;refine iteB (by rw[ze3];exact Qg d) ?_;refine⟨_,rfl,_,rfl,_,rfl,b,a,n,r,c,p,g,i,rfl,v,j,_,rfl,?_⟩;refine iteB (Qg fun z=>by have:=e z.1;omega) q
inductive zA3 (K:W.Frag)(t:Adr)(vs:List V)(H:Hp)(Q:VK)(E:XK):Prop
 | mk (b:Addr)(n r lim u v:Int)(hs:List Int)(h0:vs=[.ref b,.int u,.int v])(h1:zd7 t H b n r hs lim)(h2:(absI u<=lim/\absI (u+v)<=lim))(h3:Q .non H):zA3 K t vs H Q E
def sp_check_tilts (K:W.Frag)(t:Adr):Sp:=fun vs H Q E=>zA3 K t vs H Q E
theorem ok_check_tilts (T:Txt K mg t):FnOk P w K mg base CX0 2 t.aL t.aM Pv (sp_check_tilts K t):=by
 refine T.a9.F.ok sc_check_tilts (fun e H Q E h=>?_) (fun j A i s H e Q E d h=>?_)
 . obtain⟨b,n,r,a,u,v,c,rfl,B,⟨f,g⟩,q⟩:=h
   rfl
 . obtain⟨b,n,r,a,u,v,c,rfl,B,⟨f,g⟩,q⟩:=h
   refine⟨_,(za2 (zc8 (zd0 (za6 (zH6 T) d.m T.aN zb3 (za0 P0 (za0 P1 za1)))) (za5 ze2) zb6)
     (za5 (zc8 (zd0 (za6 (zH6 T) d.m T.aN zb3 (za0 P0 (za0 (zb9 zf4 P1 P2) za1)))) (za5 ze2) zb6))),?_⟩
   refine⟨_,rfl,_,rfl,b,n,r,a,c,u,rfl,B,_,rfl,iteB (Qg (by omega)) ?_⟩;exact⟨_,rfl,_,rfl,_,rfl,_,_,rfl,rfl,b,n,r,a,c,u+v,rfl,B,_,rfl,iteB (Qg (by omega)) q⟩
inductive zD0 (K:W.Frag)(t:Adr)(vs:List V)(H:Hp)(Q:VK)(E:XK):Prop
 | mk (b a:Addr)(n r lim p:Int)(i:Nat)(hs xs:List Int)(h0:vs=[.ref b,.ref a,.int ((i:Int)+1),.int (xs.getD i 0),.int p])(h1:zd7 t H b n r hs lim)(h2:zc6 n r hs.length xs)(h3:H a=some (.tup (xs.map V.int)))(h4:Lets n r hs lim xs i p)(h5:∀H',Same H H'->Q .non H'):zD0 K t vs H Q E
def sp_check_move (K:W.Frag)(t:Adr):Sp:=fun vs H Q E=>zD0 K t vs H Q E
theorem ok_check_move (T:Txt K mg t):FnOk P w K mg base CX0 5 t.aW t.aX Ps (sp_check_move K t):=by
 refine T.bf.F.ok sc_check_move (fun k H Q E h=>?_) (fun z A x s H k Q E e h=>?_)
 . obtain⟨b,a,n,r,d,p,i,c,xs,rfl,B,g,f,L,q⟩:=h
   rfl
 . obtain⟨b,a,n,r,d,p,i,c,xs,rfl,B,g,f,L,q⟩:=h
   refine⟨_,(za2 (ze7 (za6 (ok_check_weight T) e.m T.a6 zb3 (za0 P1 (za0 P2 (za0 P3 za1)))))
     (za2 (ze7 (za6 (ok_check_put T) e.m T.bp zb3 (za0 P0 (za0 P1 (za0 P3 (za0 (pv 4) za1))))))
     (za5 (ze7 (za6 (ok_check_tilts T) e.m T.a9 zb3 (za0 P0 (za0 (za6 (zE4 T) e.m T.aO zb3 (za0 P0 (za0 P1 (za0 P2 za1)))) (za0 (zb9 zm5 (zc9 zg5 (zc4 P0 rfl) (zb9 zg4 P2 za4) (fun _ _=>rfl)) (pv 4)) za1)))))))),?_⟩
   refine cut3 ?_;intro C D;refine⟨_,rfl,_,rfl,_,rfl,a,_,_,i,xs,rfl,f,⟨rfl,L.lt,rfl⟩,?_⟩;refine⟨_,rfl,_,rfl,_,rfl,_,rfl,b,a,n,r,d,_,p,c,xs,rfl,B,f,⟨L.on,L.ne,L.room⟩,?_⟩;refine⟨_,rfl,_,rfl,_,rfl,_,rfl,b,a,n,r,d,_,i,c,xs,rfl,B,g,.inr f,⟨rfl,L.lt⟩,fun F j=>?_⟩;obtain⟨_,l,h,m,o⟩:=B.same j;have y:=g.len;have G:=L.lt;have u:((i:Int)+1-1).toNat=i:=by omega
   have v:atI (c.map V.int) ((i:Int)+1-1)=some (.int (c.getD i 0)):=by have:=ze4 (xs:=c) (i:=(i:Int)+1-1) (by omega) (by omega);rw[u] at this;exact this
   have I:=B.1.h (c.getD i 0) (zp7 (by omega));exact⟨_,rfl,b,_,l,_,_,rfl,m,T.ad,T.al,zx3 _ _ _ _,_,rfl,_,_,rfl,rfl,h,_,_,_,rfl,rfl,SqT.of o,v,_,rfl,_,_,rfl,rfl,.inl ⟨by omega,by omega⟩,b,n,r,d,_,_,c,rfl,B.same j,⟨L.held,L.behind⟩,q _ j⟩
inductive ye0 (K:W.Frag)(t:Adr)(vs:List V)(H:Hp)(Q:VK)(E:XK):Prop
 | mk (b a m:Addr)(n r lim p:Int)(i:Nat)(hs xs:List Int)(h0:vs=[.ref b,.ref a,.ref m])(h1:zd7 t H b n r hs lim)(h2:zc6 n r hs.length xs)(h3:(SqL K H a (xs.map V.int)\/H a=some (.tup (xs.map V.int))))(h4:Mv K H m ((i:Int)+1) (xs.getD i 0) p)(h5:Lets n r hs lim xs i p)(h6:∀l H',Same H H'->H' l=some (.tup ((xs.set i p).map V.int))->Q (.ref l) H'):ye0 K t vs H Q E
def sp_moved (K:W.Frag)(t:Adr):Sp:=fun vs H Q E=>ye0 K t vs H Q E
theorem ok_moved (T:Txt K mg t):FnOk P w K mg base CX0 6 t.b9 t.ca Pf (sp_moved K t):=by
 refine T.bR.F.ok yc9 (fun y H Q E h=>?_) (fun I A G s H y Q E g h=>?_)
 . obtain⟨b,a,m,n,r,f,p,i,j,c,rfl,B,d,v,k,L,q⟩:=h
   rfl
 . obtain⟨b,a,m,n,r,f,p,i,j,c,rfl,B,d,v,k,L,q⟩:=h
   refine⟨_,(za2 (zb4 (i:=3) yc9.nd rfl (Or.inl rfl) (za6 (zf3 T) g.m T.ai zb3 (za0 P0 (za0 P1 za1))))
     (za2 (ze7 (za6 (ok_check_move T) g.m T.bf zb3 (za0 P0 (za0 P3 (za0 (zc9 zo0 P2 za4 (fun _ _=>rfl)) (za0 (zc9 zo0 P2 za4 (fun _ _=>rfl)) (za0 (zc9 zo0 P2 za4 (fun _ _=>rfl)) za1)))))))
     (za5 (zb7 (za6 (zr1 T) g.m T.ay zb3 (za0 P3 (za0 P2 za1))))))),?_⟩
   refine cut3 ?_;intro J M;refine⟨_,rfl,_,rfl,b,a,n,r,f,j,c,rfl,B,d,v,fun l N e x=>?_⟩;have o:=(k.same e).ix;refine⟨_,rfl,_,rfl,_,rfl,o.1 _ ⟨_,rfl,o.2.1 _ ⟨_,rfl,o.2.2 _ ?_⟩⟩⟩;refine⟨b,l,n,r,f,p,i,j,c,rfl,B.same e,d,x,L,fun O u=>?_⟩;have:=B.1.w;have:=d.len;exact⟨_,rfl,_,rfl,l,m,_,_,p,i,c,rfl,u _ _ x,k.same (e.trans u),⟨rfl,L.lt,by omega⟩,fun z C D F=>q z C (e.trans (u.trans D)) F⟩
noncomputable def grid (n:Int)(j:Nat):List Int:=(List.range j).map fun(k:Nat)=>-n+(k:Int)
noncomputable def zk1 (n r:Int)(hs:List Int)(lim:Int)(xs:List Int)(i j:Nat):List Int:=(grid n j).filter fun p=>decide (Lets n r hs lim xs i p)
theorem zR0 (n r:Int)(hs:List Int)(lim:Int)(xs:List Int)(i j:Nat):zk1 n r hs lim xs i (j+1)=zk1 n r hs lim xs i j++(if Lets n r hs lim xs i (-n+(j:Int)) then [-n+(j:Int)] else []):=by
 unfold zk1 grid;rw[List.range_succ,Qm,ZD];congr 1;by_cases h:Lets n r hs lim xs i (-n+(j:Int))
 . rw[Ql h];simp[h]
 . rw[Qh h];simp[h]
theorem zJ9 (n r:Int)(hs:List Int)(lim:Int)(xs:List Int)(i j:Nat):(zk1 n r hs lim xs i j).length<=j:=by
 unfold zk1 grid;refine QK (ZB _ _) ?_;simp
theorem zV2 {n r:Int}{hs:List Int}{lim:Int}{xs:List Int}{i:Nat}(j:Nat)(h:¬ absI (ze0 hs xs i)<=lim):zk1 n r hs lim xs i j=[]:=by
 unfold zk1;rw[List.filter_eq_nil_iff];intro p _;have:¬ Lets n r hs lim xs i p:=fun L=>h L.held
 simp[this]
noncomputable def wide (n:Int):Nat:=(n+1 - -n).toNat
noncomputable def zl7 (n r:Int)(hs:List Int)(lim:Int)(xs:List Int)(i:Nat):List (Nat×Int):=(List.range i).flatMap fun k=>(zk1 n r hs lim xs k (wide n)).map fun p=>(k,p)
theorem zE5 (n r:Int)(hs:List Int)(lim:Int)(xs:List Int)(i:Nat):zl7 n r hs lim xs (i+1)=zl7 n r hs lim xs i++(zk1 n r hs lim xs i (wide n)).map fun p=>(i,p):=by
 unfold zl7;rw[List.range_succ,List.flatMap_append];simp
theorem zC1 (n r:Int)(hs:List Int)(lim:Int)(xs:List Int):∀i,(zl7 n r hs lim xs i).length<=i*wide n
 | 0=>by simp[zl7]
 | i+1=>by
   rw[zE5,Qq,Qb,Nat.succ_mul];have:=zC1 n r hs lim xs i;have:=zJ9 n r hs lim xs i (wide n);omega
def zs1 (H:Hp)(xs:List Int)(a:Addr)(m:Nat×Int):Prop:=H a=some (.tup [.int ((m.1:Int)+1),.int (xs.getD m.1 0),.int m.2])
def Rows (H:Hp)(xs:List Int)(rs:List Addr)(ms:List (Nat×Int)):Prop:=rs.length=ms.length/\∀(k:Nat) (a:Addr) (m:Nat×Int),rs[k]?=some a->ms[k]?=some m->zs1 H xs a m
theorem Rows.nil (H:Hp)(xs:List Int):Rows H xs [] []:=⟨rfl,fun k a m h=>by simp at h⟩
theorem Rows.same {H H':Hp}{xs:List Int}{b:List Addr}{c:List (Nat×Int)}(h:Rows H xs b c)(s:Same H H'):Rows H' xs b c:=⟨h.1,fun k a m d e=>s _ _ (h.2 k a m d e)⟩
theorem Rows.app {H:Hp}{xs:List Int}{d e:List Addr}{g f:List (Nat×Int)}(h:Rows H xs d g)(h':Rows H xs e f):Rows H xs (d++e) (g++f):=by
 refine⟨by rw[Qq,Qq,h.1,h'.1],fun k a m b c=>?_⟩;by_cases i:k<d.length
 . rw[Zi i] at b
   rw[Zi (by rw[<-h.1];exact i)] at c;exact h.2 k a m b c
 . rw[Zx (by omega)] at b
   rw[Zx (by rw[<-h.1];omega),<-h.1] at c;exact h'.2 _ a m b c
theorem Rows.one {H:Hp}{xs:List Int}{a:Addr}{m:Nat×Int}(h:zs1 H xs a m):Rows H xs [a] [m]:=⟨rfl,fun k d e b c=>by
 match k,b,c with
 | 0,b,c=>cases b;cases c;exact h
 | k+1,b,_=>simp at b⟩
theorem Rows.put {H:Hp}{xs:List Int}{b:List Addr}{c:List (Nat×Int)}{l:Addr}{o:HO}{vs:List V}(h:Rows H xs b c)(d:H l=some (.lst vs)):Rows (upd H l o) xs b c :=
 ⟨h.1,fun k a m e f=>by
   have:=h.2 k a m e f;unfold zs1 at this ⊢;rw[za7 (fun z=>by rw[z,d] at this;cases this)];exact this⟩
inductive yl8 (K:W.Frag)(t:Adr)(vs:List V)(H:Hp)(Q:VK)(E:XK):Prop
 | mk (b a:Addr)(n r lim k:Int)(i:Nat)(hs xs:List Int)(h0:vs=[.ref b,.ref a,.int k])(h1:zd7 t H b n r hs lim)(h2:zc6 n r hs.length xs)(h3:H a=some (.tup (xs.map V.int)))(h4:(k=(i:Int)+1/\i<xs.length))(h5:∀l H',Same H H'->H' l=some (.lst ((zk1 n r hs lim xs i (wide n)).map V.int))->Q (.ref l) H'):yl8 K t vs H Q E
def sp_puts (K:W.Frag)(t:Adr):Sp:=fun vs H Q E=>yl8 K t vs H Q E
theorem ok_puts (T:Txt K mg t):FnOk P w K mg base CX0 5 t.cu t.cv PN (sp_puts K t):=by
 refine T.b7.F.ok zM1 (fun W a0 a3 a4 h=>?_) (fun aa af a8 ag a0 W a3 a4 g h=>?_)
 . obtain⟨b,a,n,r,d,a5,i,c,xs,rfl,B,v,x,⟨rfl,y⟩,q⟩:=h
   rfl
 . obtain⟨b,a,n,r,d,a5,i,c,xs,rfl,B,v,x,⟨rfl,y⟩,q⟩:=h
   refine⟨_,(za2 (zb4 (i:=3) zM1.nd rfl (Or.inr rfl) (za6 (zE4 T) g.m T.aO zb3 (za0 P0 (za0 P1 (za0 P2 za1)))))
     (za2 (zc8 (zd0 (za6 (zH6 T) g.m T.aN zb3 (za0 P0 (za0 P3 za1)))) (za5 (zb7 (ze8 za1))) zb6)
     (za2 (zb4 (i:=4) zM1.nd rfl (Or.inr rfl) (zc9 zg5 P1 (zb9 zg4 P2 za4) (fun _ _=>rfl)))
     (za2 (zb4 (i:=5) zM1.nd rfl (Or.inr rfl) (zc9 zg5 (zc4 P0 rfl) (zb9 zg4 P2 za4) (fun _ _=>rfl)))
     (za5 (zb7 (zs8 rfl zU3 (zB1 rfl T.am (za0 (zm2 zi4 (zc4 P0 rfl)) (za0 (zb9 zf4 (zc4 P0 rfl) za4) za1))) (fun _ _ _ _ _=>(zc5 (i:=0) zU3.nd rfl (Or.inl rfl))) (fun _ _ _ _ _=>(zy6 (PW.pt (zy1 (zc2 zn7 P0 P1 (zc1 _)) (zy1 (zd4 (zd0 (za6 (yl7 T) g.m T.bz zb3 (za0 P2 (za0 P3 (za0 P0 za1)))))) (zv9 (zd4 (zd0 (za6 (zH6 T) g.m T.aN zb3 (za0 P2 (za0 (zb9 zf4 (pv 4) (zb9 zm5 (pv 5) P0)) za1))))))))))) (fun _ _ _ _ _=>P0)))))))),?_⟩
   refine cut5 ?_;intro ab ac ad ae;refine⟨_,rfl,_,rfl,_,rfl,b,a,n,r,d,_,i,c,xs,rfl,B,v,.inr x,⟨rfl,y⟩,fun e k=>?_⟩;have H:=k _ _ x;have I:=B.same k;refine⟨_,rfl,_,rfl,b,n,r,d,c,_,rfl,I,_,rfl,?_⟩;refine ite2 (fun A=>?_) (fun A=>?_)
   . have s:¬ absI (ze0 c xs i)<=d:=fun z=>by have:=QY A;omega
     refine⟨QD _,fun a6 X=>q a6 _ (k.updT X) ?_⟩;rw[zV2 _ s];exact za3
   have s:absI (ze0 c xs i)<=d:=Int.not_lt.mp fun z=>A (Qf z)
   obtain⟨ok,l,h,m,J⟩:=I;have a9:=v.len;have M:((i:Int)+1-1).toNat=i:=by omega
   have Y:atI (c.map V.int) ((i:Int)+1-1)=some (.int (c.getD i 0)):=by have:=ze4 (xs:=c) (i:=(i:Int)+1-1) (by omega) (by omega);rw[M] at this;exact this
   have Z:atI (xs.map V.int) ((i:Int)+1-1)=some (.int (xs.getD i 0)):=by have:=ze4 (xs:=xs) (i:=(i:Int)+1-1) (by omega) (by omega);rw[M] at this;exact this
   have hm:=ok.h (c.getD i 0) (zp7 (by omega));have n1:=ok.n1;have n2:=ok.n2;refine⟨_,rfl,_,rfl,_,_,rfl,rfl,a,_,_,_,rfl,rfl,SqT.of H,Z,?_⟩;refine⟨_,rfl,b,_,l,_,_,rfl,m,T.ad,T.al,zx3 _ _ _ _,_,rfl,_,_,rfl,rfl,h,_,_,_,rfl,rfl,SqT.of J,Y,?_⟩;refine⟨_,rfl,b,_,l,_,_,rfl,m,T.ad,T.ah,zk9 _ _ _ _,_,rfl,_,rfl,b,_,l,_,_,rfl,m,T.ad,T.ah,zk9 _ _ _ _,_,_,rfl,rfl,-n,n+1,rfl,⟨by omega,by omega,by omega,by omega⟩,fun D C=>?_⟩;refine zp0 (fun j E=>E=upd e D (.lst ((zk1 n r c d xs i j).map V.int))) rfl ?_ ?_
   . rintro j E ah hj rfl o
     have Q:(upd e D (.lst ((zk1 n r c d xs i j).map V.int))) a=some (.tup (xs.map V.int)):=Same.upd C _ _ H;have N:zd7 t (upd e D (.lst ((zk1 n r c d xs i j).map V.int))) b n r c d:=zd7.same ⟨ok,l,h,m,J⟩ (Same.upd C);have R:(upd e D (.lst ((zk1 n r c d xs i j).map V.int))) D=some (.lst ((zk1 n r c d xs i j).map V.int)):=za3;have F:¬ Lets n r c d xs i (-n+(j:Int))->(upd e D (.lst ((zk1 n r c d xs i j).map V.int)))=upd e D (.lst ((zk1 n r c d xs i (j+1)).map V.int)):=fun z=>by rw[zR0,Qh z,Zz]
     refine⟨_,rfl,_,rfl,rfl,_,rfl,?_⟩;rw[ze3];refine ite2 (fun G=>?_) (fun G=>?_)
     . have u:-n+(j:Int)≠xs.getD i 0:=by simpa using G
       refine⟨_,rfl,_,rfl,_,rfl,b,a,n,r,d,-n+(j:Int),c,xs,rfl,N,Q,_,rfl,?_⟩;refine ite2 (fun f=>?_) (fun f=>?_)
       . have S:¬ (-n+(j:Int)≠0/\r<=(xs.count (-n+(j:Int)):Int)):=fun z=>by unfold yl5 at f;rw[Qf z] at f;exact Bool.noConfusion f
         have O:-n+(j:Int)≠0->(xs.count (-n+(j:Int)):Int)<r:=fun z=>Int.not_le.mp fun a7=>S ⟨z,a7⟩
         refine⟨_,rfl,_,rfl,_,rfl,_,rfl,_,_,rfl,rfl,.inl ⟨by omega,by omega⟩,_,_,rfl,rfl,b,n,r,d,c,_,rfl,N,_,rfl,?_⟩;refine ite2 (fun p=>?_) (fun p=>?_)
         . have U:absI (ze0 c xs i+c.getD i 0*(-n+(j:Int)))<=d:=Int.not_lt.mp fun z=>by rw[Qf z] at p;exact Bool.noConfusion p
           have L:Lets n r c d xs i (-n+(j:Int)):=⟨y,by unfold wide at *;omega,u,O,s,U⟩;refine⟨_,rfl,_,R,zc3 (by rw[Qb];have:=zJ9 n r c d xs i j;omega),o _ ?_⟩;rw[zg1,zR0,Ql L,Qm];rfl
         . exact o _ (F fun L=>p (by have:=L.behind;rw[Qg (by omega)];rfl))
       . refine iteF ?_
         exact o _ (F fun L=>f (by unfold yl5;rw[Qg (fun z=>by have:=L.room z.1;omega)];rfl))
     . have u:-n+(j:Int)=xs.getD i 0:=by simpa using G
       refine iteF ?_;exact o _ (F fun L=>L.ne u)
   . rintro E rfl
     exact q D _ (k.updT C) za3
inductive ye1 (K:W.Frag)(t:Adr)(vs:List V)(H:Hp)(Q:VK)(E:XK):Prop
 | mk (b a:Addr)(n r lim:Int)(hs xs:List Int)(h0:vs=[.ref b,.ref a])(h1:zd7 t H b n r hs lim)(h2:zc6 n r hs.length xs)(h3:(SqL K H a (xs.map V.int)\/H a=some (.tup (xs.map V.int))))(h4:∀l rs H',Same H H'->H l=none->H' l=some (.lst (rs.map V.ref))->Rows H' xs rs (zl7 n r hs lim xs xs.length)->Q (.ref l) H'):ye1 K t vs H Q E
def sp_moves (K:W.Frag)(t:Adr):Sp:=fun vs H Q E=>ye1 K t vs H Q E
theorem ye2 (T:Txt K mg t):FnOk P w K mg base CX0 6 t.cb t.cc Pa (sp_moves K t):=by
 refine T.bt.F.ok zG6 (fun vs H a9 aa h=>?_) (fun ae al ab a0 H vs a9 aa U h=>?_)
 . obtain⟨b,a,n,r,c,d,xs,rfl,B,y,W,a1⟩:=h
   rfl
 . obtain⟨b,a,n,r,c,d,xs,rfl,B,y,W,a1⟩:=h
   refine⟨_,(za2 (zb4 (i:=2) zG6.nd rfl (Or.inr rfl) (za6 (zf3 T) U.m T.ai zb3 (za0 P0 (za0 P1 za1))))
     (za2 (zb4 (i:=3) zG6.nd rfl (Or.inl rfl) (ze8 za1))
     (za2 (zh7 PassesOwn.never rfl (zB1 rfl T.am (za0 za4 (za0 (zb9 zf4 (zb0 zc0 rfl T.ae QB (za0 P2 za1)) za4) za1))) (zc5 (i:=4) zG6.nd rfl (Or.inr rfl)) (za5 (ze7 (zr4 QE PySem.F.slot_list_extend PySem.F.type_list_extend mt_extend P3 (za0 (zs8 rfl zQ7 (zj2 (za6 (ok_puts T) U.m T.b7 zb3 (za0 P0 (za0 P2 (za0 (pv 4) za1))))) (fun _ _ _ _ _=>(zc5 (i:=0) zQ7.nd rfl (Or.inl rfl))) (fun _ _ _ _ _=>zr5) (fun _ _ _ _ _=>(zy4 (za0 P1 (za0 (zc9 (zF2 K rfl) P2 (zb9 zg4 P1 za4) (fun _ _=>rfl)) (za0 P0 za1)))))) za1)))))
     (za5 (zb7 P3))))),?_⟩
   refine cut4 ?_;intro af ag ah;have ai:xs.length<=5:=by have:=B.1.w;have:=y.len;omega
   have n1:=B.1.n1;have n2:=B.1.n2;have a2:wide n<=9:=by unfold wide;omega
   refine⟨_,rfl,_,rfl,b,a,n,r,c,d,xs,rfl,B,y,W,fun p q I C=>?_⟩;refine⟨QD _,fun l J=>?_⟩;have fl0:H l=none:=I.free J;have B1:=B.same I;have A:Same q (upd q l (.lst [])):=Same.upd J;have E:(upd q l (.lst [])) l=some (.lst []):=za3;revert A E;generalize upd q l (.lst [])=H2;intro A E;refine⟨_,rfl,p,_,rfl,.inr (SqT.of (A _ _ C)),_,_,rfl,rfl,1,(xs.length:Int)+1,by rw[Qb],⟨by omega,by omega,by omega,by omega⟩,zk0 (lo:=1) (n:=((xs.length:Int)+1-1).toNat) (fun i O e=>X2 fun v g=>A4 (O=[some (.ref b),some (.ref a),some (.ref p),some (.ref l),v]) (Same q e) (e l=some (.lst (g.map V.ref))) (Rows e xs g (zl7 n r d c xs i))) ⟨none,[],rfl,A,E,Rows.nil _ _⟩ ?_ ?_⟩
   . rintro i O X hi ⟨v,g,rfl,k,u,s⟩
     have a3:i<xs.length:=by omega
     have e1:(1+(i:Int)-1).toNat=i:=by omega
     have ax:atI (xs.map V.int) (1+(i:Int)-1)=some (.int (xs.getD i 0)):=by have:=ze4 (xs:=xs) (i:=1+(i:Int)-1) (by omega) (by omega);rw[e1] at this;exact this
     have a4:=zJ9 n r d c xs i (wide n);have aj:=zC1 n r d c xs i;have ac:i*wide n<=5*9:=Nat.mul_le_mul (by omega) a2;refine⟨_,rfl,.inl ⟨rfl,_,SqL.of u⟩,_,rfl,_,rfl,_,rfl,b,p,n,r,c,_,i,d,xs,rfl,B1.same k,y,k _ _ C,⟨by omega,a3⟩,fun Y H4 Z L=>?_⟩;refine⟨Y,rfl,⟨_,SqL.of L⟩,fun D hD=>?_⟩;have R:zl7 n r d c xs (i+1)=zl7 n r d c xs i++(zk1 n r d c xs i (wide n)).map fun p=>(i,p):=zE5 n r d c xs i
     generalize zk1 n r d c xs i (wide n)=o at L a4 R ⊢;refine zr6 (K:=K) (a:=Y) (xs:=o.map V.int) (fun j e=>X1 fun f=>A3 (e D=some (.lst (f.map V.ref))) (Rows e xs f ((o.take j).map fun p=>(i,p))) (Same H4 e)) ⟨[],za3,Rows.nil _ _,Same.upd hD⟩ (fun j e ⟨_,_,_,a0⟩=>SqL.of (a0 _ _ L)) ?_ ?_
     . rintro j x e am hj ⟨f,F,R',s'⟩ hN
       obtain⟨z,rfl,hz⟩:=int_at hj;dsimp only[zy5];refine iteT ?_;refine⟨_,rfl,_,rfl,_,rfl,_,_,rfl,rfl,p,_,_,_,rfl,rfl,SqT.of (s' _ _ (Z _ _ (k _ _ C))),ax,_,rfl,(by show 3<=sizeLine;decide),fun lt M=>?_⟩;have a5:D≠lt:=fun z=>by rw[z,M] at F;cases F
       have ak:(o.take j).length<=9:=by rw[Zb];omega
       have ad:f.length<=9:=by have:=R'.1;rw[Qb] at this;omega
       have a6:o.take (j+1)=o.take j++[z]:=by rw[QX,hz];rfl
       have a7:=(R'.same (Same.upd M)).app (Rows.one (H:=upd e lt (.tup [.int (1+(i:Int)),.int (xs.getD i 0),.int z])) (xs:=xs) (a:=lt) (m:=(i,z)) (by unfold zs1;rw[za3,Int.add_comm]));have Q:(upd e lt (.tup [.int (1+(i:Int)),.int (xs.getD i 0),.int z])) D=some (.lst (f.map V.ref)):=by rw[za7 a5];exact F
       refine⟨f.map V.ref,Q,zc3 (by rw[Qb];omega),hN _ ⟨f++[lt],by rw[za3,Qm];rfl,?_,(s'.updT M).put hD⟩⟩;rw[a6,Qm];exact a7.put Q
     . rintro H5 ⟨f,a8,N,s5⟩
       rw[Qb,QS] at N;have G:=Z.trans s5;have S:=G _ _ u;have e2:g.length=(zl7 n r d c xs i).length:=s.1;have e3:f.length=o.length:=by rw[N.1,Qb]
       refine⟨l,D,_,_,rfl,rfl,S,a8,Za (zc3 (by rw[Qb,Qb];omega)),?_⟩;refine⟨_,g++f,rfl,(k.trans G).put J,by rw[za3,Qm],?_⟩;rw[R];exact((s.same G).app N).put S
   . rintro O X ⟨v,g,rfl,k,u,s⟩
     rw[show((xs.length:Int)+1-1).toNat=xs.length by omega] at s;exact⟨_,rfl,a1 l g X (I.trans k) fl0 u s⟩
end
section
variable {P:Program} {w:World} {K:W.Frag} {mg:Str->Option Value} {base:Heap} {t:Adr}
noncomputable def nbs (n r:Int)(hs:List Int)(lim:Int)(x:List Int):List (List Int):=(zl7 n r hs lim x x.length).map fun m=>x.set m.1 m.2
theorem zV3 {n r:Int}{hs:List Int}{lim:Int}{x:List Int}{i:Nat}{p:Int}:p∈zk1 n r hs lim x i (wide n)↔Lets n r hs lim x i p:=by
 unfold zk1 grid;rw[ZJ,decide_eq_true_eq];refine⟨fun h=>h.2,fun h=>⟨?_,h⟩⟩;have:=h.on;rw[QA];exact⟨(p+n).toNat,List.mem_range.mpr (by unfold wide;omega),by omega⟩
theorem zv5 {n r:Int}{hs:List Int}{lim:Int}{x:List Int}{k:Nat}{m:Nat×Int}:m∈zl7 n r hs lim x k↔m.1<k/\Lets n r hs lim x m.1 m.2:=by
 unfold zl7;rw[List.mem_flatMap];constructor
 . rintro⟨i,a,b⟩
   obtain⟨p,c,rfl⟩:=QA.mp b;exact⟨List.mem_range.mp a,zV3.mp c⟩
 . rintro⟨a,L⟩
   exact⟨m.1,List.mem_range.mpr a,QA.mpr ⟨m.2,zV3.mpr L,rfl⟩⟩
theorem zl0 {n r:Int}{hs:List Int}{lim:Int}{x y:List Int}:y∈nbs n r hs lim x↔∃i p,Lets n r hs lim x i p/\y=x.set i p:=by
 unfold nbs;rw[QA];constructor
 . rintro⟨m,a,rfl⟩
   exact⟨m.1,m.2,(zv5.mp a).2,rfl⟩
 . rintro⟨i,p,L,rfl⟩
   exact⟨(i,p),zv5.mpr ⟨L.lt,L⟩,rfl⟩
inductive Walk (n r:Int)(hs:List Int)(lim:Int)(s:List Int):Nat->List Int->Prop
 | zero:Walk n r hs lim s 0 s
 | succ {d:Nat} {x y:List Int}:Walk n r hs lim s d x->y∈nbs n r hs lim x->Walk n r hs lim s (d+1) y
def Dst (n r:Int)(hs:List Int)(lim:Int)(s:List Int)(d:Nat)(x:List Int):Prop:=Walk n r hs lim s d x/\∀j,j<d->¬ Walk n r hs lim s j x
section
variable {n r:Int} {hs:List Int} {lim:Int} {s:List Int}
theorem Walk.dst:∀ {d:Nat} {x:List Int},Walk n r hs lim s d x->∃e,e<=d/\Dst n r hs lim s e x:=by
 intro d
 induction d using Nat.strongRecOn with
 | _ d c =>
   intro x h;by_cases q:∃j,j<d/\Walk n r hs lim s j x
   . obtain⟨j,a,b⟩:=q
     obtain⟨e,g,f⟩:=c j a b;exact⟨e,by omega,f⟩
   . exact⟨d,Qi _,h,fun j a b=>q ⟨j,a,b⟩⟩
theorem Dst.uniq {d e:Nat}{x:List Int}(h:Dst n r hs lim s d x)(h':Dst n r hs lim s e x):d=e:=by
 rcases Nat.lt_trichotomy d e with z | z | z
 . exact absurd h.1 (h'.2 d z)
 . exact z
 . exact absurd h'.1 (h.2 e z)
theorem Dst.zero:Dst n r hs lim s 0 s:=⟨.zero,fun j a=>absurd a (Nat.not_lt_zero _)⟩
theorem Dst.pred {d:Nat}{y:List Int}(h:Dst n r hs lim s (d+1) y):∃x,Dst n r hs lim s d x/\y∈nbs n r hs lim x:=by
 obtain⟨c,e⟩:=h;cases c with
 | @succ _ x _ f a=>exact⟨x,⟨f,fun j g b=>e (j+1) (by omega) (.succ b a)⟩,a⟩
theorem Dst.below:∀ {d:Nat} {x:List Int},Dst n r hs lim s d x->∀e,e<=d->∃y,Dst n r hs lim s e y
 | 0,x,h,e,a=>⟨x,by rw[show e=0 by omega];exact h⟩
 | d+1,x,h,e,a=>by
   rcases Nat.eq_or_lt_of_le a with z | z
   . subst z;exact⟨x,h⟩
   . obtain⟨y,b,_⟩:=h.pred
     exact Dst.below b e (by omega)
theorem ye3 {d:Nat}{y:List Int}:Dst n r hs lim s (d+1) y↔(¬ ∃j,j<=d/\Dst n r hs lim s j y)/\∃x,Dst n r hs lim s d x/\y∈nbs n r hs lim x:=by
 constructor
 . intro h
   exact⟨fun⟨j,a,b⟩=>by have:=h.uniq b;omega,h.pred⟩
 . rintro⟨c,x,f,g⟩
   refine⟨.succ f.1 g,fun j a i=>c ?_⟩;obtain⟨e,l,k⟩:=i.dst;exact⟨e,by omega,k⟩
theorem dst_none {d:Nat}(h:∀y,¬ Dst n r hs lim s (d+1) y):∀e,d<e->∀y,¬ Dst n r hs lim s e y:=by
 intro e
 induction e with
 | zero=>intro b;omega
 | succ e c =>
   intro b y a;rcases QW d e with z | z
   . obtain⟨x,f,_⟩:=a.pred
     exact c z x f
   . obtain rfl:e=d:=by omega
     exact h y a
theorem Walk.valid {d:Nat}{x:List Int}(h:Walk n r hs lim s d x){w:Nat}(a:zc6 n r w s):zc6 n r w x:=by
 induction h with
 | zero=>exact a
 | succ _ b c =>
   obtain⟨i,p,L,rfl⟩:=zl0.mp b;exact L.valid c
theorem Walk.keep {d:Nat}{x:List Int}(h:Walk n r hs lim s d x)(a:zc6 n r hs.length s)(h0:absI (zb5 hs s)<=lim):absI (zb5 hs x)<=lim:=by
 cases h with
 | zero=>exact h0
 | succ b c =>
   obtain⟨i,p,L,rfl⟩:=zl0.mp c;rw[zv4 hs _ i p (b.valid a).len.symm L.lt];exact L.behind
end
theorem zR1:∀(N:Nat) (l:List Nat),l.Nodup->(∀x∈l,x<N)->l.length<=N
 | 0,l,_,h=>by
   cases l with
   | nil=>exact Qi _
   | cons a l=>exact absurd (h a (.head _)) (Nat.not_lt_zero _)
 | N+1,l,c,h=>by
   by_cases d:N∈l
   . have:=zR1 N (l.erase N) (c.erase N) fun x b=>by
       have e:=h x (List.mem_of_mem_erase b);have f:x≠N:=fun z=>by rw[z] at b;exact(List.Nodup.not_mem_erase c) b
       omega
     rw[List.length_erase_of_mem d] at this;omega
   . have:=zR1 N l c fun x b=>by
       have e:=h x b;have f:x≠N:=fun z=>d (z▸b)
       omega
     omega
noncomputable def zq3 (n:Int):List Int->Nat
 | []=>0
 | a::x=>(a+n).toNat+(2*n+1).toNat*zq3 n x
theorem ye4 {n:Int}(c:0<=n):∀ {x:List Int},(∀a∈x,-n<=a/\a<=n)->zq3 n x<(2*n+1).toNat ^ x.length
 | [],_=>by simp[zq3]
 | a::x,h=>by
   have g:=h a (.head _);have d:=ye4 c (x:=x) fun b e=>h b (.tail _ e)
   show(a+n).toNat+(2*n+1).toNat*zq3 n x<(2*n+1).toNat ^ (x.length+1);rw[Nat.pow_succ,Nat.mul_comm _ ((2*n+1).toNat)];have f:(2*n+1).toNat*(zq3 n x+1)<=(2*n+1).toNat*(2*n+1).toNat ^ x.length:=Nat.mul_le_mul_left _ d;rw[Nat.mul_add] at f;omega
theorem zV4 {n:Int}(f:0<=n):∀ {x y:List Int},x.length=y.length->(∀a∈x,-n<=a/\a<=n)->(∀a∈y,-n<=a/\a<=n)->zq3 n x=zq3 n y->x=y
 | [],[],_,_,_,_=>rfl
 | [],_::_,h,_,_,_=>nomatch h
 | _::_,[],h,_,_,_=>nomatch h
 | a::x,b::y,hl,hx,hy,e=>by
   have m:=hx a (.head _);have o:=hy b (.head _);have g:(a+n).toNat+(2*n+1).toNat*zq3 n x=(b+n).toNat+(2*n+1).toNat*zq3 n y:=e;have i:0<(2*n+1).toNat:=by omega
   have j:((a+n).toNat+(2*n+1).toNat*zq3 n x) % (2*n+1).toNat=(a+n).toNat:=by rw[Nat.add_mul_mod_self_left];exact Nat.mod_eq_of_lt (by omega)
   have k:((b+n).toNat+(2*n+1).toNat*zq3 n y) % (2*n+1).toNat=(b+n).toNat:=by rw[Nat.add_mul_mod_self_left];exact Nat.mod_eq_of_lt (by omega)
   have p:(a+n).toNat=(b+n).toNat:=by rw[<-j,<-k,g]
   have l:zq3 n x=zq3 n y:=by
     have:(2*n+1).toNat*zq3 n x=(2*n+1).toNat*zq3 n y:=by omega
     exact Nat.eq_of_mul_eq_mul_left i this
   rw[show a=b by omega,zV4 f (by simpa using hl) (fun c d=>hx c (.tail _ d)) (fun c d=>hy c (.tail _ d)) l]
theorem few {n r:Int}{hs:List Int}{lim:Int}(ok:zg9 n r hs lim){d:List (List Int)}(g:d.Nodup)(a:∀x∈d,zc6 n r hs.length x):d.length<=1000:=by
 have j:=ok.n1;have h:=zR1 ((2*n+1).toNat ^ hs.length) (d.map (zq3 n)) ?_ ?_
 . rw[Qb] at h
   have k:=ok.most;have e:(((2*n+1).toNat ^ hs.length:Nat):Int)=(2*n+1) ^ hs.length:=by rw[Int.natCast_pow,Int.toNat_of_nonneg (by omega)]
   omega
 . refine List.pairwise_map.mpr (g.imp_of_mem fun {x y} b f z e=>z ?_)
   exact zV4 (by omega) ((a x b).len.trans (a y f).len.symm) (a x b).on (a y f).on e
 . intro c i
   obtain⟨x,b,rfl⟩:=QA.mp i;have:=ye4 (n:=n) (by omega) (a x b).on;rw[(a x b).len] at this;exact this
noncomputable def Goes (n r:Int)(hs:List Int)(lim:Int):List Int->List (Nat×Int)->List Int->Prop
 | x,[],y=>x=y
 | x,m::ms,y=>Lets n r hs lim x m.1 m.2/\Goes n r hs lim (x.set m.1 m.2) ms y
noncomputable def zi1 (H:Hp):List Int->List Addr->List (Nat×Int)->Prop
 | _,[],[]=>True
 | x,a::rs,m::ms=>zs1 H x a m/\zi1 H (x.set m.1 m.2) rs ms
 | _,_,_=>False
theorem zi1.same {H H':Hp}(s:Same H H'):∀ {x:List Int} {b:List Addr} {c:List (Nat×Int)},zi1 H x b c->zi1 H' x b c
 | _,[],[],_=>trivial
 | _,[],_::_,h=>h.elim
 | _,_::_,[],h=>h.elim
 | x,a::b,m::c,h=>⟨s _ _ h.1,zi1.same s h.2⟩
theorem zi1.keepL {H:Hp}{l:Addr}{o:HO}{vs:List V}(d:H l=some (.lst vs)):∀ {x:List Int} {b:List Addr} {c:List (Nat×Int)},zi1 H x b c->zi1 (upd H l o) x b c
 | _,[],[],_=>trivial
 | _,[],_::_,h=>h.elim
 | _,_::_,[],h=>h.elim
 | x,a::b,m::c,h=>by
   refine⟨?_,zi1.keepL d h.2⟩;have:=h.1;unfold zs1 at this ⊢;rw[za7 (fun z=>by rw[z,d] at this;cases this)];exact this
theorem zi1.len {H:Hp}:∀ {x:List Int} {b:List Addr} {c:List (Nat×Int)},zi1 H x b c->b.length=c.length
 | _,[],[],_=>rfl
 | _,[],_::_,h=>h.elim
 | _,_::_,[],h=>h.elim
 | x,a::b,m::c,h=>by simp[zi1.len h.2]
noncomputable abbrev dOf (kv:List (List Int×V)):List (List Key×V):=kv.map fun e=>(ik e.1,e.2)
theorem yq8 {x y:List Int}(h:ik x=ik y):x=y:=(List.map_inj_right (fun a b z=>by injection z)).mp h
theorem zn1 {a:List (List Int×V)}{x:List Int}{v:V}(b:(a.map (·.1)).Nodup)(h:(x,v)∈a):valV (dOf a) (ik x)=some v:=by
 induction a with
 | nil=>cases h
 | cons e a c =>
   rw[QL,List.nodup_cons] at b;rcases Qn.mp h with rfl | h
   . exact zG1 rfl
   . have d:¬ ik e.1=ik x:=fun z=>b.1 (by rw[yq8 z];exact QA.mpr ⟨_,h,rfl⟩)
     show valV ((ik e.1,e.2)::dOf a) (ik x)=_;rw[zy8 d];exact c b.2 h
theorem ye5 {a:List (List Int×V)}{x:List Int}(h:x∉a.map (·.1)):valV (dOf a) (ik x)=none:=by
 induction a with
 | nil=>rfl
 | cons e a b =>
   rw[QL,Qn,not_or] at h;have c:¬ ik e.1=ik x:=fun z=>h.1 (yq8 z).symm
   show valV ((ik e.1,e.2)::dOf a) (ik x)=_;rw[zy8 c];exact b h.2
theorem zx4 {a:List (List Int×V)}(b:(a.map (·.1)).Nodup)(x:List Int):(valV (dOf a) (ik x)).isSome=decide (x∈a.map (·.1)):=by
 by_cases h:x∈a.map (·.1)
 . obtain⟨e,c,rfl⟩:=QA.mp h
   rw[zn1 b c,Qf h];rfl
 . rw[ye5 h,Qg h]
   rfl
theorem yl9 {a:List (List Int×V)}{x:List Int}(v:V)(h:x∉a.map (·.1)):putK (dOf a) (ik x) v=dOf (a++[(x,v)]):=by
 rw[putK_new v (ye5 h)];unfold dOf;rw[Qm];rfl
theorem zR2 (a:List (List Int×V)):(dOf a).map (·.1)=(a.map (·.1)).map ik:=by
 unfold dOf;rw[ZC,ZC];rfl
section
variable {n r:Int} {hs:List Int} {lim:Int}
theorem nbs_back {x y:List Int}(a:zc6 n r hs.length x)(b:absI (zb5 hs x)<=lim)(h:y∈nbs n r hs lim x):x∈nbs n r hs lim y:=by
 obtain⟨i,p,L,rfl⟩:=zl0.mp h;refine zl0.mpr ⟨i,x.getD i 0,L.turned a b,?_⟩;have c:=L.lt;rw[List.set_set,Qy,Qe c,Option.getD_some,List.set_getElem_self]
theorem Walk.front {x y z:List Int}{d:Nat}(h:y∈nbs n r hs lim x)(w:Walk n r hs lim y d z):Walk n r hs lim x (d+1) z:=by
 induction w with
 | zero=>exact .succ .zero h
 | succ _ a b=>exact .succ b a
theorem Walk.rev {s x:List Int}{d:Nat}(a:zc6 n r hs.length s)(k0:absI (zb5 hs s)<=lim)(w:Walk n r hs lim s d x):Walk n r hs lim x d s:=by
 induction w with
 | zero=>exact .zero
 | succ b c e=>exact Walk.front (nbs_back (b.valid a) (b.keep a k0) c) e
theorem Dst.rev {s x:List Int}{d:Nat}(a:zc6 n r hs.length s)(k0:absI (zb5 hs s)<=lim)(w:Dst n r hs lim s d x):Dst n r hs lim x d s :=
 ⟨w.1.rev a k0,fun j b z=>w.2 j b (z.rev (w.1.valid a) (w.1.keep a k0))⟩
theorem Goes.walk:∀ {x:List Int} {a:List (Nat×Int)} {y:List Int},Goes n r hs lim x a y->Walk n r hs lim x a.length y
 | x,[],y,h=>by obtain rfl:x=y:=h;exact .zero
 | x,m::a,y,h=>Walk.front (zl0.mpr ⟨m.1,m.2,h.1,rfl⟩) (Goes.walk h.2)
theorem Dst.step {s g:List Int}{m:Nat×Int}{c:List (Nat×Int)}{d:Nat}(a:zc6 n r hs.length s)(k0:absI (zb5 hs s)<=lim)(b:Dst n r hs lim s (d+1) g)(e:Goes n r hs lim s (m::c) g)(k:c.length=d):Dst n r hs lim g d (s.set m.1 m.2):=by
 have f:s.set m.1 m.2∈nbs n r hs lim s:=zl0.mpr ⟨m.1,m.2,e.1,rfl⟩;have h:Walk n r hs lim s 1 (s.set m.1 m.2):=.succ .zero f;have i:=Goes.walk e.2;rw[k] at i;refine⟨i.rev (h.valid a) (h.keep a k0),fun j l z=>b.2 (j+1) (by omega) (Walk.front f (z.rev (b.1.valid a) (b.1.keep a k0)))⟩
end
end
section
variable {P:Program} {w:World} {K:W.Frag} {mg:Str->Option Value} {base:Heap} {t:Adr}
theorem dget {H:Hp}{a b:Addr}{c:List (List Int×V)}{x:List Int}(e:H a=some (.dT (dOf c)))(d:H b=some (.tup (x.map V.int))):DGet H a (.ref b) (valV (dOf c) (ik x)):=DGet.t e (by rw[zT6];exact d)
theorem dput {H:Hp}{a b:Addr}{c:List (List Int×V)}{x:List Int}{v:V}(e:H a=some (.dT (dOf c)))(d:H b=some (.tup (x.map V.int)))(f:c.length<=1000):DPut H a (.ref b) v (upd H a (.dT (putK (dOf c) (ik x) v))) :=
 DPut.t e (by rw[zT6];exact d) (zc3 (by rw[Qb];exact f))
def yq9 (n r:Int)(hs:List Int)(lim:Int)(L:List (List Int))(H:Hp)(e:List Int×V):Prop:=∃x∈L,∃m i p,e.2 = .ref m/\zs1 H x m (i,p)/\Lets n r hs lim x i p/\e.1=x.set i p
structure NL (n r:Int)(hs:List Int)(lim:Int)(H:Hp)(ld f:Addr)(L:List (List Int))(kv:List (List Int×V))(Seen:List Int->Prop)(H':Hp)(F:List (List Int×V))(zs:List V):Prop where
 sx:zg6 ld H H'
 hf:H' f=some (.lst zs)
 tu:Tups H' zs (F.map (·.1))
 hd:H' ld=some (.dT (dOf (kv++F)))
 nd:((kv++F).map (·.1)).Nodup
 mem:∀y,y∈F.map (·.1)↔y∉kv.map (·.1)/\Seen y
 row:∀e∈F,yq9 n r hs lim L H' e
theorem NL.step {n r:Int}{hs:List Int}{lim:Int}{H:Hp}{b f:Addr}{L:List (List Int)}{c:List (List Int×V)}{a:List Int->Prop}{H' d:Hp}{F:List (List Int×V)}{zs:List V}(N:NL n r hs lim H b f L c a H' F zs)(s:Same H' d):NL n r hs lim H b f L c a d F zs :=
 ⟨N.sx.trans s.x,s _ _ N.hf,s.tups N.tu,s _ _ N.hd,N.nd,N.mem,fun e g=>let⟨x,h,m,i,p,j,k,l,o⟩:=N.row e g;⟨x,h,m,i,p,j,s _ _ k,l,o⟩⟩
theorem NL.iff {n r:Int}{hs:List Int}{lim:Int}{H:Hp}{c f:Addr}{L:List (List Int)}{d:List (List Int×V)}{b a:List Int->Prop}{H':Hp}{F:List (List Int×V)}{zs:List V}(N:NL n r hs lim H c f L d b H' F zs)(h:∀y,b y↔a y):NL n r hs lim H c f L d a H' F zs :=
 ⟨N.sx,N.hf,N.tu,N.hd,N.nd,fun y=>by rw[N.mem,h],N.row⟩
theorem NL.add {n r:Int}{hs:List Int}{lim:Int}{H:Hp}{g f:Addr}{L:List (List Int)}{d:List (List Int×V)}{v:List Int->Prop}{H':Hp}{F:List (List Int×V)}{zs:List V}(N:NL n r hs lim H g f L d v H' F zs)(C:H f=none)
   {x:List Int} {m l:Addr} {i:Nat} {p:Int} (D:x∈L) (E:zs1 H' x m (i,p)) (G:Lets n r hs lim x i p) (I:H' l=some (.tup ((x.set i p).map V.int))) (s:x.set i p∉(d++F).map (·.1)) :
   NL n r hs lim H g f L d (fun y=>v y\/y=x.set i p) (upd (upd H' g (.dT (putK (dOf (d++F)) (ik (x.set i p)) (.ref m)))) f (.lst (zs++[.ref l]))) (F++[(x.set i p,.ref m)]) (zs++[.ref l]):=by
 have w:f≠g:=fun z=>by have:=N.hf;rw[z,N.hd] at this;cases this
 have q:∀ {b:Addr} {t:List V},H' b=some (.tup t)->(upd (upd H' g (.dT (putK (dOf (d++F)) (ik (x.set i p)) (.ref m)))) f (.lst (zs++[.ref l]))) b=some (.tup t):=fun {b t} c=>by
   rw[za7 (fun z=>by have:=N.hf;rw[<-z,c] at this;cases this),za7 (fun z=>by have:=N.hd;rw[<-z,c] at this;cases this)];exact c
 refine⟨N.sx.updX.put C,za3,?_,?_,?_,fun y=>?_,fun e j=>?_⟩
 . rw[Qm]
   exact zr0 (Paired.mapP N.tu fun y k ⟨b,e,c⟩=>⟨b,e,q c⟩) (q I)
 . rw[za7 (Ne.symm w),za3,yl9 _ s,Zc]
 . rw[<-Zc,Qm]
   exact List.nodup_append.mpr ⟨N.nd,by simp,fun a J b c=>by
     obtain rfl:b=x.set i p:=by simpa using c
     exact fun z=>s (z▸J)⟩
 . rw[Qm,Qt,N.mem]
   have A:x.set i p∉d.map (·.1):=fun z=>s (by rw[Qm];exact Zo _ z)
   constructor
   . rintro(⟨u,o⟩ | h)
     . exact⟨u,.inl o⟩
     . obtain rfl:y=x.set i p:=by simpa using h
       exact⟨A,.inr rfl⟩
   . rintro⟨u,o | o⟩
     . exact .inl ⟨u,o⟩
     . exact .inr (by simp[o])
 . rcases Qt.mp j with j | j
   . obtain⟨K,B,M,O,P,Q,R,S,T⟩:=N.row e j
     exact⟨K,B,M,O,P,Q,q R,S,T⟩
   . obtain rfl:e=(x.set i p,.ref m):=by simpa using j
     exact⟨x,D,m,i,p,rfl,q E,G,rfl⟩
inductive zD1 (K:W.Frag)(t:Adr)(vs:List V)(H:Hp)(Q:VK)(E:XK):Prop
 | mk (b l ld:Addr)(n r lim:Int)(hs:List Int)(L:List (List Int))(ys:List V)(kv:List (List Int×V))(h0:vs=[.ref b,.ref l,.ref ld])(h1:zd7 t H b n r hs lim)(h2:H l=some (.lst ys))(h3:Tups H ys L)(h4:(∀x∈L,zc6 n r hs.length x))(h5:H ld=some (.dT (dOf kv)))(h6:(kv.map (·.1)).Nodup)(h7:(∀x∈kv.map (·.1),zc6 n r hs.length x))(h8:∀l' H' zs G F,zg6 ld H H'->H l'=none->H' l'=some (.lst zs)->Tups H' zs G->G.Perm (F.map (·.1))->G.Pairwise (fun x y=>Sx.lexB x y=true)->H' ld=some (.dT (dOf (kv++F)))->((kv++F).map (·.1)).Nodup->(∀y,y∈F.map (·.1)↔y∉kv.map (·.1)/\∃x∈L,y∈nbs n r hs lim x)->(∀e∈F,yq9 n r hs lim L H' e)->Q (.ref l') H'):zD1 K t vs H Q E
def sp_next_layer (K:W.Frag)(t:Adr):Sp:=fun vs H Q E=>zD1 K t vs H Q E
theorem ok_next_layer (T:Txt K mg t):FnOk P w K mg base CX0 7 t.aZ t.a0 PP (sp_next_layer K t):=by
 refine T.bg.F.ok zl6 (fun vs H b3 b4 h=>?_) (fun b7 bb b5 a0 H vs b3 b4 hr h=>?_)
 . obtain⟨b,l,g,n,r,o,p,L,ys,B,rfl,a1,X,hT,hV,G,nd,ag,ar⟩:=h
   rfl
 . obtain⟨b,l,g,n,r,o,p,L,ys,B,rfl,a1,X,hT,hV,G,nd,ag,ar⟩:=h
   refine⟨_,(za2 (zb4 (i:=3) zl6.nd rfl (Or.inl rfl) (ze8 za1))
     (za2 (zh7 PassesOwn.never rfl (zj2 P1) (zc5 (i:=4) zl6.nd rfl (Or.inl rfl)) (za5 (zh7 PassesOwn.never rfl (zj2 (za6 (ye2 T) hr.m T.bt zb3 (za0 P0 (za0 (pv 4) za1)))) (zc5 (i:=5) zl6.nd rfl (Or.inl rfl)) (za2 (zb4 (i:=6) zl6.nd rfl (Or.inl rfl) (za6 (zr1 T) hr.m T.ay zb3 (za0 (pv 4) (za0 (pv 5) za1))))
     (za5 (zc8 (zM4 (zq8 (zi0 hr) P6 P2)) (za2 (yj5 (zi0 hr) P2 P6 (pv 5) rfl)
     (za5 (ze7 (zr4 QE QV QU zh0 P3 (za0 P6 za1))))) zb6))))))
     (za5 (zb7 (zb0 call_sortL rfl T.aH ZH (za0 P3 za1)))))),?_⟩
   refine cut3 ?_;intro b8 b9;refine⟨QD _,fun f ff=>?_⟩;have ac:∀ {k:Hp} {F:List (List Int×V)} {u:List V} {ad:List Int->Prop},NL n r p o H g f L B ad k F u->(B++F).length<=1000/\u.length<=1000:=fun {k F u ad} a2=>by
     have d:=few a1.1 a2.nd fun x I=>by
       rw[Qm] at I;rcases Qt.mp I with z | z
       . exact ag x z
       . obtain⟨e,Y,rfl⟩:=QA.mp z
         obtain⟨J,ah,m',i',p',_,_,L',e4⟩:=a2.row e Y;rw[e4];exact L'.valid (hV J ah)
     have q:=ze6 a2.tu;rw[Qb] at d q;rw[Qq] at d ⊢;omega
   have N0:NL n r p o H g f L B (fun y=>∃x∈L.take 0,y∈nbs n r p o x) (upd H f (.lst [])) [] [] :=
     ⟨(Same.upd ff).x,za3,.nil,by rw[za7 (zb2 G ff),Zz];exact G,by rw[Zz];exact nd,fun y=>⟨(fun z=>nomatch z),fun⟨_,x,I,_⟩=>nomatch I⟩,fun e Y=>nomatch Y⟩
   have ba:∀ {c:Addr} {a6:HO},H c=some a6->c≠f:=fun e=>zb2 e ff
   have ax:b≠g:=fun z=>by obtain⟨_,_,_,hb,_⟩:=a1;rw[z,G] at hb;cases hb
   have ai:l≠g:=fun z=>by rw[z,G] at X;cases X
   have av:∀ {k:Hp},zg6 g H k->zd7 t k b n r p o:=fun {k} a0=>by
     obtain⟨ok,dx,h,hb,U⟩:=a1;exact⟨ok,dx,h,a0 _ _ hb ax,a0 _ _ U (fun z=>by rw[z,G] at U;cases U)⟩
   have aw:∀ {k:Hp} {c:Addr} {us:List V},zg6 g H k->H c=some (.tup us)->k c=some (.tup us):=fun a0 e=>a0 _ _ e (fun z=>by rw[z,G] at e;cases e)
   revert N0;generalize upd H f (.lst [])=H1;intro N0;refine⟨_,rfl,l,rfl,⟨_,SqL.of (N0.sx _ _ X ai)⟩,zl4 (K:=K) (a:=l) (xs:=ys) (fun i C k=>X5 fun v4 D E F u=>A2 (C=[some (.ref b),some (.ref l),some (.ref g),some (.ref f),v4,D,E]) (NL n r p o H g f L B (fun y=>∃x∈L.take i,y∈nbs n r p o x) k F u)) ⟨none,none,none,[],[],rfl,N0⟩ (fun i C k _ ⟨_,_,_,_,_,_,a2⟩=>SqL.of (a2.sx _ _ X ai)) ?_ ?_⟩
   . rintro i y C H2 hi ⟨v4,D,E,F,u,rfl,v⟩
     obtain⟨st,x,rfl,I,ay⟩:=zo8 hT hi;have aj:x∈L:=QG I;have Vx:=hV x aj;have ae:=aw v.sx ay;have b6:x.length<=5:=by have:=Vx.len;have:=a1.1.w;omega
     have az:L.take (i+1)=L.take i++[x]:=by rw[QX,I];rfl
     refine⟨_,rfl,_,rfl,b,st,n,r,o,p,x,rfl,av v.sx,Vx,.inr ae,fun Z M H3 s3 b0 ak R3=>?_⟩;have N:=v.step s3;have al:∀m∈zl7 n r p o x x.length,Lets n r p o x m.1 m.2:=fun m hm=>(zv5.mp hm).2
     have a8:∀y,y∈nbs n r p o x↔∃m∈zl7 n r p o x x.length,y=x.set m.1 m.2:=fun y=>by
       unfold nbs;rw[QA];exact⟨fun⟨m,d,q⟩=>⟨m,d,q.symm⟩,fun⟨m,d,q⟩=>⟨m,d,q.symm⟩⟩
     generalize zl7 n r p o x x.length=A at R3 al a8;refine⟨Z,rfl,⟨_,SqL.of ak⟩,zl4 (K:=K) (a:=Z) (xs:=M.map V.ref) (fun j C k=>X4 fun D E F u=>A5 (C=[some (.ref b),some (.ref l),some (.ref g),some (.ref f),some (.ref st),D,E]) (NL n r p o H g f L B (fun y=>(∃x∈L.take i,y∈nbs n r p o x)\/∃m∈A.take j,y=x.set m.1 m.2) k F u) (k Z=some (.lst (M.map V.ref))) (Rows k x M A) (k st=some (.tup (x.map V.int)))) ⟨D,E,F,u,rfl,N.iff fun y=>⟨.inl,fun z=>z.elim id fun⟨m,hm,_⟩=>nomatch hm⟩,ak,R3,s3 _ _ ae⟩ (fun j C k _ ⟨_,_,_,_,_,_,h,_,_⟩=>SqL.of h) ?_ ?_⟩
     . rintro j y C H4 hj ⟨D,E,F,u,rfl,O,a3,Q,S⟩
       have a9:j<M.length:=by
         have:=(Qw.mp hj).1;simpa using this
       have aa:j<A.length:=by rw[<-Q.1];exact a9
       obtain rfl:y = .ref M[j]:=by
         rw[QP,Qe a9] at hj;exact(Qo hj).symm
       have a4:=Q.2 j M[j] A[j] (Qe a9) (Qe aa);have ab:=al A[j] (ZA aa);have am:A.take (j+1)=A.take j++[A[j]]:=by rw[QX,Qe aa];rfl
       generalize M[j]=ma at a4;generalize A[j]=m at a4 ab am;obtain⟨R,mp⟩:=m;refine⟨_,rfl,_,rfl,st,ma,_,_,mp,R,x,rfl,S,.inr (SqT.of a4),⟨rfl,ab.lt,by omega⟩,fun l5 H5 W h5=>?_⟩;have s:=O.step W;have af:∀y,((∃x∈L.take i,y∈nbs n r p o x)\/∃m∈A.take (j+1),y=x.set m.1 m.2)↔((∃x∈L.take i,y∈nbs n r p o x)\/∃m∈A.take j,y=x.set m.1 m.2)\/y=x.set R mp:=fun y=>by
         rw[am];simp only[Qt,QM];constructor
         . rintro(z | ⟨m,z | z,e⟩)
           . exact .inl (.inl z)
           . exact .inl (.inr ⟨m,z,e⟩)
           . exact .inr (by rw[e,z])
         . rintro((z | ⟨m,z,e⟩) | z)
           . exact .inl z
           . exact .inr ⟨m,.inl z,e⟩
           . exact .inr ⟨(R,mp),.inr rfl,z⟩
       refine⟨_,rfl,_,rfl,g,_,rfl,dget s.hd h5,_,rfl,?_⟩;rw[zx4 s.nd];refine ite2 (fun d=>?_) (fun d=>?_)
       . have hy:x.set R mp∉(B++F).map (·.1):=fun z=>by rw[Qf z] at d;cases d
         refine⟨_,rfl,_,rfl,_,rfl,g,_,rfl,dput s.hd h5 (ac s).1,?_⟩;have b1:f≠g:=fun z=>by have:=s.hf;rw[z,s.hd] at this;cases this
         have an:(upd H5 g (.dT (putK (dOf (B++F)) (ik (x.set R mp)) (.ref ma)))) f=some (.lst u):=by rw[za7 b1];exact s.hf
         have N6:=(s.add ff aj (W _ _ a4) ab h5 hy).iff fun y=>(af y).symm
         have a7:∀ {c:Addr} {a6:HO},H4 c=some a6->c≠g->c≠f->(upd (upd H5 g (.dT (putK (dOf (B++F)) (ik (x.set R mp)) (.ref ma)))) f (.lst (u++[.ref l5]))) c=some a6:=fun e e1 e2=>by rw[za7 e2,za7 e1];exact W _ _ e
         have a5:∀ {c:Addr} {us:List V},H4 c=some (.tup us)->c≠g/\c≠f:=fun e=>⟨fun z=>(by have:=O.hd;rw[<-z,e] at this;cases this),fun z=>(by have:=O.hf;rw[<-z,e] at this;cases this)⟩
         have ao:Z≠g/\Z≠f:=⟨fun z=>(by have:=O.hd;rw[<-z,a3] at this;cases this),fun z=>(by have U:=v.hf;rw[<-z,b0] at U;cases U)⟩;refine⟨_,rfl,.inl ⟨rfl,_,SqL.of an⟩,_,rfl,f,_,_,rfl,rfl,an,zc3 (ac s).2,?_⟩;exact⟨_,_,_,_,rfl,N6,a7 a3 ao.1 ao.2,⟨Q.1,fun au a m' e1 e2=>by
           have:=Q.2 au a m' e1 e2;exact a7 this (a5 this).1 (a5 this).2⟩,a7 S (a5 S).1 (a5 S).2⟩
       . have hy:x.set R mp∈(B++F).map (·.1):=Classical.byContradiction fun z=>d (by rw[Qg z];rfl)
         refine⟨_,_,_,_,rfl,⟨s.sx,s.hf,s.tu,s.hd,s.nd,fun y=>?_,s.row⟩,W _ _ a3,Q.same W,W _ _ S⟩;rw[s.mem,af];constructor
         . rintro⟨d,q⟩;exact⟨d,.inl q⟩
         . rintro⟨d,q | q⟩
           . exact⟨d,q⟩
           . rw[Qm] at hy
             rcases Qt.mp hy with z | z
             . exact absurd (q▸z) d
             . rw[q];exact(s.mem _).mp z
     . rintro C H4 ⟨D,E,F,u,rfl,O,a3,Q,S⟩
       rw[Qb,Q.1,QS] at O;refine⟨_,_,_,F,u,rfl,O.iff fun y=>?_⟩;rw[az];simp only[Qt,QM];constructor
       . rintro(⟨J,d,q⟩ | z)
         . exact⟨J,.inl d,q⟩
         . exact⟨x,.inr rfl,(a8 y).mpr z⟩
       . rintro⟨J,d | d,q⟩
         . exact .inl ⟨J,d,q⟩
         . exact .inr ((a8 y).mp (d▸q))
   . rintro C H2 ⟨v4,D,E,F,u,rfl,v⟩
     rw[ze6 hT,QS] at v;refine⟨_,rfl,f,_,_,rfl,SqL.of v.hf,v.tu,?_,fun _ au hk=>?_,fun l' ap js aq ht hp b2=>?_⟩
     . have:=v.nd
       rw[Qm] at this;exact(List.nodup_append.mp this).2.1
     . obtain⟨e,Y,rfl⟩:=QA.mp hk
       obtain⟨J,ah,m',i',p',_,_,L',e4⟩:=v.row e Y;rw[e4];intro z;have h0:(J.set i' p').length=0:=by rw[z];rfl
       rw[Zj] at h0;have:=L'.lt;omega
     . have sd:Same H2 (upd H2 l' (.lst ap)):=Same.upd aq
       have N:=v.step sd;exact ar l' _ ap js F N.sx (v.sx.free aq (by rw[v.hd];exact fun z=>nomatch z)) za3 (sd.tups ht) hp b2 N.hd N.nd N.mem N.row
end
section
variable {P:Program} {w:World} {K:W.Frag} {mg:Str->Option Value} {base:Heap} {t:Adr}
def zV5 (n r:Int)(hs:List Int)(lim:Int)(s:List Int)(H:Hp)(e:List Int×V):Prop :=
 (e.1=s/\e.2 = .non)\/∃y d m i p,e.2 = .ref m/\zs1 H y m (i,p)/\Lets n r hs lim y i p/\e.1=y.set i p/\Dst n r hs lim s d y/\Dst n r hs lim s (d+1) e.1
theorem zV5.same {n r:Int}{hs:List Int}{lim:Int}{s:List Int}{H H':Hp}{e:List Int×V}(h:zV5 n r hs lim s H e)(k:∀b a,H b=some (.tup a)->H' b=some (.tup a)):zV5 n r hs lim s H' e:=by
 rcases h with h | ⟨y,d,m,i,p,c,f,g⟩
 . exact .inl h
 . exact .inr ⟨y,d,m,i,p,c,k _ _ f,g⟩
inductive zV6 (K:W.Frag)(t:Adr)(vs:List V)(H:Hp)(Q:VK)(E:XK):Prop
 | mk (g ld:Addr)(n r lim:Int)(hs s x:List Int)(d:Nat)(kv:List (List Int×V))(h0:vs=[.ref g,.ref ld])(h1:H g=some (.tup (x.map V.int)))(h2:H ld=some (.dT (dOf kv)))(h3:(kv.map (·.1)).Nodup)(h4:(∀e∈kv,zV5 n r hs lim s H e))(h5:Dst n r hs lim s d x)(h6:(∀j y,j<=d->Dst n r hs lim s j y->y∈kv.map (·.1)))(h7:zc6 n r hs.length s)(h8:hs.length<=5)(h9:d<=1000)(h10:∀l H' rs ms,Same H H'->H l=none->H' l=some (.lst (rs.map V.ref))->zi1 H' s rs ms->Goes n r hs lim s ms x->ms.length=d->Q (.ref l) H'):zV6 K t vs H Q E
def sp_row_to (K:W.Frag)(t:Adr):Sp:=fun vs H Q E=>zV6 K t vs H Q E
theorem ok_row_to (T:Txt K mg t):FnOk P w K mg base CX0 2 t.bB t.bC PR (sp_row_to K t):=by
 refine T.bH.F.ok zB6 (fun vs a0 ae af a2=>?_) (fun ai ap ah s a0 vs ae af r a2=>?_)
 . obtain⟨a3,h,a4,a5,S,I,s,x,d,kv,rfl,X,hd,Y,a6,hx,a7,V0,hw,ab,a9⟩:=a2
   rfl
 . obtain⟨a3,h,a4,a5,S,I,s,x,d,kv,rfl,X,hd,Y,a6,hx,a7,V0,hw,ab,a9⟩:=a2
   refine⟨_,(za2 (zb4 (i:=2) zB6.nd rfl (Or.inl rfl) (ze8 za1))
     (za2 (zb4 (i:=3) zB6.nd rfl (Or.inl rfl) P0)
     (za2 (zE8 PassesOwn.never (zc2 zX8 (zo6 (zi0 r) P1 P3 (fun _ _=>rfl)) zr3 (zc1 _)) (za2 (ze7 (zr4 QE QV QU zh0 P2 (za0 (zo6 (zi0 r) P1 P3 (fun _ _=>rfl)) za1)))
     (za5 (zb4 (i:=3) zB6.nd rfl (Or.inl rfl) (za6 (zr1 T) r.m T.ay zb3 (za0 P3 (za0 (za6 (zV1 T) r.m T.be zb3 (za0 (zo6 (zi0 r) P1 P3 (fun _ _=>rfl)) za1)) za1)))))))
     (za2 (ze7 (zY1 QE PySem.F.slot_list_reverse PySem.F.type_list_reverse mt_reverse P2))
     (za5 (zb7 P2)))))),?_⟩
   refine cut5 ?_;intro aj ak al am;refine⟨QD _,fun e o=>?_⟩;refine⟨_,rfl,?_⟩
   refine zE9 (fun Q a=>∃(u:Addr) (z:List Int) (c:List Addr) (k:List (Nat×Int)) (j:Nat),Q=[some (.ref a3),some (.ref h),some (.ref e),some (.ref u)]/\Same a0 a/\a e=some (.lst (c.map V.ref))/\a u=some (.tup (z.map V.int))/\zi1 a z c.reverse k/\Goes a4 a5 I S z k x/\Dst a4 a5 I S s j z/\j+k.length=d)
     (fun Q a=>match a e with | some (.lst J)=>d-J.length | _=>0) ⟨a3,x,[],[],d,rfl,Same.upd o,za3,by rw[za7 (zb2 X o)];exact X,trivial,rfl,hx,rfl⟩ ?_ ?_
   . rintro Q a ⟨u,z,c,k,j,rfl,L,f,M,Z,h4,h5,h6⟩
     have ac:=a7 j z (by omega) h5;obtain⟨⟨l,v⟩,he,rfl⟩:=QA.mp ac;have G:=L _ _ hd;have g1:∀ {g:Hp} {b:Addr},Same a g->g b=some (.tup (l.map V.int))->DGet g h (.ref b) (some v):=fun {g b} A B=>by
       have:=dget (A _ _ G) B;rw[zn1 Y he] at this;exact this
     refine⟨_,rfl,_,rfl,h,v,rfl,g1 (Same.refl _) M,rfl,_,rfl,?_⟩;rcases a6 _ he with⟨n,C⟩ | ⟨y,d',m,i,p,n,C,D,e4,N,e6⟩
     . obtain rfl:v = .non:=C
       refine iteF ?_;have hj:j=0:=h5.uniq (by rw[show l=s from n];exact Dst.zero);obtain rfl:l=s:=n;refine⟨_,rfl,.inl ⟨rfl,_,SqL.of f⟩,e,_,rfl,rfl,f,?_⟩;refine⟨_,rfl,a9 e _ c.reverse k (L.put o) o ?_ ?_ h4 (by omega)⟩
       . rw[za3,List.map_reverse]
       . exact zi1.keepL f Z
     . have hv:v = .ref m:=n
       subst hv;refine iteT ?_;have E:l=y.set i p:=e4;have ej:j=d'+1:=h5.uniq e6;have aa:=L _ _ C;have an:c.length=k.length:=by rw[<-List.length_reverse];exact Z.len
       have Vy:=N.1.valid V0;have ao:y.length=I.length:=Vy.len;refine⟨_,rfl,.inl ⟨rfl,_,SqL.of f⟩,_,rfl,_,rfl,h,_,rfl,g1 (Same.refl _) M,e,_,_,rfl,rfl,f,zc3 (by rw[Qb];omega),?_⟩;have k2:∀ {b:Addr} {J:List V},a b=some (.tup J)->(upd a e (.lst (c.map V.ref++[.ref m]))) b=some (.tup J):=fun B=>by rw[za7 (fun z=>by rw[z,f] at B;cases B)];exact B
       have U:(upd a e (.lst (c.map V.ref++[.ref m]))) h=some (.dT (dOf kv)):=by rw[za7 (fun z=>by rw[z,f] at G;cases G)];exact G
       have g2:DGet (upd a e (.lst (c.map V.ref++[.ref m]))) h (.ref u) (some (.ref m)):=by
         have:=dget U (k2 M);rw[zn1 Y he] at this;exact this
       have H:(upd a e (.lst (c.map V.ref++[.ref m]))) e=some (.lst ((c++[m]).map V.ref)):=by rw[za3,Qm];rfl
       have R2:zi1 (upd a e (.lst (c.map V.ref++[.ref m]))) l c.reverse k:=zi1.keepL f Z;have A:Same a0 (upd a e (.lst (c.map V.ref++[.ref m]))):=L.put o;have R:=k2 M;have F:=k2 aa;revert g2 H R2 A R F U;generalize upd a e (.lst (c.map V.ref++[.ref m]))=g;intro U g2 H R2 A R F;refine⟨_,rfl,_,rfl,_,rfl,h,_,rfl,g2,m,_,_,_,rfl,.inr (SqT.of F),fun lt ad=>?_⟩;have O:Same g (upd g lt (.tup [.int ((i:Int)+1),.int p,.int (y.getD i 0)])):=Same.upd ad;have W:(upd g lt (.tup [.int ((i:Int)+1),.int p,.int (y.getD i 0)])) lt=some (.tup [.int ((i:Int)+1),.int p,.int (y.getD i 0)]):=za3;dsimp only;revert O W;generalize upd g lt (.tup [.int ((i:Int)+1),.int p,.int (y.getD i 0)])=H3;intro O W;refine⟨u,lt,_,_,y.getD i 0,i,l,rfl,O _ _ R,.inr (SqT.of W),⟨rfl,by rw[E,Zj];exact D.lt,by rw[E,Zj];omega⟩,fun l4 H4 s4 a8=>?_⟩;have ey:l.set i (y.getD i 0)=y:=by rw[E];exact set_back p D.lt
       rw[ey] at a8;have q:=O.trans s4;refine⟨⟨l4,y,c++[m],(i,p)::k,d',rfl,A.trans q,q _ _ H,a8,?_,⟨D,by rw[<-E];exact h4⟩,N,by simp;omega⟩,?_⟩
       . rw[List.reverse_append]
         refine⟨q _ _ F,?_⟩;rw[<-E];exact R2.same q
       . rw[q _ _ H,f]
         simp;omega
   . rintro Q a Q1 Q2 hQ ⟨_,n,_,C,a1,v1,D,e4,N,ag,e6,e7⟩
     exact⟨_,n,_,C,a1,v1,D,e4,N,ag,e6,hQ _ _ e7⟩
noncomputable def wsOf (ms:List (Nat×Int)):List Int:=ms.map fun m=>(m.1:Int)+1
inductive zA4 (K:W.Frag)(t:Adr)(vs:List V)(H:Hp)(Q:VK)(E:XK):Prop
 | mk (rw_:Addr)(x:List Int)(rs:List Addr)(ms:List (Nat×Int))(h0:vs=[.ref rw_])(h1:H rw_=some (.lst (rs.map V.ref)))(h2:zi1 H x rs ms)(h3:(∀m∈ms,m.1<5))(h4:ms.length<=1000)(h5:∀(l:Addr) (H':Hp) (ag:List Int),Same H H'->H l=none->H' l=some (.lst (ag.map V.int))->ag.Pairwise (· < ·)->(∀k,k∈ag↔k∈wsOf ms/\1<(wsOf ms).count k)->Q (.ref l) H'):zA4 K t vs H Q E
def sp_moved_again (K:W.Frag)(t:Adr):Sp:=fun vs H Q E=>zA4 K t vs H Q E
theorem zi1.at_ {H:Hp}:∀ {x:List Int} {c:List Addr} {d:List (Nat×Int)},zi1 H x c d->∀ {j:Nat} {a:Addr},c[j]?=some a->∃m u v,d[j]?=some m/\H a=some (.tup [.int ((m.1:Int)+1),u,v])
 | _,[],[],_,j,a,h=>by simp at h
 | _,[],_::_,h,_,_,_=>h.elim
 | _,_::_,[],h,_,_,_=>h.elim
 | x,b::c,m::d,h,0,a,e=>by
   have f:some b=some a:=e;obtain rfl:=Qo f;exact⟨m,_,_,rfl,h.1⟩
 | x,b::c,m::d,h,j+1,a,e=>by
   obtain⟨g,u,v,i,k⟩:=zi1.at_ h.2 (j:=j) (a:=a) (by simpa using e);exact⟨g,u,v,by simpa using i,k⟩
theorem ok_moved_again (T:Txt K mg t):FnOk P w K mg base CX0 1 t.aN t.aO ["row"] (sp_moved_again K t):=by
 refine T.ba.F.ok zz9 (fun vs H a1 E h=>?_) (fun a7 a9 a6 aa H vs a1 E hr h=>?_)
 . obtain⟨A,x,l,c,rfl,o,B,M,X,q⟩:=h
   rfl
 . obtain⟨A,x,l,c,rfl,o,B,M,X,q⟩:=h
   refine⟨_,(za2 (zb4 (i:=1) zz9.nd rfl (Or.inr rfl) (zs8 rfl zu8 (zj2 P0) (fun _ _ _ _ _=>(zc5 (i:=0) zu8.nd rfl (Or.inl rfl))) (fun _ _ _ _ _=>zr5) (fun _ _ _ _ _=>(zc9 (zF2 K rfl) P0 za4 (fun _ _=>rfl)))))
     (za5 (zb7 (zb0 (call_sortS rfl) rfl T.aH ZH (za0 (zi5 (call_setI rfl) rfl T.cr PyProof.Rows.boot_set (za0 (zs8 rfl zu9 (zj2 P1) (fun _ _ _ _ _=>(zc5 (i:=0) zu9.nd rfl (Or.inl rfl))) (fun _ _ _ _ _=>(zy6 (zc2 zy3 (yq3 K rfl QE PySem.F.slot_list_count PySem.F.type_list_count (zN4 K rfl) P1 (za0 P0 za1)) za4 (zc1 _)))) (fun _ _ _ _ _=>P0)) za1)) za1))))),?_⟩
   have W:=B.len;refine⟨_,rfl,A,rfl,⟨_,SqL.of o⟩,fun D C=>?_⟩;refine zr6 (K:=K) (a:=A) (xs:=l.map V.ref) (fun j d=>d=upd H D (.lst ((wsOf (c.take j)).map V.int))) rfl (fun j d e=>by rw[e];exact SqL.of (by rw[za7 (zb2 o C)];exact o)) ?_ ?_
   . rintro j v d a2 n rfl r
     have J:j<l.length:=by
       have:=(Qw.mp n).1;simpa using this
     obtain rfl:v = .ref l[j]:=by
       rw[QP,Qe J] at n;exact(Qo n).symm
     obtain⟨m,a3,w',e1,N⟩:=B.at_ (Qe J);have p:c.take (j+1)=c.take j++[m]:=by rw[QX,e1];rfl
     have Y:(upd H D (.lst ((wsOf (c.take j)).map V.int))) l[j]=some (.tup [.int ((m.1:Int)+1),a3,w']):=by rw[za7 (zb2 N C)];exact N
     dsimp only[zy5];refine iteT ?_;refine⟨_,rfl,_,_,_,_,rfl,rfl,SqT.of Y,rfl,_,za3,zc3 (by unfold wsOf;rw[Qb,Qb,Zb];omega),r _ ?_⟩;rw[zg1,p];unfold wsOf;rw[Qm,Qm];rfl
   . rintro d rfl
     rw[Qb,W,QS];have s:Same H (upd H D (.lst ((wsOf c).map V.int))):=Same.upd C;have f:(upd H D (.lst ((wsOf c).map V.int))) D=some (.lst ((wsOf c).map V.int)):=za3;have Z:∀k∈wsOf c,1<=k/\k<=5:=fun k u=>by
       unfold wsOf at u;obtain⟨m,hm,rfl⟩:=QA.mp u;have:=M m hm;omega
     have a8:(wsOf c).length<=1000:=by unfold wsOf;rw[Qb];omega
     generalize wsOf c=b at *;revert s f;generalize upd H D (.lst (b.map V.int))=g;intro s f;refine⟨_,rfl,D,rfl,⟨_,SqL.of f⟩,fun E F=>?_⟩;refine zr6 (K:=K) (a:=D) (xs:=b.map V.int) (fun j d=>d=upd g E (.lst (((b.take j).filter fun k=>decide (1<b.count k)).map V.int))) rfl (fun j d e=>by rw[e];exact SqL.of (by rw[za7 (zb2 f F)];exact f)) ?_ ?_
     . rintro j v d a2 n rfl r
       obtain⟨z,rfl,hz⟩:=int_at n;have p:b.take (j+1)=b.take j++[z]:=by rw[QX,hz];rfl
       have L:(upd g E (.lst (((b.take j).filter fun k=>decide (1<b.count k)).map V.int))) D=some (.lst (b.map V.int)):=by rw[za7 (zb2 f F)];exact f
       refine⟨_,rfl,.inl ⟨rfl,_,SqL.of L⟩,_,rfl,D,b,z,rfl,rfl,SqL.of L,_,_,rfl,rfl,_,rfl,?_⟩;have ec:decide ((1:Int)<(b.count z:Int))=decide (1<b.count z):=by
         by_cases h:1<b.count z
         . rw[Qf h,Qf (by omega)]
         . rw[Qg h,Qg (by omega)]
       rw[ec];refine ite2 (fun G=>?_) (fun G=>?_)
       . refine⟨_,rfl,_,za3,zc3 (by rw[Qb];exact QK (ZB _ _) (by rw[Zb];omega)),r _ ?_⟩
         rw[zg1,p,ZD,Qm];simp[G]
       . refine r _ ?_
         rw[p,ZD,Qm];simp[G]
     . rintro d rfl
       rw[Qb,QS];have y:Same g (upd g E (.lst ((b.filter fun k=>decide (1<b.count k)).map V.int))):=Same.upd F;have I:(upd g E (.lst ((b.filter fun k=>decide (1<b.count k)).map V.int))) E=some (.lst ((b.filter fun k=>decide (1<b.count k)).map V.int)):=za3;revert y I;generalize upd g E (.lst ((b.filter fun k=>decide (1<b.count k)).map V.int))=O;intro y I;refine⟨E,_,rfl,SqL.of I,fun k u=>Z k (ZJ.mp u).1,fun S Q fS a0 up=>?_⟩;have R:∀ {a4:HO},Same O (upd O S a4):=Same.upd fS;refine⟨S,Q,rfl,za3,fun a5 U=>?_⟩;refine q a5 _ Q (((s.trans y).trans R).updT U) ?_ za3 up fun k=>?_
       . exact((s.trans y).trans R).free U
       . rw[a0,ZJ,decide_eq_true_eq]
end
section
variable {P:Program} {w:World} {K:W.Frag} {mg:Str->Option Value} {base:Heap} {t:Adr}
noncomputable def zs3 (v1 v2 v3 v4 v5 v6:V):List (Str×V):=putF "shut" v6 (putF "again" v5 (putF "layers" v4 (putF "row" v3 (putF "many" v2 (putF "reached" v1 [])))))
theorem zh9 (a b c d e f:V):(zs3 a b c d e f).lookup ("reached" : Str)=some a:=by
 unfold zs3;rw[zb1,Qh (by decide +kernel),zb1,Qh (by decide +kernel),zb1,Qh (by decide +kernel),zb1,Qh (by decide +kernel),zb1,Qh (by decide +kernel),zb1,Ql rfl]
theorem zM2 (b a c d e f:V):(zs3 b a c d e f).lookup ("many" : Str)=some a:=by
 unfold zs3;rw[zb1,Qh (by decide +kernel),zb1,Qh (by decide +kernel),zb1,Qh (by decide +kernel),zb1,Qh (by decide +kernel),zb1,Ql rfl]
theorem zE6 (b c a d e f:V):(zs3 b c a d e f).lookup ("row" : Str)=some a:=by
 unfold zs3;rw[zb1,Qh (by decide +kernel),zb1,Qh (by decide +kernel),zb1,Qh (by decide +kernel),zb1,Ql rfl]
theorem zK0 (b c d a e f:V):(zs3 b c d a e f).lookup ("layers" : Str)=some a:=by
 unfold zs3;rw[zb1,Qh (by decide +kernel),zb1,Qh (by decide +kernel),zb1,Ql rfl]
theorem ye6 (b c d e a f:V):(zs3 b c d e a f).lookup ("again" : Str)=some a:=by
 unfold zs3;rw[zb1,Qh (by decide +kernel),zb1,Ql rfl]
theorem ym0 (b c d e f a:V):(zs3 b c d e f a).lookup ("shut" : Str)=some a:=by
 unfold zs3;rw[zb1,Ql rfl]
inductive zK6 (K:W.Frag)(t:Adr)(vs:List V)(H:Hp)(Q:VK)(E:XK):Prop
 | mk (p dx:Addr)(v1 v2 v3 v4 v5 v6:V)(h0:vs=[.ref p,v1,v2,v3,v4,v5,v6])(h1:H p=some (.ins t.ac dx []))(h2:∀H',H' p=some (.ins t.ac dx (zs3 v1 v2 v3 v4 v5 v6))->zg6 p H H'->Q .non H'):zK6 K t vs H Q E
def sp_Way_init (K:W.Frag)(t:Adr):Sp:=fun vs H Q E=>zK6 K t vs H Q E
theorem zK7 (T:Txt K mg t):FnOk P w K mg base CX0 1 t.aA t.bf Pw (sp_Way_init K t):=by
 refine T.a0.F.ok sc_Way_init (fun f H Q E h=>?_) (fun r A n s H f Q E B h=>?_)
 . obtain⟨p,a,g,i,j,k,l,m,rfl,d,q⟩:=h
   rfl
 . obtain⟨p,a,g,i,j,k,l,m,rfl,d,q⟩:=h
   refine⟨_,(za2 (zj3 P0 P1 rfl)
     (za2 (zj3 P0 P2 rfl)
     (za2 (zj3 P0 P3 rfl)
     (za2 (zj3 P0 (pv 4) rfl)
     (za2 (zj3 P0 (pv 5) rfl)
     (za5 (zj3 P0 P6 rfl))))))),?_⟩
   refine cut6 ?_;intro u v x y z;refine⟨_,rfl,_,rfl,p,_,a,_,rfl,d,T.aa,T.ag,by decide,?_⟩;refine⟨_,rfl,_,rfl,p,_,a,_,rfl,za3,T.aa,T.aB,zm1 fl0,?_⟩;refine⟨_,rfl,_,rfl,p,_,a,_,rfl,za3,T.aa,T.ao,zm1 (flS fl0),?_⟩;refine⟨_,rfl,_,rfl,p,_,a,_,rfl,za3,T.aa,T.aE,zm1 (flS (flS fl0)),?_⟩;refine⟨_,rfl,_,rfl,p,_,a,_,rfl,za3,T.aa,T.aP,zm1 (flS (flS (flS fl0))),?_⟩;refine⟨_,rfl,_,rfl,p,_,a,_,rfl,za3,T.aa,T.aU,zm1 (flS (flS (flS (flS fl0)))),?_⟩;refine q _ za3 fun b o e c=>?_
   rw[za7 c,za7 c,za7 c,za7 c,za7 c,za7 c];exact e
def yt0 (t:Adr)(H:Hp)(a:Addr)(reached:Bool)(many:V)(row layers again shut:Addr):Prop:=∃dx,H a=some (.ins t.ac dx (zs3 (.bl reached) many (.ref row) (.ref layers) (.ref again) (.ref shut)))
abbrev Lay (H:Hp)(as:List Addr)(Ls:List (List (List Int))):Prop:=Paired (fun a L=>∃ys,H a=some (.lst ys)/\Tups H ys L) as Ls
theorem Lay.keep {H H':Hp}(k:∀b o,H b=some o->H' b=some o){c:List Addr}{Ls:List (List (List Int))}(h:Lay H c Ls):Lay H' c Ls:=Paired.mapP h fun a L ⟨d,f,g⟩=>⟨d,k _ _ f,Paired.mapP g fun y x ⟨b,e,i⟩=>⟨b,e,k _ _ i⟩⟩
structure zn2 (n r:Int)(hs:List Int)(lim:Int)(s:List Int)(Ls:List (List (List Int))):Prop where
 mem:∀j L,Ls[j]?=some L->∀x,x∈L↔Dst n r hs lim s j x
 srt:∀L∈Ls,L.Pairwise fun x y=>Sx.lexB x y=true
def zs4 (t:Adr)(H:Hp)(a:Addr)(n r:Int)(hs:List Int)(lim:Int)(s g:List Int):Prop :=
 (∃d rw_ rs ms la as Ls ag ags sh,Dst n r hs lim s d g/\yt0 t H a true (.int (d:Int)) rw_ la ag sh/\H rw_=some (.lst (rs.map V.ref))/\zi1 H s rs ms/\Goes n r hs lim s ms g/\ms.length=d/\H la=some (.lst (as.map V.ref))/\Lay H as Ls/\Ls.length=d+1/\zn2 n r hs lim s Ls ∧
   H ag=some (.lst (List.map V.int ags))/\ags.Pairwise (· < ·)/\(∀k,k∈ags↔k∈wsOf ms/\1<(wsOf ms).count k)/\H sh=some (.lst [])) ∨
 ((∀d,¬ Dst n r hs lim s d g)/\∃rw_ la as Ls ag sh zs S,yt0 t H a false .non rw_ la ag sh/\H rw_=some (.lst [])/\H la=some (.lst (as.map V.ref))/\Lay H as Ls/\zn2 n r hs lim s Ls/\(∀d,d<Ls.length↔∃x,Dst n r hs lim s d x) ∧
   H ag=some (.lst [])/\H sh=some (.lst zs)/\Tups H zs S/\S.Pairwise (fun x y=>Sx.lexB x y=true)/\∀x,x∈S↔∃d,Dst n r hs lim s d x)
structure SI (n r:Int)(hs:List Int)(lim:Int)(s:List Int)(H:Hp)(la ld:Addr)(as:List Addr)(Ls:List (List (List Int)))(kv:List (List Int×V))(i:Nat):Prop where
 hla:H la=some (.lst (as.map V.ref))
 nla:la∉as
 lay:Lay H as Ls
 len:Ls.length=i+1
 lof:zn2 n r hs lim s Ls
 hd:H ld=some (.dT (dOf kv))
 nd:(kv.map (·.1)).Nodup
 key:∀x,x∈kv.map (·.1)↔∃j,j<=i/\Dst n r hs lim s j x
 led:∀e∈kv,zV5 n r hs lim s H e
theorem atI_neg1 {a:Type}{xs:List a}{x:a}:atI (xs++[x]) (-1)=some x:=by
 unfold atI ixN;rw[Qq,List.length_singleton,Qh (by omega),Ql (by omega)];simp;rw[show(-1+((xs.length:Int)+1)).toNat=xs.length by omega];simp
theorem lexB_irr (x:List Int):Sx.lexB x x=false:=by
 cases h:Sx.lexB x x with
 | false=>rfl
 | true=>have:=Sx.lexB_as h;rw[h] at this;cases this
theorem zq6 {G:List (List Int)}(h:G.Pairwise fun x y=>Sx.lexB x y=true):G.Nodup:=h.imp fun {a b} z e=>by
 subst e;rw[lexB_irr] at z;cases z
theorem Goes.lt {n r:Int}{hs:List Int}{lim:Int}{w:Nat}:∀ {x:List Int} {b:List (Nat×Int)} {y:List Int},Goes n r hs lim x b y->x.length=w->∀m∈b,m.1<w
 | _,[],_,_,_,m,a=>nomatch a
 | x,m'::b,y,h,hw,m,a=>by
   rcases Qn.mp a with rfl | a
   . rw[<-hw];exact h.1.lt
   . exact Goes.lt h.2 (by rw[Zj];exact hw) m a
inductive zV7 (K:W.Frag)(t:Adr)(vs:List V)(H:Hp)(Q:VK)(E:XK):Prop
 | mk (b st go:Addr)(n r lim:Int)(hs s g:List Int)(h0:vs=[.ref b,.ref st,.ref go])(h1:zd7 t H b n r hs lim)(h2:zc6 n r hs.length s)(h3:H st=some (.tup (s.map V.int)))(h4:H go=some (.tup (g.map V.int)))(h5:∀a H',Same H H'->zs4 t H' a n r hs lim s g->Q (.ref a) H'):zV7 K t vs H Q E
def sp_search (K:W.Frag)(t:Adr):Sp:=fun vs H Q E=>zV7 K t vs H Q E
theorem ok_search (T:Txt K mg t):FnOk P w K mg base CX0 8 t.bz t.bA Pb (sp_search K t):=by
 refine T.bG.F.ok zu7 (fun vs H cd ce h=>?_) (fun ci cq cg s H vs cd ce hr h=>?_)
 . obtain⟨b,U,go,n,r,A,v,s,a4,rfl,ae,O,ai,ap,b3⟩:=h
   rfl
 . obtain⟨b,U,go,n,r,A,v,s,a4,rfl,ae,O,ai,ap,b3⟩:=h
   refine⟨_,(za2 (zb4 (i:=3) zu7.nd rfl (Or.inl rfl) (ze8 (za0 (ze8 (za0 P1 za1)) za1)))
     (za2 (zb4 (i:=4) zu7.nd rfl (Or.inl rfl) (yc3 (zi0 hr) P1 zr3))
     (za2 (zE8 PassesOwn.never (zM4 (zq8 (zi0 hr) P2 (pv 4))) (za2 (zb4 (i:=5) zu7.nd rfl (Or.inl rfl) (za6 (ok_next_layer T) hr.m T.bg zb3 (za0 P0 (za0 (zc9 zd1 P3 (zm2 zi4 za4) (fun _ _=>rfl)) (za0 (pv 4) za1)))))
     (za2 (zc8 (zc2 zi9 (zb0 zc0 rfl T.ae QB (za0 (pv 5) za1)) za4 (zc1 _)) (za5 (zb7 (zB2 T.b9 (zK7 T) hr.m rfl T.bP T.a0.b .nil zb3 (za0 zg8 (za0 zr3 (za0 (ze8 za1) (za0 P3 (za0 (ze8 za1) (za0 (zb0 (zw4 rfl) rfl T.aH ZH (za0 (pv 4) za1)) za1))))))))) zb6)
     (za5 (ze7 (zr4 QE QV QU zh0 P3 (za0 (pv 5) za1)))))))
     (za2 (zb4 (i:=6) zu7.nd rfl (Or.inl rfl) (za6 (ok_row_to T) hr.m T.bH zb3 (za0 P2 (za0 (pv 4) za1))))
     (za5 (zb7 (zB2 T.b9 (zK7 T) hr.m rfl T.bP T.a0.b .nil zb3 (za0 zg8 (za0 (zb0 zc0 rfl T.ae QB (za0 P6 za1)) (za0 P6 (za0 P3 (za0 (za6 (ok_moved_again T) hr.m T.ba zb3 (za0 P6 za1)) (za0 (ze8 za1) za1))))))))))))),?_⟩
   refine cut5 ?_;intro cj ck cl cm;refine⟨_,rfl,(by show 1<=sizeLine;decide),fun G f0=>⟨(by show 1<=sizeLine;decide),fun f aj=>?_⟩⟩;have bm:H f=none:=(Same.upd f0).free aj;have b6:G≠f:=fun z=>by rw[<-z,za3] at aj;cases aj
   have s2:Same H (upd (upd H G (.lst [.ref U])) f (.lst [.ref G])):=(Same.upd f0).updT aj;have W:(upd (upd H G (.lst [.ref U])) f (.lst [.ref G])) G=some (.lst [.ref U]):=by rw[za7 b6];exact za3
   have an:(upd (upd H G (.lst [.ref U])) f (.lst [.ref G])) f=some (.lst [.ref G]):=za3;dsimp only;revert s2 W an;generalize upd (upd H G (.lst [.ref U])) f (.lst [.ref G])=H2;intro s2 W an;refine fun B aq=>⟨_,rfl,za3,U,s,rfl,by rw[za7 (zb2 (s2 _ _ ai) aq)];exact s2 _ _ ai,?_⟩
   have bn:H B=none:=s2.free aq;rw[zg1];have s3:Same H2 (upd H2 B (.dT [(ik s,.non)])):=Same.upd aq;have ar:(upd H2 B (.dT [(ik s,.non)])) B=some (.dT (dOf [(s,.non)])):=za3;revert s3 ar;generalize upd H2 B (.dT [(ik s,.non)])=H3;intro s3 ar;have b7:=ae.1.w;have I0:SI n r v A s H3 f B [G] [[s]] [(s,.non)] 0:=by
     refine⟨s3 _ _ an,by simpa using b6.symm,.cons ⟨_,s3 _ _ W,.cons ⟨U,rfl,s3 _ _ (s2 _ _ ai)⟩ .nil⟩ .nil,rfl,⟨fun j L e x=>?_,fun L hL=>?_⟩,ar,by simp,fun x=>?_,fun e he=>?_⟩
     . match j,e with
       | 0,e =>
         obtain rfl:[s]=L:=Qo e;rw[QM];exact⟨fun z=>z▸Dst.zero,fun z=>by obtain⟨w0,_⟩:=z;cases w0;rfl⟩
       | j+1,e=>simp at e
     . obtain rfl:L=[s]:=by simpa using hL
       exact List.pairwise_singleton _ _
     . constructor
       . intro q
         obtain rfl:x=s:=by simpa using q
         exact⟨0,Qi _,Dst.zero⟩
       . rintro⟨j,u,q⟩
         obtain rfl:j=0:=by omega
         obtain⟨w0,_⟩:=q;cases w0;simp
     . obtain rfl:e=(s,.non):=by simpa using he
       exact .inl ⟨rfl,rfl⟩
   have bo:∀ {H':Hp} {J:List Addr} {M:List (List (List Int))} {g:List (List Int×V)} {i:Nat},SI n r v A s H' f B J M g i->g.length<=1000:=fun {H' J M g i} bj=>by
     have:=few ae.1 bj.nd fun x q=>by obtain⟨j,_,u⟩:=(bj.key x).mp q;exact u.1.valid O
     rw[Qb] at this;exact this
   refine zE9 (fun σ H'=>X5 fun v5 J M g i=>A6 (σ=[some (.ref b),some (.ref U),some (.ref go),some (.ref f),some (.ref B),v5,none]) (Same H H') (SI n r v A s H' f B J M g i) (i<g.length) ((∃x,Dst n r v A s i x)) (∀j,j<i->¬ Dst n r v A s j a4))
     (fun σ H'=>match H' B with | some (.dT k)=>1001-k.length | _=>0) ⟨none,_,_,_,0,rfl,s2.trans s3,I0,by show 0<1;decide,⟨s,Dst.zero⟩,fun j u=>absurd u (Nat.not_lt_zero _)⟩ ?_ ?_
   . rintro σ H4 ⟨v5,J,M,g,i,rfl,s4,c,cn,bv,bw⟩
     have co:=bo c;refine⟨_,rfl,_,rfl,B,_,rfl,dget c.hd (s4 _ _ ap),_,rfl,?_⟩;rw[zx4 c.nd];refine ite2 (fun Q=>?_) (fun Q=>?_)
     . have b8:a4∉g.map (·.1):=fun z=>by rw[Qf z] at Q;cases Q
       obtain⟨F,C,rfl⟩:∃F C,J=F++[C]:=by
         have hl:=c.lay;have:J.length=M.length:=Paired.length hl;have W:J≠[]:=fun z=>by rw[z,c.len] at this;cases this
         exact⟨J.dropLast,J.getLast W,(List.dropLast_concat_getLast W).symm⟩
       obtain⟨S,I,rfl⟩:∃S I,M=S++[I]:=by
         have W:M≠[]:=fun z=>by have:=c.len;rw[z] at this;cases this
         exact⟨M.dropLast,M.getLast W,(List.dropLast_concat_getLast W).symm⟩
       have bl:S.length=i:=by have:=c.len;simpa using this
       obtain⟨p,bx,bz⟩:∃p,H4 C=some (.lst p)/\Tups H4 p I:=by
         have au:∀ {D:List Addr} {E:List (List (List Int))} {a:Addr} {af:List (List Int)},Lay H4 (D++[a]) (E++[af])->∃p,H4 a=some (.lst p)/\Tups H4 p af:=by
           intro D E a af h;have h':Paired (fun a L=>∃p,H4 a=some (.lst p)/\Tups H4 p L) (D++[a]) (E++[af]):=h;have hl:(D++[a]).length=(E++[af]).length:=Paired.length h';clear h
           induction D generalizing E with
           | nil =>
             cases E with
             | nil=>cases h' with | cons x _=>exact x
             | cons _ _=>simp at hl
           | cons _ D ih =>
             cases E with
             | nil=>simp at hl
             | cons _ E=>cases h' with | cons _ t=>exact ih t (by simpa using hl)
         exact au c.lay
       have ak:∀x,x∈I↔Dst n r v A s i x:=c.lof.mem i I (by rw[<-bl];simp);refine⟨_,rfl,_,rfl,_,rfl,f,_,_,_,rfl,rfl,SqL.of c.hla,by rw[Qm];exact atI_neg1,_,rfl,b,C,B,n,r,A,v,I,p,g,rfl,ae.same s4,bx,bz,fun x q=>((ak x).mp q).1.valid O,c.hd,c.nd,fun x q=>(by obtain⟨j,_,u⟩:=(c.key x).mp q;exact u.1.valid O),fun l5 l zs ah a8 b9 ba bb bc bd c0 a2 aa av c1=>?_⟩;have s5:Same H l:=zg6.same s4 bn b9;have hF:∀y,y∈a8.map (·.1)↔Dst n r v A s (i+1) y:=fun y=>by
         rw[av,ye3,c.key];constructor
         . rintro⟨Q,x,X,h3⟩;exact⟨Q,x,(ak x).mp X,h3⟩
         . rintro⟨Q,x,X,h3⟩;exact⟨Q,x,(ak x).mpr X,h3⟩
       have k5:∀ {a0:Addr} {o:HO},H4 a0=some o->(∀k,o≠.dT k)->l a0=some o:=fun e ne=>b9 _ _ e (fun z=>by rw[z,c.hd] at e;injection e with e;exact ne _ e.symm)
       have a9:l f=some (.lst ((F++[C]).map V.ref)):=k5 c.hla (fun k z=>nomatch z);have ao:Lay l (F++[C]) (S++[I]):=Paired.mapP c.lay fun a L ⟨p,Q,X⟩=>⟨p,k5 Q (fun k z=>nomatch z),Paired.mapP X fun y x ⟨b,e,Y⟩=>⟨b,e,k5 Y (fun k z=>nomatch z)⟩⟩
       have bp:∀e∈g,zV5 n r v A s l e:=fun e he=>(c.led e he).same fun b us Y=>k5 Y (fun k z=>nomatch z)
       have ch:(g++a8).length<=1000:=by
         have:=few ae.1 aa fun x q=>by
           rw[Qm] at q;rcases Qt.mp q with z | z
           . obtain⟨j,_,u⟩:=(c.key x).mp z;exact u.1.valid O
           . exact((hF x).mp z).1.valid O
         rw[Qb] at this;exact this
       have c2:ah.length=zs.length:=(ze6 bc).symm;have c3:ah.length=a8.length:=by rw[bd.length_eq,Qb]
       refine⟨_,rfl,l5,_,rfl,.inl (SqL.of bb),rfl,_,rfl,?_⟩;rw[ze3];refine ite2 (fun X=>?_) (fun X=>?_)
       . -- shut
         have be:zs.length=0:=by simpa using X
         have c4:a8=[]:=QC (by omega);subst c4;rw[Zz] at a2 aa;have b4:∀e,i<e->∀y,¬ Dst n r v A s e y:=dst_none fun y hy=>by have:=(hF y).mpr hy;simp at this
         have b5:∀x,x∈g.map (·.1)↔∃d,Dst n r v A s d x:=fun x=>by
           rw[c.key];exact⟨fun⟨j,_,h⟩=>⟨j,h⟩,fun⟨j,h⟩=>⟨j,Nat.not_lt.mp fun z=>b4 j z x h,h⟩⟩
         refine⟨QD _,fun Z bf=>⟨_,rfl,QD _,fun lg aw=>⟨_,rfl,?_⟩⟩⟩;have s6:=((Same.refl l).updT (o:=.lst []) bf).updT (o:=.lst []) aw;have a5:(upd (upd l Z (.lst [])) lg (.lst [])) Z=some (.lst []):=Same.upd aw _ _ za3;have ab:(upd (upd l Z (.lst [])) lg (.lst [])) lg=some (.lst []):=za3;revert s6 a5 ab;generalize upd (upd l Z (.lst [])) lg (.lst [])=H6;intro s6 a5 ab;refine⟨B,_,_,rfl,s6 _ _ a2,zR2 g,aa,fun c5 k hk=>?_,fun N ac cf ax ht hp c6=>?_⟩
         . intro z
           rw[Qb] at c5;obtain⟨j,_,u⟩:=(c.key k).mp hk;have c7:v.length=0:=by have:=(u.1.valid O).len;rw[z] at this;exact this.symm
           have one:∀e∈g.map (·.1),e=[]:=fun e he=>by
             obtain⟨j',_,c8⟩:=(c.key e).mp he;exact QC ((c8.1.valid O).len.trans c7)
           have lk:(g.map (·.1)).length=g.length:=Qb _;have ad:=aa;generalize g.map (·.1)=ks at ad one lk
           match ks,ad,one with
           | [],_,_=>simp at lk;omega
           | [_],_,_=>simp at lk;omega
           | x1::x2::_,ad,one' =>
             have e1:=one' x1 (.head _);have e2:=one' x2 (.tail _ (.head _));rw[e1,e2] at ad;simp at ad
         . have R:Same H6 (upd H6 N (.lst ac)):=Same.upd ax
           have a6:(upd H6 N (.lst ac)) N=some (.lst ac):=za3;have ay:=R.tups ht;revert R a6 ay;generalize upd H6 N (.lst ac)=H7;intro R a6 ay;refine fun a dx fa az b0=>?_
           have s8:Same H7 (upd (upd H7 dx (.own a)) a (.ins t.ac dx [])):=(Same.upd az).updT (by rw[za7 (Ne.symm b0)];exact fa);refine⟨a,dx,_,_,_,_,_,_,rfl,za3,fun H9 h9 s9=>⟨rfl,?_⟩⟩;have a3:Same H7 H9:=zg6.same s8 fa s9;have a7:=(s6.trans R).trans a3;refine b3 a H9 (s5.trans a7) (.inr ⟨fun d hd=>b8 ((b5 a4).mpr ⟨d,hd⟩),Z,f,_,_,lg,N,ac,cf,⟨dx,h9⟩,a3 _ _ (R _ _ a5),a7 _ _ a9,ao.keep a7,c.lof,fun d=>?_,a3 _ _ (R _ _ ab),a3 _ _ a6,a3.tups ay,c6,fun x=>?_⟩)
           . rw[c.len]
             exact⟨fun hd=>let⟨x,q⟩:=bv;q.below d (Nat.le_of_lt_succ hd),fun⟨x,hd⟩=>Nat.lt_succ_of_le (Nat.not_lt.mp fun z=>b4 d z x hd)⟩
           . rw[hp.mem_iff,b5]
       . -- one layer more
         have be:zs.length≠0:=by simpa using X
         have bq:∃x,Dst n r v A s (i+1) x:=by
           cases a8 with
           | nil=>exact absurd (c2.symm.trans c3) be
           | cons e a8=>exact⟨e.1,(hF e.1).mp (by simp)⟩
         refine⟨_,rfl,.inl ⟨rfl,_,SqL.of a9⟩,_,rfl,f,_,_,rfl,rfl,a9,zc3 (by rw[Qb,show(F++[C]).length=i+1 from(Paired.length ao).trans c.len];omega),?_⟩;have bg:l5≠f:=fun z=>by rw[z,c.hla] at ba;cases ba
         have k6:∀ {a0:Addr} {o:HO},l a0=some o->a0≠f->(upd l f (.lst ((F++[C]).map V.ref++[.ref l5]))) a0=some o:=fun e ne=>by rw[za7 ne];exact e
         have am:∀ {a0:Addr} {us:List V},l a0=some (.tup us)->(upd l f (.lst ((F++[C]).map V.ref++[.ref l5]))) a0=some (.tup us):=fun e=>k6 e (fun z=>by rw[z,a9] at e;cases e)
         have br:Lay (upd l f (.lst ((F++[C]).map V.ref++[.ref l5]))) (F++[C]) (S++[I]):=by
           have au:∀ {D:List Addr} {E:List (List (List Int))},Lay l D E->f∉D->Lay (upd l f (.lst ((F++[C]).map V.ref++[.ref l5]))) D E:=by
             intro D E h;have h':Paired (fun a L=>∃p,l a=some (.lst p)/\Tups l p L) D E:=h;clear h
             induction h' with
             | nil=>intro _;exact .nil
             | cons x t ih =>
               intro hn;rw[Qn,not_or] at hn;obtain⟨p,e1,e2⟩:=x;exact .cons ⟨p,k6 e1 (Ne.symm hn.1),Paired.mapP e2 fun y x ⟨b,e,Y⟩=>⟨b,e,am Y⟩⟩ (ih hn.2)
           exact au ao c.nla
         refine⟨⟨_,F++[C]++[l5],S++[I]++[ah],g++a8,i+1,rfl,s5.put bm,⟨?_,?_,?_,?_,⟨?_,?_⟩,?_,aa,?_,?_⟩,by rw[Qq];omega,bq,fun j u hy=>b8 ((c.key a4).mpr ⟨j,by omega,hy⟩)⟩,?_⟩
         . rw[za3,Qm (l₁:=F++[C])];rfl
         . rw[Qt,not_or]
           exact⟨c.nla,by simpa using bg.symm⟩
         . exact Paired.snoc br ⟨zs,k6 bb bg,Paired.mapP bc fun y x ⟨b,e,Y⟩=>⟨b,e,am Y⟩⟩
         . rw[Qq,c.len];rfl
         . intro j L e x
           by_cases u:j<(S++[I]).length
           . rw[Zi u] at e
             exact c.lof.mem j L e x
           . rw[Zx (by omega)] at e
             have c9:j-(S++[I]).length=0:=by
               rcases Nat.eq_zero_or_pos (j-(S++[I]).length) with z | z
               . exact z
               . rw[Zt (by rw[List.length_singleton];omega)] at e;cases e
             rw[c9] at e;obtain rfl:ah=L:=Qo e;have:j=i+1:=by have:=c.len;omega
             rw[this,bd.mem_iff,hF]
         . intro L hL
           rcases Qt.mp hL with z | z
           . exact c.lof.srt L z
           . obtain rfl:L=ah:=by simpa using z
             exact c0
         . rw[za7 (fun z=>by rw[z,a9] at a2;cases a2)];exact a2
         . intro x
           rw[Qm,Qt,c.key,hF];constructor
           . rintro(⟨j,u,h⟩ | h)
             . exact⟨j,by omega,h⟩
             . exact⟨i+1,Qi _,h⟩
           . rintro⟨j,u,h⟩
             rcases QW i j with z | z
             . obtain rfl:j=i+1:=by omega
               exact .inr h
             . exact .inl ⟨j,z,h⟩
         . intro e he
           rcases Qt.mp he with z | z
           . exact(bp e z).same fun b us Y=>am Y
           . obtain⟨x,q,m,i',p',e1,e2,e3,e4⟩:=c1 e z
             exact .inr ⟨x,i,m,i',p',e1,am e2,e3,e4,(ak x).mp q,(hF e.1).mp (QA.mpr ⟨e,z,rfl⟩)⟩
         . rw[za7 (fun z=>by rw[z,a9] at a2;cases a2),a2,c.hd]
           simp only[Qb,Qq];omega
     . -- the goal is come to
       have ca:a4∈g.map (·.1):=Classical.byContradiction fun z=>Q (by rw[Qg z];rfl)
       obtain⟨d,cp,b1⟩:=(c.key a4).mp ca;refine⟨_,rfl,_,rfl,go,B,n,r,A,v,s,a4,d,g,rfl,s4 _ _ ap,c.hd,c.nd,c.led,b1,fun j y u hy=>(c.key y).mpr ⟨j,by omega,hy⟩,O,b7,by omega,fun Z l rs ms s5 bf a5 R5 G5 bh=>?_⟩;have bt:=R5.len;have av:∀m∈ms,m.1<5:=fun m hm=>QO (G5.lt O.len m hm) b7
       refine⟨_,rfl,Z,_,rfl,.inl (SqL.of a5),?_⟩;rw[Qb,bt,bh];refine⟨_,rfl,_,rfl,_,rfl,Z,s,rs,ms,rfl,a5,R5,av,by omega,fun lg H6 ag s6 aw ab cb cc=>?_⟩;refine⟨QD _,fun N ax=>?_⟩;have R:Same H6 (upd H6 N (.lst [])):=Same.upd ax;have a6:(upd H6 N (.lst [])) N=some (.lst []):=za3;dsimp only;revert R a6;generalize upd H6 N (.lst [])=H7;intro R a6;refine fun a dx fa az b0=>?_
       have s8:Same H7 (upd (upd H7 dx (.own a)) a (.ins t.ac dx [])):=(Same.upd az).updT (by rw[za7 (Ne.symm b0)];exact fa);refine⟨a,dx,_,_,_,_,_,_,rfl,za3,fun H9 h9 s9=>⟨rfl,?_⟩⟩;have a3:Same H7 H9:=zg6.same s8 fa s9;have bi:=R.trans a3;have a7:=s6.trans bi;have b2:=s5.trans a7;have bu:d=i:=by
         rcases QW d i with z | z
         . exact absurd b1 (bw d z)
         . omega
       refine b3 a H9 (s4.trans b2) (.inl ⟨d,Z,rs,ms,f,J,M,lg,ag,N,b1,⟨dx,h9⟩,a7 _ _ a5,R5.same a7,G5,bh,b2 _ _ c.hla,c.lay.keep b2,by rw[bu];exact c.len,c.lof,bi _ _ ab,cb,cc,a3 _ _ a6⟩)
   . rintro σ H' Q1 Q2 hQ ⟨_,e1,_,e2,D,v1,e3,e4,k,e6,e7⟩
     exact⟨_,e1,_,e2,D,v1,e3,e4,k,e6,hQ _ _ e7⟩
inductive zV8 (K:W.Frag)(t:Adr)(vs:List V)(H:Hp)(Q:VK)(E:XK):Prop
 | mk (b a1 a2:Addr)(n r lim:Int)(hs s g:List Int)(h0:vs=[.ref b,.ref a1,.ref a2])(h1:zd7 t H b n r hs lim)(h2:zc6 n r hs.length s)(h3:zc6 n r hs.length g)(h4:(SqL K H a1 (s.map V.int)\/H a1=some (.tup (s.map V.int))))(h5:(SqL K H a2 (g.map V.int)\/H a2=some (.tup (g.map V.int))))(h6:absI (zb5 hs s)<=lim)(h7:absI (zb5 hs g)<=lim)(h8:∀a H',Same H H'->zs4 t H' a n r hs lim s g->Q (.ref a) H'):zV8 K t vs H Q E
def sp_fewest (K:W.Frag)(t:Adr):Sp:=fun vs H Q E=>zV8 K t vs H Q E
theorem zC2 (T:Txt K mg t):FnOk P w K mg base CX0 9 t.aY t.bx Pb (sp_fewest K t):=by
 refine T.ap.F.ok zJ5 (fun I H Q E h=>?_) (fun O a0 N s H I Q E k h=>?_)
 . obtain⟨b,u,v,n,r,d,f,s,g,rfl,B,m,o,x,y,z,A,q⟩:=h
   rfl
 . obtain⟨b,u,v,n,r,d,f,s,g,rfl,B,m,o,x,y,z,A,q⟩:=h
   refine⟨_,(za2 (zb4 (i:=3) zJ5.nd rfl (Or.inl rfl) (za6 (zf3 T) k.m T.ai zb3 (za0 P0 (za0 P1 za1))))
     (za2 (zb4 (i:=4) zJ5.nd rfl (Or.inl rfl) (za6 (zf3 T) k.m T.ai zb3 (za0 P0 (za0 P2 za1))))
     (za2 (zc8 (zd4 (zd0 (za6 (zQ8 T) k.m T.a5 zb3 (za0 P0 (za0 P3 za1))))) (za5 ze2) zb6)
     (za2 (zc8 (zd4 (zd0 (za6 (zQ8 T) k.m T.a5 zb3 (za0 P0 (za0 (pv 4) za1))))) (za5 ze2) zb6)
     (za5 (zb7 (za6 (ok_search T) k.m T.bG zb3 (za0 P0 (za0 P3 (za0 (pv 4) za1)))))))))),?_⟩
   refine cut5 ?_;intro S U V W;refine⟨_,rfl,_,rfl,b,u,n,r,d,f,s,rfl,B,m,x,fun C X c D=>?_⟩;refine⟨_,rfl,_,rfl,b,v,n,r,d,f,g,rfl,B.same c,o,y.imp c.seq (fun e=>c _ _ e),fun F Y j G=>?_⟩;refine⟨_,rfl,_,rfl,b,C,n,r,d,f,s,rfl,(B.same c).same j,m,.inr (j _ _ D),fun Z p=>⟨_,rfl,?_⟩⟩;refine iteB (by rw[Qf z];rfl) ?_;refine⟨_,rfl,_,rfl,b,F,n,r,d,f,g,rfl,((B.same c).same j).same p,o,.inr (p _ _ G),fun H4 J=>⟨_,rfl,?_⟩⟩;refine iteB (by rw[Qf A];rfl) ?_;have l:=p.trans J;exact⟨_,rfl,_,rfl,_,rfl,b,C,F,n,r,d,f,s,g,rfl,((B.same c).same j).same l,m,l _ _ (j _ _ D),l _ _ G,fun a L M R=>q a L (c.trans (j.trans (l.trans M))) R⟩
inductive zH9 (K:W.Frag)(t:Adr)(vs:List V)(H:Hp)(Q:VK)(E:XK):Prop
 | mk (b a1 a2:Addr)(n r lim:Int)(hs s g:List Int)(h0:vs=[.ref b,.ref a1,.ref a2])(h1:zd7 t H b n r hs lim)(h2:zc6 n r hs.length s)(h3:zc6 n r hs.length g)(h4:(SqL K H a1 (s.map V.int)\/H a1=some (.tup (s.map V.int))))(h5:(SqL K H a2 (g.map V.int)\/H a2=some (.tup (g.map V.int))))(h6:absI (zb5 hs s)<=lim)(h7:absI (zb5 hs g)<=lim)(h8:((∀d,¬ Dst n r hs lim s d g)->∀H',Same H H'->E (.ref t.ad) none H'))(h9:(Dst n r hs lim s 0 g->∀H',Same H H'->Q .non H'))(h10:(∀d m ms a H',Same H H'->Dst n r hs lim s (d+1) g->zs1 H' s a m->Goes n r hs lim s (m::ms) g->ms.length=d->Q (.ref a) H')):zH9 K t vs H Q E
def sp_next_move (K:W.Frag)(t:Adr):Sp:=fun vs H Q E=>zH9 K t vs H Q E
theorem ok_next_move (T:Txt K mg t):FnOk P w K mg base (CXE P w) 10 t.ar t.a9 Pb (sp_next_move K t):=by
 refine T.aT.F.d.okE zG7 (fun U a0 a3 a4 h=>?_) (fun a7 ac a6 s a0 U a3 a4 z h=>?_)
 . obtain⟨b,A,C,n,r,p,D,s,g,rfl,B,E,F,G,H,I,J,L,M,N⟩:=h
   rfl
 . obtain⟨b,A,C,n,r,p,D,s,g,rfl,B,E,F,G,H,I,J,L,M,N⟩:=h
   refine⟨_,(za2 (zb4 (i:=3) zG7.nd rfl (Or.inl rfl) (zw2 (zC2 T) z.m rfl T.ax T.ap.F.kp T.ap.b .nil zb3 (za0 P0 (za0 P1 (za0 P2 za1)))))
     (za2 (zc8 (zd4 (zd0 (zc4 P3 rfl))) (za5 (ps_raise raises_fn rfl T.bw T.cl T.cj (ok_NoWay_init T) z.m rfl T.bY T.b6 .nil zb3 (za0 zX5 za1))) zb6)
     (za2 (zc8 (zc2 zi9 (zc4 P3 rfl) za4 (zc1 _)) (za5 (zb7 zr3)) zb6)
     (za5 (zb7 (zc9 zd1 (zc4 P3 rfl) za4 (fun _ _=>rfl))))))),?_⟩
   refine cut4 ?_;intro a8 a9 aa;refine⟨_,rfl,_,rfl,_,rfl,b,A,C,n,r,p,D,s,g,rfl,B,E,F,G,H,I,J,fun f O k a5=>?_⟩;rcases a5 with⟨d,q,Q,l,W,X,Y,Z,ab,sh,R,⟨e,c⟩,u,y,hG,o,_,_,_,_,_⟩ | ⟨S,q,W,X,Y,Z,sh,zs,ad,⟨e,c⟩,u,_⟩
   . refine⟨_,rfl,f,_,e,_,_,rfl,c,T.aa,T.ag,zh9 _ _ _ _ _ _,_,rfl,iteF ?_⟩
     refine⟨_,rfl,f,_,e,_,_,rfl,c,T.aa,T.aB,zM2 _ _ _ _ _ _,rfl,_,rfl,?_⟩;rw[ze3];cases d with
     | zero =>
       refine iteT ?_;exact M R O k
     | succ d =>
       refine iteB (Qg (by omega)) ?_;cases l with
       | nil=>cases o
       | cons m l =>
         cases Q with
         | nil=>exact y.elim
         | cons a Q =>
           refine⟨_,rfl,f,_,e,_,_,rfl,c,T.aa,T.ao,zE6 _ _ _ _ _ _,q,_,_,_,rfl,rfl,SqL.of u,zo4 (j:=0) (v:=V.ref a) rfl,?_⟩;exact N d m l a O k R y.1 hG (by simpa using o)
   . refine⟨_,rfl,f,_,e,_,_,rfl,c,T.aa,T.ag,zh9 _ _ _ _ _ _,_,rfl,iteT ?_⟩
     exact⟨(by show 1<=sizeLine;decide),fun x fx=>⟨x,_,rfl,za3,fun H' ⟨od,hx⟩ sx=>⟨rfl,od,hx,L S _ (Same.raised k fx sx)⟩⟩⟩
theorem zI0:∀ {X Y:List (List Int)},X.Pairwise (fun x y=>Sx.lexB x y=true)->Y.Pairwise (fun x y=>Sx.lexB x y=true)->(∀x,x∈X↔x∈Y)->X=Y
 | [],Y,_,_,h=>(List.eq_nil_iff_forall_not_mem.mpr fun x c=>nomatch (h x).mpr c).symm
 | a::X,[],_,_,h=>nomatch (h a).mp (.head _)
 | a::X,b::Y,h1,h2,h=>by
   have d:=zq6 h1;have f:=zq6 h2;rw[Zm] at h1 h2;rw[List.nodup_cons] at d f;have e:a=b:=by
     rcases Qn.mp ((h a).mp (.head _)) with z | z
     . exact z
     rcases Qn.mp ((h b).mpr (.head _)) with y | y
     . exact y.symm
     have p:=h1.1 b y;have q:=Sx.lexB_as (h2.1 a z);rw[p] at q;cases q
   subst e;rw[zI0 h1.2 h2.2 fun x=>?_];constructor
   . intro c
     rcases Qn.mp ((h x).mp (.tail _ c)) with z | z
     . exact absurd (z▸c) d.1
     . exact z
   . intro c
     rcases Qn.mp ((h x).mpr (.tail _ c)) with z | z
     . exact absurd (z▸c) f.1
     . exact z
theorem yr0 {w:Nat}{n r:Int}{a:List (List Int)}(d:a.Nodup)(b:∀x∈a,zc6 n r w x)(f:2<=a.length):∀k∈a,k≠[]:=fun k g z=>by
 have c:w=0:=by have:=(b k g).len;rw[z] at this;exact this.symm
 have one:∀e∈a,e=[]:=fun e h=>QC ((b e h).len.trans c)
 match a,d,one,f with
 | x1::x2::_,nd',one',_ =>
   have i:=one' x1 (.head _);have j:=one' x2 (.tail _ (.head _));rw[i,j] at nd';simp at nd'
section
variable {n r:Int} {hs:List Int} {lim:Int} {s:List Int}
theorem zn2.nodup {Ls:List (List (List Int))}(h:zn2 n r hs lim s Ls):Ls.flatten.Nodup:=by
 refine List.pairwise_flatten.mpr ⟨fun L a=>zq6 (h.srt L a),?_⟩;refine QR.mpr fun i j b c l x d y f e=>?_
 subst e;have g:=(h.mem i _ (Qe b) x).mp d;have k:=(h.mem j _ (Qe c) x).mp f;have:=g.uniq k;omega
theorem zn2.ex {Ls:List (List (List Int))}(h:zn2 n r hs lim s Ls){x:List Int}(a:x∈Ls.flatten):∃d,d<Ls.length/\Dst n r hs lim s d x:=by
 obtain⟨L,c,a⟩:=List.mem_flatten.mp a;obtain⟨i,b⟩:=List.getElem?_of_mem c;exact⟨i,(Qw.mp b).1,(h.mem i L b x).mp a⟩
end
theorem lay_at {H:Hp}{c:List Addr}{Ls:List (List (List Int))}(h:Lay H c Ls){i:Nat}{v:V}(e:(c.map V.ref)[i]?=some v):∃a L b,v = .ref a/\Ls[i]?=some L/\H a=some (.lst b)/\Tups H b L:=by
 rw[QP] at e;cases d:c[i]? with
 | none=>rw[d] at e;cases e
 | some a =>
   rw[d] at e;obtain⟨L,f,b,g,j⟩:=pat h d;exact⟨a,L,b,(Qo e).symm,f,g,j⟩
end
section
variable {P:Program} {w:World} {K:W.Frag} {mg:Str->Option Value} {base:Heap} {t:Adr}
noncomputable def zn3 (hs x:List Int)(i:Nat)(p:Int):Int:=if absI (ze0 hs x i+hs.getD i 0*p)>absI (ze0 hs x i) then absI (ze0 hs x i+hs.getD i 0*p) else absI (ze0 hs x i)
inductive ye7 (K:W.Frag)(t:Adr)(vs:List V)(H:Hp)(Q:VK)(E:XK):Prop
 | mk (b:Addr)(n r lim L:Int)(hs:List Int)(h0:vs=[.ref b,.int L])(h1:zd7 t H b n r hs lim)(h2:0<=L)(h3:L<=400)(h4:∀b' H',Same H H'->zd7 t H' b' n r hs L->Q (.ref b') H'):ye7 K t vs H Q E
def sp_under (K:W.Frag)(t:Adr):Sp:=fun vs H Q E=>ye7 K t vs H Q E
theorem zR3 (T:Txt K mg t):FnOk P w K mg base CX0 5 t.b5 t.b6 Po (sp_under K t):=by
 refine T.a4.F.ok sc_under (fun x H Q E h=>?_) (fun I A G s H x Q E y h=>?_)
 . obtain⟨b,n,r,p,L,i,rfl,B,j,k,q⟩:=h
   rfl
 . obtain⟨b,n,r,p,L,i,rfl,B,j,k,q⟩:=h
   refine⟨_,(za5 (zb7 (zB2 T.bU (zH4 T) y.m rfl T.b8 T.aS.b .nil zb3 (za0 (zc4 P0 rfl) (za0 (zc4 P0 rfl) (za0 (zc4 P0 rfl) (za0 P1 za1))))))),?_⟩;obtain⟨ok,f,h,g,z⟩:=B;refine⟨_,rfl,b,_,f,_,_,rfl,g,T.ad,T.ah,zk9 _ _ _ _,_,rfl,b,_,f,_,_,rfl,g,T.ad,T.av,zZ9 _ _ _ _,_,rfl,b,_,f,_,_,rfl,g,T.ad,T.al,zx3 _ _ _ _,_,rfl,fun a d l u v=>?_⟩;have m:Same H (upd (upd H d (.own a)) a (.ins t.ae d [])):=(Same.upd u).updT (by rw[za7 (Ne.symm v)];exact l);refine⟨a,d,h,n,r,L,i,rfl,za3,.inr (m _ _ z),⟨ok.n1,ok.n2,ok.r1,ok.r2,j,k,ok.w,ok.h,ok.most⟩,fun C D F=>⟨rfl,?_⟩⟩;exact q a C (fun c o e=>F c o (m c o e) (zb2 e l)) D
inductive zv6 (K:W.Frag)(t:Adr)(vs:List V)(H:Hp)(Q:VK)(E:XK):Prop
 | mk (b a m:Addr)(n r lim p:Int)(i:Nat)(hs xs:List Int)(h0:vs=[.ref b,.ref a,.ref m])(h1:zd7 t H b n r hs lim)(h2:zc6 n r hs.length xs)(h3:H a=some (.tup (xs.map V.int)))(h4:zs1 H xs m (i,p))(h5:Lets n r hs 400 xs i p)(h6:∀H',Same H H'->Q (.int (zn3 hs xs i p)) H'):zv6 K t vs H Q E
def sp_limit_to_move (K:W.Frag)(t:Adr):Sp:=fun vs H Q E=>zv6 K t vs H Q E
theorem ok_limit_to_move (T:Txt K mg t):FnOk P w K mg base CX0 5 t.aB t.aC Pf (sp_limit_to_move K t):=by
 refine T.a1.F.ok sc_limit_to_move (fun y H Q E h=>?_) (fun I A G s H y Q E k h=>?_)
 . obtain⟨b,a,m,n,r,g,p,i,d,c,rfl,B,e,l,o,u,q⟩:=h
   rfl
 . obtain⟨b,a,m,n,r,g,p,i,d,c,rfl,B,e,l,o,u,q⟩:=h
   refine⟨_,(za5 (zb7 (zb0 (zu2 rfl) rfl T.a2 ZM (za0 (zb0 zh3 rfl T.ar QT (za0 (za6 (zE4 T) k.m T.aO zb3 (za0 P0 (za0 P1 (za0 (zc9 zg5 P2 za4 (fun _ _=>rfl)) za1)))) za1)) (za0 (zb0 zh3 rfl T.ar QT (za0 (za6 (zH5 T) k.m T.aM zb3 (za0 P0 (za0 (za6 (zr1 T) k.m T.ay zb3 (za0 P1 (za0 P2 za1))) za1))) za1)) za1))))),?_⟩;have j:=u.lt;have x:=e.len;have J:=B.1.w;refine⟨_,rfl,_,rfl,_,rfl,m,_,_,_,rfl,rfl,SqT.of o,rfl,b,a,n,r,g,(i:Int)+1,i,d,c,rfl,B,e,.inr l,⟨rfl,j⟩,fun L f=>?_⟩;refine⟨_,rfl,_,rfl,_,rfl,_,rfl,a,m,(i:Int)+1,c.getD i 0,p,i,c,rfl,f _ _ l,.inr (SqT.of (f _ _ o)),⟨rfl,j,by omega⟩,fun z M v C=>?_⟩;refine⟨b,z,n,r,g,d,c.set i p,rfl,(B.same f).same v,u.valid e,.inr C,fun D F=>⟨_,rfl,_,_,rfl,?_⟩⟩;rw[zv4 d c i p x.symm j];exact q D (f.trans (v.trans F))
theorem prs_same {H H':Hp}(s:Same H H'){ys:List V}{b:List (List Int)}(h:Prs H ys b):Prs H' ys b:=Paired.mapP h fun y k ⟨p,a,e,c,d⟩=>⟨p,a,e,s _ _ c,s _ _ d⟩
theorem prs_keep {H:Hp}{l:Addr}{o:HO}{vs:List V}(d:H l=some (.lst vs)){ys:List V}{f:List (List Int)}(h:Prs H ys f):Prs (upd H l o) ys f:=Paired.mapP h fun y k ⟨p,a,e,b,c⟩=>⟨p,a,e,by rw[za7 (fun z=>by rw[z,d] at b;cases b)];exact b,by rw[za7 (fun z=>by rw[z,d] at c;cases c)];exact c⟩
def zx5 (n r:Int)(hs:List Int)(S:List (List Int))(x:List Int)(i:Nat)(p:Int):Prop:=Lets n r hs 400 x i p/\x.set i p∉S
inductive zt0 (K:W.Frag)(t:Adr)(vs:List V)(H:Hp)(Q:VK)(E:XK):Prop
 | mk (b sh:Addr)(n r lim:Int)(hs:List Int)(S:List (List Int))(zs:List V)(h0:vs=[.ref b,.ref sh])(h1:zd7 t H b n r hs lim)(h2:H sh=some (.lst zs))(h3:Tups H zs S)(h4:S.Nodup)(h5:(∀x∈S,zc6 n r hs.length x))(h6:S.length<=1000)(h7:(∃x∈S,∃i p,zx5 n r hs S x i p))(h8:∀M H',Same H H'->(∃x∈S,∃i p,zx5 n r hs S x i p/\zn3 hs x i p=M)->(∀x∈S,∀i p,zx5 n r hs S x i p->M<=zn3 hs x i p)->Q (.int M) H'):zt0 K t vs H Q E
def sp_limit_to_leave (K:W.Frag)(t:Adr):Sp:=fun vs H Q E=>zt0 K t vs H Q E
theorem ok_limit_to_leave (T:Txt K mg t):FnOk P w K mg base CX0 7 t.ax t.ay PU (sp_limit_to_leave K t):=by
 refine T.aV.F.ok zf9 (fun vs az bi bj h=>?_) (fun bq c0 bn a7 az vs bi bj F h=>?_)
 . obtain⟨a0,D,n,r,aa,b,S,zs,rfl,B,aj,TS,nd,VS,hS,ak,b0⟩:=h
   rfl
 . obtain⟨a0,D,n,r,aa,b,S,zs,rfl,B,aj,TS,nd,VS,hS,ak,b0⟩:=h
   refine⟨_,(za2 (zb4 (i:=2) zf9.nd rfl (Or.inl rfl) (za6 (zR3 T) F.m T.a4 zb3 (za0 P0 (za0 (zo3 (v:=.int 400) rfl T.bo ⟨_,rfl⟩) za1))))
     (za2 (zb4 (i:=3) zf9.nd rfl (Or.inl rfl) (zi5 (call_dictP rfl (hu5_of F)) rfl T.cn PyProof.Rows.boot_dict (za0 (zs8 rfl zq1 (zj2 P1) (fun _ _ _ _ _=>(zc5 (i:=0) zq1.nd rfl (Or.inl rfl))) (fun _ _ _ _ _=>zr5) (fun _ _ _ _ _=>(zy4 (za0 P0 (za0 zg8 za1))))) za1)))
     (za2 (zb4 (i:=4) zf9.nd rfl (Or.inl rfl) (ze8 za1))
     (za2 (zh7 PassesOwn.never rfl (zj2 P1) (zc5 (i:=5) zf9.nd rfl (Or.inl rfl)) (za5 (zh7 PassesOwn.never rfl (zj2 (za6 (ye2 T) F.m T.bt zb3 (za0 P2 (za0 (pv 5) za1)))) (zc5 (i:=6) zf9.nd rfl (Or.inl rfl)) (za5 (zc8 (zM4 (zq8 (zi0 F) (za6 (zr1 T) F.m T.ay zb3 (za0 (pv 5) (za0 P6 za1))) P3)) (za5 (ze7 (zr4 QE QV QU zh0 (pv 4) (za0 (za6 (ok_limit_to_move T) F.m T.a1 zb3 (za0 P0 (za0 (pv 5) (za0 P6 za1)))) za1)))) zb6)))))
     (za5 (zb7 (zb0 (call_minL rfl) rfl T.bx PyProof.Rows.boot_min (za0 (pv 4) za1)))))))),?_⟩
   refine cut5 ?_;intro br bt bu bv;have al:=ze6 TS;have hw:=B.1.w;have n1:=B.1.n1;have n2:=B.1.n2;refine⟨_,rfl,a0,n,r,aa,400,b,rfl,B,by decide,by decide,fun fb X Y F1=>?_⟩;have a2:=Y _ _ aj;have am:=Y.tups TS;refine⟨_,rfl,D,rfl,⟨_,SqL.of a2⟩,fun a1 hD=>?_⟩;refine zr6 (K:=K) (a:=D) (xs:=zs) (fun j c=>X1 fun o=>A3 (c a1=some (.lst o)) (Prs c o (S.take j)) (Same X c)) ⟨[],za3,.nil,Same.upd hD⟩ (fun j c ⟨_,_,_,a7⟩=>SqL.of (a7 _ _ a2)) ?_ ?_
   . rintro j v c c1 hj ⟨o,a3,R',s'⟩ hN
     obtain⟨u,x,rfl,y,N⟩:=zo8 am hj;dsimp only[zy5];refine iteT ?_;refine⟨_,rfl,(by show 2<=sizeLine;decide),fun lt ft=>?_⟩;have an:a1≠lt:=fun z=>by rw[z,ft] at a3;cases a3
     have b4:u≠a1:=fun z=>by have:=s' _ _ N;rw[z,a3] at this;cases this
     have a4:S.take (j+1)=S.take j++[x]:=by rw[QX,y];rfl
     have b5:o.length<=1000:=by have:=yk3 R';rw[Zb] at this;omega
     have ag:(upd c lt (.tup [.ref u,.bl true])) a1=some (.lst o):=by rw[za7 an];exact a3
     refine⟨o,ag,zc3 b5,hN _ ⟨o++[.ref lt],za3,?_,(s'.updT ft).put hD⟩⟩;rw[a4];exact Paired.snoc (prs_keep ag (prs_same (Same.upd ft) R')) ⟨lt,u,rfl,by rw[za7 an.symm];exact za3,by rw[za7 b4];exact(s'.updT ft) _ _ N⟩
   . rintro H2 ⟨o,b6,R2,s2⟩
     rw[al,QS] at R2;refine⟨a1,o,S,rfl,b6,R2,nd,hS,fun d fd=>?_⟩;have s3:Same H2 (upd H2 d (.dT (S.map fun k=>(ik k,.bl true)))):=Same.upd fd;have a5:(upd H2 d (.dT (S.map fun k=>(ik k,.bl true)))) d=some (.dT (dOf (S.map fun k=>(k,V.bl true)))):=by rw[za3];unfold dOf;rw[ZC];rfl
     have ah:(S.map fun k=>(k,V.bl true)).map (·.1)=S:=by rw[ZC];exact List.map_id S
     revert s3 a5;generalize upd H2 d (.dT (S.map fun k=>(ik k,.bl true)))=H3;intro s3 a5;refine⟨QD _,fun f O=>?_⟩;have s4:Same H3 (upd H3 f (.lst [])):=Same.upd O;have ab:(upd H3 f (.lst [])) f=some (.lst ([].map V.int)):=za3;dsimp only;revert s4 ab;generalize upd H3 f (.lst [])=H4;intro s4 ab;have ao:=s2.trans (s3.trans s4);have b7:=s4 _ _ a5;have bo:=O;have ap:X f=none:=(s2.trans s3).free O;have bw:az f=none:=Y.free ap;have b8:d≠f:=fun z=>by rw[<-z,a5] at O;cases O
     refine⟨_,rfl,D,rfl,⟨_,SqL.of (ao _ _ a2)⟩,zl4 (K:=K) (a:=D) (xs:=zs) (fun i s c=>X3 fun v5 A Z=>A6 (s=[some (.ref a0),some (.ref D),some (.ref fb),some (.ref d),some (.ref f),v5,A]) (Same X c) (c d=some (.dT (dOf (S.map fun k=>(k,V.bl true))))) (c f=some (.lst (Z.map V.int))) (Z.length<=45*i) (∀z,z∈Z↔∃x∈S.take i,∃k p,zx5 n r b S x k p/\z=zn3 b x k p)) ⟨none,none,[],rfl,ao,b7,ab,QD _,fun z=>by simp⟩ (fun i s c _ ⟨_,_,_,_,a7,_,_,_,_⟩=>SqL.of (a7 _ _ a2)) ?_ ?_⟩
     . rintro i v s H5 hi ⟨v5,A,Z,rfl,G,ac,a6,aq,g⟩
       obtain⟨u,x,rfl,y,N⟩:=zo8 am hi;have b9:=QG y;have Vx:=VS x b9;have bx:=Vx.len;have bm:i<1000:=by have:=(Qw.mp hi).1;omega
       refine⟨_,rfl,_,rfl,fb,u,n,r,400,b,x,rfl,F1.same G,Vx,.inr (G _ _ N),fun H rs H6 s6 Q ar R6=>?_⟩;have ba:=zC1 n r b 400 x x.length;have b1:wide n<=9:=by unfold wide;omega
       have b2:(zl7 n r b 400 x x.length).length<=45:=QK ba (QK (Nat.mul_le_mul (show x.length<=5 by omega) b1) (by decide));have au:∀m∈zl7 n r b 400 x x.length,Lets n r b 400 x m.1 m.2:=fun m E=>(zv5.mp E).2
       have av:∀k p,Lets n r b 400 x k p->(k,p)∈zl7 n r b 400 x x.length:=fun k p L=>zv5.mpr ⟨L.lt,L⟩
       generalize zl7 n r b 400 x x.length=M at R6 b2 au av;have bp:X H=none:=G.free Q;have bb:H≠f:=fun z=>by rw[z,a6] at Q;cases Q
       have bz:H≠d:=fun z=>by rw[z,ac] at Q;cases Q
       have bc:=G.trans s6;refine⟨H,rfl,⟨_,SqL.of ar⟩,zl4 (K:=K) (a:=H) (xs:=rs.map V.ref) (fun j s c=>∃A Z,s=[some (.ref a0),some (.ref D),some (.ref fb),some (.ref d),some (.ref f),some (.ref u),A]/\Same X c/\c d=some (.dT (dOf (S.map fun k=>(k,V.bl true))))/\c f=some (.lst (Z.map V.int))/\c H=some (.lst (rs.map V.ref))/\Rows c x rs M/\Z.length<=45*i+j/\∀z,z∈Z↔(∃x∈S.take i,∃k p,zx5 n r b S x k p/\z=zn3 b x k p)\/∃m∈M.take j,zx5 n r b S x m.1 m.2/\z=zn3 b x m.1 m.2) ⟨A,Z,rfl,bc,s6 _ _ ac,s6 _ _ a6,ar,R6,aq,fun z=>by rw[g];simp⟩ (fun j s c _ ⟨_,_,_,_,_,_,ae,_⟩=>SqL.of ae) ?_ ?_⟩
       . rintro j v s H7 hj ⟨A,Z,rfl,I,R,U,a8,J,ad,g⟩
         rw[QP] at hj;obtain⟨mb,aw,rfl⟩:=Option.map_eq_some_iff.mp hj;have bd:=(Qw.mp aw).1;have be:j<M.length:=by rw[<-J.1];exact bd
         have E:M[j]?=some M[j]:=Qe be;have a9:=J.2 j mb _ aw E;have Lt:=au _ (QG E);have ax:=Lt.lt;generalize M[j]=m at E a9 Lt ax;have a4:M.take (j+1)=M.take j++[m]:=by rw[QX,E];rfl
         have ai:=I _ _ N;refine⟨_,rfl,_,rfl,u,mb,(m.1:Int)+1,x.getD m.1 0,m.2,m.1,x,rfl,ai,.inr (SqT.of a9),⟨rfl,ax,by omega⟩,fun l8 H8 l h8=>?_⟩;refine⟨_,rfl,d,_,rfl,dget (l _ _ R) h8,_,rfl,?_⟩;rw[zx4 (by rw[ah];exact nd),ah];refine ite2 (fun h9=>?_) (fun h9=>?_)
         . have hn:x.set m.1 m.2∉S:=fun z=>by rw[Qf z] at h9;cases h9
           refine⟨_,rfl,.inl ⟨rfl,_,SqL.of (l _ _ U)⟩,_,rfl,_,rfl,_,rfl,a0,u,mb,n,r,aa,m.2,m.1,b,x,rfl,(B.same Y).same (I.trans l),Vx,l _ _ ai,l _ _ a9,Lt,fun H9 s9=>?_⟩;have W:=l.trans s9;have ay:=W _ _ U;have af:Rows H9 x rs M:=J.same W;refine⟨f,_,_,rfl,rfl,ay,Nat.lt_of_le_of_lt (by rw[Qb];exact QK ad (show 45*i+j<=100000 by omega)) (by decide),?_⟩;refine⟨_,Z++[zn3 b x m.1 m.2],rfl,(I.trans W).put ap,by rw[za7 b8];exact W _ _ R,by rw[za3,Qm];rfl,by rw[za7 bb];exact W _ _ a8,⟨af.1,fun k a m e1 e2=>?_⟩,by rw[Qq,List.length_singleton];omega,fun z=>?_⟩
           . have:=af.2 k a m e1 e2
             unfold zs1 at this ⊢;rw[za7 (fun z=>by rw[z,ay] at this;cases this)];exact this
           . rw[Qt,g,a4]
             constructor
             . rintro((h | ⟨q,e,h⟩) | h)
               . exact .inl h
               . exact .inr ⟨q,Zo _ e,h⟩
               . obtain rfl:z=zn3 b x m.1 m.2:=by simpa using h
                 exact .inr ⟨m,by simp,⟨Lt,hn⟩,rfl⟩
             . rintro(h | ⟨q,e,h⟩)
               . exact .inl (.inl h)
               . rcases Qt.mp e with e | e
                 . exact .inl (.inr ⟨q,e,h⟩)
                 . obtain rfl:q=m:=by simpa using e
                   exact .inr (by rw[h.2];simp)
         . have bf:x.set m.1 m.2∈S:=Classical.byContradiction fun z=>h9 (by rw[Qg z];rfl)
           refine⟨_,Z,rfl,I.trans l,l _ _ R,l _ _ U,l _ _ a8,J.same l,by omega,fun z=>?_⟩;rw[g,a4];constructor
           . rintro(h | ⟨q,e,h⟩)
             . exact .inl h
             . exact .inr ⟨q,Zo _ e,h⟩
           . rintro(h | ⟨q,e,h⟩)
             . exact .inl h
             . rcases Qt.mp e with e | e
               . exact .inr ⟨q,e,h⟩
               . obtain rfl:q=m:=by simpa using e
                 exact absurd bf h.1.2
       . rintro s H7 ⟨A,Z,rfl,I,R,U,a8,J,ad,g⟩
         rw[Qb,J.1] at ad g;rw[QS] at g;refine⟨_,_,Z,rfl,I,R,U,by omega,fun z=>?_⟩;rw[g,QX,y];constructor
         . rintro(⟨x',C,h⟩ | ⟨m,E,h⟩)
           . exact⟨x',Zo _ C,h⟩
           . exact⟨x,by simp,m.1,m.2,h⟩
         . rintro⟨x',C,k,p,h⟩
           rcases Qt.mp C with C | C
           . exact .inl ⟨x',C,k,p,h⟩
           . obtain rfl:x'=x:=by simpa using C
             exact .inr ⟨(k,p),av k p h.1.1,h⟩
     . rintro s H5 ⟨v5,A,Z,rfl,G,ac,a6,aq,g⟩
       rw[al,QS] at g;obtain⟨x0,bg,i0,p0,L0⟩:=ak;have bh:0<Z.length:=List.length_pos_of_mem ((g _).mpr ⟨x0,bg,i0,p0,L0,rfl⟩);refine⟨_,rfl,f,Z,rfl,SqL.of a6,bh,fun M hM b3=>?_⟩;obtain⟨x,y,k,p,L,ae⟩:=(g M).mp hM;exact b0 M H5 (Y.trans G) ⟨x,y,k,p,L,ae.symm⟩ fun x y k p L=>b3 _ ((g _).mpr ⟨x,y,k,p,L,rfl⟩)
end
section
variable {P:Program} {w:World} {K:W.Frag} {mg:Str->Option Value} {base:Heap} {t:Adr}
section
variable {n r:Int} {hs:List Int}
theorem zv7 {L:Int}(a:L<=400){x:List Int}{i:Nat}{p:Int}:Lets n r hs L x i p↔Lets n r hs 400 x i p/\zn3 hs x i p<=L:=by
 constructor
 . intro l
   refine⟨⟨l.lt,l.on,l.ne,l.room,Int.le_trans l.held a,Int.le_trans l.behind a⟩,?_⟩;have b:=l.held;have c:=l.behind;unfold zn3
   split<;>omega
 . rintro⟨l,h⟩
   unfold zn3 at h
   exact⟨l.lt,l.on,l.ne,l.room,by split at h<;>omega,by split at h<;>omega⟩
def IsR (n r:Int)(hs:List Int)(L:Int)(s:List Int)(S:List (List Int)):Prop:=∀x,x∈S↔∃d,Dst n r hs L s d x
theorem IsR.walk {L:Int}{s:List Int}{S:List (List Int)}(h:IsR n r hs L s S){x:List Int}:x∈S↔∃d,Walk n r hs L s d x:=by
 rw[h];exact⟨fun⟨d,z⟩=>⟨d,z.1⟩,fun⟨d,z⟩=>let⟨e,_,z⟩:=z.dst;⟨e,z⟩⟩
theorem IsR.next {L M:Int}{s:List Int}{S:List (List Int)}(m:L<=400)(h:IsR n r hs L s S)(u:∃x∈S,∃i p,zx5 n r hs S x i p/\zn3 hs x i p=M)(v:∀x∈S,∀i p,zx5 n r hs S x i p->M<=zn3 hs x i p) :
   L<M/\M<=400/\∀a,L<=a->a<M->IsR n r hs a s S:=by
 obtain⟨x,A,i,p,c,rfl⟩:=u;have o:=((zv7 (Int.le_refl _)).mp c.1).2;have t:L<zn3 hs x i p:=Int.not_le.mp fun z=>c.2 (by
   obtain⟨d,B⟩:=h.walk.mp A;exact h.walk.mpr ⟨d+1,.succ B (zl0.mpr ⟨i,p,(zv7 m).mpr ⟨c.1,z⟩,rfl⟩)⟩)
 refine⟨t,o,fun a F G=>?_⟩;have j:a<=400:=by omega
 have C:∀ {d y},Walk n r hs a s d y->y∈S:=fun {d y} w=>by
   induction w with
   | zero=>exact h.walk.mpr ⟨0,.zero⟩
   | succ _ b f =>
     obtain⟨k,q,l,rfl⟩:=zl0.mp b;obtain⟨g,D⟩:=(zv7 j).mp l;exact Classical.byContradiction fun z=>by
       have:=v _ f k q ⟨g,z⟩;omega
 have E:∀ {d y},Walk n r hs L s d y->Walk n r hs a s d y:=fun {d y} w=>by
   induction w with
   | zero=>exact .zero
   | succ _ b f =>
     obtain⟨k,q,l,rfl⟩:=zl0.mp b;obtain⟨g,D⟩:=(zv7 m).mp l;exact .succ f (zl0.mpr ⟨k,q,(zv7 j).mpr ⟨g,by omega⟩,rfl⟩)
 intro y;constructor
 . intro b
   obtain⟨d,w⟩:=h.walk.mp b;obtain⟨e,_,z⟩:=(E w).dst;exact⟨e,z⟩
 . rintro⟨d,z⟩
   exact C z.1
theorem leave_of {s:List Int}{S:List (List Int)}(b:s∈S){d:Nat}{y:List Int}(w:Walk n r hs 400 s d y):y∉S->∃x∈S,∃i p,zx5 n r hs S x i p:=by
 induction w with
 | zero=>exact fun z=>absurd b z
 | @succ d x y g c e =>
   intro f;by_cases a:x∈S
   . obtain⟨i,p,l,rfl⟩:=zl0.mp c
     exact⟨x,a,i,p,l,f⟩
   . exact e a
theorem set_on0 {n:Int}{x:List Int}{i:Nat}{p:Int}(b:∀a∈x,-n<=a/\a<=n)(c:-n<=p/\p<=n):∀a∈x.set i p,-n<=a/\a<=n:=fun a d=>by
 rcases List.mem_or_eq_of_mem_set d with h | h
 . exact b a h
 . exact h▸c
theorem valid_zero {x:List Int}(a:zc6 n r hs.length x)(f:0<=n){i:Nat}(c:i<x.length):zc6 n r hs.length (x.set i 0):=by
 refine⟨by rw[Zj];exact a.len,set_on0 a.on (by omega),fun y d b=>?_⟩;have:(x.set i 0).count y<=x.count y:=by
   have e:=zE3 (xs:=x) (i:=i) (p:=0) (y:=y) c;rw[Qh (fun z:(0:Int)=y=>b z.symm)] at e
   split at e<;>omega
 rcases List.mem_or_eq_of_mem_set d with h | h
 . have:=a.room y h b
   omega
 . exact absurd h b
noncomputable def nz (x:List Int):Nat:=x.countP fun a=>decide (a≠0)
theorem ym1:∀ {x:List Int},nz x=0->x=List.replicate x.length 0
 | [],_=>rfl
 | a::x,h=>by
   unfold nz at h;rw[List.countP_cons] at h;have b:a=0:=Classical.byContradiction fun z=>by rw[Ql (Qf z)] at h;omega
   have c:=ym1 (x:=x) (by unfold nz;omega);rw[b,Qz,ZF,<-c]
theorem ym2:∀ {x:List Int} {k:Nat},nz x=k+1->∃i,i<x.length/\x.getD i 0≠0/\nz (x.set i 0)=k
 | [],k,h=>nomatch h
 | a::x,k,h=>by
   unfold nz at h;rw[List.countP_cons] at h;by_cases b:a=0
   . rw[Qh (by simp[b])] at h
     obtain⟨i,d,e,c⟩:=ym2 (x:=x) (k:=k) (by unfold nz;omega);refine⟨i+1,by simpa using d,e,?_⟩;show nz (a::x.set i 0)=k;unfold nz at c ⊢;rw[List.countP_cons,c,Qh (by simp[b]),Nat.add_zero]
   . rw[Ql (Qf b)] at h
     refine⟨0,by simp,b,?_⟩;show nz (0::x)=k;unfold nz;rw[List.countP_cons,Qh (by simp)];omega
theorem ya0 {lim:Int}(ok:zg9 n r hs lim):∀ {k:Nat} {x:List Int},zc6 n r hs.length x->nz x=k->∃d,Walk n r hs 400 x d (List.replicate hs.length 0)
 | 0,x,a,h=>⟨0,by have:=ym1 h;rw[a.len] at this;rw[<-this];exact .zero⟩
 | k+1,x,a,h=>by
   obtain⟨i,b,f,g⟩:=ym2 h;have j:=ok.n1;have c:=valid_zero a (by omega) b;obtain⟨e,_⟩:=zC0 ok c;rw[zv4 hs x i 0 a.len.symm b] at e;have l:Lets n r hs 400 x i 0:=⟨b,by omega,fun z=>f z.symm,fun z=>absurd rfl z,by rw[Int.mul_zero,Int.add_zero] at e;omega,by omega⟩;obtain⟨d,w⟩:=ya0 ok c g;exact⟨d+1,Walk.front (zl0.mpr ⟨i,0,l,rfl⟩) w⟩
theorem all_400 {lim:Int}(ok:zg9 n r hs lim){s g:List Int}(c:zc6 n r hs.length s)(a:zc6 n r hs.length g):∃d,Walk n r hs 400 s d g:=by
 obtain⟨d,w⟩:=ya0 ok c rfl;obtain⟨e,i⟩:=ya0 ok a rfl;have j:absI (zb5 hs g)<=400:=by have:=(zC0 ok a).1;omega
 have k:=i.rev a j;have l:∀ {y z:List Int} {e:Nat},Walk n r hs 400 y e z->∀ {d:Nat} {x:List Int},Walk n r hs 400 x d y->∃f,Walk n r hs 400 x f z:=by
   intro y z e h
   induction h with
   | zero=>intro d x b;exact⟨d,b⟩
   | succ _ m o=>intro d x b;obtain⟨f,p⟩:=o b;exact⟨f+1,.succ p m⟩
 exact l k w
end
noncomputable def zK8 (v1 v2 v3:V):List (Str×V):=putF "shut" v3 (putF "row" v2 (putF "limit" v1 []))
theorem zp8 (a b c:V):(zK8 a b c).lookup ("limit" : Str)=some a:=by
 unfold zK8;rw[zb1,Qh (by decide +kernel),zb1,Qh (by decide +kernel),zb1,Ql rfl]
theorem yr1 (b a c:V):(zK8 b a c).lookup ("row" : Str)=some a:=by
 unfold zK8;rw[zb1,Qh (by decide +kernel),zb1,Ql rfl]
theorem ym3 (b c a:V):(zK8 b c a).lookup ("shut" : Str)=some a:=by
 unfold zK8;rw[zb1,Ql rfl]
inductive zD2 (K:W.Frag)(t:Adr)(vs:List V)(H:Hp)(Q:VK)(E:XK):Prop
 | mk (p dx:Addr)(v1 v2 v3:V)(h0:vs=[.ref p,v1,v2,v3])(h1:H p=some (.ins t.ab dx []))(h2:∀H',H' p=some (.ins t.ab dx (zK8 v1 v2 v3))->zg6 p H H'->Q .non H'):zD2 K t vs H Q E
def sp_Least_init (K:W.Frag)(t:Adr):Sp:=fun vs H Q E=>zD2 K t vs H Q E
theorem ok_Least_init (T:Txt K mg t):FnOk P w K mg base CX0 1 t.al t.a1 Px (sp_Least_init K t):=by
 refine T.bh.F.ok sc_Least_init (fun f H Q E h=>?_) (fun l A k s H f Q E r h=>?_)
 . obtain⟨p,a,g,i,j,rfl,d,q⟩:=h
   rfl
 . obtain⟨p,a,g,i,j,rfl,d,q⟩:=h
   refine⟨_,(za2 (zj3 P0 P1 rfl)
     (za2 (zj3 P0 P2 rfl)
     (za5 (zj3 P0 P3 rfl)))),?_⟩
   refine cut3 ?_;intro m n;refine⟨_,rfl,_,rfl,p,_,a,_,rfl,d,T.aj,T.ak,by decide,?_⟩;refine⟨_,rfl,_,rfl,p,_,a,_,rfl,za3,T.aj,T.aQ,zm1 fl0,?_⟩;refine⟨_,rfl,_,rfl,p,_,a,_,rfl,za3,T.aj,T.aL,zm1 (flS fl0),?_⟩;refine q _ za3 fun b o e c=>?_
   rw[za7 c,za7 c,za7 c];exact e
noncomputable def zn4 (hs s g:List Int):Int:=if absI (zb5 hs g)>absI (zb5 hs s) then absI (zb5 hs g) else absI (zb5 hs s)
def yr2 (n r:Int)(hs s g:List Int)(L:Int)(S:List (List Int)):Prop:=(L=zn4 hs s g/\S=[])\/(zn4 hs s g<L/\IsR n r hs (L-1) s S)
def zs5 (t:Adr)(H:Hp)(l:Addr)(n r:Int)(hs s g:List Int):Prop:=∃(L:Int) (dx rw_ sh:Addr) (d:Nat) (rs:List Addr) (ms:List (Nat×Int)) (zs:List V) (S:List (List Int)),H l=some (.ins t.ab dx (zK8 (.int L) (.ref rw_) (.ref sh)))/\zn4 hs s g<=L/\L<=400/\Dst n r hs L s d g/\H rw_=some (.lst (rs.map V.ref))/\zi1 H s rs ms/\Goes n r hs L s ms g/\ms.length=d ∧
 (∀L',zn4 hs s g<=L'->L'<L->∀d,¬ Dst n r hs L' s d g)/\H sh=some (.lst zs)/\Tups H zs S/\S.Pairwise (fun x y=>Sx.lexB x y=true)/\yr2 n r hs s g L S
inductive ye8 (K:W.Frag)(t:Adr)(vs:List V)(H:Hp)(Q:VK)(E:XK):Prop
 | mk (b a1 a2:Addr)(n r lim:Int)(hs s g:List Int)(h0:vs=[.ref b,.ref a1,.ref a2])(h1:zd7 t H b n r hs lim)(h2:zc6 n r hs.length s)(h3:zc6 n r hs.length g)(h4:(SqL K H a1 (s.map V.int)\/H a1=some (.tup (s.map V.int))))(h5:(SqL K H a2 (g.map V.int)\/H a2=some (.tup (g.map V.int))))(h6:∀l H',Same H H'->zs5 t H' l n r hs s g->Q (.ref l) H'):ye8 K t vs H Q E
def sp_least (K:W.Frag)(t:Adr):Sp:=fun vs H Q E=>ye8 K t vs H Q E
theorem ok_least (T:Txt K mg t):FnOk P w K mg base CX0 10 t.be t.cd Pb (sp_least K t):=by
 refine T.bu.F.ok zm9 (fun vs b8 b9 ba h=>?_) (fun bi bu bh s b8 vs b9 ba c h=>?_)
 . obtain⟨b,a1,D,n,r,j,a,s,g,rfl,B,k,o,h1,h2,ai⟩:=h
   rfl
 . obtain⟨b,a1,D,n,r,j,a,s,g,rfl,B,k,o,h1,h2,ai⟩:=h
   refine⟨_,(za2 (zb4 (i:=3) zm9.nd rfl (Or.inl rfl) (za6 (zf3 T) c.m T.ai zb3 (za0 P0 (za0 P1 za1))))
     (za2 (zb4 (i:=4) zm9.nd rfl (Or.inl rfl) (za6 (zf3 T) c.m T.ai zb3 (za0 P0 (za0 P2 za1))))
     (za2 (zb4 (i:=5) zm9.nd rfl (Or.inl rfl) (zb0 (zu2 rfl) rfl T.a2 ZM (za0 (zb0 zh3 rfl T.ar QT (za0 (za6 (zH5 T) c.m T.aM zb3 (za0 P0 (za0 P3 za1))) za1)) (za0 (zb0 zh3 rfl T.ar QT (za0 (za6 (zH5 T) c.m T.aM zb3 (za0 P0 (za0 (pv 4) za1))) za1)) za1))))
     (za2 (zb4 (i:=6) zm9.nd rfl (Or.inl rfl) (ze8 za1))
     (za2 (zb4 (i:=7) zm9.nd rfl (Or.inl rfl) (zw2 (zC2 T) c.m rfl T.ax T.ap.F.kp T.ap.b .nil zb3 (za0 (za6 (zR3 T) c.m T.a4 zb3 (za0 P0 (za0 (pv 5) za1))) (za0 P3 (za0 (pv 4) za1)))))
     (za2 (zE8 PassesOwn.never (zd4 (zd0 (zc4 P7 rfl))) (za2 (zb4 (i:=6) zm9.nd rfl (Or.inl rfl) (zc4 P7 rfl))
     (za2 (zb4 (i:=5) zm9.nd rfl (Or.inl rfl) (za6 (ok_limit_to_leave T) c.m T.aV zb3 (za0 P0 (za0 P6 za1))))
     (za5 (zb4 (i:=7) zm9.nd rfl (Or.inl rfl) (zw2 (zC2 T) c.m rfl T.ax T.ap.F.kp T.ap.b .nil zb3 (za0 (za6 (zR3 T) c.m T.a4 zb3 (za0 P0 (za0 (pv 5) za1))) (za0 P3 (za0 (pv 4) za1)))))))))
     (za5 (zb7 (zB2 T.ci (ok_Least_init T) c.m rfl T.bV T.bh.b .nil zb3 (za0 (pv 5) (za0 (zc4 P7 rfl) (za0 P6 za1)))))))))))),?_⟩
   refine cut7 ?_;intro bj bl bm bn bo bp;refine⟨_,rfl,_,rfl,b,a1,n,r,j,a,s,rfl,B,k,h1,fun I H1 J H=>?_⟩;have an:SqL K H1 D (g.map V.int)\/H1 D=some (.tup (g.map V.int)):=h2.imp (fun z=>J.seq z) (fun z=>J _ _ z);refine⟨_,rfl,_,rfl,b,D,n,r,j,a,g,rfl,B.same J,o,an,fun N H2 s2 y=>?_⟩;have Z:=J.trans s2;have a6:=s2 _ _ H;refine⟨_,rfl,_,rfl,b,I,n,r,j,a,s,rfl,B.same Z,k,.inr a6,fun H3 s3=>⟨_,rfl,_,rfl,_,rfl,b,N,n,r,j,a,g,rfl,(B.same Z).same s3,o,.inr (s3 _ _ y),fun E s4=>⟨_,rfl,_,_,rfl,?_⟩⟩⟩;obtain⟨t1,t2⟩:=zC0 B.1 k;obtain⟨t3,t4⟩:=zC0 B.1 o;have ak:(if (if zb5 a g<0 then -zb5 a g else zb5 a g)>(if zb5 a s<0 then -zb5 a s else zb5 a s) then(if zb5 a g<0 then -zb5 a g else zb5 a g) else(if zb5 a s<0 then -zb5 a s else zb5 a s))=zn4 a s g:=rfl;rw[ak]
   have w1:absI (zb5 a s)<=zn4 a s g:=by unfold zn4;split<;>omega
   have w2:absI (zb5 a g)<=zn4 a s g:=by unfold zn4;split<;>omega
   have w3:zn4 a s g<=240:=by unfold zn4;split<;>omega
   have a0:=s3.trans s4;have aa:=Z.trans a0;have B4:=B.same aa;have H:=a0 _ _ a6;replace y:=a0 _ _ y;refine⟨QD _,fun e ao=>?_⟩;have q:Same E (upd E e (.lst [])):=Same.upd ao;have X:(upd E e (.lst [])) e=some (.lst []):=za3;dsimp only;revert q X;generalize upd E e (.lst [])=H5;intro q X;refine⟨_,rfl,_,rfl,b,n,r,j,zn4 a s g,a,rfl,B4.same q,by omega,by omega,fun b1 H6 s6 B6=>⟨_,rfl,_,rfl,b1,I,N,n,r,zn4 a s g,a,s,g,rfl,B6,k,o,.inr ((q.trans s6) _ _ H),.inr ((q.trans s6) _ _ y),w1,w2,fun f H7 s7 W7=>?_⟩⟩;have ab:=s6.trans s7
   refine zE9 (fun F u=>∃L e f O S,F=[some (.ref b),some (.ref a1),some (.ref D),some (.ref I),some (.ref N),some (.int L),some (.ref e),some (.ref f)]/\Same E u/\zn4 a s g<=L/\L<=400/\zs4 t u f n r a L s g/\(∀m,zn4 a s g<=m->m<L->∀d,¬ Dst n r a m s d g)/\u e=some (.lst O)/\Tups u O S/\S.Pairwise (fun x bb=>Sx.lexB x bb=true)/\yr2 n r a s g L S)
     (fun F u=>match F with | [_,_,_,_,_,some (.int L),_,_]=>(401-L).toNat | _=>0) ⟨zn4 a s g,e,f,[],[],rfl,q.trans ab,Int.le_refl _,by omega,W7,fun m h1 h2=>by omega,ab _ _ X,.nil,.nil,.inl ⟨rfl,rfl⟩⟩ ?_ ?_
   . rintro F H8 ⟨L,e,f,O,S,rfl,Q,ap,hL,bc,a7,aq,TS,ar,aj⟩
     rcases bc with⟨d,ac,rs,ms,la,as,Ls,ag,bq,a3,R,⟨p,A⟩,au,av,hG,al,_⟩ | ⟨aw,ac,la,as,Ls,ag,a3,ad,v,⟨p,A⟩,_,_,_,_,_,_,a8,ae,a9,G⟩
     . refine⟨_,rfl,f,_,p,_,_,rfl,A,T.aa,T.ag,zh9 _ _ _ _ _ _,_,rfl,iteF ?_⟩
       refine⟨_,rfl,_,rfl,f,_,p,_,_,rfl,A,T.aa,T.ao,zE6 _ _ _ _ _ _,_,rfl,fun l U fl ax ay=>?_⟩;have W:Same H8 (upd (upd H8 U (.own l)) l (.ins t.ab U [])):=(Same.upd ax).updT (by rw[za7 (Ne.symm ay)];exact fl);refine⟨l,U,_,_,_,rfl,za3,fun H9 h9 x9=>⟨rfl,?_⟩⟩;have C:Same H8 H9:=zg6.same W fl x9;exact ai l H9 (aa.trans (Q.trans C)) ⟨L,U,ac,e,d,rs,ms,O,S,h9,ap,hL,R,C _ _ au,av.same C,hG,al,a7,C _ _ aq,C.tups TS,ar,aj⟩
     . refine⟨_,rfl,f,_,p,_,_,rfl,A,T.aa,T.ag,zh9 _ _ _ _ _ _,_,rfl,iteT ?_⟩
       refine⟨_,rfl,f,_,p,_,_,rfl,A,T.aa,T.aU,ym0 _ _ _ _ _ _,?_⟩;have hR:IsR n r a L s v:=G;have af:=zq6 a9;have V2:∀x∈v,zc6 n r a.length x:=fun x hx=>let⟨_,h⟩:=(G x).mp hx;h.1.valid k
       have az:s∈v:=(G s).mpr ⟨0,Dst.zero⟩;have ah:g∉v:=fun z=>let⟨d,h⟩:=(G g).mp z;aw d h
       obtain⟨d4,b0⟩:=all_400 B.1 k o;refine⟨_,rfl,_,rfl,b,a3,n,r,j,a,v,ad,rfl,B4.same Q,a8,ae,af,V2,few B.1 af V2,leave_of az b0 ah,fun M H9 W hM hm=>?_⟩;obtain⟨m1,m2,m3⟩:=hR.next hL hM hm;have a4:=Q.trans W;refine⟨_,rfl,_,rfl,b,n,r,j,M,a,rfl,B4.same a4,by omega,m2,fun b2 br a5 b3=>⟨_,rfl,_,rfl,b2,I,N,n,r,M,a,s,g,rfl,b3,k,o,.inr ((a4.trans a5) _ _ H),.inr ((a4.trans a5) _ _ y),by omega,by omega,fun b4 bt b5 b6=>?_⟩⟩;have am:=a5.trans b5;have Y:=W.trans am;refine⟨⟨M,a3,b4,ad,v,rfl,Q.trans Y,by omega,m2,b6,fun m l1 l2 d R=>?_,Y _ _ a8,Y.tups ae,a9,.inr ⟨by omega,m3 (M-1) (by omega) (by omega)⟩⟩,?_⟩
       . by_cases b7:m<L
         . exact a7 m l1 b7 d R
         . exact ah ((m3 m (by omega) l2 g).mpr ⟨d,R⟩)
       . show(401-M).toNat<(401-L).toNat
         omega
   . rintro F u Q1 Q2 hQ ⟨_,e1,bd,be,p,fs,bf,e2,e3,e4,e5,e6,bg,e7,h⟩
     exact⟨_,e1,bd,be,p,fs,bf,e2,e3,e4,e5,e6,bg,e7,hQ _ _ h⟩
end
section
variable {P:Program} {w:World} {K:W.Frag} {mg:Str->Option Value} {base:Heap} {t:Adr}
noncomputable def zh4 (b s x m:Addr):List (Str×V):=[("beam",.ref b),("start",.ref s),("standing",.ref x),("made",.ref m)]
theorem yr3:¬ ("beam" : Str) = "start":=by decide +kernel
theorem yg4:¬ ("beam" : Str) = "standing":=by decide +kernel
theorem yr4:¬ ("start" : Str) = "standing":=by decide +kernel
theorem yr5:¬ ("beam" : Str) = "made":=by decide +kernel
theorem pf_ne5:¬ ("start" : Str) = "made":=by decide +kernel
theorem yr6:¬ ("standing" : Str) = "made":=by decide +kernel
theorem pfN {f:Str}{v:V}:putF f v []=[(f,v)]:=rfl
theorem pfC {f g:Str}{v x:V}{l:List (Str×V)}(h:¬ g=f):putF f v ((g,x)::l)=(g,x)::putF f v l:=Qh h
theorem pfE {f:Str}{v x:V}{l:List (Str×V)}:putF f v ((f,x)::l)=(f,v)::l:=Ql rfl
theorem ye9 (b s x m:Addr):putF "made" (.ref m) (putF "standing" (.ref x) (putF "start" (.ref s) (putF "beam" (.ref b) [])))=zh4 b s x m:=by
 rw[pfN,pfC yr3,pfN,pfC yg4,pfC yr4,pfN,pfC yr5,pfC pf_ne5,pfC yr6,pfN];rfl
theorem yr7 (b s x a m:Addr):putF "standing" (.ref a) (zh4 b s x m)=zh4 b s a m:=by
 unfold zh4;rw[pfC yg4,pfC yr4,pfE]
theorem zM3 (b s x m:Addr):(zh4 b s x m).lookup ("beam" : Str)=some (.ref b):=by rw[<-ye9,zb1,Qh yr5,zb1,Qh yg4,zb1,Qh yr3,zb1,Ql rfl]
theorem zh5 (b s x m:Addr):(zh4 b s x m).lookup ("standing" : Str)=some (.ref x):=by rw[<-ye9,zb1,Qh yr6,zb1,Ql rfl]
theorem zI1 (b s x m:Addr):(zh4 b s x m).lookup ("made" : Str)=some (.ref m):=by rw[<-ye9,zb1,Ql rfl]
theorem zV9 (b s x m:Addr) (f:Str) (a:¬ f = "made") (c:¬ f = "standing") (d:¬ f = "start") (e:¬ f = "beam"):(zh4 b s x m).lookup f=none:=by rw[<-ye9,zb1,Qh a,zb1,Qh c,zb1,Qh d,zb1,Qh e];rfl
theorem pf_move (b s x m:Addr):(zh4 b s x m).lookup ("move" : Str)=none:=zV9 _ _ _ _ _ (by decide +kernel) (by decide +kernel) (by decide +kernel) (by decide +kernel)
theorem pf_back (b s x m:Addr):(zh4 b s x m).lookup ("back" : Str)=none:=zV9 _ _ _ _ _ (by decide +kernel) (by decide +kernel) (by decide +kernel) (by decide +kernel)
theorem pf_trail (b s x m:Addr):(zh4 b s x m).lookup ("trail" : Str)=none:=zV9 _ _ _ _ _ (by decide +kernel) (by decide +kernel) (by decide +kernel) (by decide +kernel)
theorem yr8 (b s x m:Addr):(zh4 b s x m).length<1000:=by show 4<1000;decide
def zj8 (p m:Addr)(H H':Hp):Prop:=∀b o,H b=some o->b≠p->b≠m->H' b=some o
theorem zj8.tup {p m:Addr}{H H':Hp}(s:zj8 p m H H')(d:∃C b fs,H p=some (.ins C b fs))(f:∃c,H m=some (.lst c)){a:Addr}{vs:List V}(h:H a=some (.tup vs)):H' a=some (.tup vs) :=
 s a _ h (fun z=>by obtain⟨C,b,fs,e⟩:=d;rw[z,e] at h;cases h) (fun z=>by obtain⟨c,e⟩:=f;rw[z,e] at h;cases h)
theorem zj8.tups {p m:Addr}{H H':Hp}(s:zj8 p m H H')(c:∃C d fs,H p=some (.ins C d fs))(f:∃ys,H m=some (.lst ys)){ys:List V}{a:List (List Int)}(h:Tups H ys a):Tups H' ys a:=Paired.mapP h fun y k ⟨b,e,g⟩=>⟨b,e,s.tup c f g⟩
structure zg3 (t:Adr)(H:Hp)(p b s x m:Addr)(n r:Int)(hs:List Int)(lim:Int)(a c:List Int)(ys:List V)(ms:List (List Int)):Prop where
 bm:zd7 t H b n r hs lim
 nb:b≠p
 hp:∃dx,H p=some (.ins t.aa dx (zh4 b s x m))
 hs:H s=some (.tup (a.map V.int))
 hx:H x=some (.tup (c.map V.int))
 hm:H m=some (.lst ys)
 tm:Tups H ys ms
theorem zd7.same2 {t:Adr}{H H':Hp}{b p m:Addr}{n r lim:Int}{hs:List Int}(B:zd7 t H b n r hs lim)(s:zj8 p m H H')(g:b≠p)(i:∃C a fs,H p=some (.ins C a fs))(d:∃f,H m=some (.lst f)):zd7 t H' b n r hs lim:=by
 obtain⟨ok,a,h,c,j⟩:=B;exact⟨ok,a,h,s b _ c g (fun z=>by obtain⟨f,e⟩:=d;rw[z,e] at c;cases c),s.tup i d j⟩
theorem zg3.same {t:Adr}{H H':Hp}{p b s x m:Addr}{n r lim:Int}{hs a c:List Int}{ys:List V}{d:List (List Int)}(h:zg3 t H p b s x m n r hs lim a c ys d)(e:Same H H'):zg3 t H' p b s x m n r hs lim a c ys d :=
 ⟨h.bm.same e,h.nb,let⟨f,z⟩:=h.hp;⟨f,e _ _ z⟩,e _ _ h.hs,e _ _ h.hx,e _ _ h.hm,e.tups h.tm⟩
theorem zg3.ip {t:Adr}{H:Hp}{p b s x m:Addr}{n r lim:Int}{hs a c:List Int}{ys:List V}{e:List (List Int)}(h:zg3 t H p b s x m n r hs lim a c ys e):∃C d fs,H p=some (.ins C d fs):=let⟨d,z⟩:=h.hp;⟨_,d,_,z⟩
theorem Same.two {H H':Hp}(s:Same H H')(p m:Addr):zj8 p m H H':=fun b o e _ _=>s b o e
theorem zj8.trans {p m:Addr}{H a c:Hp}(s:zj8 p m H a)(s':zj8 p m a c):zj8 p m H c:=fun b o e d f=>s' b o (s b o e d f) d f
theorem zj8.updP {p m:Addr}{H a:Hp}{o:HO}(s:zj8 p m H a):zj8 p m H (upd a p o):=fun b u e c d=>by rw[za7 c];exact s b u e c d
theorem zj8.updM {p m:Addr}{H a:Hp}{o:HO}(s:zj8 p m H a):zj8 p m H (upd a m o):=fun b u e d c=>by rw[za7 c];exact s b u e d c
inductive zI2 (K:W.Frag)(t:Adr)(vs:List V)(H:Hp)(Q:VK)(E:XK):Prop
 | mk (p b a dx:Addr)(n r lim:Int)(hs xs:List Int)(h0:vs=[.ref p,.ref b,.ref a])(h1:H p=some (.ins t.aa dx []))(h2:b≠p)(h3:zd7 t H b n r hs lim)(h4:zc6 n r hs.length xs)(h5:(SqL K H a (xs.map V.int)\/H a=some (.tup (xs.map V.int))))(h6:absI (zb5 hs xs)<=lim)(h7:∀H' s m,zg6 p H H'->H m=none->zg3 t H' p b s s m n r hs lim xs xs [] []->Q .non H'):zI2 K t vs H Q E
def sp_Play_init (K:W.Frag)(t:Adr):Sp:=fun vs H Q E=>zI2 K t vs H Q E
theorem ok_Play_init (T:Txt K mg t):FnOk P w K mg base CX0 5 t.au t.ba PV (sp_Play_init K t):=by
 refine T.bq.F.ok zG8 (fun S H Q E h=>?_) (fun X a3 W a4 H S Q E D h=>?_)
 . obtain⟨p,b,a,c,n,r,o,s,j,rfl,k,u,B,v,F,G,q⟩:=h
   rfl
 . obtain⟨p,b,a,c,n,r,o,s,j,rfl,k,u,B,v,F,G,q⟩:=h
   refine⟨_,(za2 (zb4 (i:=3) zG8.nd rfl (Or.inl rfl) (za6 (zf3 T) D.m T.ai zb3 (za0 P1 (za0 P2 za1))))
     (za2 (zc8 (zd4 (zd0 (za6 (zQ8 T) D.m T.a5 zb3 (za0 P1 (za0 P3 za1))))) pss_never zb6)
     (za2 (zj3 P0 P1 rfl)
     (za2 (zj3 P0 P3 rfl)
     (za2 (zj3 P0 P3 rfl)
     (za5 (zj3 P0 (ze8 za1) rfl))))))),?_⟩
   refine cut6 ?_;intro Y Z a0 a1 a2;refine⟨_,rfl,_,rfl,b,a,n,r,o,s,j,rfl,B,v,F,fun l H1 I J=>?_⟩;refine⟨_,rfl,_,rfl,b,l,n,r,o,s,j,rfl,B.same I,v,.inr J,fun L M=>⟨_,rfl,?_⟩⟩;rw[Qf G];refine iteF ?_;have f:=I.trans M;have g:=M _ _ J;have N:l≠p:=fun z=>by rw[z,f _ _ k] at g;cases g
   refine⟨_,rfl,_,rfl,p,_,c,_,rfl,f _ _ k,T.ab,T.aw,by decide,?_⟩;refine⟨_,rfl,_,rfl,p,_,c,_,rfl,za3,T.ab,T.b1,zm1 fl0,?_⟩;refine⟨_,rfl,_,rfl,p,_,c,_,rfl,za3,T.ab,T.ac,zm1 (flS fl0),?_⟩;rw[zg1,zg1];refine⟨QD _,fun m d=>?_⟩;have x:m≠p:=fun z=>by rw[z,za3] at d;cases d
   refine⟨_,rfl,p,_,c,_,rfl,by rw[za7 x.symm];exact za3,T.ab,T.aq,zm1 (flS (flS fl0)),?_⟩;rw[ye9];rw[za7 x] at d;have y:zg6 p H (upd (upd (upd L p (.ins t.aa c (putF "standing" (.ref l) (putF "start" (.ref l) (putF "beam" (.ref b) []))))) m (.lst [])) p (.ins t.aa c (zh4 b l l m))):=fun a5 a6 e O=>by
     rw[za7 O,za7 (zb2 (f _ _ e) d),za7 O];exact f _ _ e
   have C:(upd (upd (upd L p (.ins t.aa c (putF "standing" (.ref l) (putF "start" (.ref l) (putF "beam" (.ref b) []))))) m (.lst [])) p (.ins t.aa c (zh4 b l l m))) l=some (.tup (j.map V.int)):=by
     rw[za7 N,za7 (zb2 g d),za7 N];exact g
   refine q _ l m y (f.free d) ⟨?_,u,⟨c,za3⟩,C,C,by rw[za7 x];exact za3,.nil⟩;obtain⟨ok,R,h,U,A⟩:=B;exact⟨ok,R,h,y _ _ U u,y _ _ A (fun z=>by rw[z,k] at A;cases A)⟩
inductive zI3 (K:W.Frag)(t:Adr)(vs:List V)(H:Hp)(Q:VK)(E:XK):Prop
 | mk (p mv b s x m:Addr)(n r lim qq:Int)(hs a c:List Int)(ys:List V)(ms:List (List Int))(i:Nat)(h0:vs=[.ref p,.ref mv])(h1:zg3 t H p b s x m n r hs lim a c ys ms)(h2:zc6 n r hs.length c)(h3:(H mv=some (.lst [.int ((i:Int)+1),.int (c.getD i 0),.int qq])\/H mv=some (.tup [.int ((i:Int)+1),.int (c.getD i 0),.int qq])))(h4:mv≠m)(h5:Lets n r hs lim c i qq)(h6:ys.length<300)(h7:∀x' tv H',zj8 p m H H'->zg3 t H' p b s x' m n r hs lim a (c.set i qq) (ys++[.ref tv]) (ms++[[(i:Int)+1,c.getD i 0,qq]])->Q (.ref x') H'):zI3 K t vs H Q E
def sp_Play_move (K:W.Frag)(t:Adr):Sp:=fun vs H Q E=>zI3 K t vs H Q E
theorem ok_Play_move (T:Txt K mg t):FnOk P w K mg base CX0 7 t.av t.bb Py (sp_Play_move K t):=by
 refine T.br.F.ok sc_Play_move (fun vs H a4 a5 h=>?_) (fun a7 ab a6 s H vs a4 a5 hr h=>?_)
 . obtain⟨p,A,b,s,x,m,n,r,L,k,M,a,c,l,U,i,rfl,D,V0,V,nm,a2,hy,q⟩:=h
   rfl
 . obtain⟨p,A,b,s,x,m,n,r,L,k,M,a,c,l,U,i,rfl,D,V0,V,nm,a2,hy,q⟩:=h
   refine⟨_,(za2 (zc8 (zc2 yg9 (zb0 zc0 rfl T.ae QB (za0 (zc4 P0 rfl) za1)) (zo3 (v:=.int 300) rfl T.ce ⟨_,rfl⟩) (zc1 _)) (za5 ze2) zb6)
     (za2 (zj3 P0 (za6 (ok_moved T) hr.m T.bR zb3 (za0 (zc4 P0 rfl) (za0 (zc4 P0 rfl) (za0 P1 za1)))) rfl)
     (za2 (ze7 (zr4 QE QV QU zh0 (zc4 P0 rfl) (za0 (zi5 zl5 rfl T.aA Zv (za0 P1 za1)) za1)))
     (za5 (zb7 (zc4 P0 rfl)))))),?_⟩
   refine cut4 ?_;intro a8 a9 aa;obtain⟨d,N⟩:=D.hp;refine⟨_,rfl,p,_,d,_,_,rfl,N,T.ab,T.aq,zI1 _ _ _ _,m,_,rfl,.inl (SqL.of D.hm),_,_,rfl,rfl,_,rfl,iteB (Qg (by omega)) ?_⟩;refine⟨_,rfl,p,_,d,_,_,rfl,N,T.ab,T.aw,zM3 _ _ _ _,_,rfl,p,_,d,_,_,rfl,N,T.ab,T.ac,zh5 _ _ _ _,_,rfl,b,x,A,n,r,L,k,i,M,c,rfl,D.bm,V0,.inr D.hx,V.imp SqL.of SqT.of,a2,fun f g F a3=>?_⟩;have e:=D.same F;have O:=F _ _ N;refine⟨_,rfl,p,_,d,_,rfl,O,T.ab,T.ac,yr8 _ _ _ _,?_⟩;rw[yr7];have G:zj8 p m g (upd g p (.ins t.aa d (zh4 b s f m))):=(Same.two (Same.refl g) p m).updP;have E:(upd g p (.ins t.aa d (zh4 b s f m))) p=some (.ins t.aa d (zh4 b s f m)):=za3;have Y:m≠p:=fun z=>by have:=e.hm;rw[z,O] at this;cases this
   have C:(upd g p (.ins t.aa d (zh4 b s f m))) m=some (.lst l):=by rw[za7 Y];exact e.hm
   have W:zg3 t (upd g p (.ins t.aa d (zh4 b s f m))) p b s f m n r M L a (c.set i k) l U:=⟨e.bm.same2 G e.nb e.ip ⟨_,e.hm⟩,e.nb,⟨d,E⟩,G.tup e.ip ⟨_,e.hm⟩ e.hs,G.tup e.ip ⟨_,e.hm⟩ a3,C,G.tups e.ip ⟨_,e.hm⟩ e.tm⟩;have Z:=V.imp (F _ _) (F _ _);have y:(upd g p (.ins t.aa d (zh4 b s f m))) A=some (.lst [.int ((i:Int)+1),.int (c.getD i 0),.int k])\/(upd g p (.ins t.aa d (zh4 b s f m))) A=some (.tup [.int ((i:Int)+1),.int (c.getD i 0),.int k]):=by
     have np:A≠p:=fun z=>by rcases Z with h | h<;>(rw[z,O] at h;cases h)
     rw[za7 np];exact Z
   have Q:zj8 p m H (upd g p (.ins t.aa d (zh4 b s f m))):=(Same.two F p m).trans G;revert W E C y Q;generalize upd g p (.ins t.aa d (zh4 b s f m))=H2;intro E C W y Q;have a0:∀(o:Addr) (u:Hp),Same H2 u->u o=some (.tup [.int ((i:Int)+1),.int (c.getD i 0),.int k])->zg3 t (upd u m (.lst (l++[.ref o]))) p b s f m n r M L a (c.set i k) (l++[.ref o]) (U++[[(i:Int)+1,c.getD i 0,k]])/\zj8 p m H (upd u m (.lst (l++[.ref o]))):=fun o u X h3=>by
     have B:=W.same X;have j:zj8 p m u (upd u m (.lst (l++[.ref o]))):=(Same.two (Same.refl u) p m).updM;have ip:=B.ip;have I:∃l,u m=some (.lst l):=⟨_,B.hm⟩;exact⟨⟨B.bm.same2 j B.nb ip I,B.nb,⟨d,by rw[za7 Y.symm];exact X _ _ E⟩,j.tup ip I B.hs,j.tup ip I B.hx,za3,zr0 (j.tups ip I B.tm) (j.tup ip I h3)⟩,(Q.trans (Same.two X p m)).trans j⟩
   refine⟨_,rfl,p,_,d,_,_,rfl,E,T.ab,T.aq,zI1 _ _ _ _,.inl ⟨rfl,_,SqL.of C⟩,_,rfl,A,[.int ((i:Int)+1),.int (c.getD i 0),.int k],rfl,?_⟩;rcases y with y | y
   . refine .inl ⟨SqL.of y,fun o a1=>⟨m,_,_,rfl,rfl,Same.upd a1 _ _ C,zc3 (by omega),?_⟩⟩
     obtain⟨J,j⟩:=a0 o _ (Same.upd a1) za3;obtain⟨R,S⟩:=J.hp;exact⟨_,rfl,p,_,R,_,_,rfl,S,T.ab,T.ac,zh5 _ _ _ _,q f o _ j J⟩
   . refine .inr ⟨SqT.of y,m,_,_,rfl,rfl,C,zc3 (by omega),?_⟩
     obtain⟨J,j⟩:=a0 A _ (Same.refl _) y;obtain⟨R,S⟩:=J.hp;exact⟨_,rfl,p,_,R,_,_,rfl,S,T.ab,T.ac,zh5 _ _ _ _,q f A _ j J⟩
inductive zD3 (K:W.Frag)(t:Adr)(vs:List V)(H:Hp)(Q:VK)(E:XK):Prop
 | mk (p b s x m:Addr)(n r lim:Int)(hs a c:List Int)(ys:List V)(ms:List (List Int))(h0:vs=[.ref p])(h1:zg3 t H p b s x m n r hs lim a c ys ms)(h2:∀l,H l=none->Q (.ref l) (upd H l (.lst ys))):zD3 K t vs H Q E
def sp_Play_trail (K:W.Frag)(t:Adr):Sp:=fun vs H Q E=>zD3 K t vs H Q E
theorem ok_Play_trail (T:Txt K mg t):FnOk P w K mg base CX0 1 t.am t.a2 Pg (sp_Play_trail K t):=by
 refine T.bi.F.ok sc_Play_trail (fun f H Q E h=>?_) (fun y A v s H f Q E z h=>?_)
 . obtain⟨p,b,s,x,m,n,r,e,g,a,c,i,j,rfl,d,q⟩:=h
   rfl
 . obtain⟨p,b,s,x,m,n,r,e,g,a,c,i,j,rfl,d,q⟩:=h
   refine⟨_,(za5 (zb7 (zi5 zq4 rfl T.aD Zq (za0 (zc4 P0 rfl) za1)))),?_⟩;obtain⟨k,o⟩:=d.hp;exact⟨_,rfl,p,_,k,_,_,rfl,o,T.ab,T.aq,zI1 _ _ _ _,m,_,rfl,.inl (SqL.of d.hm),fun l u=>q l u⟩
inductive zI4 (K:W.Frag)(t:Adr)(vs:List V)(H:Hp)(Q:VK)(E:XK):Prop
 | mk (p b s x m:Addr)(n r lim:Int)(hs a c:List Int)(ys:List V)(ms:List (List Int))(h0:vs=[.ref p])(h1:zg3 t H p b s x m n r hs lim a c ys ms)(h2:c.length<=5)(h3:ys.length<=300)(h4:(∃(ys0:List V) (ms0:List (List Int)) (tv:Addr) (i:Nat) (u v:Int),ys=ys0++[.ref tv]/\ms=ms0++[[(i:Int)+1,u,v]]/\H tv=some (.tup [.int ((i:Int)+1),.int u,.int v])/\i<c.length/\∀x' H',zj8 p m H H'->zg3 t H' p b s x' m n r hs lim a (c.set i u) ys0 ms0->Q (.ref tv) H')):zI4 K t vs H Q E
def sp_Play_back (K:W.Frag)(t:Adr):Sp:=fun vs H Q E=>zI4 K t vs H Q E
theorem ok_Play_back (T:Txt K mg t):FnOk P w K mg base CX0 2 t.aw t.bc Pg (sp_Play_back K t):=by
 refine T.bs.F.ok zG9 (fun vs H a8 a9 h=>?_) (fun ac ag ab s H vs a8 a9 X h=>?_)
 . obtain⟨p,b,s,x,m,n,a0,S,Y,a,c,d,ms,rfl,e,a1,a2,q⟩:=h
   rfl
 . obtain⟨p,b,s,x,m,n,a0,S,Y,a,c,d,ms,rfl,e,a1,a2,q⟩:=h
   refine⟨_,(za2 (zc8 (zc2 zi9 (zb0 zc0 rfl T.ae QB (za0 (zc4 P0 rfl) za1)) za4 (zc1 _)) (za5 ze2) zb6)
     (za2 (zb4 (i:=1) zG9.nd rfl (Or.inl rfl) (zY1 QE PySem.F.slot_list_pop PySem.F.type_list_pop yo9 (zc4 P0 rfl)))
     (za2 (zj3 P0 (za6 (zr1 T) X.m T.ay zb3 (za0 (zc4 P0 rfl) (za0 (za6 (zV1 T) X.m T.be zb3 (za0 P1 za1)) za1))) rfl)
     (za5 (zb7 P1))))),?_⟩
   refine cut4 ?_;intro ad ae af;obtain⟨g,F⟩:=e.hp;obtain⟨f,U,G,i,u,v,rfl,rfl,a3,hi,q⟩:=q;refine⟨_,rfl,p,_,g,_,_,rfl,F,T.ab,T.aq,zI1 _ _ _ _,m,_,rfl,.inl (SqL.of e.hm),rfl,_,rfl,iteB (by rw[ze3];simp;omega) ?_⟩;have z:=e.hm;have W:m≠p:=fun aa=>by rw[aa,F] at z;cases z
   have hl:(f++[V.ref G])[(f++[V.ref G]).length-1]?=some (.ref G):=by rw[Qq];simp
   refine⟨_,rfl,p,_,g,_,_,rfl,F,T.ab,T.aq,zI1 _ _ _ _,.inl ⟨rfl,_,SqL.of z⟩,m,_,_,rfl,rfl,z,hl,?_⟩;rw[List.dropLast_concat];have j:zj8 p m H (upd H m (.lst f)):=(Same.two (Same.refl H) p m).updM;have ip:=e.ip;have A:∃d,H m=some (.lst d):=⟨_,z⟩;have r:(upd H m (.lst f)) p=some (.ins t.aa g (zh4 b s x m)):=by rw[za7 W.symm];exact F
   have O:(upd H m (.lst f)) m=some (.lst f):=za3;have a4:Tups H f U:=by
     have a5:∀ {d:List V} {l:List (List Int)} {y:V} {k:List Int},Tups H (d++[y]) (l++[k])->Tups H d l:=by
       intro d
       induction d with
       | nil =>
         intro l y k h;cases l with
         | nil=>exact .nil
         | cons k' l=>have:=ze6 h;simp at this
       | cons y' d ih =>
         intro l y k h;cases l with
         | nil=>have:=ze6 h;simp at this
         | cons k' l=>cases h with | cons a t=>exact .cons a (ih t)
     exact a5 e.tm
   have I:zg3 t (upd H m (.lst f)) p b s x m n a0 Y S a c f U:=⟨e.bm.same2 j e.nb ip A,e.nb,⟨g,r⟩,j.tup ip A e.hs,j.tup ip A e.hx,O,j.tups ip A a4⟩;have N:=j.tup ip A a3;revert j r O I N;generalize upd H m (.lst f)=J;intro j r O I N;refine⟨_,rfl,p,_,g,_,_,rfl,r,T.ab,T.ac,zh5 _ _ _ _,_,rfl,G,(i:Int)+1,u,v,rfl,.inr (SqT.of N),fun B f2=>?_⟩;have L:Same J (upd J B (.tup [.int ((i:Int)+1),.int v,.int u])):=Same.upd f2;have R:(upd J B (.tup [.int ((i:Int)+1),.int v,.int u])) B=some (.tup [.int ((i:Int)+1),.int v,.int u]):=za3;revert L R;generalize upd J B (.tup [.int ((i:Int)+1),.int v,.int u])=H2;intro L R;refine⟨x,B,(i:Int)+1,v,u,i,c,rfl,L _ _ I.hx,.inr (SqT.of R),⟨rfl,hi,by omega⟩,fun Z M s3 a6=>?_⟩;have Q:=L.trans s3;have o:=I.same Q;have a7:=Q _ _ r;refine⟨_,rfl,p,_,g,_,rfl,a7,T.ab,T.ac,yr8 _ _ _ _,?_⟩;rw[yr7];have C:zj8 p m M (upd M p (.ins t.aa g (zh4 b s Z m))):=(Same.two (Same.refl M) p m).updP;have D:=o.ip;have E:∃d,M m=some (.lst d):=⟨_,o.hm⟩;exact⟨_,rfl,q Z _ ((j.trans (Same.two Q p m)).trans C) ⟨o.bm.same2 C o.nb D E,o.nb,⟨g,za3⟩,C.tup D E o.hs,C.tup D E a6,by rw[za7 W];exact o.hm,C.tups D E o.tm⟩⟩
theorem pf_least (b s x m:Addr):(zh4 b s x m).lookup ("least" : Str)=none:=zV9 _ _ _ _ _ (by decide +kernel) (by decide +kernel) (by decide +kernel) (by decide +kernel)
theorem pf_fewest (b s x m:Addr):(zh4 b s x m).lookup ("fewest" : Str)=none:=zV9 _ _ _ _ _ (by decide +kernel) (by decide +kernel) (by decide +kernel) (by decide +kernel)
theorem pf_next (b s x m:Addr):(zh4 b s x m).lookup ("next_move" : Str)=none:=zV9 _ _ _ _ _ (by decide +kernel) (by decide +kernel) (by decide +kernel) (by decide +kernel)
inductive zA5 (K:W.Frag)(t:Adr)(vs:List V)(H:Hp)(Q:VK)(E:XK):Prop
 | mk (p b s x m g:Addr)(n r lim:Int)(hs a c gl:List Int)(ys:List V)(ms:List (List Int))(h0:vs=[.ref p,.ref g])(h1:zg3 t H p b s x m n r hs lim a c ys ms)(h2:zc6 n r hs.length c)(h3:zc6 n r hs.length gl)(h4:(SqL K H g (gl.map V.int)\/H g=some (.tup (gl.map V.int))))(h5:absI (zb5 hs c)<=lim)(h6:absI (zb5 hs gl)<=lim)(h7:∀wy H',Same H H'->zs4 t H' wy n r hs lim c gl->Q (.ref wy) H'):zA5 K t vs H Q E
def sp_Play_fewest (K:W.Frag)(t:Adr):Sp:=fun vs H Q E=>zA5 K t vs H Q E
theorem ok_Play_fewest (T:Txt K mg t):FnOk P w K mg base CX0 10 t.aj t.aP Pc (sp_Play_fewest K t):=by
 refine T.bb.F.ok sc_Play_fewest (fun z H Q E h=>?_) (fun G A F s H z Q E B h=>?_)
 . obtain⟨p,b,s,x,m,g,n,r,e,f,a,c,i,C,D,rfl,d,j,k,l,o,u,q⟩:=h
   rfl
 . obtain⟨p,b,s,x,m,g,n,r,e,f,a,c,i,C,D,rfl,d,j,k,l,o,u,q⟩:=h
   refine⟨_,(za5 (zb7 (zw2 (zC2 T) B.m rfl T.ax T.ap.F.kp T.ap.b .nil zb3 (za0 (zc4 P0 rfl) (za0 (zc4 P0 rfl) (za0 P1 za1)))))),?_⟩;obtain⟨v,y⟩:=d.hp;exact⟨_,rfl,p,_,v,_,_,rfl,y,T.ab,T.aw,zM3 _ _ _ _,_,rfl,p,_,v,_,_,rfl,y,T.ab,T.ac,zh5 _ _ _ _,_,rfl,b,x,g,n,r,e,f,c,i,rfl,d.bm,j,k,.inr d.hx,l,o,u,q⟩
inductive zt1 (K:W.Frag)(t:Adr)(vs:List V)(H:Hp)(Q:VK)(E:XK):Prop
 | mk (p b s x m g:Addr)(n r lim:Int)(hs a c gl:List Int)(ys:List V)(ms:List (List Int))(h0:vs=[.ref p,.ref g])(h1:zg3 t H p b s x m n r hs lim a c ys ms)(h2:zc6 n r hs.length c)(h3:zc6 n r hs.length gl)(h4:(SqL K H g (gl.map V.int)\/H g=some (.tup (gl.map V.int))))(h5:absI (zb5 hs c)<=lim)(h6:absI (zb5 hs gl)<=lim)(h7:((∀d,¬ Dst n r hs lim c d gl)->∀H',Same H H'->E (.ref t.ad) none H'))(h8:(Dst n r hs lim c 0 gl->∀H',Same H H'->Q .non H'))(h9:(∀d m ms a H',Same H H'->Dst n r hs lim c (d+1) gl->zs1 H' c a m->Goes n r hs lim c (m::ms) gl->ms.length=d->Q (.ref a) H')):zt1 K t vs H Q E
def sp_Play_next_move (K:W.Frag)(t:Adr):Sp:=fun vs H Q E=>zt1 K t vs H Q E
theorem ok_Play_next_move (T:Txt K mg t):FnOk P w K mg base (CXE P w) 11 t.ai t.az Pc (sp_Play_next_move K t):=by
 refine T.aW.F.d.okE sc_Play_next_move (fun C H Q E h=>?_) (fun J A I s H C Q E D h=>?_)
 . obtain⟨p,b,s,x,m,g,n,r,e,f,a,c,i,F,G,rfl,d,j,k,l,o,q,u,v,y⟩:=h
   rfl
 . obtain⟨p,b,s,x,m,g,n,r,e,f,a,c,i,F,G,rfl,d,j,k,l,o,q,u,v,y⟩:=h
   refine⟨_,(za5 (zb7 (zw2 (ok_next_move T) D.m rfl T.bC T.aT.F.kp T.aT.b .nil passes_fn (za0 (zc4 P0 rfl) (za0 (zc4 P0 rfl) (za0 P1 za1)))))),?_⟩;obtain⟨z,B⟩:=d.hp;exact⟨_,rfl,p,_,z,_,_,rfl,B,T.ab,T.aw,zM3 _ _ _ _,_,rfl,p,_,z,_,_,rfl,B,T.ab,T.ac,zh5 _ _ _ _,_,rfl,b,x,g,n,r,e,f,c,i,rfl,d.bm,j,k,.inr d.hx,l,o,q,u,v,y⟩
inductive zD4 (K:W.Frag)(t:Adr)(vs:List V)(H:Hp)(Q:VK)(E:XK):Prop
 | mk (p b s x m g:Addr)(n r lim:Int)(hs a c gl:List Int)(ys:List V)(ms:List (List Int))(h0:vs=[.ref p,.ref g])(h1:zg3 t H p b s x m n r hs lim a c ys ms)(h2:zc6 n r hs.length c)(h3:zc6 n r hs.length gl)(h4:(SqL K H g (gl.map V.int)\/H g=some (.tup (gl.map V.int))))(h5:∀l H',Same H H'->zs5 t H' l n r hs c gl->Q (.ref l) H'):zD4 K t vs H Q E
def sp_Play_least (K:W.Frag)(t:Adr):Sp:=fun vs H Q E=>zD4 K t vs H Q E
theorem ok_Play_least (T:Txt K mg t):FnOk P w K mg base CX0 11 t.an t.a3 Pc (sp_Play_least K t):=by
 refine T.bj.F.ok sc_Play_least (fun v H Q E h=>?_) (fun D A C s H v Q E y h=>?_)
 . obtain⟨p,b,s,x,m,g,n,r,e,f,a,c,i,z,B,rfl,d,j,k,l,q⟩:=h
   rfl
 . obtain⟨p,b,s,x,m,g,n,r,e,f,a,c,i,z,B,rfl,d,j,k,l,q⟩:=h
   refine⟨_,(za5 (zb7 (zw2 (ok_least T) y.m rfl T.bW T.bu.F.kp T.bu.b .nil zb3 (za0 (zc4 P0 rfl) (za0 (zc4 P0 rfl) (za0 P1 za1)))))),?_⟩;obtain⟨o,u⟩:=d.hp;exact⟨_,rfl,p,_,o,_,_,rfl,u,T.ab,T.aw,zM3 _ _ _ _,_,rfl,p,_,o,_,_,rfl,u,T.ab,T.ac,zh5 _ _ _ _,_,rfl,b,x,g,n,r,e,f,c,i,rfl,d.bm,j,k,.inr d.hx,l,q⟩
end
section
variable {P:Program} {w:World} {K:W.Frag} {mg:Str->Option Value} {base:Heap} {t:Adr}
theorem zt2 (T:Txt K mg t):FnOk P w K mg base CX0 1 t.cw t.cx Pz (sp_w_at K t):=by
 refine T.aC.F.ok sc_w_at (fun g H Q E h=>?_) (fun j A i s H g Q E l h=>?_)
 . obtain⟨a,b,k,rfl,d,q⟩:=h
   rfl
 . obtain⟨a,b,k,rfl,d,q⟩:=h
   refine⟨_,(za2 (zc8 (zc2 zM6 P1 (zb0 zc0 rfl T.ae QB (za0 P0 za1)) (zc1 _)) (za5 (zb7 (zc9 zd1 P0 P1 (fun _ _=>rfl)))) zb6)
     (za5 (zb7 za4))),?_⟩
   refine⟨_,rfl,_,rfl,a,_,rfl,.inl d,_,_,rfl,rfl,_,rfl,?_⟩;rw[Qb];refine ite2 (fun f=>?_) (fun f=>?_)
   . have c:k<b.length:=by have:=QY f;omega
     have e:b.getD k 0=b[k]:=by simp[c]
     rw[e] at q;exact⟨_,rfl,_,rfl,a,_,_,_,rfl,rfl,d,zF3 (by simp[c]),q⟩
   . have c:¬ k<b.length:=fun z=>f (Qf (by omega))
     have e:b.getD k 0=0:=by simp[c]
     rw[e] at q;exact q
theorem zx6 (T:Txt K mg t):FnOk P w K mg base CX0 1 t.bl t.bm PB (sp_w_whole K t):=by
 refine T.aI.F.ok sc_w_whole (fun a H Q E h=>?_) (fun c A b s H a Q E d h=>?_)
 . obtain⟨i,rfl,q⟩:=h
   rfl
 . obtain⟨i,rfl,q⟩:=h
   refine⟨_,(za5 (zb7 (zD6 (zb0 zi6 rfl T.af QJ (za0 P0 (za0 (zm3 (v:=.ty "int") rfl T.cs PyProof.Rows.boot_int rfl) za1))) (zy2 (ym9 (zb0 zi6 rfl T.af QJ (za0 P0 (za0 (zm3 (v:=.ty "bool") rfl T.cd PyProof.Rows.boot_bool rfl) za1)))))))),?_⟩;refine⟨_,rfl,_,_,_,_,_,rfl,.ty _,.int _,rfl,_,rfl,iteT ?_⟩;exact⟨_,rfl,_,_,_,_,_,rfl,.ty _,.int _,rfl,_,rfl,q⟩
theorem zW0 (T:Txt K mg t):FnOk P w K mg base CX0 1 t.bD t.bE PX (sp_w_figs K t):=by
 refine T.bk.F.ok zo2 (fun m H Q E h=>?_) (fun u A r s H m Q E C h=>?_)
 . obtain⟨b,a,n,g,rfl,⟨o,f,k⟩,q⟩:=h
   rfl
 . obtain⟨b,a,n,g,rfl,⟨o,f,k⟩,q⟩:=h
   refine⟨_,(za2 (zb4 (i:=4) zo2.nd rfl (Or.inl rfl) (ze8 za1))
     (za2 (zb4 (i:=5) zo2.nd rfl (Or.inl rfl) P0)
     (za2 (zc8 (zd0 P3) (za5 (zb4 (i:=5) zo2.nd rfl (Or.inl rfl) (zb9 zf0 (zb9 zm5 P0 za4) za4))) zb6)
     (za2 (zh7 PassesOwn.never rfl (zj9 rfl T.am (za0 P1 za1)) (zc5 (i:=6) zo2.nd rfl (Or.inl rfl)) (za5 (zc8 (zd0 P3) (za2 (zb4 (i:=5) zo2.nd rfl (Or.inl rfl) (zb9 zf0 (zb9 zm5 (zb9 zf4 (zb9 zf4 (pv 5) P6) za4) za4) za4))
     (za5 (ze7 (zr4 QE QV QU zh0 (pv 4) (za0 (zb9 zf0 (zb9 zl8 (pv 5) za4) P2) za1))))) (za2 (ze7 (zr4 QE QV QU zh0 (pv 4) (za0 (zb9 zf0 (pv 5) P2) za1)))
     (za5 (zb4 (i:=5) zo2.nd rfl (Or.inl rfl) (zb9 zl8 (pv 5) P2)))))))
     (za5 (zb7 (pv 4))))))),?_⟩
   refine cut5 ?_;intro x y z B;refine⟨QD _,fun l j=>?_⟩;refine⟨_,rfl,_,rfl,_,rfl,?_⟩;have D:(zq2 b a g 0).2=[]:=rfl;cases g
   . refine iteF ?_
     refine⟨_,rfl,_,rfl,by omega,by omega,zk0 (n:=(n:Int).toNat) (fun i d c=>X1 fun v=>A3 (d=[some (.int b),some (.int n),some (.int a),some (.bl false),some (.ref l),some (.int (zq2 b a false i).1),v]) (c=upd H l (.lst ((zq2 b a false i).2.map V.int))) ((zq2 b a false i).2.length=i)) ⟨none,rfl,rfl,rfl⟩ ?_ ?_⟩
     . rintro i d c p ⟨v,rfl,rfl,e⟩
       refine⟨_,rfl,_,rfl,iteF ?_⟩;refine⟨_,rfl,.inl ⟨rfl,_,SqL.of za3⟩,_,rfl,_,rfl,_,_,rfl,rfl,f,l,_,_,rfl,rfl,za3,zc3 (by rw[Qb];omega),?_⟩;refine⟨_,rfl,_,rfl,_,_,rfl,rfl,⟨f,by omega⟩,_,rfl,?_,?_⟩
       . rw[zg1]
         show upd H l (.lst (_++[V.int _]))=upd H l (.lst ((_++[_]).map V.int));rw[Qm];rfl
       . show(_++[_]).length=i+1
         rw[Qq,e];rfl
     . rintro d c ⟨v,rfl,rfl,e⟩
       exact⟨_,rfl,q l j⟩
   . refine iteT ?_
     refine⟨_,rfl,_,_,rfl,rfl,.inr ⟨by decide,by decide⟩,_,_,rfl,rfl,(by show(0:Int)<2147483647;decide),?_⟩;refine⟨_,rfl,_,rfl,by omega,by omega,zk0 (n:=(n:Int).toNat) (fun i d c=>X1 fun v=>A3 (d=[some (.int b),some (.int n),some (.int a),some (.bl true),some (.ref l),some (.int (zq2 b a true i).1),v]) (c=upd H l (.lst ((zq2 b a true i).2.map V.int))) ((zq2 b a true i).2.length=i)) ⟨none,rfl,rfl,rfl⟩ ?_ ?_⟩
     . rintro i d c p ⟨v,rfl,rfl,e⟩
       refine⟨_,rfl,_,rfl,iteT ?_⟩;refine⟨_,rfl,_,rfl,_,_,rfl,rfl,_,_,rfl,rfl,_,_,rfl,rfl,.inr ⟨by decide,by decide⟩,_,_,rfl,rfl,(by show(0:Int)<2147483647;decide),?_⟩;refine⟨_,rfl,.inl ⟨rfl,_,SqL.of za3⟩,_,rfl,_,_,rfl,rfl,⟨by decide,by decide⟩,_,rfl,_,_,rfl,rfl,f,l,_,_,rfl,rfl,za3,zc3 (by rw[Qb];omega),?_⟩;refine⟨_,rfl,?_,?_⟩
       . rw[zg1]
         show upd H l (.lst (_++[V.int _]))=upd H l (.lst ((_++[_]).map V.int));rw[Qm];rfl
       . show(_++[_]).length=i+1
         rw[Qq,e];rfl
     . rintro d c ⟨v,rfl,rfl,e⟩
       exact⟨_,rfl,q l j⟩
theorem zv8 (T:Txt K mg t):FnOk P w K mg base CX0 2 t.bP t.bQ Ph (sp_w_same K t):=by
 refine T.aF.F.ok zU4 (fun J H Q E h=>?_) (fun U A S s H J Q E L h=>?_)
 . obtain⟨a,b,d,c,rfl,g,f,M,q⟩:=h
   rfl
 . obtain⟨a,b,d,c,rfl,g,f,M,q⟩:=h
   refine⟨_,(za2 (zc8 (zc2 zn7 (zb0 zc0 rfl T.ae QB (za0 P0 za1)) (zb0 zc0 rfl T.ae QB (za0 P1 za1)) (zc1 _)) (za5 (zb7 zg8)) zb6)
     (za2 (zh7 PassesOwn.never rfl (zj9 rfl T.am (za0 (zb0 zc0 rfl T.ae QB (za0 P1 za1)) za1)) (zc5 (i:=2) zU4.nd rfl (Or.inl rfl)) (za5 (zc8 (PW.pt (zl3 (zd4 (zd0 (za6 (zx6 T) L.m T.aI zb3 (za0 (zc9 zo0 P0 P2 (fun _ _=>rfl)) za1)))) (zj1 (zc2 zn7 (zc9 zo0 P0 P2 (fun _ _=>rfl)) (zc9 zo0 P1 P2 (fun _ _=>rfl)) (zc1 _))))) (za5 (zb7 zg8)) zb6)))
     (za5 (zb7 zg8)))),?_⟩
   refine cut3 ?_;intro W X;refine⟨_,rfl,a,_,rfl,g,_,rfl,b,_,rfl,f,rfl,_,rfl,?_⟩;rw[Qb,Qb];refine ite2 (fun p=>?_) (fun p=>?_)
   . have r:d≠c:=by
       intro e;subst e;simp at p
     rw[Qg r] at q;exact q
   . have D:d.length=c.length:=by
       simp at p;omega
     refine⟨_,rfl,b,_,rfl,f,_,rfl,by omega,by rw[Qb];omega,zk0 (n:=((c.map V.int).length:Int).toNat) (fun i u j=>X1 fun v=>A3 (u=[some (.ref a),some (.ref b),v]) (j=H) (d.take i=c.take i)) ⟨none,rfl,rfl,rfl⟩ ?_ ?_⟩
     . rintro i u j N ⟨v,rfl,rfl,m⟩
       have F:i<c.length:=by simpa using N
       have G:i<d.length:=by omega
       have ex:d[i]?=some d[i]:=by simp[G]
       have y:c[i]?=some c[i]:=by simp[F]
       have z:(0:Int)+(i:Int)=(i:Int):=by omega
       have B:atI (d.map V.int) (0+(i:Int))=some (.int d[i]):=by rw[z];exact zF3 ex
       have C:atI (c.map V.int) (0+(i:Int))=some (.int c[i]):=by rw[z];exact zF3 y
       have x:∀(k:VK),k (.int d[i]) j->rIx K (.ref a) (.int (0+(i:Int))) j k:=fun k h=>by
         rcases g with g | g
         . exact .inl ⟨a,_,_,_,rfl,rfl,g,B,h⟩
         . exact .inr (.inl ⟨a,_,_,_,rfl,rfl,g,B,h⟩)
       have I:∀(k:VK),k (.int c[i]) j->rIx K (.ref b) (.int (0+(i:Int))) j k:=fun k h=>by
         rcases f with f | f
         . exact .inl ⟨b,_,_,_,rfl,rfl,f,C,h⟩
         . exact .inr (.inl ⟨b,_,_,_,rfl,rfl,f,C,h⟩)
       refine⟨_,rfl,_,rfl,x _ ⟨_,rfl,_,rfl,iteF ?_⟩⟩;refine⟨_,rfl,_,rfl,x _ ⟨_,rfl,_,rfl,I _ ⟨rfl,_,rfl,?_⟩⟩⟩;refine ite2 (fun o=>?_) (fun o=>?_)
       . have r:d≠c:=by
           intro e;subst e;simp at o
         rw[Qg r] at q;exact q
       . refine⟨_,rfl,rfl,?_⟩
         have O:d[i]=c[i]:=by
           simp at o;exact o
         rw[QX,QX,m,ex,y,O]
     . rintro u j ⟨v,rfl,rfl,m⟩
       have e:d=c:=by
         have R:((c.map V.int).length:Int).toNat=c.length:=by simp
         rw[R] at m;rw[<-QS (l:=c),<-m,<-D,QS]
       rw[Qf e] at q;exact q
theorem ok_w_shape (T:Txt K mg t):FnOk P w K mg base CX0 2 t.bn t.bo Pd (sp_w_shape K t):=by
 refine T.bA.F.ok zj6 (fun vs H a1 a2 h=>?_) (fun a4 ag a3 ah H vs a1 a2 s h=>?_)
 . obtain⟨a,b,rfl,u,q⟩:=h
   rfl
 . obtain⟨a,b,rfl,u,q⟩:=h
   refine⟨_,(za2 (zb4 (i:=1) zj6.nd rfl (Or.inl rfl) (za6 (zt2 T) s.m T.aC zb3 (za0 P0 (za0 za4 za1))))
     (za2 (zb4 (i:=2) zj6.nd rfl (Or.inl rfl) (zc9 zd1 (ze8 (za0 za4 (za0 za4 (za0 za4 (za0 za4 za1))))) (zb9 zf0 P1 za4) (fun _ _=>rfl)))
     (za2 (zb4 (i:=3) zj6.nd rfl (Or.inl rfl) (zb0 (zI7 rfl) rfl T.bx PyProof.Rows.boot_min (za0 (zc9 zd1 (ze8 (za0 za4 (za0 za4 (za0 za4 (za0 za4 za1))))) (zb9 zg4 P2 za4) (fun _ _=>rfl)) (za0 (zc9 zd1 (ze8 (za0 za4 (za0 za4 (za0 za4 (za0 za4 (za0 za4 (za0 za4 za1))))))) (zb9 zf0 (zb9 zl8 P1 za4) za4) (fun _ _=>rfl)) za1))))
     (za2 (zb4 (i:=4) zj6.nd rfl (Or.inl rfl) (zb9 zf4 za4 (zb9 zf0 (zb9 zl8 P1 za4) za4)))
     (za2 (zb4 (i:=5) zj6.nd rfl (Or.inl rfl) (za6 (zt2 T) s.m T.aC zb3 (za0 P0 (za0 za4 za1))))
     (za2 (zL3 (i:=6) rfl zH0 (zj2 (za6 (zW0 T) s.m T.bk zb3 (za0 (za6 (zt2 T) s.m T.aC zb3 (za0 P0 (za0 za4 za1))) (za0 P3 (za0 za4 (za0 (zg7 zi9 (zb9 zf0 (pv 5) za4) za4 (zc1 _)) za1)))))) (fun _ _ _ _ _=>(zc5 (i:=0) zH0.nd rfl (Or.inl rfl))) (fun _ _ _ _ _=>zr5) (fun _ _ _ _ _=>(zb9 zf4 za4 P0)) zj6.nd rfl rfl)
     (za2 (zc8 (zc2 zi9 (zb9 zf0 (zb9 zl8 (pv 5) za4) za4) za4 (zc1 _)) (za5 (zb4 (i:=6) zj6.nd rfl (Or.inl rfl) (zb9 zY3 (zj7 yh7 P6 zm7 (zk5 za4)) P3))) zb6)
     (za2 (zc8 (zc2 zi9 (zb9 zf0 (zb9 zl8 (pv 5) za4) za4) za4 (zc1 _)) (za5 (zb4 (i:=6) zj6.nd rfl (Or.inl rfl) (zb9 zY3 (ze8 (za0 za4 za1)) P3))) zb6)
     (za5 (zb7 (ze8 (za0 P2 (za0 (pv 4) (za0 P6 za1)))))))))))))),?_⟩
   refine cut9 ?_;intro a5 a6 a7 a8 a9 aa ab ac;have W:0<=at0 b 1 % 4:=Zr _ (by decide);have X:at0 b 1 % 4<4:=Zp _ (by decide);have Y:0<=at0 b 1 / 4 % 6:=Zr _ (by decide);have Z:at0 b 1 / 4 % 6<6:=Zp _ (by decide);have hN:=zJ7 b;obtain⟨ad,ae⟩:=yq6 b;have h5:(if shN b=1 then(5:Int) else if shN b=2 then 4 else 3)<=5:=by repeat (first | decide | split)
   refine⟨_,rfl,a,b,1,rfl,u,?_⟩;refine⟨by decide,fun E f1=>⟨_,rfl,_,_,rfl,rfl,(by show(0:Int)<4;decide),E,_,_,_,rfl,rfl,SqL.of za3,ze4 (xs:=[2,3,1,4]) W X,?_⟩⟩;have M:Same H (upd H E (.lst [.int 2,.int 3,.int 1,.int 4])):=Same.upd f1;generalize upd H E (.lst [.int 2,.int 3,.int 1,.int 4])=N at M ⊢;refine⟨by decide,fun F f2=>⟨_,rfl,_,_,rfl,rfl,F,_,_,_,rfl,rfl,SqL.of za3,ze4 (xs:=[5,4,3,3]) (by show 0<=shN b-1;omega) (by show shN b-1<4;omega),?_⟩⟩;have O:Same H (upd N F (.lst [.int 5,.int 4,.int 3,.int 3])):=M.updT f2;generalize upd N F (.lst [.int 5,.int 4,.int 3,.int 3])=Q at O ⊢;refine⟨by decide,fun G f3=>⟨_,rfl,_,_,rfl,rfl,⟨by decide,by decide⟩,_,_,rfl,rfl,(by show(0:Int)<6;decide),G,_,_,_,rfl,rfl,SqL.of za3,ze4 (xs:=[3,2,4,1,5,0]) Y Z,_,_,rfl,?_⟩⟩;have y:Same H (upd Q G (.lst [.int 3,.int 2,.int 4,.int 1,.int 5,.int 0])):=O.updT f3;generalize upd Q G (.lst [.int 3,.int 2,.int 4,.int 1,.int 5,.int 0])=I at y ⊢;refine⟨_,rfl,_,_,rfl,rfl,⟨by decide,by decide⟩,_,_,rfl,rfl,(by show(0:Int)<3;decide),_,_,rfl,rfl,?_⟩;refine⟨_,rfl,a,b,0,rfl,y.seq u,?_⟩;have eW:(((shW b).toNat:Nat):Int)=shW b:=by omega
   refine⟨_,rfl,a,b,2,rfl,y.seq u,_,rfl,_,rfl,_,_,rfl,rfl,(by show(0:Int)<2;decide),rfl,at0 b 2,20,(shW b).toNat,zs9 b,?_,⟨by omega,by decide,by decide⟩,fun A f4=>⟨A,rfl,⟨_,SqL.of za3⟩,fun D J=>?_⟩⟩
   . rw[eW];rfl
   have R:Same H (upd I A (.lst ((figs (at0 b 2) (shW b).toNat 20 (zs9 b)).map V.int))):=y.updT f4;refine comp_list (f:=fun v=>match v with | .int z=>V.int (1+z) | v=>v) (SqL.of za3) J (Za (zc3 (by rw[Qb,zH1];omega))) (fun x af ai hx h=>?_) ?_
   . obtain⟨z,hz,rfl⟩:=QA.mp hx
     exact⟨_,rfl,_,_,rfl,rfl,h⟩
   have S:((figs (at0 b 2) (shW b).toNat 20 (zs9 b)).map V.int).map (fun v=>match v with | .int z=>V.int (1+z) | v=>v)=(shH0 b).map V.int:=by
     unfold shH0;rw[ZC,ZC];rfl
   rw[S];have d:=R.updT (o:=.lst ((shH0 b).map V.int)) J;have fD:H D=none:=R.free J;have g:(upd (upd I A (.lst ((figs (at0 b 2) (shW b).toNat 20 (zs9 b)).map V.int))) D (.lst ((shH0 b).map V.int))) D=some (.lst ((shH0 b).map V.int)):=za3;clear S;revert d g;generalize upd (upd I A (.lst ((figs (at0 b 2) (shW b).toNat 20 (zs9 b)).map V.int))) D (.lst ((shH0 b).map V.int))=H5;intro d g;have a0:=yd1 b;refine⟨_,rfl,_,_,rfl,rfl,⟨by decide,by decide⟩,_,_,rfl,rfl,(by show(0:Int)<5;decide),rfl,_,rfl,?_⟩;show(if decide (V.int (at0 b 0 / 2 % 5)=V.int 1)=true then _ else _);rw[ze3];by_cases j:at0 b 0 / 2 % 5=1
   . rw[Qf j]
     refine iteT ?_;refine⟨_,rfl,1,rfl,D,_,rfl,SqL.of g,fun L k=>⟨_,rfl,L,_,_,rfl,rfl,za3,(by show -(2 ^ 63)<=shW b;omega),(by show shW b<2 ^ 63;omega),?_,fun l m=>?_⟩⟩
     . refine Za (zc3 ?_)
       have h1:(cutV ((shH0 b).map V.int) none (some 1)).length<=(shW b).toNat:=by rw[<-a0,<-Qb (f:=V.int)];exact zj0 _ _ _
       have U:(shW b).toNat<=5:=by omega
       exact QK (Nat.mul_le_mul (QK h1 U) U) (by decide)
     have n:=(d.updT (o:=.lst (cutV ((shH0 b).map V.int) none (some 1))) k).updT (o:=.lst (List.replicate (shW b).toNat (cutV ((shH0 b).map V.int) none (some 1))).flatten) m;have C:H l=none:=(d.updT (o:=.lst (cutV ((shH0 b).map V.int) none (some 1))) k).free m;refine⟨_,rfl,_,_,rfl,rfl,⟨by decide,by decide⟩,_,_,rfl,rfl,(by show(0:Int)<5;decide),rfl,_,rfl,?_⟩;show(if decide (V.int (at0 b 0 / 2 % 5)=V.int 2)=true then _ else _);rw[ze3,Qg (by omega)];refine iteF ?_;refine⟨_,rfl,_,rfl,_,rfl,(by show 3<=sizeLine;decide),fun p c=>?_⟩;refine q p l _ (n.updT c) (n.free c) C ?_ za3;rw[za7 (fun e=>by rw[<-e] at c;rw[za3] at c;cases c),za3];have ec:cutV ((shH0 b).map V.int) none (some 1)=((shH0 b).take 1).map V.int:=by
       unfold cutV;rw[HT.sIx_none,show(some (1:Int))=some ((1:Nat):Int) from rfl,HT.sIx_nat,List.drop_zero,Nat.sub_zero,List.map_take,Qb];by_cases h:1<=(shH0 b).length
       . rw[Zy h]
       . have:shH0 b=[]:=QC (by omega)
         rw[this];rfl
     have r:(List.replicate (shW b).toNat (((shH0 b).take 1).map V.int)).flatten=(shH b).map V.int:=by
       unfold shH;rw[Ql j,List.map_flatten,List.map_replicate]
     show some (HO.lst (List.replicate (shW b).toNat (cutV ((shH0 b).map V.int) none (some 1))).flatten)=_;rw[ec,r]
   . rw[Qg j]
     refine iteF ?_;refine⟨_,rfl,_,_,rfl,rfl,⟨by decide,by decide⟩,_,_,rfl,rfl,(by show(0:Int)<5;decide),rfl,_,rfl,?_⟩;show(if decide (V.int (at0 b 0 / 2 % 5)=V.int 2)=true then _ else _);rw[ze3];by_cases B:at0 b 0 / 2 % 5=2
     . rw[Qf B]
       refine iteT ?_;refine⟨by decide,fun L k=>⟨_,rfl,L,_,_,rfl,rfl,za3,(by show -(2 ^ 63)<=shW b;omega),(by show shW b<2 ^ 63;omega),?_,fun l m=>?_⟩⟩
       . refine Za (zc3 ?_)
         show 1*(shW b).toNat<=1000;omega
       have n:=(d.updT (o:=.lst [.int 20]) k).updT (o:=.lst (List.replicate (shW b).toNat [V.int 20]).flatten) m;have C:H l=none:=(d.updT (o:=.lst [.int 20]) k).free m;refine⟨_,rfl,_,rfl,_,rfl,(by show 3<=sizeLine;decide),fun p c=>?_⟩;refine q p l _ (n.updT c) (n.free c) C ?_ za3;rw[za7 (fun e=>by rw[<-e] at c;rw[za3] at c;cases c),za3];have r:(List.replicate (shW b).toNat [V.int 20]).flatten=(shH b).map V.int:=by
         unfold shH;rw[Qh j,Ql B,List.map_flatten,List.map_replicate];rfl
       show some (HO.lst (List.replicate (shW b).toNat [V.int 20]).flatten)=_;rw[r]
     . rw[Qg B]
       refine iteF ?_;refine⟨_,rfl,_,rfl,_,rfl,(by show 3<=sizeLine;decide),fun p c=>?_⟩;refine q p D _ (d.updT c) (d.free c) fD ?_ za3;rw[za7 (fun e=>by rw[<-e] at c;rw[g] at c;cases c),g];have r:shH b=shH0 b:=by
         unfold shH;rw[Qh j,Qh B]
       rw[r]
theorem yf0 (T:Txt K mg t):FnOk P w K mg base CX0 2 t.ce t.cf PY (sp_w_put K t):=by
 refine T.bv.F.ok zk3 (fun vs H Q a0 h=>?_) (fun a4 ab a2 ac H vs Q a0 B h=>?_)
 . obtain⟨a,C,h,b,k,c,n,r,j,rfl,D,L,S,⟨n1,n2,U,hw⟩,q⟩:=h
   rfl
 . obtain⟨a,C,h,b,k,c,n,r,j,rfl,D,L,S,⟨n1,n2,U,hw⟩,q⟩:=h
   refine⟨_,(za2 (zD7 P3 (zN3 rfl (zd8 (zc5 (i:=4) zk3.nd rfl (Or.inl rfl)) (zd8 (zc5 (i:=5) zk3.nd rfl (Or.inl rfl)) (zd8 (zc5 (i:=6) zk3.nd rfl (Or.inl rfl)) zw0)))))
     (za2 (zb4 (i:=7) zk3.nd rfl (Or.inl rfl) (zg7 zi9 (zb9 zf0 (za6 (zt2 T) B.m T.aC zb3 (za0 P0 (za0 za4 za1))) za4) za4 (zc1 _)))
     (za2 (zb4 (i:=8) zk3.nd rfl (Or.inl rfl) (zb9 zf4 (za6 (zt2 T) B.m T.aC zb3 (za0 P0 (za0 P1 za1))) P2))
     (za2 (zb4 (i:=9) zk3.nd rfl (Or.inl rfl) (ze8 za1))
     (za2 (zh7 PassesOwn.never rfl (zj2 (za6 (zW0 T) B.m T.bk zb3 (za0 P8 (za0 (zb0 zc0 rfl T.ae QB (za0 P6 za1)) (za0 (zb9 zf4 (zb9 zm5 za4 (pv 4)) za4) (za0 P7 za1)))))) (zc5 (i:=10) zk3.nd rfl (Or.inl rfl)) (za2 (zb4 (i:=11) zk3.nd rfl (Or.inl rfl) (zb9 zg4 P10 (pv 4)))
     (za2 (zc8 (zc2 zi9 (zb9 zf0 P8 za4) za4 (zc1 _)) (za5 (zb4 (i:=11) zk3.nd rfl (Or.inl rfl) (pv 4))) zb6)
     (za2 (zc8 (PW.pt (zy1 (zc2 zn7 P11 za4 (zc1 _)) (zv9 (zc2 yg9 (zr4 QE PySem.F.slot_list_count PySem.F.type_list_count zT0 (pv 9) (za0 P11 za1)) (pv 5) (zc1 _))))) (za5 (zb4 (i:=11) zk3.nd rfl (Or.inl rfl) za4)) zb6)
     (za5 (ze7 (zr4 QE QV QU zh0 (pv 9) (za0 P11 za1))))))))
     (za5 (zb7 (pv 9)))))))),?_⟩
   refine cut6 ?_;intro a5 a6 a7 a8 a9;refine⟨_,rfl,C,_,rfl,SqL.of L,rfl,_,_,rfl,_,_,rfl,_,_,rfl,rfl,?_⟩;refine⟨_,rfl,a,b,0,rfl,D,_,_,rfl,rfl,(by show(0:Int)<2;decide),rfl,?_⟩;refine⟨_,rfl,_,rfl,a,b,k,rfl,D,_,rfl,_,_,rfl,rfl,?_⟩;refine⟨QD _,fun m E=>?_⟩;have F:Same H (upd H m (.lst [])):=Same.upd E;refine⟨_,rfl,_,rfl,h,_,rfl,.inl (F.seq S),_,rfl,_,_,rfl,rfl,.inl ⟨by decide,by decide⟩,_,_,rfl,rfl,_,rfl,at0 b k+c,2*n+1,j.length,zs9 b,?_,⟨by omega,by omega,by omega⟩,fun f s=>⟨f,rfl,⟨_,SqL.of za3⟩,?_⟩⟩
   . rw[Qb];rfl
   have M:f≠m:=fun e=>by rw[e,za3] at s;cases s
   have aa:H f=none:=F.free s;have Y:(figs (at0 b k+c) j.length (2*n+1) (zs9 b)).length=j.length:=zH1 _ _ _ _;have N:=zZ8 (cell:=at0 b k+c) (mix:=zs9 b) (show(0:Int)<2*n+1 by omega) j.length;have G:∀d,Same H d->d m=some (.lst ((putL n r (decide (V.int ((at0 b k+c) % 13)=V.int 12)) (figs (at0 b k+c) j.length (2*n+1) (zs9 b))).map V.int))->Q (.ref m) d:=fun d s' e=>q m d s' E e
   generalize figs (at0 b k+c) j.length (2*n+1) (zs9 b)=fs at Y N G ⊢;have J:∀i,(putL n r (decide (V.int ((at0 b k+c) % 13)=V.int 12)) (fs.take i)).length<=5:=fun i=>by
     rw[(yl1 _ (by omega) U (fs.take i) fun x hx=>N x (List.mem_of_mem_take hx)).1,Zb];omega
   refine zl4 (K:=K) (a:=f) (xs:=fs.map V.int) (fun i u d=>X2 fun v y=>A2 (u=[some (.ref a),some (.int k),some (.int c),some (.ref C),some (.int n),some (.int r),some (.ref h),some (.bl (zs9 b)),some (.int (at0 b k+c)),some (.ref m),v,y]) (d=upd (upd (upd H m (.lst [])) f (.lst (fs.map V.int))) m (.lst ((putL n r (decide (V.int ((at0 b k+c) % 13)=V.int 12)) (fs.take i)).map V.int)))) ⟨none,none,rfl,?_⟩ ?_ ?_ ?_
   . exact(upd_id (by rw[za7 (Ne.symm M),za3];rfl)).symm
   . rintro i u d _ ⟨_,_,_,rfl⟩
     exact SqL.of (by rw[za7 M,za3])
   . rintro i x u d hi ⟨v,y,rfl,rfl⟩
     obtain⟨z,rfl,hz⟩:=int_at hi;have Z:fs.take (i+1)=fs.take i++[z]:=by rw[QX,hz];rfl
     have O:=J i;generalize W:decide (V.int ((at0 b k+c) % 13)=V.int 12)=last at J O G ⊢;generalize X:putL n r last (fs.take i)=made at O;have o:putL n r last (fs.take (i+1))=zq5 n r last made z:=by rw[Z,zU5,X]
     have a3:∀(a1:Int),a1=(if last=true then n else z-n)->True:=fun _ _=>trivial
     refine⟨_,rfl,_,rfl,_,_,rfl,rfl,?_⟩;refine⟨_,rfl,_,_,rfl,rfl,(by show(0:Int)<13;decide),rfl,_,rfl,?_⟩;show(if decide (V.int ((at0 b k+c) % 13)=V.int 12)=true then _ else _);rw[W];cases last
     . refine iteF ?_
       refine⟨_,rfl,rfl,_,rfl,?_⟩;refine ite2 (fun I=>?_) (fun I=>?_)
       . have A:z-n≠0:=fun e=>by
           have p:(!decide (V.int (z-n)=V.int 0))=true:=I;rw[e] at p;simp at p
         refine⟨_,rfl,.inl ⟨rfl,_,SqL.of za3⟩,_,rfl,m,made,z-n,rfl,rfl,SqL.of za3,_,rfl,_,_,rfl,rfl,_,rfl,?_⟩;refine ite2 (fun l=>?_) (fun l=>?_)
         . have g:r<=(made.count (z-n):Int):=QY l
           refine⟨_,rfl,.inl ⟨rfl,_,SqL.of za3⟩,_,rfl,m,_,_,rfl,rfl,za3,zc3 (by rw[Qb];omega),_,_,rfl,?_⟩;rw[zg1,o];unfold zq5;rw[Qh (show ¬ (false=true) by decide),Ql ⟨A,g⟩,Qm];rfl
         . have g:¬ r<=(made.count (z-n):Int):=fun e=>l (Qf e)
           refine⟨_,rfl,.inl ⟨rfl,_,SqL.of za3⟩,_,rfl,m,_,_,rfl,rfl,za3,zc3 (by rw[Qb];omega),_,_,rfl,?_⟩;rw[zg1,o];unfold zq5;rw[Qh (show ¬ (false=true) by decide),Qh (fun e=>g e.2),Qm];rfl
       . have A:z-n=0:=by
           have p:¬ (!decide (V.int (z-n)=V.int 0))=true:=I;rw[ze3] at p;simpa using p
         refine iteF ?_;refine⟨_,rfl,.inl ⟨rfl,_,SqL.of za3⟩,_,rfl,m,_,_,rfl,rfl,za3,zc3 (by rw[Qb];omega),_,_,rfl,?_⟩;rw[zg1,o];unfold zq5;rw[Qh (show ¬ (false=true) by decide),Qh (fun e=>e.1 A),Qm];rfl
     . refine iteT ?_
       refine⟨_,rfl,?_⟩;refine⟨_,rfl,rfl,_,rfl,?_⟩;have R:n≠0:=by omega
       refine iteA (by show(!decide (V.int n=V.int 0))=true;rw[ze3];simpa using R) ?_;refine⟨_,rfl,.inl ⟨rfl,_,SqL.of za3⟩,_,rfl,m,made,n,rfl,rfl,SqL.of za3,_,rfl,_,_,rfl,rfl,_,rfl,?_⟩;refine ite2 (fun l=>?_) (fun l=>?_)
       . have g:r<=(made.count n:Int):=QY l
         refine⟨_,rfl,.inl ⟨rfl,_,SqL.of za3⟩,_,rfl,m,_,_,rfl,rfl,za3,zc3 (by rw[Qb];omega),_,_,rfl,?_⟩;rw[zg1,o];unfold zq5;rw[Ql rfl,Ql ⟨R,g⟩,Qm];rfl
       . have g:¬ r<=(made.count n:Int):=fun e=>l (Qf e)
         refine⟨_,rfl,.inl ⟨rfl,_,SqL.of za3⟩,_,rfl,m,_,_,rfl,rfl,za3,zc3 (by rw[Qb];omega),_,_,rfl,?_⟩;rw[zg1,o];unfold zq5;rw[Ql rfl,Qh (fun e=>g e.2),Qm];rfl
   . rintro u d ⟨v,y,rfl,rfl⟩
     rw[Qb,QS];refine⟨_,rfl,G _ ?_ za3⟩;exact((F.updT s).put E)
inductive zW1 (K:W.Frag)(t:Adr)(vs:List V)(H:Hp)(Q:VK)(E:XK):Prop
 | mk (h a:Addr)(hs xs:List Int)(h0:vs=[.ref h,.ref a])(h1:SqL K H h (hs.map V.int))(h2:(SqL K H a (xs.map V.int)\/SqT K H a (xs.map V.int)))(h3:(hs.length=xs.length/\xs.length<=5/\∀x∈hs,1<=x/\x<=20))(h4:Q (.int (zb5 hs xs)) H):zW1 K t vs H Q E
def sp_w_tilt (K:W.Frag)(t:Adr):Sp:=fun vs H Q E=>zW1 K t vs H Q E
theorem zr2 (T:Txt K mg t):FnOk P w K mg base CX0 1 t.bF t.bG PZ (sp_w_tilt K t):=by
 refine T.az.F.ok zB7 (fun x H Q E h=>?_) (fun D A C s H x Q E I h=>?_)
 . obtain⟨h,a,b,d,rfl,f,c,⟨m,y,l⟩,q⟩:=h
   rfl
 . obtain⟨h,a,b,d,rfl,f,c,⟨m,y,l⟩,q⟩:=h
   refine⟨_,(za2 (zb4 (i:=2) zB7.nd rfl (Or.inl rfl) za4)
     (za2 (zh7 PassesOwn.never rfl (zj9 rfl T.am (za0 (zb0 zc0 rfl T.ae QB (za0 P0 za1)) za1)) (zc5 (i:=3) zB7.nd rfl (Or.inl rfl)) (za5 (zb4 (i:=2) zB7.nd rfl (Or.inl rfl) (zb9 zf4 P2 (zb9 zm5 (zc9 zd1 P0 P3 (fun _ _=>rfl)) (zc9 zo0 P1 P3 (fun _ _=>rfl)))))))
     (za5 (zb7 P2)))),?_⟩
   refine cut3 ?_;intro F G;refine⟨_,rfl,h,_,rfl,.inl f,?_⟩;rw[Qb];refine⟨_,rfl,by omega,by omega,zk0 (n:=((b.length:Nat):Int).toNat) (fun i k e=>X1 fun v=>A2 (k=[some (.ref h),some (.ref a),some (.int (yd8 b d i)),v]) (e=H)) ⟨none,rfl,rfl⟩ ?_ ?_⟩
   . rintro j k e z ⟨v,rfl,rfl⟩
     have r:j<b.length:=by simpa using z
     have o:(0:Int)+(j:Int)=(j:Int):=by omega
     have p:atI (d.map V.int) (0+(j:Int))=some (.int (d.getD j 0)):=by rw[o];exact ze4 (by omega) (by omega)
     have B:atI (b.map V.int) (0+(j:Int))=some (.int (b.getD j 0)):=by rw[o];exact ze4 (by omega) (by omega)
     have J:=l (b.getD j 0) (zp7 r);have u:∀(g:VK),g (.int (d.getD j 0)) e->rIx K (.ref a) (.int (0+(j:Int))) e g:=fun g h=>by
       rcases c with c | c
       . exact .inl ⟨a,_,_,_,rfl,rfl,c,p,h⟩
       . exact .inr (.inl ⟨a,_,_,_,rfl,rfl,c,p,h⟩)
     exact⟨_,rfl,_,rfl,_,rfl,h,_,_,_,rfl,rfl,f,B,_,rfl,_,rfl,u _ ⟨_,_,rfl,rfl,.inl ⟨by omega,by omega⟩,_,_,rfl,rfl,_,rfl,rfl⟩⟩
   . rintro k e ⟨v,rfl,rfl⟩
     rw[QZ,sumTo_tilt m];exact⟨_,rfl,q⟩
inductive zR4 (K:W.Frag)(t:Adr)(vs:List V)(H:Hp)(Q:VK)(E:XK):Prop
 | mk (a:Addr)(ns:List Int)(low:Int)(h0:vs=[.ref a,.int low])(h1:SqL K H a (ns.map V.int))(h2:(0<=low/\low<=400))(h3:∀lim,low<=lim->lim<=400->Q (.int lim) H):zR4 K t vs H Q E
def sp_w_limit (K:W.Frag)(t:Adr):Sp:=fun vs H Q E=>zR4 K t vs H Q E
theorem ok_w_limit (T:Txt K mg t):FnOk P w K mg base CX0 2 t.bp t.bq Vc (sp_w_limit K t):=by
 refine T.bB.F.ok zE2 (fun g H Q E h=>?_) (fun r A n s H g Q E e h=>?_)
 . obtain⟨a,b,low,rfl,d,⟨j,f⟩,q⟩:=h
   rfl
 . obtain⟨a,b,low,rfl,d,⟨j,f⟩,q⟩:=h
   refine⟨_,(za2 (zb4 (i:=2) zE2.nd rfl (Or.inl rfl) (za6 (zt2 T) e.m T.aC zb3 (za0 P0 (za0 za4 za1))))
     (za2 (zb4 (i:=3) zE2.nd rfl (Or.inl rfl) (zb9 zf0 (zb9 zl8 (za6 (zt2 T) e.m T.aC zb3 (za0 P0 (za0 za4 za1))) za4) za4))
     (za2 (zc8 (zc2 zi9 P3 za4 (zc1 _)) (za5 (zb7 (zb0 (zI7 rfl) rfl T.bx PyProof.Rows.boot_min (za0 za4 (za0 (zb9 zf4 P1 (zb9 zf0 P2 za4)) za1))))) zb6)
     (za2 (zc8 (zc2 zi9 P3 za4 (zc1 _)) (za5 (zb7 (zb0 (zI7 rfl) rfl T.bx PyProof.Rows.boot_min (za0 za4 (za0 (zb9 zf4 P1 (zb9 zf0 P2 za4)) za1))))) zb6)
     (za2 (zc8 (zc2 zi9 P3 za4 (zc1 _)) (za5 (zb7 (zb0 (zu2 rfl) rfl T.a2 ZM (za0 P1 (za0 (zb9 zf0 P2 za4) za1))))) zb6)
     (za5 (zb7 za4))))))),?_⟩
   refine cut6 ?_;intro u v x y z;refine⟨_,rfl,a,b,5,rfl,d,?_⟩;refine⟨_,rfl,a,b,0,rfl,d,_,_,rfl,rfl,⟨by decide,by decide⟩,_,_,rfl,rfl,(by show(0:Int)<4;decide),?_⟩;generalize b.getD 5 0=c;have C:0<=c % 8:=Zr _ (by decide);have B:0<=c % 41:=Zr _ (by decide);have p:0<=c % 401:=Zr _ (by decide);have o:c % 401<401:=Zp _ (by decide);refine⟨_,rfl,rfl,_,rfl,?_⟩;refine ite2 (fun k=>?_) (fun k=>?_)
   . refine⟨_,rfl,_,rfl,_,_,rfl,rfl,(by show(0:Int)<8;decide),_,_,rfl,rfl,_,_,rfl,?_⟩
     exact q _ (by split<;>omega) (by split<;>omega)
   refine⟨_,rfl,rfl,_,rfl,?_⟩;refine ite2 (fun l=>?_) (fun l=>?_)
   . refine⟨_,rfl,_,rfl,_,_,rfl,rfl,(by show(0:Int)<41;decide),_,_,rfl,rfl,_,_,rfl,?_⟩
     exact q _ (by split<;>omega) (by split<;>omega)
   refine⟨_,rfl,rfl,_,rfl,?_⟩;refine ite2 (fun m=>?_) (fun m=>?_)
   . refine⟨_,rfl,_,rfl,_,_,rfl,rfl,(by show(0:Int)<401;decide),_,_,rfl,?_⟩
     exact q _ (by split<;>omega) (by split<;>omega)
   exact q 400 f (by decide)
end
section
variable {P:Program} {w:World} {K:W.Frag} {mg:Str->Option Value} {base:Heap} {t:Adr}
noncomputable def zk2 (n r:Int)(xs:List Int)(j:Nat):List Int:=(grid n j).filter fun p=>decide (p=0\/(xs.count p:Int)<r)
theorem zR5 (n r:Int)(xs:List Int)(j:Nat):zk2 n r xs (j+1)=zk2 n r xs j++(if -n+(j:Int)=0\/(xs.count (-n+(j:Int)):Int)<r then [-n+(j:Int)] else []):=by
 unfold zk2 grid;rw[List.range_succ,Qm,ZD];congr 1;by_cases h:-n+(j:Int)=0\/(xs.count (-n+(j:Int)):Int)<r
 . rw[Ql h];simp[h]
 . rw[Qh h];simp[h]
theorem zW2 (n r:Int)(xs:List Int)(j:Nat):(zk2 n r xs j).length<=j:=by
 unfold zk2 grid;refine QK (ZB _ _) ?_;simp
theorem freeL_puts (n r:Int)(hs:List Int)(lim:Int)(xs:List Int)(i j:Nat):(zk2 n r xs j).filter (fun p=>decide (Lets n r hs lim xs i p))=zk1 n r hs lim xs i j:=by
 unfold zk2 zk1;rw[List.filter_filter];refine List.filter_congr fun p _=>?_
 by_cases h:Lets n r hs lim xs i p
 . have:p=0\/(xs.count p:Int)<r:=by
     by_cases z:p=0
     . exact .inl z
     . exact .inr (h.room z)
   simp[h,this]
 . simp[h]
theorem filt_no {q:Int->Bool}{l:List Int}{p:Int}(h:q p=false):(l++[p]).filter q=l.filter q:=by simp[ZD,h]
theorem filt_yes {q:Int->Bool}{l:List Int}{p:Int}(h:q p=true):(l++[p]).filter q=l.filter q++[p]:=by simp[ZD,h]
theorem freeL_mem {n r:Int}{xs:List Int}{j:Nat}{p:Int}(h:p∈zk2 n r xs j):(∃k,k<j/\p = -n+(k:Int))/\(p=0\/(xs.count p:Int)<r):=by
 unfold zk2 grid at h;obtain⟨a,b⟩:=ZJ.mp h;obtain⟨k,c,rfl⟩:=QA.mp a;exact⟨⟨k,List.mem_range.mp c,rfl⟩,QY b⟩
noncomputable def zK9 (n r:Int)(hs:List Int)(lim:Int)(x:List Int)(i:Nat):List (List Int):=(zl7 n r hs lim x i).map fun m=>x.set m.1 m.2
theorem zR6 (n r:Int)(hs:List Int)(lim:Int)(x:List Int)(i:Nat):zK9 n r hs lim x (i+1)=zK9 n r hs lim x i++(zk1 n r hs lim x i (wide n)).map fun p=>x.set i p:=by
 unfold zK9;rw[zE5,Qm,ZC];rfl
def zi3 (K:W.Frag)(H:Hp)(c:Addr)(n r:Int)(hs:List Int)(lim:Int):Prop:=∃h,zg9 n r hs lim/\SqL K H c [.int n,.int r,.ref h,.int lim]/\SqL K H h (hs.map V.int)
theorem zi3.same {K:W.Frag}{H H':Hp}{c:Addr}{n r:Int}{hs:List Int}{lim:Int}(h:zi3 K H c n r hs lim)(s:Same H H'):zi3 K H' c n r hs lim:=let⟨a,b,d,e⟩:=h;⟨a,b,s.seq d,s.seq e⟩
inductive zW3 (K:W.Frag)(t:Adr)(vs:List V)(H:Hp)(Q:VK)(E:XK):Prop
 | mk (c a:Addr)(n r lim:Int)(hs xs:List Int)(h0:vs=[.ref c,.ref a])(h1:zi3 K H c n r hs lim)(h2:zc6 n r hs.length xs)(h3:H a=some (.tup (xs.map V.int)))(h4:∀l H' ys,Same H H'->H l=none->H' l=some (.lst ys)->Tups H' ys (nbs n r hs lim xs)->Q (.ref l) H'):zW3 K t vs H Q E
def sp_w_near (K:W.Frag)(t:Adr):Sp:=fun vs H Q E=>zW3 K t vs H Q E
theorem zW4 (T:Txt K mg t):FnOk P w K mg base CX0 2 t.bN t.bO Ve (sp_w_near K t):=by
 refine T.bl.F.ok zi8 (fun vs H aw ay h=>?_) (fun b3 bc b0 bd H vs aw ay hr h=>?_)
 . obtain⟨a0,a,n,r,c,b,xs,rfl,⟨h,ok,hc,E⟩,V0,o,ag⟩:=h
   rfl
 . obtain⟨a0,a,n,r,c,b,xs,rfl,⟨h,ok,hc,E⟩,V0,o,ag⟩:=h
   refine⟨_,(za2 (zD7 P0 (zN3 rfl (zd8 (zc5 (i:=2) zi8.nd rfl (Or.inl rfl)) (zd8 (zc5 (i:=3) zi8.nd rfl (Or.inr rfl)) (zd8 (zc5 (i:=4) zi8.nd rfl (Or.inl rfl)) (zd8 (zc5 (i:=5) zi8.nd rfl (Or.inl rfl)) zw0))))))
     (za2 (zb4 (i:=6) zi8.nd rfl (Or.inl rfl) (za6 (zr2 T) hr.m T.az zb3 (za0 (pv 4) (za0 P1 za1))))
     (za2 (zL3 (i:=7) rfl zK4 (zB1 rfl T.am (za0 (zm2 zi4 P2) (za0 (zb9 zf4 P2 za4) za1))) (fun _ _ _ _ _=>(zc5 (i:=0) zK4.nd rfl (Or.inl rfl))) (fun _ _ _ _ _=>(zy6 (PW.pt (zl3 (zc2 zi9 P0 za4 (zc1 _)) (zj1 (zc2 zM6 (yi0 PySem.F.slot_tuple_count PySem.F.type_tuple_count (mt_countTK K rfl) P2 (za0 P0 za1)) P1 (zc1 _))))))) (fun _ _ _ _ _=>P0) zi8.nd rfl rfl)
     (za2 (zb4 (i:=8) zi8.nd rfl (Or.inl rfl) (ze8 za1))
     (za2 (zh7 PassesOwn.never rfl (zj9 rfl T.am (za0 (zb0 zc0 rfl T.ae QB (za0 (pv 4) za1)) za1)) (zc5 (i:=9) zi8.nd rfl (Or.inl rfl)) (za2 (zb4 (i:=10) zi8.nd rfl (Or.inl rfl) (zb9 zg4 P6 (zb9 zm5 (zc9 zd1 (pv 4) (pv 9) (fun _ _=>rfl)) (zc9 zg5 P1 (pv 9) (fun _ _=>rfl)))))
     (za5 (zc8 (zc2 ya3 (zb0 zh3 rfl T.ar QT (za0 P10 za1)) (pv 5) (zc1 _)) (za5 (zh7 PassesOwn.never rfl (zj2 P7) (zc5 (i:=11) zi8.nd rfl (Or.inl rfl)) (za5 (zc8 (PW.pt (zy1 (zc2 zn7 P11 (zc9 zg5 P1 (pv 9) (fun _ _=>rfl)) (zc1 _)) (zv9 (zc2 ya3 (zb0 zh3 rfl T.ar QT (za0 (zb9 zf4 P10 (zb9 zm5 (zc9 zd1 (pv 4) (pv 9) (fun _ _=>rfl)) P11)) za1)) (pv 5) (zc1 _))))) (za5 (ze7 (zr4 QE QV QU zh0 P8 (za0 (zb9 zo5 (zb9 zo5 (zj7 zD8 P1 zm7 (zk5 (pv 9))) (zy4 (za0 P11 za1))) (zj7 zD8 P1 (zk5 (zb9 zf4 (pv 9) za4)) zm7)) za1)))) zb6)))) zb6))))
     (za5 (zb7 P8))))))),?_⟩
   refine cut6 ?_;intro b4 b5 b6 b7 b8;have a8:=V0.len;have hw:=ok.w;have n1:=ok.n1;have n2:=ok.n2;have ai:wide n<=9:=by unfold wide;omega
   refine⟨_,rfl,a0,_,rfl,hc,rfl,_,_,rfl,_,_,rfl,_,_,rfl,_,_,rfl,rfl,?_⟩;refine⟨_,rfl,_,rfl,h,a,b,xs,rfl,E,.inr (SqT.of o),⟨a8.symm,by omega,ok.h⟩,?_⟩;refine⟨_,rfl,_,rfl,_,rfl,_,_,rfl,rfl,-n,n+1,rfl,⟨by omega,by omega,by omega,by omega⟩,fun D hD=>?_⟩;refine zp0 (fun j e=>e=upd H D (.lst ((zk2 n r xs j).map V.int))) rfl ?_ ?_
   . rintro j e be hj rfl hN
     have aa:(upd H D (.lst ((zk2 n r xs j).map V.int))) a=some (.tup (xs.map V.int)):=Same.upd hD _ _ o;have ab:(upd H D (.lst ((zk2 n r xs j).map V.int))) D=some (.lst ((zk2 n r xs j).map V.int)):=za3;have S:¬ (-n+(j:Int)=0\/(xs.count (-n+(j:Int)):Int)<r)->(upd H D (.lst ((zk2 n r xs j).map V.int)))=upd H D (.lst ((zk2 n r xs (j+1)).map V.int)):=fun z=>by rw[zR5,Qh z,Zz]
     have fl:=zW2 n r xs j;have ac:(-n+(j:Int)=0\/(xs.count (-n+(j:Int)):Int)<r)->upd (upd H D (.lst ((zk2 n r xs j).map V.int))) D (.lst ((zk2 n r xs j).map V.int++[.int (-n+(j:Int))]))=upd H D (.lst ((zk2 n r xs (j+1)).map V.int)):=fun z=>by
       rw[zg1,zR5,Ql z,Qm];rfl
     refine⟨_,rfl,rfl,_,rfl,?_⟩;rw[ze3];refine ite2 (fun f=>?_) (fun f=>?_)
     . refine iteT ⟨_,rfl,_,ab,zc3 (by rw[Qb];unfold wide at *;omega),hN _ (ac (.inl (by simpa using f)))⟩
     . refine⟨_,rfl,⟨_,_,rfl,aa⟩,_,rfl,_,xs,_,rfl,rfl,SqT.of aa,_,rfl,_,_,rfl,rfl,_,rfl,?_⟩
       refine ite2 (fun q=>?_) (fun q=>?_)
       . exact⟨_,rfl,_,ab,zc3 (by rw[Qb];unfold wide at *;omega),hN _ (ac (.inr (QY q)))⟩
       . exact hN _ (S fun z=>z.elim (fun z=>f (by simp[z])) (fun z=>q (Qf z)))
   . rintro e rfl
     have s:Same H (upd H D (.lst ((zk2 n r xs (n+1 - -n).toNat).map V.int))):=Same.upd hD;have M:(upd H D (.lst ((zk2 n r xs (n+1 - -n).toNat).map V.int))) D=some (.lst ((zk2 n r xs (wide n)).map V.int)):=za3;revert s M;generalize upd H D (.lst ((zk2 n r xs (n+1 - -n).toNat).map V.int))=v;intro s M;refine⟨QD _,fun m U=>?_⟩;have al:=s.free U;have W:Same v (upd v m (.lst [])):=Same.upd U;have a1:(upd v m (.lst [])) m=some (.lst []):=za3;revert W a1;generalize upd v m (.lst [])=H2;intro W a1;refine⟨_,rfl,h,_,rfl,.inl ((s.trans W).seq E),?_⟩;rw[Qb];refine⟨_,rfl,by omega,by omega,zk0 (n:=((b.length:Nat):Int).toNat) (fun i l e=>X4 fun v9 a2 g d=>A4 (l=[some (.ref a0),some (.ref a),some (.int n),some (.int r),some (.ref h),some (.int c),some (.int (zb5 b xs)),some (.ref D),some (.ref m),v9,a2,g]) (Same v e) (e m=some (.lst d)) (Tups e d (zK9 n r b c xs i))) ⟨none,none,none,[],rfl,W,a1,.nil⟩ ?_ ?_⟩
     . rintro i l H3 hi ⟨v9,a2,g,d,rfl,y,N,F⟩
       have am:i<b.length:=by simpa using hi
       have e0:(0:Int)+(i:Int)=(i:Int):=by omega
       rw[e0];have ax:atI (xs.map V.int) (i:Int)=some (.int (xs.getD i 0)):=ze4 (by omega) (by omega);have ah:atI (b.map V.int) (i:Int)=some (.int (b.getD i 0)):=ze4 (by omega) (by omega);have b1:=ok.h (b.getD i 0) (zp7 am);have ad:=s.trans y;have b9:=zC1 n r b c xs i;have b2:i*wide n<=5*9:=Nat.mul_le_mul (by omega) ai;have ba:(zK9 n r b c xs i).length<=45:=by unfold zK9;rw[Qb];omega
       refine⟨_,rfl,_,rfl,_,rfl,h,_,_,_,rfl,rfl,ad.seq E,ah,_,rfl,_,rfl,a,_,_,_,rfl,rfl,SqT.of (ad _ _ o),ax,_,_,rfl,rfl,.inl ⟨by omega,by omega⟩,_,_,rfl,rfl,?_⟩;refine⟨_,rfl,_,rfl,_,rfl,_,_,rfl,rfl,_,rfl,?_⟩;have aj:zb5 b xs-b.getD i 0*xs.getD i 0=ze0 b xs i:=rfl;rw[aj];refine ite2 (fun h1=>?_) (fun h1=>?_)
       . have a3:absI (ze0 b xs i)<=c:=QY h1
         have an:=zW2 n r xs (wide n);have a9:=freeL_puts n r b c xs i (wide n);have a7:∀p∈zk2 n r xs (wide n),(-n<=p/\p<=n)/\(p≠0->(xs.count p:Int)<r):=fun p hp=>by
           obtain⟨⟨bf,hk,rfl⟩,f⟩:=freeL_mem hp;exact⟨by unfold wide at hk;omega,fun z=>f.resolve_left z⟩
         have a4:=y _ _ M;generalize zk2 n r xs (wide n)=k at a4 an a9 a7;refine⟨_,rfl,D,rfl,⟨_,SqL.of a4⟩,zl4 (K:=K) (a:=D) (xs:=k.map V.int) (fun j l e=>X2 fun g d=>A5 (l=[some (.ref a0),some (.ref a),some (.int n),some (.int r),some (.ref h),some (.int c),some (.int (zb5 b xs)),some (.ref D),some (.ref m),some (.int (i:Int)),some (.int (ze0 b xs i)),g]) (Same v e) (e D=some (.lst (k.map V.int))) (e m=some (.lst d)) (Tups e d (zK9 n r b c xs i++((k.take j).filter fun p=>decide (Lets n r b c xs i p)).map fun p=>xs.set i p))) ⟨g,d,rfl,y,a4,N,by simpa using F⟩ (fun j l e _ ⟨_,_,_,_,az,_,_⟩=>SqL.of az) ?_ ?_⟩
         . rintro j x l A hj ⟨g,d,rfl,B,O,u,C⟩
           obtain⟨p,rfl,hz⟩:=int_at hj;obtain⟨ao,ap⟩:=a7 p (QG hz);have ae:k.take (j+1)=k.take j++[p]:=by rw[QX,hz];rfl
           have Q:=s.trans B;have S:¬ Lets n r b c xs i p->Tups A d (zK9 n r b c xs i++((k.take (j+1)).filter fun p=>decide (Lets n r b c xs i p)).map fun p=>xs.set i p):=fun z=>by
             rw[ae,filt_no (Qg z)];exact C
           refine⟨_,rfl,_,rfl,_,rfl,a,_,_,_,rfl,rfl,SqT.of (Q _ _ o),ax,rfl,_,rfl,?_⟩;rw[ze3];refine ite2 (fun f=>?_) (fun f=>?_)
           . have a5:p≠xs.getD i 0:=by simpa using f
             refine⟨_,rfl,_,rfl,_,rfl,h,_,_,_,rfl,rfl,Q.seq E,ah,_,rfl,_,_,rfl,rfl,.inl ⟨by omega,by omega⟩,_,_,rfl,rfl,_,rfl,_,rfl,_,_,rfl,rfl,_,rfl,?_⟩;refine ite2 (fun q=>?_) (fun q=>?_)
             . have aq:absI (ze0 b xs i+b.getD i 0*p)<=c:=QY q
               have L:Lets n r b c xs i p:=⟨by omega,ao,a5,ap,a3,aq⟩;refine⟨_,rfl,.inl ⟨rfl,_,SqL.of u⟩,?_⟩;refine⟨_,rfl,_,rfl,_,rfl,a,_,rfl,SqT.of (Q _ _ o),?_,fun G f1=>?_⟩
               . rw[HT.sIx_none,HT.sIx_nat,Qb,Zy (by omega)]
                 omega
               have sa:Same A (upd A G (.tup (cutV (xs.map V.int) none (some (i:Int))))):=Same.upd f1;have ha:(upd A G (.tup (cutV (xs.map V.int) none (some (i:Int))))) G=some (.tup (cutV (xs.map V.int) none (some (i:Int)))):=za3;revert sa ha;generalize upd A G (.tup (cutV (xs.map V.int) none (some (i:Int))))=X;intro sa ha;refine⟨_,rfl,(by show 1<=sizeLine;decide),fun I f2=>?_⟩;have sb:Same X (upd X I (.tup [.int p])):=Same.upd f2;have hb:(upd X I (.tup [.int p])) I=some (.tup [.int p]):=za3;revert sb hb;generalize upd X I (.tup [.int p])=Hb;intro sb hb;have ak:=zj0 (xs.map V.int) none (some (i:Int));rw[Qb] at ak;refine⟨G,I,_,_,rfl,rfl,sb _ _ ha,hb,Za (zc3 (by show _+1<=_;omega)),fun l3 Y sc ar=>?_⟩;have af:=sa.trans (sb.trans sc);have au:=Q.trans af;refine⟨_,rfl,_,rfl,_,_,rfl,rfl,_,rfl,a,_,rfl,SqT.of (au _ _ o),?_,fun J f4=>?_⟩
               . rw[show((i:Int)+1)=((i+1:Nat):Int) by omega,HT.sIx_nat,Qb]
                 omega
               have Z:Same Y (upd Y J (.tup (cutV (xs.map V.int) (some ((i:Int)+1)) none))):=Same.upd f4;have hd:(upd Y J (.tup (cutV (xs.map V.int) (some ((i:Int)+1)) none))) J=some (.tup (cutV (xs.map V.int) (some ((i:Int)+1)) none)):=za3;revert Z hd;generalize upd Y J (.tup (cutV (xs.map V.int) (some ((i:Int)+1)) none))=Hd;intro Z hd;have e5:=zH7 xs i p (by omega);refine⟨l3,J,_,_,rfl,rfl,Z _ _ ar,hd,?_,fun l5 He se he=>?_⟩
               . rw[<-Qq,e5,Qb,Zj]
                 exact Za (zc3 (by omega))
               rw[e5] at he;have R:=af.trans (Z.trans se);have a6:=R _ _ u;have av:=ze6 C;rw[Qq,Qb] at av;have bb:((k.take j).filter fun p=>decide (Lets n r b c xs i p)).length<=k.length:=QK (ZB _ _) (by rw[Zb];omega);refine⟨m,_,_,rfl,rfl,a6,zc3 (by omega),?_⟩;refine⟨_,_,rfl,(B.trans R).put U,by rw[za7 (zb2 M U)];exact R _ _ O,za3,?_⟩;rw[ae,filt_yes (Qf L),Qm,<-Zc];refine zr0 (zk7 a6 (fun _ z=>nomatch z) (R.tups C)) ?_;rw[za7 (fun z=>by rw[z,a6] at he;cases he)];exact he
             . exact⟨_,_,rfl,B,O,u,S fun L=>q (Qf L.behind)⟩
           . have a5:p=xs.getD i 0:=by simpa using f
             exact iteF ⟨_,_,rfl,B,O,u,S fun L=>L.ne a5⟩
         . rintro l A ⟨g,d,rfl,B,O,u,C⟩
           rw[Qb,QS,a9,<-zR6] at C;exact⟨_,_,_,d,rfl,B,u,C⟩
       . have a3:¬ absI (ze0 b xs i)<=c:=fun z=>h1 (Qf z)
         refine⟨_,_,_,d,rfl,y,N,?_⟩;rw[zR6,zV2 _ a3];simpa using F
     . rintro l H3 ⟨v9,a2,g,d,rfl,y,N,F⟩
       rw[QZ,<-a8] at F;exact⟨_,rfl,ag m H3 d (s.trans y) al N F⟩
end
section
variable {P:Program} {w:World} {K:W.Frag} {mg:Str->Option Value} {base:Heap} {t:Adr}
structure Qs (n r:Int)(hs:List Int)(lim:Int)(s:List Int)(T:List (List Int×Nat))(k:Nat)(seen:List (List Int)):Prop where
 nd:(T.map (·.1)).Nodup
 dst:∀e∈T,Dst n r hs lim s e.2 e.1
 mono:T.Pairwise fun a b=>a.2<=b.2
 s0:s∈T.map (·.1)
 near:∀i e,i<k->T[i]?=some e->∀y∈nbs n r hs lim e.1,y∈T.map (·.1)
 sn:∀y∈seen,y∈T.map (·.1)
 top:∀c,T[k]?=some c->∀e∈T,e.2<=c.2+1
section
variable {n r:Int} {hs:List Int} {lim:Int} {s:List Int}
theorem Qs.start : Qs n r hs lim s [(s, 0)] 0 [] :=
  ⟨by simp, fun e he => (by obtain rfl : e = (s, 0) := by simpa using he
                            exact Dst.zero), by simp, by simp, fun i e hi => absurd hi (Nat.not_lt_zero _), (fun y hy => nomatch hy), fun c hc e he => by
    obtain rfl : e = (s, 0) := by simpa using he
    exact QD _⟩
theorem Qs.low {T:List (List Int×Nat)}{k:Nat}{g:List (List Int)}(h:Qs n r hs lim s T k g)(c:Nat)(j:∀i e,T[i]?=some e->e.2<c->i<k):∀e,e<=c->∀z,Dst n r hs lim s e z->z∈T.map (·.1):=by
 intro e
 induction e with
 | zero =>
   intro _ z a;obtain⟨l,_⟩:=a;cases l;exact h.s0
 | succ e m =>
   intro p z a;obtain⟨x,b,o⟩:=a.pred;obtain⟨q,d,rfl⟩:=QA.mp (m (by omega) x b);obtain⟨i,f⟩:=List.getElem?_of_mem d;have:=(h.dst q d).uniq b;exact h.near i q (j i q f (by omega)) f z o
theorem Qs.add {T:List (List Int×Nat)}{k:Nat}{q:List (List Int)}(h:Qs n r hs lim s T k q){c:List Int×Nat}(g:T[k]?=some c){y:List Int}(A:y∈nbs n r hs lim c.1)(v:y∉T.map (·.1)):Qs n r hs lim s (T++[(y,c.2+1)]) k (q++[y]):=by
 have m:k<T.length:=(Qw.mp g).1;have w:c∈T:=QG g;have low:=h.low c.2 (fun i e l d=>by
   rcases QW i k with z | z
   . exact z
   . exfalso
     rcases Nat.eq_or_lt_of_le z with z | z
     . subst z
       rw[g] at l;obtain rfl:=Qo l;omega
     . have t:i<T.length:=(Qw.mp l).1
       have:=QR.mp h.mono k i m t z;rw[Qe m] at g;rw[Qe t] at l;rw[Qo g,Qo l] at this;omega)
 have B:Dst n r hs lim s (c.2+1) y:=ye3.mpr ⟨fun⟨j,C,x⟩=>v (low j C y x),c.1,h.dst c w,A⟩;have sub:∀z,z∈T.map (·.1)->z∈(T++[(y,c.2+1)]).map (·.1):=fun z f=>by rw[Qm];exact Zo _ f
 refine⟨?_,fun e d=>?_,?_,sub _ h.s0,fun i e l d z f=>?_,fun z f=>?_,fun D u e d=>?_⟩
 . rw[Qm]
   exact List.nodup_append.mpr ⟨h.nd,by simp,fun a o b p=>by
     obtain rfl:b=y:=by simpa using p
     exact fun z=>v (z▸o)⟩
 . rcases Qt.mp d with d | d
   . exact h.dst e d
   . obtain rfl:e=(y,c.2+1):=by simpa using d
     exact B
 . exact QI.mpr ⟨h.mono,by simp,fun a o b p=>by
     obtain rfl:b=(y,c.2+1):=by simpa using p
     exact h.top c g a o⟩
 . rw[Zi (by omega)] at d
   exact sub _ (h.near i e l d z f)
 . rcases Qt.mp f with f | f
   . exact sub _ (h.sn z f)
   . obtain rfl:z=y:=by simpa using f
     simp
 . rw[Zi m,g] at u
   obtain rfl:=Qo u;rcases Qt.mp d with d | d
   . exact h.top c g e d
   . obtain rfl:e=(y,c.2+1):=by simpa using d
     exact Qi _
theorem Qs.skip {T:List (List Int×Nat)}{k:Nat}{b:List (List Int)}(h:Qs n r hs lim s T k b){y:List Int}(c:y∈T.map (·.1)):Qs n r hs lim s T k (b++[y]) :=
 ⟨h.nd,h.dst,h.mono,h.s0,h.near,fun z a=>by
   rcases Qt.mp a with a | a
   . exact h.sn z a
   . obtain rfl:z=y:=by simpa using a
     exact c,h.top⟩
theorem Qs.next {T:List (List Int×Nat)}{k:Nat}{c:List Int×Nat}(h:Qs n r hs lim s T k (nbs n r hs lim c.1))(d:T[k]?=some c):Qs n r hs lim s T (k+1) [] :=
 ⟨h.nd,h.dst,h.mono,h.s0,fun i e p a y b=>by
   rcases QW i k with z | z
   . exact h.near i e z a y b
   . obtain rfl:i=k:=by omega
     rw[d] at a;obtain rfl:=Qo a;exact h.sn y b,(fun y b=>nomatch b),fun q f e a=>by
   have t:=h.top c d e a;obtain⟨j,l⟩:=Qw.mp d;obtain⟨g,m⟩:=Qw.mp f;have o:=QR.mp h.mono k (k+1) j g (by omega);rw[l,m] at o;omega⟩
theorem Qs.done {T:List (List Int×Nat)}{k:Nat}{c:List (List Int)}(h:Qs n r hs lim s T k c)(f:T.length<=k){d:Nat}{x:List Int}:(x,d)∈T↔Dst n r hs lim s d x:=by
 refine⟨fun z=>h.dst _ z,fun z=>?_⟩;have:=h.low d (fun i e g _=>QO (Qw.mp g).1 f) d (Qi _) x z;obtain⟨q,a,e⟩:=QA.mp this;have b:=h.dst q a;rw[e] at b;have:=b.uniq z;subst this;rw[<-e];exact a
end
noncomputable def kvT (T:List (List Int×Nat)):List (List Int×V):=T.map fun e=>(e.1,.int (e.2:Int))
theorem zh6 (T:List (List Int×Nat)):(kvT T).map (·.1)=T.map (·.1):=by unfold kvT;rw[ZC];rfl
theorem ya1 (T:List (List Int×Nat)):(kvT T).length=T.length:=Qb _
theorem kvT_snoc (T:List (List Int×Nat))(e:List Int×Nat):kvT (T++[e])=kvT T++[(e.1,.int (e.2:Int))]:=by unfold kvT;rw[Qm];rfl
theorem zC3 {T:List (List Int×Nat)}{e:List Int×Nat}(h:e∈T):(e.1,V.int (e.2:Int))∈kvT T:=QA.mpr ⟨e,h,rfl⟩
def zR7 (H:Hp)(f:Addr)(n r:Int)(hs:List Int)(lim:Int)(s:List Int):Prop:=∃T:List (List Int×Nat),H f=some (.dT (dOf (kvT T)))/\(T.map (·.1)).Nodup/\∀x d,(x,d)∈T↔Dst n r hs lim s d x
inductive yf1 (K:W.Frag)(t:Adr)(vs:List V)(H:Hp)(Q:VK)(E:XK):Prop
 | mk (c o:Addr)(n r lim:Int)(hs s:List Int)(h0:vs=[.ref c,.ref o])(h1:zi3 K H c n r hs lim)(h2:zc6 n r hs.length s)(h3:H o=some (.tup (s.map V.int)))(h4:∀f H',Same H H'->zR7 H' f n r hs lim s->Q (.ref f) H'):yf1 K t vs H Q E
def sp_w_far (K:W.Frag)(t:Adr):Sp:=fun vs H Q E=>yf1 K t vs H Q E
theorem zA6 (T:Txt K mg t):FnOk P w K mg base CX0 3 t.cg t.ch Vf (sp_w_far K t):=by
 refine T.aJ.F.ok zv0 (fun vs H b6 b7 h=>?_) (fun bb bh ba s H vs b6 b7 M h=>?_)
 . obtain⟨c,o,n,r,p,u,s,rfl,aa,V0,W,am⟩:=h
   rfl
 . obtain⟨c,o,n,r,p,u,s,rfl,aa,V0,W,am⟩:=h
   refine⟨_,(za2 (zb4 (i:=2) zv0.nd rfl (Or.inl rfl) (yc3 (zi0 M) P1 za4))
     (za2 (zb4 (i:=3) zv0.nd rfl (Or.inl rfl) (ze8 (za0 P1 za1)))
     (za2 (zb4 (i:=4) zv0.nd rfl (Or.inl rfl) za4)
     (za2 (zE8 PassesOwn.never (zc2 zM6 (pv 4) (zb0 zc0 rfl T.ae QB (za0 P3 za1)) (zc1 _)) (za2 (zh7 PassesOwn.never rfl (zj2 (za6 (zW4 T) M.m T.bl zb3 (za0 P0 (za0 (zc9 zd1 P3 (pv 4) (fun _ _=>rfl)) za1)))) (zc5 (i:=5) zv0.nd rfl (Or.inl rfl)) (za5 (zc8 (zM4 (zq8 (zi0 M) (pv 5) P2)) (za2 (yj5 (zi0 M) P2 (pv 5) (zb9 zf4 (zo6 (zi0 M) P2 (zc9 zd1 P3 (pv 4) (fun _ _=>rfl)) (fun _ _=>rfl)) za4) rfl)
     (za5 (ze7 (zr4 QE QV QU zh0 P3 (za0 (pv 5) za1))))) zb6)))
     (za5 (zb4 (i:=4) zv0.nd rfl (Or.inl rfl) (zb9 zf4 (pv 4) za4)))))
     (za5 (zb7 P2)))))),?_⟩
   refine cut5 ?_;intro bc bd be bf;obtain⟨ok,_⟩:zg9 n r u p/\True:=⟨let⟨_,h,_⟩:=aa;h,trivial⟩;refine fun f ff=>⟨_,rfl,za3,o,s,rfl,by rw[za7 (zb2 W ff)];exact W,?_⟩
   rw[zg1];have N:Same H (upd H f (.dT [(ik s,.int 0)])):=Same.upd ff;have a4:(upd H f (.dT [(ik s,.int 0)])) f=some (.dT (dOf (kvT [(s,0)]))):=za3;revert N a4;generalize upd H f (.dT [(ik s,.int 0)])=X;intro N a4;refine⟨_,rfl,(by show 1<=sizeLine;decide),fun g ae=>?_⟩;have ap:=N.free ae;have O:Same X (upd X g (.lst [.ref o])):=Same.upd ae;have a5:(upd X g (.lst [.ref o])) g=some (.lst [.ref o]):=za3;dsimp only;revert O a5;generalize upd X g (.lst [.ref o])=H2;intro O a5;have a1:∀ {T:List (List Int×Nat)} {k:Nat} {ac:List (List Int)},Qs n r u p s T k ac->T.length<=1000:=fun {T k ac} an=>by
     have:=few ok an.nd fun x hx=>by
       obtain⟨e,he,rfl⟩:=QA.mp hx;exact(an.dst e he).1.valid V0
     rw[Qb] at this;exact this
   refine zE9 (fun y m=>X4 fun D k T b=>A7 (y=[some (.ref c),some (.ref o),some (.ref f),some (.ref g),some (.int ((k:Nat):Int)),D]) (Same H m) (m f=some (.dT (dOf (kvT T)))) (m g=some (.lst b)) (Tups m b (T.map (·.1))) (Qs n r u p s T k []) (k<=T.length))
     (fun y m=>match y with | [_,_,_,_,some (.int k),_]=>1001-k.toNat | _=>0) ⟨none,0,[(s,0)],[.ref o],rfl,N.trans O,O _ _ a4,a5,.cons ⟨o,rfl,O _ _ (N _ _ W)⟩ .nil,Qs.start,QD _⟩ ?_ ?_
   . rintro y H3 ⟨D,k,T,b,rfl,s3,G,I,T3,Q,bg⟩
     have ax:=ze6 T3;rw[Qb] at ax;have b9:=a1 Q;refine⟨_,rfl,_,rfl,g,b,rfl,.inl (SqL.of I),_,_,rfl,rfl,_,rfl,?_⟩;refine ite2 (fun h1=>?_) (fun h1=>?_)
     . have hk:k<T.length:=by have:=QY h1;omega
       have af:k<b.length:=by omega
       obtain⟨x,d,q⟩:∃x d,T[k]?=some (x,d):=⟨_,_,Qe hk⟩;obtain⟨a0,x',ay,ag,az⟩:=zo8 T3 (Qe af);obtain rfl:x=x':=by rw[QP,q] at ag;exact Qo ag
       have b0:b[k]?=some (.ref a0):=by rw[Qe af,ay]
       have Dx:=Q.dst _ (QG q);have Vx:=Dx.1.valid V0;refine⟨_,rfl,_,rfl,_,rfl,g,_,_,_,rfl,rfl,SqL.of I,zo4 b0,c,a0,n,r,p,u,x,rfl,aa.same s3,Vx,az,fun E H4 R Y S ah TN=>?_⟩;have b1:E≠f:=fun z=>by rw[z,G] at S;cases S
       have b2:E≠g:=fun z=>by rw[z,I] at S;cases S
       have ai:f≠g:=fun z=>by rw[z,I] at G;cases G
       have hN:∀ab∈nbs n r u p x,ab∈nbs n r u p x:=fun ab hy=>hy
       have b3:=ze6 TN
       refine⟨E,rfl,⟨_,SqL.of ah⟩,zl4 (K:=K) (a:=E) (xs:=R) (fun j y m=>∃D T b,y=[some (.ref c),some (.ref o),some (.ref f),some (.ref g),some (.int ((k:Nat):Int)),D]/\Same H m/\m f=some (.dT (dOf (kvT T)))/\m g=some (.lst b)/\Tups m b (T.map (·.1))/\m E=some (.lst R)/\Tups m R (nbs n r u p x)/\Qs n r u p s T k ((nbs n r u p x).take j)/\T[k]?=some (x,d))
         ⟨D,T,b,rfl,s3.trans Y,Y _ _ G,Y _ _ I,Y.tups T3,ah,TN,Q,q⟩ (fun j y m _ ⟨_,_,_,_,_,_,_,_,e,_⟩=>SqL.of e) ?_ ?_⟩
       . rintro j ab y v hj ⟨D,T,b,rfl,Z,A,J,F,a2,U,B,q⟩
         obtain⟨yb,l,rfl,aj,a6⟩:=zo8 U hj;have ak:(nbs n r u p x).take (j+1)=(nbs n r u p x).take j++[l]:=by rw[QX,aj];rfl
         have b4:=QG aj;have a7:k<T.length:=(Qw.mp q).1;have aq:=ze6 F;rw[Qb] at aq;have ao:=a1 B;have al:((kvT T).map (·.1)).Nodup:=by rw[zh6];exact B.nd
         refine⟨_,rfl,_,rfl,f,_,rfl,dget A a6,_,rfl,?_⟩;rw[zx4 al,zh6];refine ite2 (fun h2=>?_) (fun h2=>?_)
         . have hn:l∉T.map (·.1):=fun z=>by rw[Qf z] at h2;cases h2
           obtain⟨b5,x5,ar,ad,au⟩:=zo8 F (Qe (show k<b.length by omega));obtain rfl:x=x5:=by rw[QP,q] at ad;exact Qo ad
           have av:b[k]?=some (.ref b5):=by rw[Qe (show k<b.length by omega),ar]
           have g5:DGet v f (.ref b5) (some (.int (d:Int))):=by
             have:=dget A au;rw[zn1 al (zC3 (QG q))] at this;exact this
           refine⟨_,rfl,_,rfl,_,rfl,g,_,_,_,rfl,rfl,SqL.of J,zo4 av,f,_,rfl,g5,_,_,rfl,rfl,_,rfl,_,rfl,f,_,rfl,dput A a6 (by rw[ya1];omega),?_⟩;have aw:putK (dOf (kvT T)) (ik l) (.int ((d:Int)+1))=dOf (kvT (T++[(l,d+1)])):=by
             rw[yl9 _ (by rw[zh6];exact hn),kvT_snoc];rfl
           rw[aw];have k6:∀ {c:Addr} {us:List V},v c=some (.tup us)->(upd v f (.dT (dOf (kvT (T++[(l,d+1)]))))) c=some (.tup us):=fun e=>by rw[za7 (fun z=>by rw[z,A] at e;cases e)];exact e
           have s6:Same H (upd v f (.dT (dOf (kvT (T++[(l,d+1)]))))):=Z.put ff;have a8:(upd v f (.dT (dOf (kvT (T++[(l,d+1)]))))) f=some (.dT (dOf (kvT (T++[(l,d+1)])))):=za3;have C:(upd v f (.dT (dOf (kvT (T++[(l,d+1)]))))) g=some (.lst b):=by rw[za7 (Ne.symm ai)];exact J
           have a3:(upd v f (.dT (dOf (kvT (T++[(l,d+1)]))))) E=some (.lst R):=by rw[za7 b1];exact a2
           have T6:Tups (upd v f (.dT (dOf (kvT (T++[(l,d+1)]))))) b (T.map (·.1)):=zk7 A (fun _ z=>nomatch z) F;have a9:Tups (upd v f (.dT (dOf (kvT (T++[(l,d+1)]))))) R (nbs n r u p x):=zk7 A (fun _ z=>nomatch z) U;have L:=k6 a6;revert s6 a8 C a3 T6 a9 L;generalize upd v f (.dT (dOf (kvT (T++[(l,d+1)]))))=H6;intro s6 a8 C a3 T6 a9 L;refine⟨_,rfl,.inl ⟨rfl,_,SqL.of C⟩,_,rfl,g,_,_,rfl,rfl,C,zc3 (by omega),?_⟩;have I6:=B.add q b4 hn;refine⟨_,T++[(l,d+1)],b++[.ref yb],rfl,s6.put ap,by rw[za7 ai];exact a8,za3,?_,by rw[za7 b2];exact a3,zk7 C (fun _ z=>nomatch z) a9,by rw[ak];exact I6,by rw[Zi a7];exact q⟩;rw[Qm];exact zr0 (zk7 C (fun _ z=>nomatch z) T6) (by rw[za7 (fun z=>by rw[z,C] at L;cases L)];exact L)
         . have hy:l∈T.map (·.1):=Classical.byContradiction fun z=>h2 (by rw[Qg z];rfl)
           exact⟨_,T,b,rfl,Z,A,J,F,a2,U,by rw[ak];exact B.skip hy,q⟩
       . rintro y v ⟨D,T,b,rfl,Z,A,J,F,a2,U,B,q⟩
         rw[b3,QS] at B;have a7:k<T.length:=(Qw.mp q).1;have ao:=a1 B;refine⟨_,rfl,_,_,rfl,rfl,⟨_,k+1,T,b,rfl,Z,A,J,F,B.next q,a7⟩,?_⟩;show 1001-((k:Int)+1).toNat<1001-(k:Int).toNat;omega
     . have hk:T.length<=k:=Nat.not_lt.mp fun z=>h1 (Qf (by omega))
       exact⟨_,rfl,am f H3 s3 ⟨T,G,Q.nd,fun x d=>Q.done hk⟩⟩
   . rintro y m Q1 Q2 hQ ⟨_,e1,_,e2,b8,b,e3,e4,i,j,e5,e6,a0,e7,h⟩
     exact⟨_,e1,_,e2,b8,b,e3,e4,i,j,e5,e6,a0,e7,hQ _ _ h⟩
theorem zC4 {xs ys:List Int}(j:Nat)(x y:V)(c:(xs.map V.int)[j]?=some x)(d:(ys.map V.int)[j]?=some y):yc8 x y=true:=by
 obtain⟨a,rfl,_⟩:=int_at c;obtain⟨b,rfl,_⟩:=int_at d;rfl
theorem kit_self (K:W.Frag)(c:Value):W.kitOne K c c=some true:=Ql (by simp)
inductive zW5 (K:W.Frag)(t:Adr)(vs:List V)(H:Hp)(Q:VK)(E:XK):Prop
 | mk (c:Addr)(n r lim:Int)(hs:List Int)(h0:vs=[.ref c])(h1:zi3 K H c n r hs lim)(h2:∀b H',Same H H'->zd7 t H' b n r hs lim->Q (.ref b) H'):zW5 K t vs H Q E
def sp_w_beam (K:W.Frag)(t:Adr):Sp:=fun vs H Q E=>zW5 K t vs H Q E
theorem ok_w_beam (T:Txt K mg t):FnOk P w K mg base CX0 5 t.bV t.bW PF (sp_w_beam K t):=by
 refine T.bL.F.ok sc_w_beam (fun y H Q E h=>?_) (fun J A I s H y Q E z h=>?_)
 . obtain⟨c,n,r,l,f,rfl,⟨h,ok,a,m⟩,q⟩:=h
   rfl
 . obtain⟨c,n,r,l,f,rfl,⟨h,ok,a,m⟩,q⟩:=h
   refine⟨_,(za5 (zb7 (zB2 T.bU (zH4 T) z.m rfl T.b8 T.aS.b .nil zb3 (za0 (zc9 zd1 P0 za4 (fun _ _=>rfl)) (za0 (zc9 zd1 P0 za4 (fun _ _=>rfl)) (za0 (zi5 zq4 rfl T.aD Zq (za0 (zc9 zd1 P0 za4 (fun _ _=>rfl)) za1)) (za0 (zc9 zd1 P0 za4 (fun _ _=>rfl)) za1))))))),?_⟩;refine⟨_,rfl,c,_,_,_,rfl,rfl,a,rfl,?_⟩;refine⟨_,rfl,c,_,_,_,rfl,rfl,a,rfl,?_⟩;refine⟨_,rfl,c,_,_,_,rfl,rfl,a,rfl,h,_,rfl,.inl m,fun d B=>?_⟩;have k:Same H (upd H d (.lst (f.map V.int))):=Same.upd B;refine⟨_,rfl,c,_,_,_,rfl,rfl,k.seq a,rfl,fun b g i j p=>?_⟩;have C:Same H (upd (upd (upd H d (.lst (f.map V.int))) g (.own b)) b (.ins t.ae g [])):=(k.updT j).updT (by rw[za7 (Ne.symm p)];exact i);have u:d≠b:=fun e=>by rw[<-e,za3] at i;cases i
   have v:d≠g:=fun e=>by rw[<-e,za3] at j;cases j
   refine⟨b,g,d,n,r,l,f,rfl,za3,.inl (SqL.of (by rw[za7 u,za7 v,za3])),ok,fun D F G=>⟨rfl,?_⟩⟩;have x:H b=none:=k.free i;exact q b D (fun c o e=>G c o (C c o e) (zb2 e x)) F
end
section
variable {P:Program} {w:World} {K:W.Frag} {mg:Str->Option Value} {base:Heap} {t:Adr}
structure zl2 (H H':Hp)(l sc h st go:Addr)(n r lim:Int)(hs s g:List Int):Prop where
 sm:Same H H'
 fsc:H sc=none
 fh:H h=none
 hl:H' l=some (.lst [.ref sc,.ref st,.ref go])
 hsc:H' sc=some (.lst [.int n,.int r,.ref h,.int lim])
 hh:H' h=some (.lst (hs.map V.int))
 hst:H' st=some (.tup (s.map V.int))
 hgo:H' go=some (.tup (g.map V.int))
 ok:zg9 n r hs lim
 vs:zc6 n r hs.length s
 vg:zc6 n r hs.length g
 ks:absI (zb5 hs s)<=lim
 kg:absI (zb5 hs g)<=lim
theorem zl2.mk5 {H:Hp}{h a st go l:Addr}{n r lim:Int}{hs s g:List Int}(b:H h=none)(c:(upd H h (.lst (hs.map V.int))) a=none)(j:(upd (upd H h (.lst (hs.map V.int))) a (.lst [.int n,.int r,.ref h,.int lim])) st=none)
   (k:(upd (upd (upd H h (.lst (hs.map V.int))) a (.lst [.int n,.int r,.ref h,.int lim])) st (.tup (s.map V.int))) go=none) (m:(upd (upd (upd (upd H h (.lst (hs.map V.int))) a (.lst [.int n,.int r,.ref h,.int lim])) st (.tup (s.map V.int))) go (.tup (g.map V.int))) l=none)
   (ok:zg9 n r hs lim) (p:zc6 n r hs.length s) (q:zc6 n r hs.length g) (k1:absI (zb5 hs s)<=lim) (k2:absI (zb5 hs g)<=lim) :
   zl2 H (upd (upd (upd (upd (upd H h (.lst (hs.map V.int))) a (.lst [.int n,.int r,.ref h,.int lim])) st (.tup (s.map V.int))) go (.tup (g.map V.int))) l (.lst [.ref a,.ref st,.ref go])) l a h st go n r lim hs s g:=by
 have d:=Same.upd (o:=.lst [.ref a,.ref st,.ref go]) m;have e:=(Same.upd (o:=.tup (g.map V.int)) k).trans d;have f:=(Same.upd (o:=.tup (s.map V.int)) j).trans e;have i:=(Same.upd (o:=.lst [.int n,.int r,.ref h,.int lim]) c).trans f;exact⟨(Same.upd b).trans i,(Same.upd b).free c,b,za3,f _ _ za3,i _ _ za3,e _ _ za3,d _ _ za3,ok,p,q,k1,k2⟩
theorem zl2.mk4 {H:Hp}{h a st go l:Addr}{n r lim:Int}{hs s g:List Int}(j:H st=some (.tup (s.map V.int)))(b:H h=none)(c:(upd H h (.lst (hs.map V.int))) a=none)
   (k:(upd (upd H h (.lst (hs.map V.int))) a (.lst [.int n,.int r,.ref h,.int lim])) go=none) (m:(upd (upd (upd H h (.lst (hs.map V.int))) a (.lst [.int n,.int r,.ref h,.int lim])) go (.tup (g.map V.int))) l=none)
   (ok:zg9 n r hs lim) (p:zc6 n r hs.length s) (q:zc6 n r hs.length g) (k1:absI (zb5 hs s)<=lim) (k2:absI (zb5 hs g)<=lim) :
   zl2 H (upd (upd (upd (upd H h (.lst (hs.map V.int))) a (.lst [.int n,.int r,.ref h,.int lim])) go (.tup (g.map V.int))) l (.lst [.ref a,.ref st,.ref go])) l a h st go n r lim hs s g:=by
 have d:=Same.upd (o:=.lst [.ref a,.ref st,.ref go]) m;have e:=(Same.upd (o:=.tup (g.map V.int)) k).trans d;have f:=(Same.upd (o:=.lst [.int n,.int r,.ref h,.int lim]) c).trans e;have i:=(Same.upd (o:=.lst (hs.map V.int)) b).trans f;exact⟨i,(Same.upd b).free c,b,za3,e _ _ za3,f _ _ za3,i _ _ j,d _ _ za3,ok,p,q,k1,k2⟩
theorem zl2.from {H b H':Hp}{l c h st go:Addr}{n r lim:Int}{hs s g:List Int}(a:Same H b)(C:zl2 b H' l c h st go n r lim hs s g):zl2 H H' l c h st go n r lim hs s g :=
 ⟨a.trans C.sm,a.free C.fsc,a.free C.fh,C.hl,C.hsc,C.hh,C.hst,C.hgo,C.ok,C.vs,C.vg,C.ks,C.kg⟩
def sp_w_hard (K:W.Frag)(t:Adr):Sp:=fun vs H Q _=>∃c:Int,vs=[.int c]/\∀l sc h st go H' n r lim hs s g,zl2 H H' l sc h st go n r lim hs s g->Q (.ref l) H'
theorem ok_w_hard (T:Txt K mg t):FnOk P w K mg base CX0 1 t.bH t.bI ["_law_cell"] (sp_w_hard K t):=by
 refine T.bI.F.ok zJ6 (fun S H Q E h=>?_) (fun a1 a8 a0 s H S Q E hr h=>?_)
 . obtain⟨c,rfl,q⟩:=h
   rfl
 . obtain⟨c,rfl,q⟩:=h
   refine⟨_,(WSs.h (zu5 (yq4 (i:=1) zJ6.nd rfl (Or.inl rfl) (WE.mk (zb9 zf0 (zb9 zl8 P0 za4) za4)))
     (zu5 (yk0 (zc2 zi9 (zb9 zf0 P0 za4) za4 (zc1 _)) (zG4 (zO6 (zl1 (za9 (zl1 (za9 (WE.mk za4) (za9 (WE.mk za4) (za9 (zl1 (za9 (WE.mk za4) (za9 (WE.mk za4) (za9 (WE.mk za4) (za9 (WE.mk za4) (za9 (WE.mk za4) zf5)))))) (za9 (WE.mk (zb9 zf4 za4 P1)) zf5))))) (za9 (zp9 (za9 (WE.mk (zm2 zi4 za4)) (za9 (WE.mk (zm2 zi4 za4)) (za9 (WE.mk za4) (za9 (WE.mk za4) (za9 (WE.mk za4) zf5)))))) (za9 (zp9 (za9 (WE.mk za4) (za9 (WE.mk za4) (za9 (WE.mk (zm2 zi4 za4)) (za9 (WE.mk za4) (za9 (WE.mk (zm2 zi4 za4)) zf5)))))) zf5)))))) zL8)
     (zu5 (yk0 (zc2 zi9 (zb9 zf0 P0 za4) za4 (zc1 _)) (zG4 (zO6 (zl1 (za9 (zl1 (za9 (WE.mk za4) (za9 (WE.mk za4) (za9 (zl1 (za9 (WE.mk za4) (za9 (WE.mk za4) (za9 (WE.mk za4) (za9 (WE.mk za4) zf5))))) (za9 (WE.mk (zb9 zf4 za4 P1)) zf5))))) (za9 (zp9 (za9 (WE.mk za4) (za9 (WE.mk za4) (za9 (WE.mk za4) (za9 (WE.mk (zm2 zi4 za4)) zf5))))) (za9 (zp9 (za9 (WE.mk (zm2 zi4 za4)) (za9 (WE.mk za4) (za9 (WE.mk (zm2 zi4 za4)) (za9 (WE.mk za4) zf5))))) zf5)))))) zL8)
     (zu5 (yk0 (zc2 zi9 (zb9 zf0 P0 za4) za4 (zc1 _)) (zG4 (zO6 (zl1 (za9 (zl1 (za9 (WE.mk za4) (za9 (WE.mk za4) (za9 (zl1 (za9 (WE.mk za4) (za9 (WE.mk za4) (za9 (WE.mk za4) zf5)))) (za9 (WE.mk (zb9 zf4 za4 P1)) zf5))))) (za9 (zp9 (za9 (WE.mk za4) (za9 (WE.mk (zm2 zi4 za4)) (za9 (WE.mk za4) zf5)))) (za9 (zp9 (za9 (WE.mk za4) (za9 (WE.mk za4) (za9 (WE.mk (zm2 zi4 za4)) zf5)))) zf5)))))) zL8)
     (zu5 (yk0 (zc2 zi9 (zb9 zf0 P0 za4) za4 (zc1 _)) (zG4 (zO6 (zl1 (za9 (zl1 (za9 (WE.mk za4) (za9 (WE.mk za4) (za9 (zl1 (za9 (WE.mk za4) (za9 (WE.mk za4) (za9 (WE.mk za4) zf5)))) (za9 (WE.mk (zb9 zf4 za4 P1)) zf5))))) (za9 (zp9 (za9 (WE.mk za4) (za9 (WE.mk za4) (za9 (WE.mk (zm2 zi4 za4)) zf5)))) (za9 (zp9 (za9 (WE.mk za4) (za9 (WE.mk (zm2 zi4 za4)) (za9 (WE.mk za4) zf5)))) zf5)))))) zL8)
     (zu5 (yq4 (i:=2) zJ6.nd rfl (Or.inl rfl) (we_ix zd1 (zl1 (za9 (zp9 (za9 (WE.mk za4) (za9 (WE.mk za4) (za9 (WE.mk za4) zf5)))) (za9 (zp9 (za9 (WE.mk (zm2 zi4 za4)) (za9 (WE.mk (zm2 zi4 za4)) (za9 (WE.mk (zm2 zi4 za4)) zf5)))) (za9 (zp9 (za9 (WE.mk za4) (za9 (WE.mk za4) (za9 (WE.mk za4) zf5)))) zf5)))) (WE.mk (zb9 zg4 (zb9 zf0 P0 za4) za4)) (fun _ _=>rfl)))
     (zG4 (zO6 (zl1 (za9 (zl1 (za9 (WE.mk za4) (za9 (WE.mk za4) (za9 (zl1 (za9 (WE.mk za4) (za9 (WE.mk za4) (za9 (WE.mk za4) zf5)))) (za9 (WE.mk (zb9 zf4 za4 P1)) zf5))))) (za9 (WE.mk P2) (za9 (zp9 (za9 (WE.mk za4) (za9 (WE.mk za4) (za9 (WE.mk za4) zf5)))) zf5))))))))))))),?_⟩
   refine cut7 ?_;intro a2 a3 a4 a5 a6 a7;refine⟨_,rfl,_,_,rfl,rfl,⟨by decide,by decide⟩,_,_,rfl,rfl,(by show(0:Int)<3;decide),?_⟩;refine⟨_,rfl,_,_,rfl,rfl,(by show(0:Int)<7;decide),rfl,_,rfl,?_⟩;have m0:0<=c / 7 % 3:=Zr _ (by decide);have m1:c / 7 % 3<3:=Zp _ (by decide);have c0:0<=c % 7:=Zr _ (by decide);have c1:c % 7<7:=Zp _ (by decide);rw[ze3];refine ite2 (fun J=>?_) (fun J=>?_)
   . refine⟨(by show 5<=sizeLine;decide),fun h f=>⟨_,rfl,_,_,rfl,rfl,(by show 4<=sizeLine;decide),fun j k=>⟨_,rfl,_,rfl,(by show 5<=sizeLine;decide),fun u v=>⟨_,rfl,_,rfl,(by show 5<=sizeLine;decide),fun go m=>⟨(by show 3<=sizeLine;decide),fun l p=>?_⟩⟩⟩⟩⟩
     have b:absI (zb5 [13,20,16,15,8] [-1,-1,1,0,1])=9:=by decide
     have a:absI (zb5 [13,20,16,15,8] [1,1,-1,0,-1])=9:=by decide
     exact q l j h u go _ 1 2 (9+c / 7 % 3) [13,20,16,15,8] [-1,-1,1,0,1] [1,1,-1,0,-1] (zl2.mk5 (n:=1) (r:=2) (lim:=(9+c / 7 % 3)) (hs:=[13,20,16,15,8]) (s:=[-1,-1,1,0,1]) (g:=[1,1,-1,0,-1]) f k v m p ⟨by decide,by decide,by decide,by decide,by omega,by omega,by decide,by decide,by decide⟩ ⟨rfl,by decide,by decide⟩ ⟨rfl,by decide,by decide⟩ (by omega) (by omega))
   have g0:c % 7≠0:=by simpa using J
   refine⟨_,rfl,_,_,rfl,rfl,(by show(0:Int)<7;decide),rfl,_,rfl,?_⟩;rw[ze3];refine ite2 (fun L=>?_) (fun L=>?_)
   . refine⟨(by show 4<=sizeLine;decide),fun h f=>⟨_,rfl,_,_,rfl,rfl,(by show 4<=sizeLine;decide),fun j k=>⟨_,rfl,(by show 4<=sizeLine;decide),fun u v=>⟨_,rfl,_,rfl,(by show 4<=sizeLine;decide),fun go m=>⟨(by show 3<=sizeLine;decide),fun l p=>?_⟩⟩⟩⟩⟩
     have b:absI (zb5 [9,16,11,15] [2,0,1,-2])=1:=by decide
     have a:absI (zb5 [9,16,11,15] [-2,0,-1,2])=1:=by decide
     exact q l j h u go _ 2 1 (14+c / 7 % 3) [9,16,11,15] [2,0,1,-2] [-2,0,-1,2] (zl2.mk5 (n:=2) (r:=1) (lim:=(14+c / 7 % 3)) (hs:=[9,16,11,15]) (s:=[2,0,1,-2]) (g:=[-2,0,-1,2]) f k v m p ⟨by decide,by decide,by decide,by decide,by omega,by omega,by decide,by decide,by decide⟩ ⟨rfl,by decide,by decide⟩ ⟨rfl,by decide,by decide⟩ (by omega) (by omega))
   have g1:c % 7≠1:=by simpa using L
   refine⟨_,rfl,_,_,rfl,rfl,(by show(0:Int)<7;decide),rfl,_,rfl,?_⟩;rw[ze3];refine ite2 (fun M=>?_) (fun M=>?_)
   . refine⟨(by show 3<=sizeLine;decide),fun h f=>⟨_,rfl,_,_,rfl,rfl,(by show 4<=sizeLine;decide),fun j k=>⟨_,rfl,(by show 3<=sizeLine;decide),fun u v=>⟨_,rfl,(by show 3<=sizeLine;decide),fun go m=>⟨(by show 3<=sizeLine;decide),fun l p=>?_⟩⟩⟩⟩⟩
     have b:absI (zb5 [15,19,16] [1,-3,3])=6:=by decide
     have a:absI (zb5 [15,19,16] [1,3,-3])=24:=by decide
     exact q l j h u go _ 3 2 (28+c / 7 % 3) [15,19,16] [1,-3,3] [1,3,-3] (zl2.mk5 (n:=3) (r:=2) (lim:=(28+c / 7 % 3)) (hs:=[15,19,16]) (s:=[1,-3,3]) (g:=[1,3,-3]) f k v m p ⟨by decide,by decide,by decide,by decide,by omega,by omega,by decide,by decide,by decide⟩ ⟨rfl,by decide,by decide⟩ ⟨rfl,by decide,by decide⟩ (by omega) (by omega))
   have g2:c % 7≠2:=by simpa using M
   refine⟨_,rfl,_,_,rfl,rfl,(by show(0:Int)<7;decide),rfl,_,rfl,?_⟩;rw[ze3];refine ite2 (fun N=>?_) (fun N=>?_)
   . refine⟨(by show 3<=sizeLine;decide),fun h f=>⟨_,rfl,_,_,rfl,rfl,(by show 4<=sizeLine;decide),fun j k=>⟨_,rfl,(by show 3<=sizeLine;decide),fun u v=>⟨_,rfl,(by show 3<=sizeLine;decide),fun go m=>⟨(by show 3<=sizeLine;decide),fun l p=>?_⟩⟩⟩⟩⟩
     have b:absI (zb5 [14,20,18] [2,3,-4])=16:=by decide
     have a:absI (zb5 [14,20,18] [1,-3,4])=26:=by decide
     exact q l j h u go _ 4 3 (38+c / 7 % 3) [14,20,18] [2,3,-4] [1,-3,4] (zl2.mk5 (n:=4) (r:=3) (lim:=(38+c / 7 % 3)) (hs:=[14,20,18]) (s:=[2,3,-4]) (g:=[1,-3,4]) f k v m p ⟨by decide,by decide,by decide,by decide,by omega,by omega,by decide,by decide,by decide⟩ ⟨rfl,by decide,by decide⟩ ⟨rfl,by decide,by decide⟩ (by omega) (by omega))
   have g3:c % 7≠3:=by simpa using N
   refine⟨(by show 3<=sizeLine;decide),fun b U=>⟨_,rfl,_,rfl,_,rfl,(by show 3<=sizeLine;decide),fun a O=>⟨(by show 3<=sizeLine;decide),fun d B=>⟨(by show 3<=sizeLine;decide),fun z A=>?_⟩⟩⟩⟩;have C:=(((Same.upd (o:=.tup [.int 0,.int 0,.int 0]) U).updT (o:=.tup [.int (-4),.int (-4),.int (-4)]) O).updT (o:=.tup [.int 4,.int 4,.int 4]) B).updT (o:=.lst [.ref b,.ref a,.ref d]) A;have D:(upd (upd (upd (upd H b (.tup [.int 0,.int 0,.int 0])) a (.tup [.int (-4),.int (-4),.int (-4)])) d (.tup [.int 4,.int 4,.int 4])) z (.lst [.ref b,.ref a,.ref d])) b=some (.tup (([0,0,0]:List Int).map V.int)):=Same.upd A _ _ (Same.upd B _ _ (Same.upd O _ _ za3));have F:(upd (upd (upd (upd H b (.tup [.int 0,.int 0,.int 0])) a (.tup [.int (-4),.int (-4),.int (-4)])) d (.tup [.int 4,.int 4,.int 4])) z (.lst [.ref b,.ref a,.ref d])) a=some (.tup (([-4,-4,-4]:List Int).map V.int)):=Same.upd A _ _ (Same.upd B _ _ za3);have G:(upd (upd (upd (upd H b (.tup [.int 0,.int 0,.int 0])) a (.tup [.int (-4),.int (-4),.int (-4)])) d (.tup [.int 4,.int 4,.int 4])) z (.lst [.ref b,.ref a,.ref d])) d=some (.tup (([4,4,4]:List Int).map V.int)):=Same.upd A _ _ za3;have I:(upd (upd (upd (upd H b (.tup [.int 0,.int 0,.int 0])) a (.tup [.int (-4),.int (-4),.int (-4)])) d (.tup [.int 4,.int 4,.int 4])) z (.lst [.ref b,.ref a,.ref d])) z=some (.lst [.ref b,.ref a,.ref d]):=za3;dsimp only;revert C D F G I;generalize upd (upd (upd (upd H b (.tup [.int 0,.int 0,.int 0])) a (.tup [.int (-4),.int (-4),.int (-4)])) d (.tup [.int 4,.int 4,.int 4])) z (.lst [.ref b,.ref a,.ref d])=W;intro C D F G I;have X:∃y x,atI [V.ref b,V.ref a,V.ref d] (c % 7-4)=some (.ref y)/\W y=some (.tup (x.map V.int))/\zc6 4 3 3 x/\absI (zb5 [20,20,20] x)<=240:=by
     have:c % 7=4\/c % 7=5\/c % 7=6:=by omega
     rcases this with e | e | e<;>rw[e]
     . exact⟨b,[0,0,0],rfl,D,⟨rfl,by decide,by decide⟩,by decide⟩
     . exact⟨a,[-4,-4,-4],rfl,F,⟨rfl,by decide,by decide⟩,by decide⟩
     . exact⟨d,[4,4,4],rfl,G,⟨rfl,by decide,by decide⟩,by decide⟩
   obtain⟨y,x,Y,R,Z,kx⟩:=X;refine⟨_,rfl,_,_,rfl,rfl,(by show(0:Int)<7;decide),_,_,rfl,rfl,z,_,_,_,rfl,rfl,SqL.of I,Y,?_⟩;refine⟨(by show 3<=sizeLine;decide),fun h f=>⟨_,rfl,_,_,rfl,rfl,(by show 4<=sizeLine;decide),fun j k=>⟨_,rfl,(by show 3<=sizeLine;decide),fun go m=>⟨(by show 3<=sizeLine;decide),fun l p=>?_⟩⟩⟩⟩;have a:absI (zb5 [20,20,20] [4,4,4])=240:=by decide
   exact q l j h y go _ 4 3 (240+c / 7 % 3) [20,20,20] x [4,4,4] (zl2.from C (zl2.mk4 (n:=4) (r:=3) (lim:=240+c / 7 % 3) (hs:=[20,20,20]) (s:=x) (g:=[4,4,4]) R f k m p ⟨by decide,by decide,by decide,by decide,by omega,by omega,by decide,by decide,by decide⟩ Z ⟨rfl,by decide,by decide⟩ (by omega) (by omega)))
end
section
variable {P:Program} {w:World} {K:W.Frag} {mg:Str->Option Value} {base:Heap} {t:Adr}
theorem st_eq {T:TS}{D:Ends}{a σ':St}{H:Hp}(e:a=σ')(h:T D σ' H):T D a H:=e▸h
theorem use_finA {R:Addr->Hp->Prop}{S:Addr->Hp->Prop}{G:Prop}(b:(∀o a,S o a->R o a)->G)(c:∀o a,S o a->R o a):G:=b c
theorem use_finB {R:Addr->Addr->Option V->Hp->Prop}{S:Addr->Addr->Hp->Prop}{G:Prop}(b:(∀x y v a,S x y a->R x y v a)->G)(c:∀x y v a,S x y a->R x y v a):G:=b c
theorem rep0 (k:Nat):(List.replicate k [V.int 0]).flatten=(List.replicate k (0:Int)).map V.int:=by
 induction k with
 | zero=>rfl
 | succ k a=>rw[ZF,List.flatten_cons,a,ZF,QL];rfl
theorem valid0 {n r:Int}(c:1<=n)(k:Nat):zc6 n r k (List.replicate k 0) :=
 ⟨List.length_replicate,fun x a=>by rw[(List.mem_replicate.mp a).2];omega,fun x a b=>absurd (List.mem_replicate.mp a).2 b⟩
theorem validP {n r a:Int}(g:1<=r)(h:1<=a)(i:a<=n)(k:Nat):zc6 n r (k+2) (a::-a::List.replicate k 0):=by
 refine⟨by simp,fun x b=>?_,fun x b e=>?_⟩
 . rcases Qn.mp b with rfl | b
   . omega
   . rcases Qn.mp b with rfl | b
     . omega
     . rw[(List.mem_replicate.mp b).2];omega
 . have f:(List.replicate k (0:Int)).count x=0:=List.count_eq_zero.mpr fun z=>e (List.mem_replicate.mp z).2
   rw[List.count_cons,List.count_cons,f];by_cases d:a=x
   . have c:¬ (-a=x):=by omega
     simp[d,c]
     split<;>omega
   . by_cases c:-a=x
     . simp[d,c];omega
     . simp[d,c];omega
def sp_w_case (K:W.Frag)(t:Adr):Sp:=fun vs H Q _=>∃(a:Addr) (ns:List Int),vs=[.ref a]/\SqL K H a (ns.map V.int)/\∀l sc h st go H' n r lim hs s g,zl2 H H' l sc h st go n r lim hs s g->Q (.ref l) H'
theorem ok_w_case (T:Txt K mg t):FnOk P w K mg base CX0 3 t.bJ t.bK Pd (sp_w_case K t):=by
 refine T.bJ.F.ok zg0 (fun vs a1 b3 b4 h=>?_) (fun b9 bv b7 s a1 vs b3 b4 B h=>?_)
 . obtain⟨a,b,rfl,O,ae⟩:=h
   rfl
 . obtain⟨a,b,rfl,O,ae⟩:=h
   refine⟨_,(za2 (zb4 (i:=1) zg0.nd rfl (Or.inl rfl) (za6 (ok_w_shape T) B.m T.bA zb3 (zc7 P0 za1)))
     (za2 (zD7 P1 (zN3 rfl (zd8 (zc5 (i:=2) zg0.nd rfl (Or.inl rfl)) (zd8 (zc5 (i:=3) zg0.nd rfl (Or.inl rfl)) (zd8 (zc5 (i:=4) zg0.nd rfl (Or.inl rfl)) zw0)))))
     (za2 (zb4 (i:=5) zg0.nd rfl (Or.inl rfl) (za6 (yf0 T) B.m T.bv zb3 (zc7 P0 (zc7 za4 (zc7 za4 (zc7 P1 za1))))))
     (za2 (zb4 (i:=6) zg0.nd rfl (Or.inl rfl) (za6 (yf0 T) B.m T.bv zb3 (zc7 P0 (zc7 za4 (zc7 za4 (zc7 P1 za1))))))
     (za2 (zb4 (i:=7) zg0.nd rfl (Or.inl rfl) (za6 (zt2 T) B.m T.aC zb3 (zc7 P0 (zc7 za4 za1))))
     (za2 (zc8 (zc2 zi9 (zb9 zf0 P7 za4) za4 (zc1 _)) (za5 (zb7 (za6 (ok_w_hard T) B.m T.bI zb3 (zc7 (zb9 zl8 P7 za4) za1)))) zb6)
     (za2 (zc8 (zc2 zi9 (zb9 zf0 P7 za4) za4 (zc1 _)) (za5 (zb4 (i:=6) zg0.nd rfl (Or.inl rfl) (zi5 zq4 rfl T.aD Zq (zc7 (pv 5) za1)))) zb6)
     (za2 (zc8 (PW.pt (zy1 (zc2 zi9 (zb9 zf0 P7 za4) za4 (zc1 _)) (zv9 (zc2 zy3 (zb0 zc0 rfl T.ae QB (zc7 (pv 4) za1)) za4 (zc1 _))))) (za2 (zD7 (zc9 zd1 (pv 4) za4 (fun _ _=>rfl)) (pg_sub (pv 4) za4 set_list))
     (za2 (zb4 (i:=8) zg0.nd rfl (Or.inl rfl) (zb9 zf4 za4 (zb9 zf0 (zb9 zl8 P7 za4) P2)))
     (za2 (zb4 (i:=5) zg0.nd rfl (Or.inl rfl) (zb9 zY3 (ze8 (zc7 za4 za1)) (zb0 zc0 rfl T.ae QB (zc7 (pv 4) za1))))
     (za2 (zb4 (i:=6) zg0.nd rfl (Or.inl rfl) (zb9 yp1 (ze8 (zc7 P8 (zc7 (zm2 zi4 P8) za1))) (zb9 zY3 (ze8 (zc7 za4 za1)) (zb9 zg4 (zb0 zc0 rfl T.ae QB (zc7 (pv 4) za1)) za4))))
     (za5 (zc8 (zc2 zi9 (zb9 zf0 (zb9 zl8 P7 za4) za4) za4 (zc1 _)) (za5 (ps_par (i:=5) (j:=6) rfl zg0.nd rfl rfl (by decide) rfl rfl (zc7 P6 (zc7 (pv 5) za1)) rfl)) zb6)))))) zb6)
     (za2 (zb4 (i:=9) zg0.nd rfl (Or.inl rfl) (zb0 (zu2 rfl) rfl T.a2 ZM (zc7 (zb0 zh3 rfl T.ar QT (zc7 (za6 (zr2 T) B.m T.az zb3 (zc7 (pv 4) (zc7 (pv 5) za1))) za1)) (zc7 (zb0 zh3 rfl T.ar QT (zc7 (za6 (zr2 T) B.m T.az zb3 (zc7 (pv 4) (zc7 P6 za1))) za1)) za1))))
     (za5 (zb7 (ze8 (zc7 (ze8 (zc7 P2 (zc7 P3 (zc7 (pv 4) (zc7 (za6 (ok_w_limit T) B.m T.bB zb3 (zc7 P0 (zc7 (pv 9) za1))) za1))))) (zc7 (zi5 zl5 rfl T.aA Zv (zc7 (pv 5) za1)) (zc7 (zi5 zl5 rfl T.aA Zv (zc7 P6 za1)) za1))))))))))))))),?_⟩
   refine cut10 ?_;intro b8 ba bb bc bd be bf bg bh;refine⟨_,rfl,a,b,rfl,O,fun sh h H1 s1 bi fh hh aa=>?_⟩;refine⟨_,rfl,sh,_,rfl,SqL.of aa,rfl,_,_,rfl,_,_,rfl,_,_,rfl,rfl,?_⟩;have a3:∀k:Int,0<=k->k<=400->zg9 (shN b) (shR b) (shH b) k:=fun k z1 Y=>sh_ok b z1 Y
   have m:=a3 0 (by decide) (by decide);refine⟨_,rfl,_,rfl,a,sh,h,b,3,0,shN b,shR b,shH b,rfl,s1.seq O,aa,SqL.of hh,⟨m.n1,m.n2,m.r1,m.w⟩,fun fi H2 s2 bj ah=>?_⟩;have C:=yq7 b 3 0 (shH b).length m.n1 m.r1;generalize yd2 b 3 0 (shN b) (shR b) (shH b).length=D at C ah;have ai:=s1.trans s2;refine⟨_,rfl,_,rfl,a,sh,h,b,4,1000003,shN b,shR b,shH b,rfl,ai.seq O,s2 _ _ aa,SqL.of (s2 _ _ hh),⟨m.n1,m.n2,m.r1,m.w⟩,fun ax Q s3 bl aj=>?_⟩;have u:=yq7 b 4 1000003 (shH b).length m.n1 m.r1;generalize yd2 b 4 1000003 (shN b) (shR b) (shH b).length=g0 at u aj;have a4:=ai.trans s3;have ak:=s3 _ _ (s2 _ _ hh);have a8:=s3 _ _ ah;have S3:SqL K Q a (b.map V.int):=a4.seq O;generalize shN b=n at *;generalize shR b=r at *;generalize shH b=H at *;have n1:=m.n1;have n2:=m.n2;have ay:=m.w;refine⟨_,rfl,a,b,6,rfl,S3,?_⟩;generalize b.getD 6 0=c;refine⟨_,rfl,_,_,rfl,rfl,(by show(0:Int)<12;decide),rfl,_,rfl,?_⟩;refine ite2 (fun h1=>?_) (fun h1=>?_)
   . exact⟨_,rfl,_,_,rfl,rfl,⟨by decide,by decide⟩,_,rfl,fun a7 E h' F go p n r k f s g b5=>ae a7 E h' F go p n r k f s g (zl2.from a4 b5)⟩
   refine use_finA (R:=?R1) (S:=fun o p=>Same a1 p/\p h=some (.lst (H.map V.int))/\p fi=some (.lst (D.map V.int))/\∃g,p o=some (.lst (g.map V.int))/\zc6 n r H.length g) (fun fin1=>?main1) ?fin1
   case main1 =>
     refine⟨_,rfl,_,_,rfl,rfl,(by show(0:Int)<12;decide),rfl,_,rfl,?_⟩;refine ite2 (fun h2=>?_) (fun h2=>?_)
     . refine⟨_,rfl,fi,_,rfl,.inl (SqL.of a8),fun Z f4=>?_⟩
       have v:Same Q (upd Q Z (.lst (D.map V.int))):=Same.upd f4;have U:(upd Q Z (.lst (D.map V.int))) Z=some (.lst (D.map V.int)):=za3;revert v U;generalize upd Q Z (.lst (D.map V.int))=I;intro v U;exact fin1 Z I ⟨a4.trans v,v _ _ ak,v _ _ a8,D,U,C⟩
     . exact fin1 ax Q ⟨a4,ak,a8,g0,aj,u⟩
   case fin1 =>
     rintro la I ⟨v,X,af,g,ag,u⟩;dsimp only[L2.start,List.map,List.length,List.replicate,List.append,List.set];refine use_finB (R:=?R2) (S:=fun x a2 p=>Same a1 p/\∃f s g,p h=some (.lst (List.map V.int f))/\p x=some (.lst (List.map V.int s))/\p a2=some (.lst (List.map V.int g))/\(∀k:Int,0<=k->k<=400->zg9 n r f k)/\zc6 n r f.length s/\zc6 n r f.length g) (fun fin2=>?main2) ?fin2
     case main2 =>
       refine⟨_,rfl,_,_,rfl,rfl,(by show(0:Int)<3;decide),rfl,_,rfl,?_⟩;refine ite2 (fun h3=>?_) (fun h3=>?_)
       . refine⟨_,rfl,h,_,rfl,.inl (SqL.of X),_,_,rfl,rfl,_,rfl,?_⟩
         rw[Qb];refine ite2 (fun U=>?_) (fun U=>?_)
         . have az:1<H.length:=by have:=QY U;omega
           obtain⟨e,y,d,rfl⟩:∃e y d,H=e::y::d:=by
             match H,az with
             | e::y::d,_=>exact⟨e,y,d,rfl⟩
           have a0:atI (List.map V.int (e::y::d)) 0=some (.int e):=by
             unfold atI ixN;rw[Ql (by decide),Ql (by simp only[Qb,Qz];omega)];rfl
           have i1:ixN (List.map V.int (e::y::d)).length 1=some 1:=by
             unfold ixN;rw[Ql (by decide),Ql (by simp only[Qb,Qz];omega)];rfl
           refine⟨_,rfl,h,_,_,_,rfl,rfl,SqL.of X,a0,_,rfl,h,_,1,1,rfl,rfl,X,i1,?_⟩;have J:Same a1 (upd I h (.lst ((List.map V.int (e::y::d)).set 1 (.int e)))):=v.put fh;have z:(upd I h (.lst ((List.map V.int (e::y::d)).set 1 (.int e)))) h=some (.lst ((e::e::d).map V.int)):=za3;revert J z;generalize upd I h (.lst ((List.map V.int (e::y::d)).set 1 (.int e)))=L;intro J z;have A:∀k:Int,0<=k->k<=400->zg9 n r (e::e::d) k:=fun k z1 Y=>by
             have o:=a3 k z1 Y;refine⟨o.n1,o.n2,o.r1,o.r2,o.l1,o.l2,o.w,fun x hx=>?_,o.most⟩;rcases Qn.mp hx with rfl | hx
             . exact o.h _ (.head _)
             . rcases Qn.mp hx with rfl | hx
               . exact o.h _ (.head _)
               . exact o.h _ (.tail _ (.tail _ hx))
           refine⟨_,rfl,_,_,rfl,rfl,⟨by decide,by decide⟩,_,rfl,_,_,rfl,rfl,(by show 0<n;omega),_,_,rfl,rfl,?_⟩;have bm:0<=c / 3 % n:=Zr _ (by omega);have bn:c / 3 % n<n:=Zp _ (by omega);have ab:1<=1+c / 3 % n/\1+c / 3 % n<=n:=by omega
           have wl:d.length+2<=5:=ay;have bo:sizeLine=16777216:=by decide
           refine⟨(by show 1<=sizeLine;decide),fun l6 f6=>⟨_,rfl,h,_,rfl,.inl (SqL.of (Same.upd f6 _ _ z)),l6,_,_,rfl,rfl,za3,?_,?_,?_,fun p6 e6=>?_⟩⟩
           . simp only[Qb,Qz];omega
           . simp only[Qb,Qz];omega
           . simp only[Qb,Qz,ZK,QZ];omega
           have q:=(Same.upd (o:=.lst [.int 0]) f6).updT (o:=.lst (List.replicate (((List.map V.int (e::e::d)).length:Nat):Int).toNat [V.int 0]).flatten) e6;have M:(upd (upd L l6 (.lst [.int 0])) p6 (.lst (List.replicate (((List.map V.int (e::e::d)).length:Nat):Int).toNat [V.int 0]).flatten)) p6=some (.lst ((List.replicate (d.length+2) (0:Int)).map V.int)):=by
             rw[za3,rep0,QZ,Qb];rfl
           dsimp only;revert q M;generalize upd (upd L l6 (.lst [.int 0])) p6 (.lst (List.replicate (((List.map V.int (e::e::d)).length:Nat):Int).toNat [V.int 0]).flatten)=G;intro q M;have al:=q _ _ z;generalize bp:1+c / 3 % n=l at ab ⊢;refine⟨_,rfl,_,rfl,_,rfl,(by show 2<=sizeLine;decide),fun l7 f7=>⟨(by show 1<=sizeLine;decide),fun l8 f8=>?_⟩⟩;have a5:=(Same.upd (o:=.lst [.int l,.int (-l)]) f7).updT (o:=.lst [.int 0]) f8;have N:(upd (upd G l7 (.lst [.int l,.int (-l)])) l8 (.lst [.int 0])) l7=some (.lst [.int l,.int (-l)]):=Same.upd f8 _ _ za3;have k8:(upd (upd G l7 (.lst [.int l,.int (-l)])) l8 (.lst [.int 0])) l8=some (.lst [.int 0]):=za3;dsimp only;revert a5 N k8;generalize upd (upd G l7 (.lst [.int l,.int (-l)])) l8 (.lst [.int 0])=H8;intro a5 N k8;refine⟨_,rfl,h,_,rfl,.inl (SqL.of (a5 _ _ al)),_,_,rfl,rfl,l8,_,_,rfl,rfl,k8,?_,?_,?_,fun p8 e8=>?_⟩
           . simp only[Qb,Qz];omega
           . simp only[Qb,Qz];omega
           . simp only[Qb,Qz,ZK];omega
           have el:((((List.map V.int (e::e::d)).length:Nat):Int)-2).toNat=d.length:=by
             simp only[Qb,Qz];omega
           rw[el,rep0];have s9:Same H8 (upd H8 p8 (.lst ((List.replicate d.length (0:Int)).map V.int))):=Same.upd e8;have k9:(upd H8 p8 (.lst ((List.replicate d.length (0:Int)).map V.int))) p8=some (.lst ((List.replicate d.length (0:Int)).map V.int)):=za3;revert s9 k9;generalize upd H8 p8 (.lst ((List.replicate d.length (0:Int)).map V.int))=H9;intro s9 k9;refine⟨l7,p8,_,_,rfl,rfl,s9 _ _ N,k9,?_,fun W e9=>?_⟩
           . simp only[Qb,List.length_replicate,Qz,ZK];omega
           have ac:Same H9 (upd H9 W (.lst ([V.int l,V.int (-l)]++(List.replicate d.length (0:Int)).map V.int))):=Same.upd e9;have a6:(upd H9 W (.lst ([V.int l,V.int (-l)]++(List.replicate d.length (0:Int)).map V.int))) W=some (.lst ((l::-l::List.replicate d.length 0).map V.int)):=za3;revert ac a6;generalize upd H9 W (.lst ([V.int l,V.int (-l)]++(List.replicate d.length (0:Int)).map V.int))=ad;intro ac a6;have a9:=a5.trans (s9.trans ac);have sE:Same a1 ad:=J.trans (q.trans a9);have am:=a9 _ _ al;have an:=a9 _ _ M;have Va:zc6 n r (e::e::d).length (List.replicate (d.length+2) 0):=valid0 n1 _;have Vb:zc6 n r (e::e::d).length (l::-l::List.replicate d.length 0):=validP m.r1 ab.1 ab.2 _;refine⟨_,rfl,_,_,rfl,rfl,⟨by decide,by decide⟩,_,_,rfl,rfl,(by show(0:Int)<2;decide),rfl,_,rfl,?_⟩;generalize some (V.int l)=v8;refine ite2 (fun h5=>?_) (fun h5=>?_)
           . refine⟨_,rfl,_,rfl,_,_,rfl,?_⟩
             exact fin2 W p6 v8 ad ⟨sE,_,_,_,am,a6,an,A,Vb,Va⟩
           . exact fin2 p6 W v8 ad ⟨sE,_,_,_,am,an,a6,A,Va,Vb⟩
         . exact fin2 fi la _ I ⟨v,H,D,g,X,af,ag,a3,C,u⟩
       . exact iteF (fin2 fi la _ I ⟨v,H,D,g,X,af,ag,a3,C,u⟩)
     case fin2 =>
       rintro x a2 b6 L ⟨J,f,s,g,z,ao,ap,A,C,u⟩;dsimp only[List.set];refine st_eq (σ':=[some (.ref a),some (.ref sh),some (.int n),some (.int r),some (.ref h),some (.ref x),some (.ref a2),some (.int c),b6,none]) rfl ?_;have hw:f.length<=5:=(A 0 (by decide) (by decide)).w;have aq:=(A 0 (by decide) (by decide)).h;have l1:=C.len;have l2:=u.len;obtain⟨bq,br⟩:=zC0 (A 0 (by decide) (by decide)) C;obtain⟨bt,bu⟩:=zC0 (A 0 (by decide) (by decide)) u;refine⟨_,rfl,_,rfl,h,x,f,s,rfl,SqL.of z,.inl (SqL.of ao),⟨l1.symm,by omega,aq⟩,_,rfl,_,rfl,_,rfl,h,a2,f,g,rfl,SqL.of z,.inl (SqL.of ap),⟨l2.symm,by omega,aq⟩,_,rfl,_,_,rfl,?_⟩;have b0:(if zb5 f s<0 then -zb5 f s else zb5 f s)=absI (zb5 f s):=rfl;have b1:(if zb5 f g<0 then -zb5 f g else zb5 f g)=absI (zb5 f g):=rfl;rw[b0,b1]
       have av:∃low:Int,(if absI (zb5 f g)>absI (zb5 f s) then absI (zb5 f g) else absI (zb5 f s))=low/\absI (zb5 f s)<=low/\absI (zb5 f g)<=low/\low<=240:=⟨_,rfl,by split<;>omega,by split<;>omega,by split<;>omega⟩;obtain⟨low,aw,w1,w2,w3⟩:=av;rw[aw];refine⟨_,rfl,_,rfl,_,rfl,_,rfl,_,rfl,a,b,low,rfl,J.seq O,⟨by omega,by omega⟩,fun k z1 Y=>⟨(by show 4<=sizeLine;decide),fun E ar=>?_⟩⟩;have q:Same L (upd L E (.lst [.int n,.int r,.ref h,.int k])):=Same.upd ar;have M:(upd L E (.lst [.int n,.int r,.ref h,.int k])) E=some (.lst [.int n,.int r,.ref h,.int k]):=za3;dsimp only;revert q M;generalize upd L E (.lst [.int n,.int r,.ref h,.int k])=G;intro q M;refine⟨_,rfl,x,_,rfl,.inl ⟨SqL.of (q _ _ ao),fun F fst=>?_⟩⟩;have s7:Same G (upd G F (.tup (s.map V.int))):=Same.upd fst;have N:(upd G F (.tup (s.map V.int))) F=some (.tup (s.map V.int)):=za3;revert s7 N;generalize upd G F (.tup (s.map V.int))=H7;intro s7 N;refine⟨_,rfl,a2,_,rfl,.inl ⟨SqL.of (s7 _ _ (q _ _ ap)),fun go b2=>⟨(by show 3<=sizeLine;decide),fun a7 fl=>?_⟩⟩⟩;have s8:Same H7 (upd (upd H7 go (.tup (g.map V.int))) a7 (.lst [.ref E,.ref F,.ref go])):=(Same.upd b2).updT fl;have au:=q.trans (s7.trans s8);exact ae a7 E h F go _ n r k f s g ⟨J.trans au,J.free ar,fh,za3,s8 _ _ (s7 _ _ M),au _ _ z,s8 _ _ N,Same.upd fl _ _ za3,A k (by omega) Y,C,u,by omega,by omega⟩
end
section
variable {P:Program} {w:World} {K:W.Frag} {mg:Str->Option Value} {base:Heap} {t:Adr}
inductive zW6 (K:W.Frag)(t:Adr)(vs:List V)(H:Hp)(Q:VK)(E:XK):Prop
 | mk (sc h a m:Addr)(n r lim p:Int)(i:Nat)(hs xs:List Int)(h0:vs=[.ref sc,.ref a,.ref m])(h1:SqL K H sc [.int n,.int r,.ref h,.int lim])(h2:SqL K H h (hs.map V.int))(h3:H a=some (.tup (xs.map V.int)))(h4:H m=some (.tup [.int ((i:Int)+1),.int (xs.getD i 0),.int p]))(h5:(hs.length=xs.length/\xs.length<=5/\(∀x∈hs,1<=x/\x<=20)/\i<xs.length))(h6:Q (.bl (decide (Lets n r hs lim xs i p))) H):zW6 K t vs H Q E
def sp_w_lets (K:W.Frag)(t:Adr):Sp:=fun vs H Q E=>zW6 K t vs H Q E
theorem ok_w_lets (T:Txt K mg t):FnOk P w K mg base CX0 2 t.bL t.bM Vd (sp_w_lets K t):=by
 refine T.bK.F.ok zk8 (fun Y H Q a0 h=>?_) (fun a2 aa a1 ab H Y Q a0 Z h=>?_)
 . obtain⟨S,h,a,m,n,r,e,p,i,b,xs,rfl,N,j,s,U,⟨C,D,v,E⟩,q⟩:=h
   rfl
 . obtain⟨S,h,a,m,n,r,e,p,i,b,xs,rfl,N,j,s,U,⟨C,D,v,E⟩,q⟩:=h
   refine⟨_,(za2 (zD7 P0 (zN3 rfl (zd8 (zc5 (i:=3) zk8.nd rfl (Or.inl rfl)) (zd8 (zc5 (i:=4) zk8.nd rfl (Or.inl rfl)) (zd8 (zc5 (i:=5) zk8.nd rfl (Or.inl rfl)) (zd8 (zc5 (i:=6) zk8.nd rfl (Or.inl rfl)) zw0))))))
     (za2 (zD7 P2 (yn3 rfl (zd8 (zc5 (i:=7) zk8.nd rfl (Or.inl rfl)) (zd8 (zc5 (i:=8) zk8.nd rfl (Or.inl rfl)) (zd8 (zc5 (i:=9) zk8.nd rfl (Or.inl rfl)) zw0)))))
     (za2 (zc8 (PW.pt (zl3 (zc2 zM6 P7 za4 (zc1 _)) (zl3 (zc2 zy3 P7 (zb0 zc0 rfl T.ae QB (za0 (pv 5) za1)) (zc1 _)) (zj1 (zc2 zn7 (zc9 zg5 P1 (zb9 zg4 P7 za4) (fun _ _=>rfl)) P8 (zc1 _)))))) (za5 (zb7 zg8)) zb6)
     (za2 (zc8 (PW.pt (zl3 (zc2 zy3 (zb0 zh3 rfl T.ar QT (za0 (pv 9) za1)) P3 (zc1 _)) (zj1 (zc2 zi9 (pv 9) P8 (zc1 _))))) (za5 (zb7 zg8)) zb6)
     (za2 (zc8 (PW.pt (zy1 (zc2 zn7 (pv 9) za4 (zc1 _)) (zv9 (zc2 yg9 (yi0 PySem.F.slot_tuple_count PySem.F.type_tuple_count zB3 P1 (za0 (pv 9) za1)) (pv 4) (zc1 _))))) (za5 (zb7 zg8)) zb6)
     (za2 (zb4 (i:=10) zk8.nd rfl (Or.inl rfl) (zb9 zg4 (za6 (zr2 T) Z.m T.az zb3 (za0 (pv 5) (za0 P1 za1))) (zb9 zm5 (zc9 zd1 (pv 5) (zb9 zg4 P7 za4) (fun _ _=>rfl)) P8)))
     (za5 (zb7 (zD6 (zg7 ya3 (zb0 zh3 rfl T.ar QT (za0 P10 za1)) P6 (zc1 _)) (zy2 (zg7 ya3 (zb0 zh3 rfl T.ar QT (za0 (zb9 zf4 P10 (zb9 zm5 (zc9 zd1 (pv 5) (zb9 zg4 P7 za4) (fun _ _=>rfl)) (pv 9))) za1)) P6 (zc1 _)))))))))))),?_⟩
   refine cut7 ?_;intro a3 a4 a5 a6 a7 a8;have W:SqL K H a (xs.map V.int)\/SqT K H a (xs.map V.int):=.inr (SqT.of s);have l:((i:Int)+1-1).toNat=i:=by omega
   have ax:atI (xs.map V.int) ((i:Int)+1-1)=some (.int (xs.getD i 0)):=by have:=ze4 (xs:=xs) (i:=(i:Int)+1-1) (by omega) (by omega);rw[l] at this;exact this
   have x:atI (b.map V.int) ((i:Int)+1-1)=some (.int (b.getD i 0)):=by have:=ze4 (xs:=b) (i:=(i:Int)+1-1) (by omega) (by omega);rw[l] at this;exact this
   have a9:=v (b.getD i 0) (zp7 (by omega));have u:¬ Lets n r b e xs i p->Q (.bl false) H:=fun z=>by rw[Qg z] at q;exact q
   refine⟨_,rfl,S,_,rfl,N,rfl,_,_,rfl,_,_,rfl,_,_,rfl,_,_,rfl,rfl,?_⟩;refine⟨_,rfl,m,_,rfl,SqT.of U,rfl,_,_,rfl,_,_,rfl,_,_,rfl,rfl,?_⟩;refine⟨_,rfl,_,_,rfl,rfl,_,rfl,iteB (Qg (by omega)) ?_⟩;refine⟨_,rfl,_,rfl,h,_,rfl,.inl j,_,_,rfl,rfl,_,rfl,iteB (Qg (by rw[Qb];omega)) ?_⟩;refine⟨_,rfl,_,rfl,_,_,rfl,rfl,a,_,_,_,rfl,rfl,SqT.of s,ax,_,rfl,rfl,_,rfl,iteB (by simp) ?_⟩;refine⟨_,rfl,_,rfl,_,rfl,_,_,rfl,rfl,_,rfl,?_⟩;refine ite2 (fun F=>?_) (fun F=>?_)
   . have o:n<absI p:=QY F
     exact u fun L=>by have:=L.on;unfold absI at o;split at o<;>omega
   have o:¬ n<absI p:=fun z=>F (Qf z)
   have O:-n<=p/\p<=n:=by unfold absI at o;split at o<;>omega
   refine⟨_,rfl,_,rfl,rfl,_,rfl,?_⟩;rw[ze3];refine ite2 (fun G=>?_) (fun G=>?_)
   . exact u fun L=>L.ne (QY G)
   have R:p≠xs.getD i 0:=fun z=>G (Qf z)
   refine⟨_,rfl,rfl,_,rfl,?_⟩;rw[ze3];refine ite2 (fun I=>?_) (fun I=>?_)
   . have A:p≠0:=by simpa using I
     refine⟨_,rfl,⟨_,_,rfl,s⟩,_,rfl,a,xs,p,rfl,rfl,SqT.of s,_,rfl,_,_,rfl,rfl,_,rfl,?_⟩;refine ite2 (fun J=>?_) (fun J=>?_)
     . have X:r<=(xs.count p:Int):=QY J
       exact u fun L=>by have:=L.room A;omega
     . have X:¬ r<=(xs.count p:Int):=fun z=>J (Qf z)
       have y:p≠0->(xs.count p:Int)<r:=fun _=>by omega
       have B:∀c d:Bool,(c=decide (absI (ze0 b xs i)<=e))->(d=decide (absI (ze0 b xs i+b.getD i 0*p)<=e))->(c && d)=decide (Lets n r b e xs i p):=fun c d l M=>by
         subst l M;by_cases f:absI (ze0 b xs i)<=e
         . by_cases g:absI (ze0 b xs i+b.getD i 0*p)<=e
           . rw[Qf f,Qf g,Qf (⟨E,O,R,y,f,g⟩:Lets n r b e xs i p)];rfl
           . rw[Qf f,Qg g,Qg (fun L:Lets n r b e xs i p=>g L.behind)];rfl
         . rw[Qg f,Qg (fun L:Lets n r b e xs i p=>f L.held)];rfl
       refine⟨_,rfl,_,rfl,h,a,b,xs,rfl,j,W,⟨C,D,v⟩,_,rfl,_,rfl,_,_,rfl,rfl,h,_,_,_,rfl,rfl,j,x,_,rfl,_,_,rfl,rfl,.inl ⟨by omega,by omega⟩,_,_,rfl,rfl,?_⟩;refine⟨_,rfl,_,rfl,_,rfl,_,_,rfl,rfl,_,rfl,?_⟩;refine ite2 (fun k=>?_) (fun k=>?_)
       . refine⟨_,rfl,_,rfl,_,rfl,_,_,rfl,rfl,h,_,_,_,rfl,rfl,j,x,_,rfl,_,_,rfl,rfl,.inl ⟨by omega,by omega⟩,_,_,rfl,rfl,_,rfl,_,rfl,_,_,rfl,rfl,?_⟩
         have:=B true _ k.symm rfl;rw[<-this] at q;exact q
       . skip
         exact u fun L=>k (Qf L.held)
   . have A:p=0:=by simpa using I
     refine iteF ?_;have y:p≠0->(xs.count p:Int)<r:=fun z=>absurd A z
     have B:∀c d:Bool,(c=decide (absI (ze0 b xs i)<=e))->(d=decide (absI (ze0 b xs i+b.getD i 0*p)<=e))->(c && d)=decide (Lets n r b e xs i p):=fun c d l M=>by
       subst l M;by_cases f:absI (ze0 b xs i)<=e
       . by_cases g:absI (ze0 b xs i+b.getD i 0*p)<=e
         . rw[Qf f,Qf g,Qf (⟨E,O,R,y,f,g⟩:Lets n r b e xs i p)];rfl
         . rw[Qf f,Qg g,Qg (fun L:Lets n r b e xs i p=>g L.behind)];rfl
       . rw[Qg f,Qg (fun L:Lets n r b e xs i p=>f L.held)];rfl
     refine⟨_,rfl,_,rfl,h,a,b,xs,rfl,j,W,⟨C,D,v⟩,_,rfl,_,rfl,_,_,rfl,rfl,h,_,_,_,rfl,rfl,j,x,_,rfl,_,_,rfl,rfl,.inl ⟨by omega,by omega⟩,_,_,rfl,rfl,?_⟩;refine⟨_,rfl,_,rfl,_,rfl,_,_,rfl,rfl,_,rfl,?_⟩;refine ite2 (fun k=>?_) (fun k=>?_)
     . refine⟨_,rfl,_,rfl,_,rfl,_,_,rfl,rfl,h,_,_,_,rfl,rfl,j,x,_,rfl,_,_,rfl,rfl,.inl ⟨by omega,by omega⟩,_,_,rfl,rfl,_,rfl,_,rfl,_,_,rfl,rfl,?_⟩
       have:=B true _ k.symm rfl;rw[<-this] at q;exact q
     . skip
       exact u fun L=>k (Qf L.held)
inductive zD5 (K:W.Frag)(t:Adr)(vs:List V)(H:Hp)(Q:VK)(E:XK):Prop
 | mk (a:Addr)(k:Int)(xs:List Int)(h0:vs=[.ref a,.int k])(h1:H a=some (.tup (xs.map V.int)))(h2:(xs.length:Int)=k)(h3:Q (.bl true) H):zD5 K t vs H Q E
def sp_w_is_spots (K:W.Frag)(t:Adr):Sp:=fun vs H Q E=>zD5 K t vs H Q E
theorem ok_w_is_spots (T:Txt K mg t):FnOk P w K mg base CX0 2 t.a4 t.a5 Vg (sp_w_is_spots K t):=by
 refine T.bm.F.ok zC9 (fun g H Q E h=>?_) (fun n A m s H g Q E j h=>?_)
 . obtain⟨a,k,xs,rfl,b,f,q⟩:=h
   rfl
 . obtain⟨a,k,xs,rfl,b,f,q⟩:=h
   refine⟨_,(za2 (zc8 (PW.pt (zl3 (zd4 (zd0 (zb0 zi6 rfl T.af QJ (za0 P0 (za0 (zm3 (v:=.ty "tuple") rfl T.aA Zv rfl) za1))))) (zj1 (zc2 zn7 (zb0 zc0 rfl T.ae QB (za0 P0 za1)) P1 (zc1 _))))) (za5 (zb7 zg8)) zb6)
     (za2 (zh7 PassesOwn.never rfl (yn7 P0) (zc5 (i:=2) zC9.nd rfl (Or.inl rfl)) (za5 (zc8 (zd4 (zd0 (za6 (zx6 T) j.m T.aI zb3 (za0 P2 za1)))) (za5 (zb7 zg8)) zb6)))
     (za5 (zb7 zg8)))),?_⟩
   refine cut3 ?_;intro o p;refine⟨_,rfl,_,_,_,_,_,rfl,.ty _,.tup b,rfl,_,rfl,iteF ?_⟩;refine⟨_,rfl,a,_,rfl,.inr (SqT.of b),_,rfl,rfl,_,rfl,iteB (by rw[Qb,f];simp) ?_⟩;refine⟨_,rfl,a,rfl,⟨_,SqT.of b⟩,zL0 (K:=K) (a:=a) (xs:=xs.map V.int) (fun i d c=>X1 fun v=>A2 (d=[some (.ref a),some (.int k),v]) (c=H)) ⟨none,rfl,rfl⟩ (fun i d c _ ⟨_,_,e⟩=>e▸SqT.of b) ?_ ?_⟩
   . rintro i x d c l ⟨v,rfl,rfl⟩
     obtain⟨z,rfl,r⟩:=int_at l;exact⟨_,rfl,z,rfl,_,rfl,iteF ⟨_,rfl,rfl⟩⟩
   . rintro d c ⟨v,rfl,rfl⟩
     exact q
theorem Goes.det {n r:Int}{hs:List Int}{lim:Int}:∀ {x:List Int} {a:List (Nat×Int)} {y z:List Int},Goes n r hs lim x a y->Goes n r hs lim x a z->y=z
 | x,[],y,z,h,b=>h.symm.trans b
 | x,m::a,y,z,h,b=>Goes.det h.2 b.2
theorem Goes.valid {n r:Int}{hs:List Int}{lim:Int}{w:Nat}:∀ {x:List Int} {b:List (Nat×Int)} {y:List Int},Goes n r hs lim x b y->zc6 n r w x->zc6 n r w y
 | x,[],y,h,a=>h▸a
 | x,m::b,y,h,a=>Goes.valid h.2 (h.1.valid a)
theorem zi1.at {H:Hp}{n r:Int}{hs:List Int}{lim:Int}:∀ {x:List Int} {c:List Addr} {b:List (Nat×Int)} {y:List Int},zi1 H x c b->Goes n r hs lim x b y->∀ {i:Nat} {v:V},(c.map V.ref)[i]?=some v->∃a m z,v = .ref a/\b[i]?=some m/\Goes n r hs lim x (b.take i) z/\zs1 H z a m/\Lets n r hs lim z m.1 m.2
 | _,[],[],_,_,_,i,v,h=>by simp at h
 | _,[],_::_,_,h,_,_,_,_=>h.elim
 | _,_::_,[],_,h,_,_,_,_=>h.elim
 | x,a::c,m::b,y,h,hG,0,v,e=>⟨a,m,x,(Qo e).symm,rfl,rfl,h.1,hG.1⟩
 | x,a::c,m::b,y,h,hG,i+1,v,e=>by
   obtain⟨d,f,z,g,j,k,l⟩:=zi1.at h.2 hG.2 (i:=i) e;exact⟨d,f,z,g,j,⟨hG.1,k⟩,l⟩
theorem Goes.snoc {n r:Int}{hs:List Int}{lim:Int}:∀ {x:List Int} {a:List (Nat×Int)} {y:List Int} {m:Nat×Int},Goes n r hs lim x a y->Lets n r hs lim y m.1 m.2->Goes n r hs lim x (a++[m]) (y.set m.1 m.2)
 | x,[],y,m,h,L=>by
   obtain rfl:x=y:=h;exact⟨L,rfl⟩
 | x,m'::a,y,m,h,L=>⟨h.1,Goes.snoc h.2 L⟩
inductive zW7 (K:W.Frag)(t:Adr)(vs:List V)(H:Hp)(Q:VK)(E:XK):Prop
 | mk (c a l:Addr)(n r lim:Int)(hs x y:List Int)(rs:List Addr)(ms:List (Nat×Int))(h0:vs=[.ref c,.ref a,.ref l])(h1:zi3 K H c n r hs lim)(h2:zc6 n r hs.length x)(h3:H a=some (.tup (x.map V.int)))(h4:H l=some (.lst (rs.map V.ref)))(h5:zi1 H x rs ms)(h6:Goes n r hs lim x ms y)(h7:∀b H',Same H H'->H' b=some (.tup (y.map V.int))->Q (.ref b) H'):zW7 K t vs H Q E
def sp_w_walk (K:W.Frag)(t:Adr):Sp:=fun vs H Q E=>zW7 K t vs H Q E
theorem zK1 (T:Txt K mg t):FnOk P w K mg base CX0 3 t.bR t.bS Vh (sp_w_walk K t):=by
 refine T.aX.F.ok zB8 (fun vs H a7 a8 h=>?_) (fun ab ag aa a0 H vs a7 a8 Q h=>?_)
 . obtain⟨c,a,l,n,r,C,G,x,a9,R,S,rfl,a1,U,W,s,I,J,a2⟩:=h
   rfl
 . obtain⟨c,a,l,n,r,C,G,x,a9,R,S,rfl,a1,U,W,s,I,J,a2⟩:=h
   refine⟨_,(za2 (zc8 (zd4 (zd0 (zb0 zi6 rfl T.af QJ (za0 P2 (za0 (zm3 (v:=.ty "list") rfl T.aD Zq rfl) za1))))) (za5 (zb7 zr3)) zb6)
     (za2 (zb4 (i:=3) zB8.nd rfl (Or.inl rfl) P1)
     (za2 (zh7 PassesOwn.never rfl (zj2 P2) (zc5 (i:=4) zB8.nd rfl (Or.inl rfl)) (za2 (zc8 (PW.pt (zl3 (zd4 (zd0 (za6 (ok_w_is_spots T) Q.m T.bm zb3 (za0 (pv 4) (za0 za4 za1))))) (zj1 (zd4 (zd0 (za6 (ok_w_lets T) Q.m T.bK zb3 (za0 P0 (za0 P3 (za0 (pv 4) za1))))))))) (za5 (zb7 zr3)) zb6)
     (za5 (zb4 (i:=3) zB8.nd rfl (Or.inl rfl) (zb9 zo5 (zb9 zo5 (zj7 zD8 P3 zm7 (zk5 (zb9 zg4 (zc9 zg5 (pv 4) za4 (fun _ _=>rfl)) za4))) (zy4 (za0 (zc9 zg5 (pv 4) za4 (fun _ _=>rfl)) za1))) (zj7 zD8 P3 (zk5 (zc9 zg5 (pv 4) za4 (fun _ _=>rfl))) zm7))))))
     (za5 (zb7 P3))))),?_⟩
   refine cut4 ?_;intro ac ad ae;obtain⟨h,ok,hc,hh⟩:=a1;have hw:=ok.w;refine⟨_,rfl,_,_,_,_,_,rfl,.ty _,.lst s,rfl,_,rfl,iteF ?_⟩;refine⟨_,rfl,_,rfl,l,rfl,⟨_,SqL.of s⟩,zl4 (K:=K) (a:=l) (xs:=R.map V.ref) (fun i B d=>X3 fun b M z=>A4 (B=[some (.ref c),some (.ref a),some (.ref l),some (.ref b),M]) (Same H d) (d b=some (.tup (z.map V.int))) (Goes n r G C x (S.take i) z)) ⟨a,none,x,rfl,Same.refl _,W,rfl⟩ (fun i B d _ ⟨_,_,_,_,a0,_,_⟩=>SqL.of (a0 _ _ s)) ?_ ?_⟩
   . rintro i v B d hi ⟨b,M,z,rfl,e,k,f⟩
     obtain⟨g,m,z',rfl,hm,a4,a5,L⟩:=I.at J hi;obtain rfl:=f.det a4;have Vz:=f.valid U;have af:=Vz.len;have O:=L.lt;have j:d g=some (.tup [.int ((m.1:Int)+1),.int (z.getD m.1 0),.int m.2]):=e _ _ a5;refine⟨_,rfl,g,3,[(m.1:Int)+1,z.getD m.1 0,m.2],rfl,j,rfl,_,rfl,iteF ?_⟩;refine⟨_,rfl,_,rfl,_,rfl,c,h,b,g,n,r,C,m.2,m.1,G,z,rfl,e.seq hc,e.seq hh,k,j,⟨by omega,by omega,ok.h,O⟩,_,rfl,?_⟩;rw[Qf L];refine iteF ?_;have X:(m.1:Int)+1-1=(m.1:Int):=by omega
     refine⟨_,rfl,_,rfl,g,_,_,_,rfl,rfl,SqT.of j,rfl,_,_,rfl,rfl,_,rfl,b,_,rfl,SqT.of k,?_,fun o f1=>?_⟩
     . rw[X,HT.sIx_none,HT.sIx_nat,Qb,Zy (by omega)]
       omega
     rw[X] at *;have sa:Same d (upd d o (.tup (cutV (z.map V.int) none (some (m.1:Int))))):=Same.upd f1;have D:(upd d o (.tup (cutV (z.map V.int) none (some (m.1:Int))))) o=some (.tup (cutV (z.map V.int) none (some (m.1:Int)))):=za3;revert sa D;generalize upd d o (.tup (cutV (z.map V.int) none (some (m.1:Int))))=u;intro sa D;refine⟨_,rfl,g,_,_,_,rfl,rfl,SqT.of (sa _ _ j),rfl,(by show 1<=sizeLine;decide),fun p f2=>?_⟩;have sb:Same u (upd u p (.tup [.int m.2])):=Same.upd f2;have E:(upd u p (.tup [.int m.2])) p=some (.tup [.int m.2]):=za3;revert sb E;generalize upd u p (.tup [.int m.2])=Hb;intro sb E;have a3:=zj0 (z.map V.int) none (some (m.1:Int));rw[Qb] at a3;refine⟨o,p,_,_,rfl,rfl,sb _ _ D,E,Za (zc3 (by show _+1<=_;omega)),fun l3 y sc a6=>?_⟩;have F:=sa.trans (sb.trans sc);refine⟨_,rfl,_,rfl,g,_,_,_,rfl,rfl,SqT.of (F _ _ j),rfl,_,rfl,b,_,rfl,SqT.of (F _ _ k),?_,fun q f4=>?_⟩
     . rw[show((m.1:Int)+1)=((m.1+1:Nat):Int) by omega,HT.sIx_nat,Qb]
       omega
     have A:Same y (upd y q (.tup (cutV (z.map V.int) (some ((m.1:Int)+1)) none))):=Same.upd f4;have N:(upd y q (.tup (cutV (z.map V.int) (some ((m.1:Int)+1)) none))) q=some (.tup (cutV (z.map V.int) (some ((m.1:Int)+1)) none)):=za3;revert A N;generalize upd y q (.tup (cutV (z.map V.int) (some ((m.1:Int)+1)) none))=Hd;intro A N;have Y:=zH7 z m.1 m.2 O;refine⟨l3,q,_,_,rfl,rfl,A _ _ a6,N,?_,fun l5 He se Z=>?_⟩
     . rw[<-Qq,Y,Qb,Zj]
       exact Za (zc3 (by omega))
     rw[Y] at Z;refine⟨l5,_,_,rfl,e.trans (F.trans (A.trans se)),Z,?_⟩;rw[QX,hm];exact f.snoc L
   . rintro B d ⟨b,M,z,rfl,e,k,f⟩
     rw[Qb,I.len,QS] at f;obtain rfl:=J.det f;exact⟨_,rfl,a2 b d e k⟩
inductive zW8 (K:W.Frag)(t:Adr)(vs:List V)(H:Hp)(Q:VK)(E:XK):Prop
 | mk (c:Addr)(n r lim L:Int)(hs:List Int)(h0:vs=[.ref c,.int L])(h1:zi3 K H c n r hs lim)(h2:0<=L)(h3:L<=400)(h4:∀l H',Same H H'->zi3 K H' l n r hs L->Q (.ref l) H'):zW8 K t vs H Q E
def sp_w_with (K:W.Frag)(t:Adr):Sp:=fun vs H Q E=>zW8 K t vs H Q E
theorem zK2 (T:Txt K mg t):FnOk P w K mg base CX0 1 t.bT t.bU PD (sp_w_with K t):=by
 refine T.aY.F.ok sc_w_with (fun i H Q E h=>?_) (fun o A m s H i Q E p h=>?_)
 . obtain⟨c,n,r,g,L,j,rfl,⟨h,ok,a,b⟩,d,e,q⟩:=h
   rfl
 . obtain⟨c,n,r,g,L,j,rfl,⟨h,ok,a,b⟩,d,e,q⟩:=h
   refine⟨_,(za5 (zb7 (ze8 (za0 (zc9 zd1 P0 za4 (fun _ _=>rfl)) (za0 (zc9 zd1 P0 za4 (fun _ _=>rfl)) (za0 (zc9 zd1 P0 za4 (fun _ _=>rfl)) (za0 P1 za1))))))),?_⟩;refine⟨_,rfl,c,_,_,_,rfl,rfl,a,rfl,_,rfl,c,_,_,_,rfl,rfl,a,rfl,_,rfl,c,_,_,_,rfl,rfl,a,rfl,_,rfl,(by show 4<=sizeLine;decide),fun l k=>?_⟩;have f:Same H (upd H l (.lst [.int n,.int r,.ref h,.int L])):=Same.upd k;exact q l _ f ⟨h,⟨ok.n1,ok.n2,ok.r1,ok.r2,d,e,ok.w,ok.h,ok.most⟩,SqL.of za3,f.seq b⟩
theorem zs5.same {t:Adr}{H H':Hp}{l:Addr}{n r:Int}{hs s g:List Int}(h:zs5 t H l n r hs s g)(e:Same H H'):zs5 t H' l n r hs s g:=by
 obtain⟨L,j,a,k,d,m,o,p,S,q,u,v,w,x,y,z,A,B,b,c,f,i⟩:=h;exact⟨L,j,a,k,d,m,o,p,S,e _ _ q,u,v,w,e _ _ x,y.same e,z,A,B,e _ _ b,e.tups c,f,i⟩
theorem ym4 (hs s g:List Int):0<=zn4 hs s g:=by unfold zn4 absI;split<;>split<;>omega
inductive yf2 (K:W.Frag)(t:Adr)(vs:List V)(H:Hp)(Q:VK)(E:XK):Prop
 | mk (c f1 f2 l:Addr)(n r lim:Int)(hs s g:List Int)(h0:vs=[.ref c,.ref f1,.ref f2,.ref l])(h1:zi3 K H c n r hs lim)(h2:zc6 n r hs.length s)(h3:H f1=some (.tup (s.map V.int)))(h4:H f2=some (.tup (g.map V.int)))(h5:zs5 t H l n r hs s g)(h6:∀H',Same H H'->Q (.bl true) H'):yf2 K t vs H Q E
def sp_w_low (K:W.Frag)(t:Adr):Sp:=fun vs H Q E=>yf2 K t vs H Q E
theorem ok_w_low (T:Txt K mg t):FnOk P w K mg base CX0 4 t.ck t.cl Pe (sp_w_low K t):=by
 refine T.bT.F.ok sc_w_low (fun C H Q E h=>?_) (fun V a0 U s H C Q E i h=>?_)
 . obtain⟨c,m,o,l,n,r,k,j,s,g,rfl,p,u,x,y,z,q⟩:=h
   rfl
 . obtain⟨c,m,o,l,n,r,k,j,s,g,rfl,p,u,x,y,z,q⟩:=h
   refine⟨_,(za2 (zc8 (PW.pt (zl3 (zd4 (zd0 (zb0 zi6 rfl T.af QJ (za0 P3 (za0 (zo3 (v:=.ref t.ab) rfl T.bV rfl) za1))))) (zj1 (zd4 (zd0 (za6 (zx6 T) i.m T.aI zb3 (za0 (zc4 P3 rfl) za1))))))) (za5 (zb7 zg8)) zb6)
     (za2 (zc8 (PW.pt (zl3 (zc2 zM6 (zc4 P3 rfl) za4 (zc1 _)) (zj1 (zc2 zy3 (zc4 P3 rfl) za4 (zc1 _))))) (za5 (zb7 zg8)) zb6)
     (za5 (zb7 (zg7 (yf9 (ZI (zi0 i))) (za6 (zK1 T) i.m T.aX zb3 (za0 (za6 (zK2 T) i.m T.aY zb3 (za0 P0 (za0 (zc4 P3 rfl) za1))) (za0 P1 (za0 (zc4 P3 rfl) za1)))) P2 (zc1 _)))))),?_⟩
   refine cut3 ?_;intro W X;obtain⟨L,f,B,Z,d,D,F,zs,a9,a,a2,G,a4,I,J,M,a8,_⟩:=z;have Y:=ym4 j s g;refine⟨_,rfl,_,_,_,_,_,rfl,.own _,.ins a T.aj T.aZ.1 T.aZ.2.1 T.aZ.2.2.1 T.aZ.2.2.2,kit_self _ _,_,rfl,iteF ?_⟩;refine⟨_,rfl,l,_,f,_,_,rfl,a,T.aj,T.ak,zp8 _ _ _,L,rfl,_,rfl,iteF ?_⟩;refine⟨_,rfl,l,_,f,_,_,rfl,a,T.aj,T.ak,zp8 _ _ _,_,_,rfl,rfl,_,rfl,iteB (Qg (by omega)) ?_⟩;refine⟨_,rfl,l,_,f,_,_,rfl,a,T.aj,T.ak,zp8 _ _ _,_,_,rfl,rfl,_,rfl,iteB (Qg (by omega)) ?_⟩;refine⟨_,rfl,_,rfl,l,_,f,_,_,rfl,a,T.aj,T.ak,zp8 _ _ _,c,n,r,k,L,j,rfl,p,by omega,G,fun N H1 e O=>?_⟩;refine⟨_,rfl,_,rfl,l,_,f,_,_,rfl,e _ _ a,T.aj,T.aQ,yr1 _ _ _,N,m,B,n,r,L,j,s,g,D,F,rfl,O,u,e _ _ x,e _ _ I,J.same e,M,fun b R A S=>?_⟩;refine⟨_,rfl,b,o,_,_,rfl,rfl,SqT.of S,SqT.of ((e.trans A) _ _ y),zC4,?_⟩;rw[Qf rfl];exact q R (e.trans A)
inductive yf3 (K:W.Frag)(t:Adr)(vs:List V)(H:Hp)(Q:VK)(E:XK):Prop
 | mk (c a1 a2 wy:Addr)(n r lim:Int)(hs s g:List Int)(h0:vs=[.ref c,.ref a1,.ref a2,.ref wy])(h1:zi3 K H c n r hs lim)(h2:zc6 n r hs.length s)(h3:H a1=some (.tup (s.map V.int)))(h4:H a2=some (.tup (g.map V.int)))(h5:zs4 t H wy n r hs lim s g)(h6:∀H',Same H H'->Q (.bl true) H'):yf3 K t vs H Q E
def sp_w_way (K:W.Frag)(t:Adr):Sp:=fun vs H Q E=>yf3 K t vs H Q E
theorem ok_w_way (T:Txt K mg t):FnOk P w K mg base CX0 4 t.ci t.cj Pe (sp_w_way K t):=by
 refine T.bS.F.ok sc_w_way (fun D H Q E h=>?_) (fun Y a6 X s H D Q E k h=>?_)
 . obtain⟨c,o,p,e,n,r,l,u,s,g,rfl,S,x,y,z,W,q⟩:=h
   rfl
 . obtain⟨c,o,p,e,n,r,l,u,s,g,rfl,S,x,y,z,W,q⟩:=h
   refine⟨_,(za2 (zc8 (PW.pt (zl3 (zd4 (zd0 (zb0 zi6 rfl T.af QJ (za0 P3 (za0 (zo3 (v:=.ref t.ac) rfl T.bP rfl) za1))))) (zj1 (zd4 (zd0 (zb0 zi6 rfl T.af QJ (za0 (zc4 P3 rfl) (za0 (zm3 (v:=.ty "bool") rfl T.cd PyProof.Rows.boot_bool rfl) za1)))))))) (za5 (zb7 zg8)) zb6)
     (za2 (zc8 (zd4 (zd0 (zc4 P3 rfl))) (za5 (zb7 (zD6 (zg7 yn8 (zc4 P3 rfl) zr3 (zc1 _)) (zy2 (zg7 (yf8 (ZI (zi0 k))) (zc4 P3 rfl) (ze8 za1) (zc1 _)))))) zb6)
     (za2 (zc8 (PW.pt (zl3 (zd4 (zd0 (za6 (zx6 T) k.m T.aI zb3 (za0 (zc4 P3 rfl) za1)))) (zl3 (zd4 (zd0 (zb0 zi6 rfl T.af QJ (za0 (zc4 P3 rfl) (za0 (zm3 (v:=.ty "list") rfl T.aD Zq rfl) za1))))) (zj1 (zc2 zn7 (zb0 zc0 rfl T.ae QB (za0 (zc4 P3 rfl) za1)) (zc4 P3 rfl) (zc1 _)))))) (za5 (zb7 zg8)) zb6)
     (za5 (zb7 (zg7 (yf9 (ZI (zi0 k))) (za6 (zK1 T) k.m T.aX zb3 (za0 P0 (za0 P1 (za0 (zc4 P3 rfl) za1)))) P2 (zc1 _))))))),?_⟩
   refine cut4 ?_;intro Z a0 a3;rcases W with⟨d,j,F,G,I,J,L,M,a4,N,hd,⟨f,a⟩,i,m,O,C,_⟩ | ⟨a5,j,I,J,L,M,N,zs,Sh,⟨f,a⟩,i,_⟩
   . refine⟨_,rfl,_,_,_,_,_,rfl,.own _,.ins a T.aa T.aG.1 T.aG.2.1 T.aG.2.2.1 T.aG.2.2.2,kit_self _ _,_,rfl,iteF ?_⟩
     refine⟨_,rfl,e,_,f,_,_,rfl,a,T.aa,T.ag,zh9 _ _ _ _ _ _,_,_,_,_,_,rfl,.ty _,.bl _,rfl,_,rfl,iteF ?_⟩;refine⟨_,rfl,e,_,f,_,_,rfl,a,T.aa,T.ag,zh9 _ _ _ _ _ _,_,rfl,iteF ?_⟩;refine⟨_,rfl,e,_,f,_,_,rfl,a,T.aa,T.aB,zM2 _ _ _ _ _ _,(d:Int),rfl,_,rfl,iteF ?_⟩;refine⟨_,rfl,e,_,f,_,_,rfl,a,T.aa,T.ao,zE6 _ _ _ _ _ _,_,_,_,_,_,rfl,.ty _,.lst i,rfl,_,rfl,iteF ?_⟩;refine⟨_,rfl,e,_,f,_,_,rfl,a,T.aa,T.ao,zE6 _ _ _ _ _ _,j,_,rfl,.inl (SqL.of i),_,rfl,e,_,f,_,_,rfl,a,T.aa,T.aB,zM2 _ _ _ _ _ _,rfl,_,rfl,?_⟩;rw[Qb,m.len,C,Qf rfl];refine iteF ?_;refine⟨_,rfl,_,rfl,_,rfl,e,_,f,_,_,rfl,a,T.aa,T.ao,zE6 _ _ _ _ _ _,c,o,j,n,r,l,u,s,g,F,G,rfl,S,x,y,i,m,O,fun b R A U=>?_⟩;refine⟨_,rfl,b,p,_,_,rfl,rfl,SqT.of U,SqT.of (A _ _ z),zC4,?_⟩;rw[Qf rfl];exact q R A
   . refine⟨_,rfl,_,_,_,_,_,rfl,.own _,.ins a T.aa T.aG.1 T.aG.2.1 T.aG.2.2.1 T.aG.2.2.2,kit_self _ _,_,rfl,iteF ?_⟩
     refine⟨_,rfl,e,_,f,_,_,rfl,a,T.aa,T.ag,zh9 _ _ _ _ _ _,_,_,_,_,_,rfl,.ty _,.bl _,rfl,_,rfl,iteF ?_⟩;refine⟨_,rfl,e,_,f,_,_,rfl,a,T.aa,T.ag,zh9 _ _ _ _ _ _,_,rfl,iteT ?_⟩;refine⟨_,rfl,e,_,f,_,_,rfl,a,T.aa,T.aB,zM2 _ _ _ _ _ _,rfl,_,rfl,iteT ?_⟩;refine⟨_,rfl,e,_,f,_,_,rfl,a,T.aa,T.ao,zE6 _ _ _ _ _ _,QD _,fun V B=>?_⟩;refine⟨j,V,[],rfl,rfl,SqL.of (Same.upd B _ _ i),SqL.of za3,?_⟩;exact q _ (Same.upd B)
end
section
variable {P:Program} {w:World} {K:W.Frag} {mg:Str->Option Value} {base:Heap} {t:Adr}
theorem take_eq_succ {X Y:List (List Int)}{i:Nat}{x y:List Int}(a:X[i]?=some x)(b:Y[i]?=some y)(h:X.take i=Y.take i):X.take (i+1)=Y.take (i+1)↔x=y:=by
 rw[QX,QX,a,b,h];simp
inductive zA7 (K:W.Frag)(t:Adr)(vs:List V)(H:Hp)(Q:VK)(E:XK):Prop
 | mk (a b:Addr)(ys zs:List V)(X Y:List (List Int))(h0:vs=[.ref a,.ref b])(h1:H a=some (.lst ys))(h2:Tups H ys X)(h3:H b=some (.lst zs))(h4:Tups H zs Y)(h5:Y.length<=1000)(h6:(∀y∈Y,y.length<=1000))(h7:Q (.bl (decide (X=Y))) H):zA7 K t vs H Q E
def sp_w_same_rows (K:W.Frag)(t:Adr):Sp:=fun vs H Q E=>zA7 K t vs H Q E
theorem zn5 (T:Txt K mg t):FnOk P w K mg base CX0 3 t.aQ t.aR Ph (sp_w_same_rows K t):=by
 refine T.au.F.ok zA0 (fun J H Q E h=>?_) (fun a0 a4 Z a5 H J Q E L h=>?_)
 . obtain⟨a,b,e,f,X,Y,rfl,c,k,g,l,M,r,q⟩:=h
   rfl
 . obtain⟨a,b,e,f,X,Y,rfl,c,k,g,l,M,r,q⟩:=h
   refine⟨_,(za2 (zc8 (PW.pt (zl3 (zd4 (zd0 (zb0 zi6 rfl T.af QJ (za0 P0 (za0 (zm3 (v:=.ty "list") rfl T.aD Zq rfl) za1))))) (zj1 (zc2 zn7 (zb0 zc0 rfl T.ae QB (za0 P0 za1)) (zb0 zc0 rfl T.ae QB (za0 P1 za1)) (zc1 _))))) (za5 (zb7 zg8)) zb6)
     (za2 (zh7 PassesOwn.never rfl (zj9 rfl T.am (za0 (zb0 zc0 rfl T.ae QB (za0 P1 za1)) za1)) (zc5 (i:=2) zA0.nd rfl (Or.inl rfl)) (za5 (zc8 (PW.pt (zl3 (zd4 (zd0 (zb0 zi6 rfl T.af QJ (za0 (zc9 zd1 P0 P2 (fun _ _=>rfl)) (za0 (zm3 (v:=.ty "tuple") rfl T.aA Zv rfl) za1))))) (zj1 (zd4 (zd0 (za6 (zv8 T) L.m T.aF zb3 (za0 (zc9 zd1 P0 P2 (fun _ _=>rfl)) (za0 (zc9 zd1 P1 P2 (fun _ _=>rfl)) za1)))))))) (za5 (zb7 zg8)) zb6)))
     (za5 (zb7 zg8)))),?_⟩
   refine cut3 ?_;intro a1 a2;have N:=ze6 k;have O:=ze6 l;refine⟨_,rfl,_,_,_,_,_,rfl,.ty _,.lst c,rfl,_,rfl,iteF ?_⟩;refine⟨_,rfl,a,_,rfl,.inl (SqL.of c),_,rfl,b,_,rfl,.inl (SqL.of g),rfl,_,rfl,?_⟩;rw[ze3];refine ite2 (fun m=>?_) (fun m=>?_)
   . have:X≠Y:=fun z=>by
       subst z;simp[N,O] at m
     rw[Qg this] at q;exact q
   have a3:X.length=Y.length:=by
     simp at m;omega
   refine⟨_,rfl,b,_,rfl,.inl (SqL.of g),_,rfl,by omega,by omega,zk0 (n:=((f.length:Nat):Int).toNat) (fun i p o=>X1 fun v=>A3 (p=[some (.ref a),some (.ref b),v]) (o=H) (X.take i=Y.take i)) ⟨none,rfl,rfl,rfl⟩ ?_ ?_⟩
   . rintro i p o R ⟨v,rfl,rfl,d⟩
     have s:i<f.length:=by simpa using R
     have S:(0:Int)+(i:Int)=(i:Int):=by omega
     rw[S];obtain⟨B,x,ex,U,u⟩:=zo8 k (Qe (show i<e.length by omega));obtain⟨C,y,V,D,G⟩:=zo8 l (Qe s);have F:atI e (i:Int)=some (.ref B):=zo4 (by rw[Qe (show i<e.length by omega),ex]);have W:atI f (i:Int)=some (.ref C):=zo4 (by rw[Qe s,V]);refine⟨_,rfl,_,rfl,a,_,_,_,rfl,rfl,SqL.of c,F,_,_,_,_,_,rfl,.ty _,.tup u,rfl,_,rfl,iteF ?_⟩;refine⟨_,rfl,_,rfl,a,_,_,_,rfl,rfl,SqL.of c,F,_,rfl,_,rfl,b,_,_,_,rfl,rfl,SqL.of g,W,B,C,x,y,rfl,.inr (SqT.of u),.inr (SqT.of G),r y (QG D),_,rfl,?_⟩;have A:=take_eq_succ U D d;refine ite2 (fun j=>?_) (fun j=>?_)
     . have I:X≠Y:=fun z=>by
         have:x=y:=A.mp (by rw[z]);rw[Qf this] at j;cases j
       rw[Qg I] at q;exact q
     . have:x=y:=Classical.byContradiction fun z=>j (by rw[Qg z];rfl)
       exact⟨_,rfl,rfl,A.mpr this⟩
   . rintro p o ⟨v,rfl,rfl,d⟩
     rw[QZ] at d;have:X=Y:=by
       rw[Zg (by omega),Zg (by omega)] at d;exact d
     rw[Qf this] at q;exact q
theorem lay_get {H:Hp}{a:List Addr}{Ls:List (List (List Int))}(h:Lay H a Ls){i:Nat}(j:i<Ls.length):∃b L c,(a.map V.ref)[i]?=some (.ref b)/\Ls[i]?=some L/\H b=some (.lst c)/\Tups H c L:=by
 have k:a.length=Ls.length:=Paired.length h;have e:=Qe (l:=a.map V.ref) (i:=i) (by rw[Qb];omega);obtain⟨b,L,c,ev,d,f,g⟩:=lay_at h e;exact⟨b,L,c,by rw[e,ev],d,f,g⟩
section
variable {n r:Int} {hs:List Int} {lim:Int} {s:List Int} {n' r':Int} {hs':List Int} {lim':Int}
end
theorem use_finH {R:Hp->Prop}{S:Hp->Prop}{G:Prop}(b:(∀a,S a->R a)->G)(c:∀a,S a->R a):G:=b c
theorem yf4:∀ {Ls:List (List (List Int))},(∀L∈Ls,L≠[])->Ls.length<=Ls.flatten.length
 | [],_=>Qi _
 | L::Ls,h=>by
   have b:=yf4 (Ls:=Ls) fun L a=>h L (.tail _ a)
   have c:0<L.length:=ZL.mpr (h L (.head _));rw[List.flatten_cons,Qq,Qz];omega
theorem ym5 {n r:Int}{hs:List Int}{lim:Int}{s:List Int}(ok:zg9 n r hs lim)(e:zc6 n r hs.length s){Ls:List (List (List Int))}(h:zn2 n r hs lim s Ls)(c:∀j,j<Ls.length->∃x,Dst n r hs lim s j x):Ls.length<=1000 :=
 QK (yf4 fun L f z=>by
     obtain⟨i,b⟩:=List.getElem?_of_mem f;obtain⟨x,a⟩:=c i (Qw.mp b).1;have:=(h.mem i L b x).mpr a;rw[z] at this;cases this) (few ok h.nodup fun x a=>let⟨d,_,g⟩:=h.ex a;g.1.valid e)
theorem zs4.same {t:Adr}{H H':Hp}{a:Addr}{n r:Int}{hs:List Int}{lim:Int}{s g:List Int}(h:zs4 t H a n r hs lim s g)(e:Same H H'):zs4 t H' a n r hs lim s g:=by
 rcases h with⟨d,b,E,F,j,k,l,m,B,o,G,⟨p,q⟩,u,v,w,x,y,z,A,c,f,i,C,D⟩ | ⟨I,b,j,k,l,m,o,J,S,⟨p,q⟩,u,v,w,x,y,z,A,c,f,i⟩
 . exact .inl ⟨d,b,E,F,j,k,l,m,B,o,G,⟨p,e _ _ q⟩,e _ _ u,v.same e,w,x,e _ _ y,z.keep e,A,c,e _ _ f,i,C,e _ _ D⟩
 . exact .inr ⟨I,b,j,k,l,m,o,J,S,⟨p,e _ _ q⟩,e _ _ u,e _ _ v,w.keep e,x,y,e _ _ z,e _ _ A,e.tups c,f,i⟩
end
section
variable {P:Program} {w:World} {K:W.Frag} {mg:Str->Option Value} {base:Heap} {t:Adr}
inductive zW9 (K:W.Frag)(t:Adr)(vs:List V)(H:Hp)(Q:VK)(E:XK):Prop
 | mk (c a:Addr)(cell n r lim:Int)(hs xs:List Int)(h0:vs=[.ref c,.ref a,.int cell])(h1:zi3 K H c n r hs lim)(h2:zc6 n r hs.length xs)(h3:H a=some (.tup (xs.map V.int)))(h4:∀v H',Same H H'->(v = .non\/∃(i:Nat) (q:Int) (mv:Addr),v = .ref mv/\Lets n r hs lim xs i q/\H' mv=some (.tup [.int ((i:Int)+1),.int (xs.getD i 0),.int q]))->Q v H'):zW9 K t vs H Q E
def sp_w_pick (K:W.Frag)(t:Adr):Sp:=fun vs H Q E=>zW9 K t vs H Q E
theorem ok_w_pick (T:Txt K mg t):FnOk P w K mg base CX0 3 t.bX t.bY Vj (sp_w_pick K t):=by
 refine T.bM.F.ok zB9 (fun vs a5 a6 a7 h=>?_) (fun ab ah a8 ai a5 vs a6 a7 O h=>?_)
 . obtain⟨a0,a,f,n,r,m,u,xs,rfl,S,v,x,q⟩:=h
   rfl
 . obtain⟨a0,a,f,n,r,m,u,xs,rfl,S,v,x,q⟩:=h
   refine⟨_,(za2 (zb4 (i:=3) zB9.nd rfl (Or.inl rfl) (za6 (zW4 T) O.m T.bl zb3 (za0 P0 (za0 P1 za1))))
     (za2 (zc8 (zc2 (yf8 (ZI (zi0 O))) P3 (ze8 za1) (zc1 _)) (za5 (zb7 zr3)) zb6)
     (za2 (zb4 (i:=4) zB9.nd rfl (Or.inr rfl) (zc9 zd1 P3 (zb9 zf0 P2 (zb0 zc0 rfl T.ae QB (za0 P3 za1))) (fun _ _=>rfl)))
     (za2 (zb4 (i:=5) zB9.nd rfl (Or.inl rfl) (zc9 zd1 (zs8 rfl zK5 (zj9 rfl T.am (za0 (zb0 zc0 rfl T.ae QB (za0 P1 za1)) za1)) (fun _ _ _ _ _=>(zc5 (i:=0) zK5.nd rfl (Or.inl rfl))) (fun _ _ _ _ _=>(zy6 (zc2 zn7 (zc9 (zF2 K rfl) P1 P0 (fun _ _=>rfl)) (zc9 (zF2 K rfl) P2 P0 (fun _ _=>rfl)) (zc1 _)))) (fun _ _ _ _ _=>P0)) za4 (fun _ _=>rfl)))
     (za5 (zb7 (zy4 (za0 (zb9 zf4 (pv 5) za4) (za0 (zc9 zg5 P1 (pv 5) (fun _ _=>rfl)) (za0 (zc9 zg5 (pv 4) (pv 5) (fun _ _=>rfl)) za1)))))))))),?_⟩
   refine cut5 ?_;intro ac ad ae af;have a9:=v.len;have hw:=(let⟨_,h,_⟩:=S;h:zg9 n r u m).w;refine⟨_,rfl,_,rfl,a0,a,n,r,m,u,xs,rfl,S,v,x,fun l y b s1 fl Q R=>?_⟩;have ag:=ze6 R;refine⟨_,rfl,QD _,fun A f2=>?_⟩;have d:Same y (upd y A (.lst [])):=Same.upd f2;refine⟨l,A,b,rfl,rfl,SqL.of (d _ _ Q),SqL.of za3,_,rfl,?_⟩;revert d;generalize upd y A (.lst [])=c;intro d;have o:=s1.trans d;have I:=d _ _ Q;have a2:=d.tups R;refine ite2 (fun U=>?_) (fun U=>?_)
   . exact q .non c o (.inl rfl)
   have aa:0<b.length:=by
     cases b with
     | nil=>exact absurd rfl U
     | cons _ _=>simp
   have i1:0<=f % (b.length:Int):=Zr _ (by omega);have i2:f % (b.length:Int)<b.length:=Zp _ (by omega);obtain⟨j,ej⟩:∃j:Nat,f % (b.length:Int)=(j:Int):=⟨_,(Int.toNat_of_nonneg i1).symm⟩;have W:j<b.length:=by omega
   obtain⟨a1,aj,e1,e2,X⟩:=zo8 a2 (Qe W);obtain⟨i,p,L,rfl⟩:=zl0.mp (QG e2);have Y:=L.lt;refine⟨_,rfl,_,rfl,_,rfl,l,_,rfl,.inl (SqL.of I),_,_,rfl,rfl,(by show(0:Int)<(b.length:Int);omega),l,_,_,_,rfl,rfl,SqL.of I,(by show atI b (f % (b.length:Int))=_;rw[ej];exact zo4 (by rw[Qe W,e1])),?_⟩;have s:=o _ _ x;refine⟨_,rfl,a,_,rfl,.inr (SqT.of s),?_⟩;rw[Qb];refine⟨_,rfl,by omega,by omega,fun D Z=>?_⟩;have gd:∀k,k<xs.length->((xs.set i p).getD k 0=xs.getD k 0↔k≠i):=fun k B=>by
     rw[Qy,Qy,List.getElem?_set];by_cases e:i=k
     . subst e
       rw[Ql rfl,Ql B];refine⟨fun z=>absurd ?_ L.ne,fun z=>absurd rfl z⟩;rw[Qy];exact z
     . rw[Qh e]
       exact⟨fun _ z=>e z.symm,fun _=>rfl⟩
   refine zp0 (fun j C=>C=upd c D (.lst (if i<j then [V.int (i:Int)] else []))) (by rw[Qh (Nat.not_lt_zero _)]) ?_ ?_
   . rintro k C ak B rfl hN
     have J:k<xs.length:=by simpa using B
     have a3:(upd c D (.lst (if i<k then [V.int (i:Int)] else []))) D=some (.lst (if i<k then [V.int (i:Int)] else [])):=za3;have sD:Same c (upd c D (.lst (if i<k then [V.int (i:Int)] else []))):=Same.upd Z;have E:(0:Int)+(k:Int)=(k:Int):=by omega
     have F:atI (xs.map V.int) (0+(k:Int))=some (.int (xs.getD k 0)):=by rw[E];exact ze4 (by omega) (by omega)
     have G:atI ((xs.set i p).map V.int) (0+(k:Int))=some (.int ((xs.set i p).getD k 0)):=by rw[E];exact ze4 (by omega) (by rw[Zj];omega)
     refine⟨_,rfl,_,rfl,a1,_,_,_,rfl,rfl,SqT.of (sD _ _ X),G,_,rfl,_,rfl,a,_,_,_,rfl,rfl,SqT.of (sD _ _ s),F,rfl,_,rfl,?_⟩;rw[ze3];refine ite2 (fun g=>?_) (fun g=>?_)
     . have M:k=i:=Classical.byContradiction fun z=>by
         have:=(gd k J).mpr z;rw[Qf this] at g;cases g
       subst M;refine⟨_,rfl,_,a3,zc3 (by rw[Qh (Nat.lt_irrefl _)];decide),hN _ ?_⟩;rw[zg1,Qh (Nat.lt_irrefl _),Ql (Nat.lt_succ_self _),E];rfl
     . have M:k≠i:=(gd k J).mp (Classical.byContradiction fun z=>g (by rw[Qg z];rfl))
       refine hN _ ?_;by_cases N:i<k
       . rw[Ql N,Ql (by omega)]
       . rw[Qh N,Qh (by omega)]
   . rintro C rfl
     rw[QZ,Ql Y];have H:Same c (upd c D (.lst [V.int (i:Int)])):=Same.upd Z;have F:atI (xs.map V.int) (i:Int)=some (.int (xs.getD i 0)):=ze4 (by omega) (by omega);have G:atI ((xs.set i p).map V.int) (i:Int)=some (.int p):=by
       have:=ze4 (xs:=xs.set i p) (i:=(i:Int)) (by omega) (by rw[Zj];omega);rw[QZ,zu1 Y] at this;exact this
     refine⟨D,_,_,_,rfl,rfl,SqL.of za3,rfl,?_⟩;refine⟨_,rfl,_,_,rfl,rfl,_,rfl,_,rfl,a,_,_,_,rfl,rfl,SqT.of (H _ _ s),F,_,rfl,_,rfl,a1,_,_,_,rfl,rfl,SqT.of (H _ _ X),G,(by show 3<=sizeLine;decide),fun mv a4=>?_⟩;exact q (.ref mv) _ (o.trans (H.updT a4)) (.inr ⟨i,p,mv,rfl,L,za3⟩)
end
section
variable {P:Program} {w:World} {K:W.Frag} {mg:Str->Option Value} {base:Heap} {t:Adr}
inductive EV (t:Adr)(H:Hp)(wy:Addr)(n r:Int)(hs:List Int)(lim:Int)(s g:List Int):Prop
 | mk (b:Bool)(mn:V)(rw_ la ag sh dx:Addr)(rs:List Addr)(ms:List (Nat×Int))(as:List Addr)(Ls:List (List (List Int)))(ags:List Int)(zs:List V)(S:List (List Int))
   (p1:H wy=some (.ins t.ac dx (zs3 (.bl b) mn (.ref rw_) (.ref la) (.ref ag) (.ref sh)))) (p2:H rw_=some (.lst (rs.map V.ref))) (p3:zi1 H s rs ms) (hml:ms.length<=1000) (hm5:∀m∈ms,m.1<5)
   (p4:H la=some (.lst (as.map V.ref))) (p5:Lay H as Ls) (p6:zn2 n r hs lim s Ls) (p7:∀j,j<Ls.length->∃x,Dst n r hs lim s j x)
   (q1:H ag=some (.lst (ags.map V.int))) (q2:ags.Pairwise (· < ·)) (q3:∀k,k∈ags↔k∈wsOf ms/\1<(wsOf ms).count k) (p8:H sh=some (.lst zs)) (p9:Tups H zs S) (p10:S.Pairwise (fun x y=>Sx.lexB x y=true))
   (p11:(b=true/\∃d:Nat,Dst n r hs lim s d g/\Ls.length=d+1/\S=[])\/(b=false/\(∀d,¬ Dst n r hs lim s d g)/\(∀d x,Dst n r hs lim s d x->d<Ls.length)/\∀x,x∈S↔∃d,Dst n r hs lim s d x))
theorem zs4.ev {t:Adr}{H:Hp}{E:Addr}{n r:Int}{hs:List Int}{lim:Int}{s g:List Int}(ok:zg9 n r hs lim)(F:zc6 n r hs.length s)(W:zs4 t H E n r hs lim s g):EV t H E n r hs lim s g:=by
 have Q:=ok.w;rcases W with⟨d,c,M,N,i,l,o,p,I,q,u,⟨v,e⟩,w,y,z,G,a,A,B,b,C,f,J,K⟩ | ⟨L,c,i,l,o,p,q,O,S,⟨v,e⟩,w,y,z,G,a,A,B,b,C,f⟩
 . have R:=ym5 ok F b fun j D=>u.below j (by omega)
   exact⟨true,_,c,i,p,q,v,M,N,l,o,I,[],[],e,w,y,by omega,fun m P=>by have:=z.lt F.len m P;omega,a,A,b,fun j D=>u.below j (by omega),C,f,J,K,.nil,.nil,.inl ⟨rfl,d,u,B,rfl⟩⟩
 . exact⟨false,_,c,i,p,q,v,[],[],l,o,[],O,S,e,w,trivial,QD _,(fun _ h=>nomatch h),y,z,G,fun j D=>(a j).mp D,A,.nil,fun k=>⟨(fun h=>nomatch h),fun h=>nomatch h.1⟩,B,b,C,.inr ⟨rfl,L,fun d x h=>(a d).mpr ⟨x,h⟩,f⟩⟩
noncomputable def atD (df:List Int->Nat)(L:List (List Int))(j:Nat):List (List Int):=L.filter fun x=>decide (df x=j)
theorem yf5 (a:List Int->Nat)(L:List (List Int))(x:List Int)(j:Nat):atD a (L++[x]) j=if a x=j then atD a L j++[x] else atD a L j:=by
 unfold atD;rw[ZD];by_cases h:a x=j
 . rw[Ql h]
   simp[h]
 . rw[Qh h]
   simp[h]
theorem nodup_ix {a:List Addr}(h:a.Nodup){j k:Nat}{c:Addr}(i:a[j]?=some c)(l:a[k]?=some c):j=k:=by
 obtain⟨b,d⟩:=Qw.mp i;obtain⟨e,f⟩:=Qw.mp l;have g:=QR.mp h;rcases Nat.lt_trichotomy j k with z | z | z
 . exact absurd (d.trans f.symm) (g j k b e z)
 . exact z
 . exact absurd (f.trans d.symm) (g k j e b z)
structure Due (ds:List Addr)(Hb H:Hp)(df:List Int->Nat)(L:List (List Int)):Prop where
 out:∀c o,Hb c=some o->c∉ds->H c=some o
 at_:∀(j:Nat) (c:Addr),ds[j]?=some c->∃ys,H c=some (.lst ys)/\Tups H ys (atD df L j)
theorem Due.step {b:List Addr}{r H:Hp}{f:List Int->Nat}{L:List (List Int)}(h:Due b r H f L)(u:b.Nodup){x:List Int}{l c:Addr}{ys:List V}(m:H l=some (.tup (x.map V.int)))(g:b[f x]?=some c)(p:H c=some (.lst ys)):Due b r (upd H c (.lst (ys++[.ref l]))) f (L++[x]):=by
 have s:∀ {i:List V} {t:List (List Int)},Tups H i t->Tups (upd H c (.lst (ys++[.ref l]))) i t:=fun h=>zk7 p (fun _ z=>nomatch z) h
 refine⟨fun d o e n=>?_,fun j d e=>?_⟩
 . rw[za7 (fun(z:d=c)=>n (by rw[z];exact QG g))]
   exact h.out d o e n
 . obtain⟨i,a,q⟩:=h.at_ j d e
   rw[yf5];by_cases k:f x=j
   . rw[Ql k]
     rw[k] at g;obtain rfl:d=c:=Qo (e.symm.trans g);rw[p] at a;injection a with a
     injection a with a
     rw[<-a] at q;exact⟨_,za3,zr0 (s q) (by rw[za7 (fun z=>by rw[z,p] at m;cases m)];exact m)⟩
   . rw[Qh k]
     exact⟨i,by rw[za7 (fun(z:d=c)=>k (nodup_ix u g (by rw[z] at e;exact e)))];exact a,s q⟩
theorem Due.skip {a:List Addr}{d H:Hp}{b:List Int->Nat}{L:List (List Int)}(h:Due a d H b L){x:List Int}(f:a.length<=b x):Due a d H b (L++[x]):=⟨h.out,fun j c e=>by
 rw[yf5,Qh (fun z=>by have:=(Qw.mp e).1;omega)];exact h.at_ j c e⟩
theorem use_fin5 {R:Nat->Addr->Hp->Prop}{S:Nat->Addr->Hp->Prop}{G:Prop}(b:(∀o l a,S o l a->R o l a)->G)(c:∀o l a,S o l a->R o l a):G:=b c
theorem ym6:∀ {X Y:List Int},X.Pairwise (· < ·)->Y.Pairwise (· < ·)->(∀x,x∈X↔x∈Y)->X=Y
 | [],Y,_,_,h=>(List.eq_nil_iff_forall_not_mem.mpr fun x c=>nomatch (h x).mpr c).symm
 | a::X,[],_,_,h=>nomatch (h a).mp (.head _)
 | a::X,b::Y,h1,h2,h=>by
   have f:=Zm.mp h1;have g:=Zm.mp h2;have e:a=b:=by
     rcases Qn.mp ((h a).mp (.head _)) with e | e
     . exact e
     . rcases Qn.mp ((h b).mpr (.head _)) with i | i
       . exact i.symm
       . have:=g.1 a e
         have:=f.1 b i;omega
   subst e;rw[ym6 f.2 g.2 fun x=>?_];have c:=h x;rw[Qn,Qn] at c;constructor
   . intro d
     rcases c.mp (.inr d) with z | z
     . have:=f.1 x d;omega
     . exact z
   . intro d
     rcases c.mpr (.inr d) with z | z
     . have:=g.1 x d;omega
     . exact z
end
section
variable {P:Program} {w:World} {K:W.Frag} {mg:Str->Option Value} {base:Heap} {t:Adr}
inductive zA8 (K:W.Frag)(t:Adr)(vs:List V)(H:Hp)(Q:VK)(E:XK):Prop
 | mk (c a1 a2 wy:Addr)(n r lim:Int)(hs s g:List Int)(h0:vs=[.ref c,.ref a1,.ref a2,.ref wy])(h1:zi3 K H c n r hs lim)(h2:zc6 n r hs.length s)(h3:H a1=some (.tup (s.map V.int)))(h4:H a2=some (.tup (g.map V.int)))(h5:zs4 t H wy n r hs lim s g)(h6:∀H',Same H H'->Q (.bl true) H'):zA8 K t vs H Q E
def sp_w_exact_way (K:W.Frag)(t:Adr):Sp:=fun vs H Q E=>zA8 K t vs H Q E
theorem ok_w_exact_way (T:Txt K mg t):FnOk P w K mg base CX0 5 t.aS t.aT Pi (sp_w_exact_way K t):=by
 refine T.bc.F.ok zd5 (fun vs dj dk dm h=>?_) (fun dz ef dr a3 dj vs dk dm E h=>?_)
 . obtain⟨c,a1,a2,u,n,aa,ab,hs,a3,a4,rfl,S0,Q,h1,h2,ak,c1⟩:=h
   rfl
 . obtain⟨c,a1,a2,u,n,aa,ab,hs,a3,a4,rfl,S0,Q,h1,h2,ak,c1⟩:=h
   refine⟨_,(za2 (zb4 (i:=4) zd5.nd rfl (Or.inl rfl) (za6 (zA6 T) E.m T.aJ zb3 (za0 P0 (za0 P1 za1))))
     (za2 (zc8 (PW.pt (zl3 (zd4 (zd0 (za6 (ok_w_way T) E.m T.bS zb3 (za0 P0 (za0 P1 (za0 P2 (za0 P3 za1))))))) (zj1 (zc2 zn7 (zc4 P3 rfl) (ym8 (pc_din (zi0 E) P2 (pv 4))) (zc1 _))))) (za5 (zb7 zg8)) zb6)
     (za2 (zb4 (i:=5) zd5.nd rfl (Or.inl rfl) (zb0 (call_maxV rfl) rfl T.a2 ZM (za0 (zY1 PySem.F.plainAttrs_dict PySem.F.slot_dict_values PySem.F.type_dict_values mt_vals (pv 4)) za1)))
     (za2 (zb4 (i:=6) zd5.nd rfl (Or.inl rfl) (zb0 (zw4 rfl) rfl T.aH ZH (za0 (pv 4) za1)))
     (za2 (zc8 (zd0 (zc4 P3 rfl)) (za2 (zb4 (i:=5) zd5.nd rfl (Or.inl rfl) (zo6 (zi0 E) (pv 4) P2 (fun _ _=>rfl)))
     (za5 (zb4 (i:=6) zd5.nd rfl (Or.inl rfl) (zw5 za1)))) zb6)
     (za2 (zL3 (i:=7) rfl zv1 (zj9 rfl T.am (za0 (zb9 zf4 (pv 5) za4) za1)) (fun _ _ _ _ _=>(zc5 (i:=0) zv1.nd rfl (Or.inl rfl))) (fun _ _ _ _ _=>zr5) (fun _ _ _ _ _=>(zw5 za1)) zd5.nd rfl rfl)
     (za2 (zh7 PassesOwn.never rfl (zj2 (zb0 (zw4 rfl) rfl T.aH ZH (za0 (pv 4) za1))) (zc5 (i:=8) zd5.nd rfl (Or.inl rfl)) (za5 (zc8 (zc2 ya3 (zo6 (zi0 E) (pv 4) P8 (fun _ _=>rfl)) (pv 5) (zc1 _)) (za5 (ze7 (zr4 QE QV QU zh0 (zc9 zd1 P7 (zo6 (zi0 E) (pv 4) P8 (fun _ _=>rfl)) (fun _ _=>rfl)) (za0 P8 za1)))) zb6)))
     (za2 (zc8 (PW.pt (zl3 (zd4 (zd0 (zb0 zi6 rfl T.af QJ (za0 (zc4 P3 rfl) (za0 (zm3 (v:=.ty "list") rfl T.aD Zq rfl) za1))))) (zj1 (zc2 zn7 (zb0 zc0 rfl T.ae QB (za0 (zc4 P3 rfl) za1)) (zb0 zc0 rfl T.ae QB (za0 P7 za1)) (zc1 _))))) (za5 (zb7 zg8)) zb6)
     (za2 (zh7 PassesOwn.never rfl (zj9 rfl T.am (za0 (zb0 zc0 rfl T.ae QB (za0 P7 za1)) za1)) (zc5 (i:=9) zd5.nd rfl (Or.inl rfl)) (za5 (zc8 (zd4 (zd0 (za6 (zn5 T) E.m T.au zb3 (za0 (zc9 zd1 (zc4 P3 rfl) (pv 9) (fun _ _=>rfl)) (za0 (zc9 zd1 P7 (pv 9) (fun _ _=>rfl)) za1))))) (za5 (zb7 zg8)) zb6)))
     (za2 (zb4 (i:=10) zd5.nd rfl (Or.inr rfl) (zs8 rfl zv2 (zj2 (zc4 P3 rfl)) (fun _ _ _ _ _=>(zc5 (i:=0) zv2.nd rfl (Or.inl rfl))) (fun _ _ _ _ _=>zr5) (fun _ _ _ _ _=>(zc9 (zF2 K rfl) P0 za4 (fun _ _=>rfl)))))
     (za2 (zL3 (i:=11) rfl zv3 (zB1 rfl T.am (za0 za4 (za0 za4 za1))) (fun _ _ _ _ _=>(zc5 (i:=0) zv3.nd rfl (Or.inl rfl))) (fun _ _ _ _ _=>(zy6 (zc2 zy3 (yq3 K rfl QE PySem.F.slot_list_count PySem.F.type_list_count (zN4 K rfl) P1 (za0 P0 za1)) za4 (zc1 _)))) (fun _ _ _ _ _=>P0) zd5.nd rfl rfl)
     (za2 (zc8 (PW.pt (zl3 (zd4 (zd0 (zb0 zi6 rfl T.af QJ (za0 (zc4 P3 rfl) (za0 (zm3 (v:=.ty "list") rfl T.aD Zq rfl) za1))))) (zj1 (zd4 (zd0 (za6 (zv8 T) E.m T.aF zb3 (za0 (zc4 P3 rfl) (za0 P11 za1)))))))) (za5 (zb7 zg8)) zb6)
     (za5 (zb7 (za6 (zn5 T) E.m T.au zb3 (za0 (zc4 P3 rfl) (za0 P6 za1))))))))))))))))),?_⟩
   refine cut13 ?_;intro dt du dv dw e3 e4 e5 e6 e7 e8 e9 ea;have ok:=(let⟨_,h,_⟩:=S0;h:zg9 n aa hs ab);have hw:=ok.w;refine⟨_,rfl,_,rfl,c,a1,n,aa,ab,hs,a3,rfl,S0,Q,h1,fun f H1 s1 dn=>?_⟩;refine⟨_,rfl,_,rfl,_,rfl,_,rfl,c,a1,a2,u,n,aa,ab,hs,a3,a4,rfl,S0.same s1,Q,s1 _ _ h1,s1 _ _ h2,ak.same s1,fun H2 s2=>⟨_,rfl,iteF ?_⟩⟩;have ar:=s1.trans s2;obtain⟨TT,ca,ac,s⟩:=dn;have af:=s2 _ _ ca;obtain⟨bc,mn,bf,la,ag,sh,F,rs,G,as,Ls,N,zs,S,p1,p2,p3,eb,cb,p4,p5,p6,p7,q1,q2,q3,p8,p9,cd,bg⟩:=(ak.same ar).ev ok Q;have au:((kvT TT).map (·.1)).Nodup:=by rw[zh6];exact ac
   have vT:∀x∈TT.map (·.1),zc6 n aa hs.length x:=fun x l=>by
     obtain⟨e,H,rfl⟩:=QA.mp l;exact((s e.1 e.2).mp H).1.valid Q
   have ce:bc=decide (a4∈TT.map (·.1)):=by
     rcases bg with⟨e,d,q,_⟩ | ⟨e,bh,_⟩
     . rw[e,Qf (QA.mpr ⟨(a4,d),(s a4 d).mpr q,rfl⟩)]
     . rw[e,Qg]
       intro l;obtain⟨e,H,eg⟩:=QA.mp l;exact bh e.2 (eg▸(s e.1 e.2).mp H)
   clear ak;have bi:=ar _ _ h2;refine⟨_,rfl,u,_,F,_,_,rfl,p1,T.aa,T.ag,zh9 _ _ _ _ _ _,_,rfl,_,rfl,f,_,rfl,dget af bi,rfl,_,rfl,?_⟩;rw[zx4 au,zh6,<-ce,Qf rfl];refine iteF ?_;have cf:(a3,0)∈TT:=(s a3 0).mpr Dst.zero;have cg:(dOf (kvT TT)).map (·.2)=(TT.map fun e=>(e.2:Int)).map V.int:=by
     unfold dOf kvT;rw[ZC,ZC,ZC];rfl
   refine⟨_,rfl,.inr (.inr (.inl ⟨rfl,.inr ⟨_,af⟩⟩)),f,_,rfl,rfl,af,fun v H3 s3 hv=>?_⟩;have av:=s3 _ _ af;refine⟨v,f,_,_,rfl,hv,av,cg,by rw[Qb];exact List.length_pos_of_mem cf,fun eh ch ci=>?_⟩;obtain⟨eM,cj,rfl⟩:=QA.mp ch;have c3:∀e∈TT,e.2<=eM.2:=fun e H=>by
     have:=ci (e.2:Int) (QA.mpr ⟨e,H,rfl⟩);omega
   have kk:(dOf (kvT TT)).map (·.1)=(TT.map (·.1)).map ik:=by rw[zR2,zh6]
   have ck:(dOf (kvT TT)).length=TT.length:=by
     unfold dOf;rw[Qb,ya1]
   have bj:2<=(dOf (kvT TT)).length->∀k∈TT.map (·.1),k≠[]:=fun h2=>yr0 ac vT (by rw[Qb,<-ck];exact h2)
   refine⟨_,rfl,f,_,_,rfl,av,kk,ac,bj,fun ld zd am cl td pd sd=>?_⟩;have s4:Same H3 (upd H3 ld (.lst zd)):=Same.upd cl;have aw:(upd H3 ld (.lst zd)) ld=some (.lst zd):=za3;have ax:=s4.tups td;revert s4 aw ax;generalize upd H3 ld (.lst zd)=H4;intro s4 aw ax;have ay:am.length<=1000:=by
     have:=few ok ac vT;rw[<-pd.length_eq] at this;exact this
   have mD:∀x,x∈am↔∃d,Dst n aa hs ab a3 d x:=fun x=>by
     rw[pd.mem_iff];constructor
     . intro l
       obtain⟨e,H,rfl⟩:=QA.mp l;exact⟨e.2,(s _ _).mp H⟩
     . rintro⟨d,q⟩
       exact QA.mpr ⟨(x,d),(s x d).mpr q,rfl⟩
   have az:=s3.trans s4;replace p1:=az _ _ p1;have bl:=s4 _ _ av;have c4:=az _ _ bi;dsimp only[L2.start,List.map,List.length,List.replicate,List.append,List.set];refine use_fin5 (R:=?R) (S:=fun U sl b=>Same H4 b/\U+1=Ls.length/\∃zl a5,b sl=some (.lst zl)/\Tups b zl a5/\S=a5/\a5.length<=1000/\∀y∈a5,y.length<=5) (fun fin=>?main) ?fin
   case main =>
     refine⟨_,rfl,u,_,F,_,_,rfl,p1,T.aa,T.ag,zh9 _ _ _ _ _ _,_,rfl,?_⟩;rcases bg with⟨e,d,q,hl,b0⟩ | ⟨e,bh,c5,b0⟩
     . subst e
       refine iteT ?_;have gd:DGet H4 f (.ref a2) (some (.int (d:Int))):=by
         have:=dget bl c4;rw[zn1 au (zC3 (e:=(a4,d)) ((s a4 d).mpr q))] at this;exact this
       refine⟨_,rfl,_,rfl,f,_,rfl,gd,QD _,fun sl H5 s5 _ h5=>?_⟩;dsimp only[List.set];exact fin d sl H5 ⟨s5,hl.symm,[],[],h5,.nil,b0,QD _,fun _ z=>nomatch z⟩
     . subst e
       refine iteF ?_;refine fin eM.2 ld H4 ⟨Same.refl _,?_,zd,am,aw,ax,zI0 cd sd fun x=>by rw[b0,mD],ay,fun y hy=>?_⟩
       . have h1:=c5 eM.2 eM.1 ((s _ _).mp cj)
         rcases QW (eM.2+1) Ls.length with z | z
         . obtain⟨x,l⟩:=p7 _ z
           have:=c3 (x,eM.2+1) ((s _ _).mpr l);omega
         . omega
       . obtain⟨d,q⟩:=(mD y).mp hy
         have:=(q.1.valid Q).len;omega
   case fin =>
     rintro U sl H5 ⟨s5,bm,zl,a5,cm,TZ,cn,co,cp⟩;replace p1:=s5 _ _ p1;have cq:=s5 _ _ bl;have bn:=az.trans s5;have ed:Ls.length<=1000:=ym5 ok Q p6 p7;refine⟨_,rfl,_,_,rfl,rfl,_,rfl,by omega,by omega,fun B bo=>?_⟩;refine zp0 (fun i b=>X1 fun(g:List Addr)=>A6 (b B=some (.lst (g.map V.ref))) (Same H5 b) (g.length=i) (g.Nodup) (B∉g) (∀c∈g,H5 c=none/\b c=some (.lst []))) ⟨[],za3,Same.upd bo,rfl,.nil,by simp,fun _ z=>nomatch z⟩ ?_ ?_
     . rintro i b c2 hi ⟨g,bp,s',hl,nd,nm,C⟩ hN
       dsimp only[zy5];refine iteT ?_;refine⟨QD _,fun an ee b1 nl cr=>?_⟩;have c6:=b1 _ _ bp;have bq:an≠B:=fun z=>by rw[z,bp] at nl;cases nl
       have cs:an∉g:=fun z=>by rw[(C an z).2] at nl;cases nl
       refine⟨_,c6,zc3 (by rw[Qb];have:i<((U:Int)+1).toNat:=hi;omega),hN _ ⟨g++[an],by rw[za3,Qm];rfl,(s'.trans b1).put bo,by rw[Qq,hl];rfl,?_,?_,?_⟩⟩
       . exact List.nodup_append.mpr ⟨nd,by simp,fun x l y hy=>by rw[QM.mp hy];exact fun z=>cs (by rw[<-z];exact l)⟩
       . rw[Qt,not_or]
         exact⟨nm,by simpa using bq.symm⟩
       . intro c r
         rcases Qt.mp r with r | r
         . exact⟨(C c r).1,by rw[za7 (fun(z:c=B)=>nm (by rw[<-z];exact r))];exact b1 _ _ (C c r).2⟩
         . rw[QM.mp r]
           exact⟨s'.free nl,by rw[za7 bq];exact cr⟩
     rintro H6 ⟨g,ct,s6,ao,cu,br,a6⟩;have cv:((U:Int)+1).toNat=U+1:=by omega
     rw[cv] at ao;have cw:=bn.trans s6;have ah:=s6 _ _ cq;obtain⟨A,b2⟩:∃A:List Int->Nat,∀x d,(x,d)∈TT->A x=d:=⟨fun x=>Classical.epsilon fun d=>(x,d)∈TT,fun x d q=>((s _ _).mp (Classical.epsilon_spec (p:=fun d=>(x,d)∈TT) ⟨d,q⟩)).uniq ((s _ _).mp q)⟩;refine⟨_,rfl,f,_,_,rfl,ah,kk,ac,bj,fun O a7 W ap cx cy cz=>?_⟩;have d0:W=am:=zI0 cz sd fun x=>by rw[cy.mem_iff,pd.mem_iff]
     subst d0;have J:Same H6 (upd H6 O (.lst a7)):=Same.upd ap;have ai:(upd H6 O (.lst a7)) O=some (.lst a7):=za3;have aj:=J.tups cx;revert J ai aj;generalize upd H6 O (.lst a7)=H7;intro J ai aj;have l2:a7.length=W.length:=ze6 aj;have d1:O∉g:=fun z=>by rw[(a6 O z).2] at ap;cases ap
     have d2:=J _ _ ah;have d3:f∉g:=fun z=>by rw[(a6 f z).2] at ah;cases ah
     have bd:H7 B=some (.lst (g.map V.ref)):=J _ _ ct;have D0:Due g H7 H7 A []:=⟨fun _ _ e _=>e,fun j c e=>⟨[],J _ _ (a6 c (QG e)).2,.nil⟩⟩;have d4:∀ {xb:Addr} {us:List V},H7 xb=some (.tup us)->xb∉g:=fun e z=>by rw[J _ _ (a6 _ z).2] at e;cases e
     refine⟨O,rfl,⟨_,SqL.of ai⟩,zl4 (K:=K) (a:=O) (xs:=a7) (fun i Z b=>X1 fun X=>A2 (Z=[some (.ref c),some (.ref a1),some (.ref a2),some (.ref u),some (.ref f),some (.int (U:Int)),some (.ref sl),some (.ref B),X,none,none,none]) (Due g H7 b A (W.take i))) ⟨none,rfl,D0⟩ (fun i Z b _ ⟨_,_,I⟩=>SqL.of (I.out _ _ ai d1)) ?_ ?_⟩
     . rintro i v Z b hi ⟨X,rfl,I⟩
       obtain⟨xb,x,rfl,l,bt⟩:=zo8 aj hi;have a8:W.take (i+1)=W.take i++[x]:=by rw[QX,l];rfl
       rw[a8];have be:=I.out _ _ bt (d4 bt);have d5:=I.out _ _ d2 d3;obtain⟨b3,d6⟩:=(mD x).mp (QG l);have bu:=(s x b3).mpr d6;have d7:=b2 x b3 bu;have gd:DGet b f (.ref xb) (some (.int (A x:Int))):=by
         have:=dget d5 be;rw[zn1 au (zC3 (e:=(x,b3)) bu)] at this;rw[d7];exact this
       refine⟨_,rfl,_,rfl,f,_,rfl,gd,_,rfl,_,_,rfl,rfl,_,rfl,?_⟩;have c7:=I.out _ _ bd br;refine ite2 (fun b4=>?_) (fun b4=>?_)
       . have c8:A x<g.length:=by have:=QY b4;omega
         obtain⟨L,a9⟩:∃L,g[A x]?=some L:=⟨_,Qe c8⟩;obtain⟨ys,ad,b5⟩:=I.at_ _ _ a9;have d8:ys.length<=1000:=by
           rw[ze6 b5];exact QK (ZB _ _) (QK (by rw[Zb];exact Nat.min_le_right _ _) ay)
         refine⟨_,rfl,_,rfl,_,rfl,f,_,rfl,gd,B,_,_,.ref L,rfl,rfl,SqL.of c7,zo4 (by rw[QP,a9];rfl),.inl ⟨rfl,_,SqL.of ad⟩,_,rfl,L,_,_,rfl,rfl,ad,zc3 d8,?_⟩;exact⟨_,rfl,I.step cu be a9 ad⟩
       . have d9:g.length<=A x:=by have:¬ ((A x:Int)<=(U:Int)):=fun z=>b4 (Qf z);omega
         exact⟨_,rfl,I.skip d9⟩
     . rintro Z H8 ⟨X,rfl,I⟩
       rw[l2,QS] at I;have da:as.length=Ls.length:=Paired.length p5;have db:∀ {c:Addr} {o:HO},H2 c=some o->H8 c=some o:=fun {c o} e=>I.out _ _ (J _ _ (cw _ _ e)) fun z=>by
         have:=(a6 c z).1;rw[bn _ _ e] at this;cases this
       have D:Same H2 H8:=fun c o e=>db e
       have b6:∀ {c:Addr} {o:HO},H5 c=some o->H8 c=some o:=fun {c o} e=>I.out _ _ (J _ _ (s6 _ _ e)) fun z=>by
         have:=(a6 c z).1;rw[e] at this;cases this
       have ae:=b6 p1;have b7:=D _ _ p4;have aq:=I.out _ _ bd br;refine⟨_,rfl,u,_,F,_,_,rfl,ae,T.aa,T.aE,zK0 _ _ _ _ _ _,_,_,_,_,_,rfl,.ty _,.lst b7,rfl,_,rfl,iteF ?_⟩;refine⟨_,rfl,u,_,F,_,_,rfl,ae,T.aa,T.aE,zK0 _ _ _ _ _ _,la,_,rfl,.inl (SqL.of b7),_,rfl,B,_,rfl,.inl (SqL.of aq),rfl,_,rfl,iteB (by rw[Qb,Qb,da,ao,bm,Qf rfl];rfl) ?_⟩;refine⟨_,rfl,B,_,rfl,.inl (SqL.of aq),?_⟩;rw[Qb,ao,bm];have dc:=p5.keep D;have c9:=b6 cm;have dd:Tups H8 zl a5:=Paired.mapP TZ fun y x ⟨bc,e,hb⟩=>⟨bc,e,b6 hb⟩
       refine⟨_,rfl,by omega,by omega,zk0 (n:=((Ls.length:Nat):Int).toNat) (fun i Z b=>X2 fun X v9=>A2 (Z=[some (.ref c),some (.ref a1),some (.ref a2),some (.ref u),some (.ref f),some (.int (U:Int)),some (.ref sl),some (.ref B),X,v9,none,none]) (b=H8)) ⟨X,none,rfl,rfl⟩ ?_ ?_⟩
       . rintro j Z b hj ⟨X,v9,rfl,rfl⟩
         have de:j<Ls.length:=by simpa using hj
         have e0:(0:Int)+(j:Int)=(j:Int):=by omega
         obtain⟨x1,X1,z1,i1,j1,dg,t1⟩:=lay_get dc de;obtain⟨L,a9⟩:∃L,g[j]?=some L:=⟨_,Qe (by omega)⟩;obtain⟨ys,ad,b5⟩:=I.at_ _ _ a9;have eX:X1=atD A W j:=zI0 (p6.srt X1 (QG j1)) (sd.filter _) fun x=>by
           rw[p6.mem j X1 j1];unfold atD;rw[ZJ,mD];constructor
           . intro l
             exact⟨⟨j,l⟩,Qf (b2 x j ((s _ _).mpr l))⟩
           . rintro⟨⟨d,q⟩,H⟩
             have e1:=QY H;rw[b2 x d ((s _ _).mpr q)] at e1;exact e1▸q
         have hl:(atD A W j).length<=1000:=QK (ZB _ _) ay;refine⟨_,rfl,u,_,F,_,_,rfl,ae,T.aa,T.aE,zK0 _ _ _ _ _ _,_,rfl,la,_,_,_,rfl,rfl,SqL.of b7,(by rw[e0];exact zo4 i1),_,rfl,_,rfl,B,_,_,.ref L,rfl,rfl,SqL.of aq,(by rw[e0];exact zo4 (by rw[QP,a9];rfl)),?_⟩;refine⟨x1,L,z1,ys,X1,atD A W j,rfl,dg,t1,ad,b5,hl,fun y hy=>?_,_,rfl,?_⟩
         . obtain⟨d,q⟩:=(mD y).mp (ZJ.mp hy).1
           have:=(q.1.valid Q).len;omega
         rw[Qf eX];exact iteF ⟨_,_,rfl,rfl⟩
       rintro Z H9 ⟨X,v9,rfl,rfl⟩;have b8:=D _ _ p2;have dh:=p3.len;refine⟨_,rfl,u,_,F,_,_,rfl,ae,T.aa,T.ao,zE6 _ _ _ _ _ _,bf,rfl,⟨_,SqL.of b8⟩,fun Y b9=>?_⟩;refine zr6 (K:=K) (a:=bf) (xs:=rs.map V.ref) (fun j b=>b=upd H9 Y (.lst ((wsOf (G.take j)).map V.int))) rfl (fun j b e=>by rw[e];exact SqL.of (by rw[za7 (zb2 b8 b9)];exact b8)) ?_ ?_
       . rintro j v b c2 hj rfl hN
         have bv:j<rs.length:=by
           have:=(Qw.mp hj).1;simpa using this
         obtain rfl:v = .ref rs[j]:=by
           rw[QP,Qe bv] at hj;exact(Qo hj).symm
         obtain⟨m,dq,w',e1,e2⟩:=p3.at_ (Qe bv);have a8:G.take (j+1)=G.take j++[m]:=by rw[QX,e1];rfl
         have di:(upd H9 Y (.lst ((wsOf (G.take j)).map V.int))) rs[j]=some (.tup [.int ((m.1:Int)+1),dq,w']):=by rw[za7 (zb2 (D _ _ e2) b9)];exact D _ _ e2
         dsimp only[zy5];refine iteT ?_;refine⟨_,rfl,_,_,_,_,rfl,rfl,SqT.of di,rfl,_,za3,zc3 (by unfold wsOf;rw[Qb,Qb,Zb];omega),hN _ ?_⟩;rw[zg1,a8];unfold wsOf;rw[Qm,Qm];rfl
       rintro b rfl;rw[Qb,dh,QS];have s9:Same H9 (upd H9 Y (.lst ((wsOf G).map V.int))):=Same.upd b9;have h9:(upd H9 Y (.lst ((wsOf G).map V.int))) Y=some (.lst ((wsOf G).map V.int)):=za3;have ba:∀k∈wsOf G,1<=k/\k<=5:=fun k hk=>by
         unfold wsOf at hk;obtain⟨m,hm,rfl⟩:=QA.mp hk;have:=cb m hm;omega
       generalize wsOf G=M at s9 h9 ba q3 ⊢;revert s9 h9;generalize upd H9 Y (.lst (M.map V.int))=HA;intro s9 h9;refine⟨_,_,rfl,⟨by decide,by decide,by decide,by decide⟩,fun C bw=>?_⟩;refine zp0 (fun i b=>b=upd HA C (.lst ((((List.range i).map fun(k:Nat)=>(1:Int)+(k:Int)).filter fun k=>decide (1<M.count k)).map V.int))) rfl ?_ ?_
       . rintro i b c2 hi rfl hN
         have a8:(List.range (i+1)).map (fun(k:Nat)=>(1:Int)+(k:Int))=(List.range i).map (fun(k:Nat)=>(1:Int)+(k:Int))++[(1:Int)+(i:Int)]:=by rw[List.range_succ,Qm];rfl
         have bx:(upd HA C (.lst ((((List.range i).map fun(k:Nat)=>(1:Int)+(k:Int)).filter fun k=>decide (1<M.count k)).map V.int))) Y=some (.lst (M.map V.int)):=by rw[za7 (zb2 h9 bw)];exact h9
         refine⟨_,rfl,.inl ⟨rfl,_,SqL.of bx⟩,_,rfl,Y,M,(1:Int)+(i:Int),rfl,rfl,SqL.of bx,_,_,rfl,rfl,_,rfl,?_⟩;have ec:decide ((1:Int)<(M.count ((1:Int)+(i:Int)):Int))=decide (1<M.count ((1:Int)+(i:Int))):=by
           by_cases h:1<M.count ((1:Int)+(i:Int))
           . rw[Qf h,Qf (by omega)]
           . rw[Qg h,Qg (by omega)]
         rw[ec];refine ite2 (fun r=>?_) (fun r=>?_)
         . refine⟨_,rfl,_,za3,zc3 (by rw[Qb];exact QK (ZB _ _) (by rw[Qb,List.length_range];have:i<5:=hi;omega)),hN _ ?_⟩
           rw[zg1,a8,ZD,Qm];simp[r]
         . refine hN _ ?_
           rw[a8,ZD,Qm];simp[r]
       rintro b rfl;have bz:N=((List.range 5).map fun(k:Nat)=>(1:Int)+(k:Int)).filter fun k=>decide (1<M.count k):=ym6 q2 (List.Pairwise.filter _ (by decide)) fun k=>by
         rw[q3,ZJ,decide_eq_true_eq];constructor
         . rintro⟨hk,r⟩
           refine⟨QA.mpr ⟨(k-1).toNat,List.mem_range.mpr ?_,?_⟩,r⟩
           . have:=ba k hk;omega
           . have:=ba k hk;omega
         . rintro⟨_,r⟩
           exact⟨List.count_pos_iff.mp (by omega),r⟩
       rw[show((6:Int)-1).toNat=5 from rfl,<-bz];have sB:Same HA (upd HA C (.lst (N.map V.int))):=Same.upd bw;have hB:(upd HA C (.lst (N.map V.int))) C=some (.lst (N.map V.int)):=za3;revert sB hB;generalize upd HA C (.lst (N.map V.int))=HB;intro sB hB;have a0:Same H9 HB:=s9.trans sB;have c0:=a0 _ _ (D _ _ q1);have bb:=a0 _ _ ae;have dy:N.length<=5:=by rw[bz];exact QK (ZB _ _) (by simp)
       refine⟨_,rfl,u,_,F,_,_,rfl,bb,T.aa,T.aP,ye6 _ _ _ _ _ _,_,_,_,_,_,rfl,.ty _,.lst c0,rfl,_,rfl,iteF ?_⟩;refine⟨_,rfl,u,_,F,_,_,rfl,bb,T.aa,T.aP,ye6 _ _ _ _ _ _,_,rfl,ag,C,N,N,rfl,.inl (SqL.of c0),.inl (SqL.of hB),by omega,?_⟩;rw[Qf rfl];refine⟨_,rfl,iteF ?_⟩;refine⟨_,rfl,u,_,F,_,_,rfl,bb,T.aa,T.aU,ym0 _ _ _ _ _ _,_,rfl,sh,sl,zs,zl,S,a5,rfl,a0 _ _ (D _ _ p8),(D.trans a0).tups p9,a0 _ _ c9,a0.tups dd,co,fun y hy=>QK (cp y hy) (by decide),?_⟩;rw[Qf cn];exact c1 _ (ar.trans (D.trans a0))
end
section
variable {P:Program} {w:World} {K:W.Frag} {mg:Str->Option Value} {base:Heap} {t:Adr}
noncomputable def Ch (n r:Int)(hs:List Int)(lim:Int)(s:List Int):List (List Int×Nat×Int)->List Int->Prop
 | [],c=>c=s
 | e::es,c=>c=e.1.set e.2.1 e.2.2/\Lets n r hs lim e.1 e.2.1 e.2.2/\Ch n r hs lim s es e.1
noncomputable def rowE (e:List Int×Nat×Int):List Int:=[(e.2.1:Int)+1,e.1.getD e.2.1 0,e.2.2]
noncomputable def zn6 (es:List (List Int×Nat×Int)):List (List Int):=(es.map rowE).reverse
theorem zx7 (e:List Int×Nat×Int)(es:List (List Int×Nat×Int)):zn6 (e::es)=zn6 es++[rowE e]:=by unfold zn6;rw[QL,List.reverse_cons]
theorem zC5 (es:List (List Int×Nat×Int)):(zn6 es).length=es.length:=by unfold zn6;rw[List.length_reverse,Qb]
theorem rowsE_mem {es:List (List Int×Nat×Int)}:∀y∈zn6 es,y.length<=1000:=fun y a=>by
 unfold zn6 at a;obtain⟨e,_,rfl⟩:=QA.mp (List.mem_reverse.mp a);show 3<=1000;decide
theorem Ch.valid {n r:Int}{hs:List Int}{lim:Int}{s:List Int}{w:Nat}(a:zc6 n r w s):∀ {b:List (List Int×Nat×Int)} {c:List Int},Ch n r hs lim s b c->zc6 n r w c
 | [],c,h=>by obtain rfl:c=s:=h;exact a
 | e::b,c,h=>by rw[h.1];exact h.2.1.valid (Ch.valid a h.2.2)
theorem set_bk {x:List Int}{i:Nat}{q:Int}(a:i<x.length):(x.set i q).set i (x.getD i 0)=x:=by
 rw[List.set_set,Qy,Qe a,Option.getD_some,List.set_getElem_self]
theorem zg3.updL {t:Adr}{H:Hp}{p b s x m l:Addr}{n r lim:Int}{hs a c:List Int}{ys:List V}{g:List (List Int)}{vs:List V}{o:HO}(P:zg3 t H p b s x m n r hs lim a c ys g)(h:H l=some (.lst vs))(i:l≠m):zg3 t (upd H l o) p b s x m n r hs lim a c ys g:=by
 obtain⟨ok,d,j,q,u⟩:=P.bm;have k:∀ {c:Addr} {f:HO},H c=some f->(∀vs,f≠.lst vs)->upd H l o c=some f:=fun e v=>by
   rw[za7 (fun z=>by rw[z,h] at e;injection e with e;exact v _ e.symm)];exact e
 exact⟨⟨ok,d,j,k q (fun _ z=>nomatch z),k u (fun _ z=>nomatch z)⟩,P.nb,let⟨d,z⟩:=P.hp;⟨d,k z (fun _ z=>nomatch z)⟩,k P.hs (fun _ z=>nomatch z),k P.hx (fun _ z=>nomatch z),by rw[za7 i.symm];exact P.hm,zk7 h (fun _ z=>nomatch z) P.tm⟩
theorem cut_map (xs:List Int)(lo a:Option Int):∃b:List Int,cutV (xs.map V.int) lo a=b.map V.int/\b.length<=xs.length:=by
 unfold cutV;refine⟨(xs.drop (HT.sIx (xs.map V.int).length 0 lo)).take (HT.sIx (xs.map V.int).length (xs.map V.int).length a-HT.sIx (xs.map V.int).length 0 lo),by rw[List.map_take,List.map_drop],?_⟩;rw[Zb,List.length_drop];omega
theorem zX0 {H:Hp}{ys:List V}{c:List (List Int)}{k:List Int}(h:Tups H ys (c++[k])):∃d b,ys=d++[.ref b]/\Tups H d c/\H b=some (.tup (k.map V.int)):=by
 induction c generalizing ys with
 | nil =>
   cases h with
   | cons a t =>
     obtain⟨b,e,f⟩:=a;cases t;exact⟨[],b,by rw[e];rfl,.nil,f⟩
 | cons l c g =>
   cases h with
   | cons a t =>
     obtain⟨d,b,e,i,j⟩:=g t;exact⟨_::d,b,by rw[e];rfl,.cons a i,j⟩
inductive zA9 (K:W.Frag)(t:Adr)(vs:List V)(H:Hp)(Q:VK)(E:XK):Prop
 | mk (c f1 f2 l:Addr)(n r lim:Int)(hs s g:List Int)(h0:vs=[.ref c,.ref f1,.ref f2,.ref l])(h1:zi3 K H c n r hs lim)(h2:zc6 n r hs.length s)(h3:zc6 n r hs.length g)(h4:H f1=some (.tup (s.map V.int)))(h5:H f2=some (.tup (g.map V.int)))(h6:zs5 t H l n r hs s g)(h7:∀H',Same H H'->Q (.bl true) H'):zA9 K t vs H Q E
def sp_w_exact_low (K:W.Frag)(t:Adr):Sp:=fun vs H Q E=>zA9 K t vs H Q E
theorem ok_w_exact_low (T:Txt K mg t):FnOk P w K mg base CX0 5 t.aU t.aV Pi (sp_w_exact_low K t):=by
 refine T.bd.F.ok zs0 (fun vs ak al am h=>?_) (fun au b5 ar s ak vs al am b h=>?_)
 . obtain⟨c,y,I,l,n,r,E,a,s,g,rfl,A,m,Y,J,u,M,q⟩:=h
   rfl
 . obtain⟨c,y,I,l,n,r,E,a,s,g,rfl,A,m,Y,J,u,M,q⟩:=h
   refine⟨_,(za2 (zb4 (i:=4) zs0.nd rfl (Or.inl rfl) (zb0 (zu2 rfl) rfl T.a2 ZM (za0 (zb0 zh3 rfl T.ar QT (za0 (za6 (zr2 T) b.m T.az zb3 (za0 (zc9 zd1 P0 za4 (fun _ _=>rfl)) (za0 P1 za1))) za1)) (za0 (zb0 zh3 rfl T.ar QT (za0 (za6 (zr2 T) b.m T.az zb3 (za0 (zc9 zd1 P0 za4 (fun _ _=>rfl)) (za0 P2 za1))) za1)) za1))))
     (za2 (zc8 (PW.pt (zl3 (zd4 (zd0 (za6 (ok_w_low T) b.m T.bT zb3 (za0 P0 (za0 P1 (za0 P2 (za0 P3 za1))))))) (zj1 (zc2 zM6 (zc4 P3 rfl) (pv 4) (zc1 _))))) (za5 (zb7 zg8)) zb6)
     (za2 (zc8 (zc2 zn7 (zb0 zc0 rfl T.ae QB (za0 (zc4 P3 rfl) za1)) (zo6 (zi0 b) (za6 (zA6 T) b.m T.aJ zb3 (za0 (za6 (zK2 T) b.m T.aY zb3 (za0 P0 (za0 (zc4 P3 rfl) za1))) (za0 P1 za1))) P2 (fun _ _=>rfl)) (zc1 _)) (za5 (zb7 zg8)) zb6)
     (za2 (zc8 (zc2 zi9 (zc4 P3 rfl) (pv 4) (zc1 _)) (za5 (zb7 (zg7 (yf8 (ZI (zi0 b))) (zc4 P3 rfl) (zw5 za1) (zc1 _)))) zb6)
     (za2 (zb4 (i:=5) zs0.nd rfl (Or.inl rfl) (za6 (zA6 T) b.m T.aJ zb3 (za0 (za6 (zK2 T) b.m T.aY zb3 (za0 P0 (za0 (zb9 zg4 (zc4 P3 rfl) za4) za1))) (za0 P1 za1))))
     (za5 (zb7 (zD6 (ym8 (zq8 (zi0 b) P2 (pv 5))) (zy2 (za6 (zn5 T) b.m T.au zb3 (za0 (zc4 P3 rfl) (za0 (zb0 (zw4 rfl) rfl T.aH ZH (za0 (pv 5) za1)) za1)))))))))))),?_⟩
   refine cut6 ?_;intro av aw ax ay az;obtain⟨h,ok,Z,hh⟩:=id A;have hw:=ok.w;have l1:=m.len;have l2:=Y.len;refine⟨_,rfl,c,_,_,_,rfl,rfl,Z,rfl,_,rfl,h,y,a,s,rfl,hh,.inr (SqT.of J),⟨l1.symm,by omega,ok.h⟩,_,rfl,_,rfl,c,_,_,_,rfl,rfl,Z,rfl,_,rfl,h,I,a,g,rfl,hh,.inr (SqT.of u),⟨l2.symm,by omega,ok.h⟩,_,rfl,_,_,rfl,?_⟩;have aa:(if (if zb5 a g<0 then -zb5 a g else zb5 a g)>(if zb5 a s<0 then -zb5 a s else zb5 a s) then(if zb5 a g<0 then -zb5 a g else zb5 a g) else(if zb5 a s<0 then -zb5 a s else zb5 a s))=zn4 a s g:=rfl;rw[aa];have b0:=ym4 a s g;refine⟨_,rfl,_,rfl,_,rfl,_,rfl,c,y,I,l,n,r,E,a,s,g,rfl,A,m,J,u,M,fun H1 o=>⟨_,rfl,iteF ?_⟩⟩;obtain⟨L,p,ab,sh,d,rs,ms,zs,an,N,a2,a3,a4,a5,a6,a7,a8,a9,V,W,ac,ad⟩:=M.same o;clear M;have b1:=o _ _ J;have b2:=o _ _ u;refine⟨_,rfl,l,_,p,_,_,rfl,N,T.aj,T.ak,zp8 _ _ _,_,rfl,_,_,rfl,rfl,_,rfl,iteB (Qg (by omega)) ?_⟩;refine⟨_,rfl,l,_,p,_,_,rfl,N,T.aj,T.aQ,yr1 _ _ _,ab,_,rfl,.inl (SqL.of a5),?_⟩;rw[Qb,a6.len,a8];refine⟨_,rfl,_,rfl,l,_,p,_,_,rfl,N,T.aj,T.ak,zp8 _ _ _,c,n,r,E,L,a,rfl,A.same o,by omega,a3,fun c2 H2 s2 S2=>?_⟩;have b3:=S2;refine⟨_,rfl,c2,y,n,r,L,a,s,rfl,S2,m,s2 _ _ b1,fun a0 H3 s3 F=>?_⟩;have j:=s2.trans s3;have c1:=j _ _ b1;have X:=j _ _ b2;have G:=j _ _ N;obtain⟨TT,v,k,f⟩:=F;have H:((kvT TT).map (·.1)).Nodup:=by rw[zh6];exact k
   have gd:DGet H3 a0 (.ref I) (some (.int (d:Int))):=by
     have:=dget v X;rw[zn1 H (zC3 (e:=(g,d)) ((f g d).mpr a4))] at this;exact this
   refine⟨_,rfl,a0,_,rfl,gd,rfl,_,rfl,iteB (by rw[Qf rfl];rfl) ?_⟩;clear gd H f k v;refine⟨_,rfl,l,_,p,_,_,rfl,G,T.aj,T.ak,zp8 _ _ _,_,rfl,rfl,_,rfl,?_⟩;rcases ad with⟨e,eS⟩ | ⟨b4,ao⟩
   . refine ite2 (fun _=>?_) (fun z=>absurd (Qf (by rw[e])) z)
     subst eS;obtain rfl:zs=[]:=QC (ze6 W);refine⟨_,rfl,l,_,p,_,_,rfl,G,T.aj,T.aL,ym3 _ _ _,QD _,fun l5 S O f5 h5=>?_⟩;exact⟨sh,l5,[],rfl,rfl,SqL.of (O _ _ (j _ _ V)),SqL.of h5,q _ (o.trans (j.trans O))⟩
   . refine ite2 (fun z=>by exfalso;have:=QY z;injection this;omega) (fun _=>?_)
     refine⟨_,rfl,_,rfl,l,_,p,_,_,rfl,G,T.aj,T.ak,zp8 _ _ _,_,_,rfl,rfl,c,n,r,E,L-1,a,rfl,A.same (o.trans j),by omega,by omega,fun c3 H4 s4 S4=>?_⟩;have ae:=(let⟨_,h,_⟩:=S4;h:zg9 n r a (L-1));refine⟨_,rfl,c3,y,n,r,L-1,a,s,rfl,S4,m,s4 _ _ c1,fun f' S O F=>?_⟩;have Q:=s4.trans O;obtain⟨TT,v,k,f⟩:=F;have H:((kvT TT).map (·.1)).Nodup:=by rw[zh6];exact k
     have vT:∀x∈TT.map (·.1),zc6 n r a.length x:=fun x B=>by
       obtain⟨e,C,rfl⟩:=QA.mp B;exact((f e.1 e.2).mp C).1.valid m
     have af:g∉TT.map (·.1):=fun B=>by
       obtain⟨e,C,eg⟩:=QA.mp B;exact a9 (L-1) (by omega) (by omega) e.2 (eg▸(f e.1 e.2).mp C)
     have kk:(dOf (kvT TT)).map (·.1)=(TT.map (·.1)).map ik:=by rw[zR2,zh6]
     have ag:(dOf (kvT TT)).length=TT.length:=by
       unfold dOf;rw[Qb,ya1]
     have ah:2<=(dOf (kvT TT)).length->∀ap∈TT.map (·.1),ap≠[]:=fun u=>yr0 k vT (by rw[Qb,<-ag];exact u)
     refine⟨_,rfl,_,rfl,f',_,rfl,dget v (Q _ _ X),?_⟩;rw[zx4 H,zh6,Qg af];refine⟨_,rfl,iteT ?_⟩;refine⟨_,rfl,l,_,p,_,_,rfl,Q _ _ G,T.aj,T.aL,ym3 _ _ _,_,rfl,f',_,_,rfl,v,kk,k,ah,fun ld zd D ai td pd sd=>?_⟩;have s6:Same S (upd S ld (.lst zd)):=Same.upd ai;have R:=j.trans (Q.trans s6);have mD:∀x,x∈D↔∃d,Dst n r a (L-1) s d x:=fun x=>by
       rw[pd.mem_iff];constructor
       . intro B
         obtain⟨e,C,rfl⟩:=QA.mp B;exact⟨e.2,(f _ _).mp C⟩
       . rintro⟨d,U⟩
         exact QA.mpr ⟨(x,d),(f x d).mpr U,rfl⟩
     have aj:D.length<=1000:=by
       have:=few ae k vT;rw[<-pd.length_eq] at this;exact this
     refine⟨sh,ld,zs,zd,an,D,rfl,R _ _ V,R.tups W,za3,s6.tups td,aj,fun aq hy=>?_,?_⟩
     . obtain⟨d,U⟩:=(mD aq).mp hy
       have:=(U.1.valid m).len;omega
     rw[Qf (zI0 ac sd fun x=>by rw[ao x,mD])];exact q _ (o.trans R)
inductive zX1 (K:W.Frag)(t:Adr)(vs:List V)(H:Hp)(Q:VK)(E:XK):Prop
 | mk (p b s x m g:Addr) (n r lim:Int) (hs a c gl:List Int) (ys:List V) (ms:List (List Int)) (h0:vs=[.ref p,.ref g]) (h1:zg3 t H p b s x m n r hs lim a c ys ms) (h2:zc6 n r hs.length c) (h3:zc6 n r hs.length gl) (h4:(SqL K H g (gl.map V.int)\/H g=some (.tup (gl.map V.int)))) (h5:absI (zb5 hs c)<=lim) (h6:absI (zb5 hs gl)<=lim) (h7:((∀d,¬ Dst n r hs lim c d gl)->∀H',Same H H'->Q (.str "no way") H')) (h8:(Dst n r hs lim c 0 gl->∀H',Same H H'->Q .non H')) (h9:(∀d m ms a H',Same H H'->Dst n r hs lim c (d+1) gl->zs1 H' c a m->Goes n r hs lim c (m::ms) gl->ms.length=d->Q (.ref a) H')):zX1 K t vs H Q E
def sp_w_next (K:W.Frag)(t:Adr):Sp:=fun vs H Q E=>zX1 K t vs H Q E
theorem ok_w_next (T:Txt K mg t):FnOk P w K mg base CX0 12 t.bZ t.b0 PH (sp_w_next K t):=by
 refine T.bN.F.ok sc_w_next (fun I H Q E h=>?_) (fun U A S s H I Q E J h=>?_)
 . obtain⟨p,b,s,x,m,g,n,r,f,j,a,c,k,q,u,rfl,l,v,y,z,B,C,D,F,G⟩:=h
   rfl
 . obtain⟨p,b,s,x,m,g,n,r,f,j,a,c,k,q,u,rfl,l,v,y,z,B,C,D,F,G⟩:=h
   refine⟨_,(za5 (ps_try (E:=fun o _ e=>o = .ref t.ad/\(∀d,¬ Dst n r j f c d k)/\Same H e) ⟨rfl,rfl⟩ T.bw rfl T.bY (fun _=>(za5 (zb7 (zL2 P0 T.ab T.bD (ok_Play_next_move T) J.m T.aW.b .nil passes_try (za0 P1 za1))))) (fun _=>(za5 (zb7 zX5))))),?_⟩;obtain⟨L,M⟩:=l.hp;exact⟨⟨_,rfl,p,L,_,rfl,M,pf_next _ _ _ _,_,rfl,p,b,s,x,m,g,n,r,f,j,a,c,k,q,u,rfl,l,v,y,z,B,C,fun i e N=>⟨rfl,i,N⟩,F,G⟩,fun V o e ⟨O,i,R⟩=>⟨O,D i e R⟩⟩
inductive zR8 (K:W.Frag)(t:Adr)(vs:List V)(H:Hp)(Q:VK)(E:XK):Prop
 | mk (p k nw f2 fr b s0 x m:Addr)(n r lim:Int)(hs a c g:List Int)(ys:List V)(ms:List (List Int))(h0:vs=[.ref p,.ref k,.ref nw,.ref f2,.ref fr])(h1:zi3 K H k n r hs lim)(h2:zg3 t H p b s0 x m n r hs lim a c ys ms)(h3:zc6 n r hs.length c)(h4:zc6 n r hs.length g)(h5:H nw=some (.tup (c.map V.int)))(h6:H f2=some (.tup (g.map V.int)))(h7:zR7 H fr n r hs lim g)(h8:absI (zb5 hs c)<=lim)(h9:absI (zb5 hs g)<=lim)(h10:∀H',Same H H'->Q (.bl true) H'):zR8 K t vs H Q E
def sp_w_asked (K:W.Frag)(t:Adr):Sp:=fun vs H Q E=>zR8 K t vs H Q E
theorem zR9 (T:Txt K mg t):FnOk P w K mg base CX0 13 t.br t.bs Vk (sp_w_asked K t):=by
 refine T.a7.F.ok zx2 (fun vs ad ae af h=>?_) (fun ah au ag av ad vs ae af j h=>?_)
 . obtain⟨p,k,D,o,A,b,Q,x,m,n,r,v,B,a,c,g,R,S,rfl,I,J,s,E,l,f,a3,L,U,q⟩:=h
   rfl
 . obtain⟨p,k,D,o,A,b,Q,x,m,n,r,v,B,a,c,g,R,S,rfl,I,J,s,E,l,f,a3,L,U,q⟩:=h
   refine⟨_,(za2 (zb4 (i:=5) zx2.nd rfl (Or.inl rfl) (zi5 (call_list_ofS K rfl) rfl T.aD Zq (za0 P3 za1)))
     (za2 (zc8 (PW.pt (zl3 (zd4 (zd0 (za6 (ok_w_exact_way T) j.m T.bc zb3 (za0 P1 (za0 P2 (za0 P3 (za0 (zL2 P0 T.ab T.bX (ok_Play_fewest T) j.m T.bb.b .nil zb3 (za0 (pv 5) za1)) za1))))))) (zj1 (zd4 (zd0 (za6 (zv8 T) j.m T.aF zb3 (za0 (pv 5) (za0 P3 za1)))))))) (za5 (zb7 zg8)) zb6)
     (za2 (zc8 (zd4 (zd0 (za6 (ok_w_exact_low T) j.m T.bd zb3 (za0 P1 (za0 P2 (za0 P3 (za0 (zL2 P0 T.ab T.b3 (ok_Play_least T) j.m T.bj.b .nil zb3 (za0 P3 za1)) za1))))))) (za5 (zb7 zg8)) zb6)
     (za2 (zb4 (i:=6) zx2.nd rfl (Or.inl rfl) (za6 (ok_w_next T) j.m T.bN zb3 (za0 P0 (za0 (pv 5) za1))))
     (za2 (zc8 (zd4 (zd0 (za6 (zv8 T) j.m T.aF zb3 (za0 (pv 5) (za0 P3 za1))))) (za5 (zb7 zg8)) zb6)
     (za2 (zc8 (zM4 (zq8 (zi0 j) P2 (pv 4))) (za5 (zb7 (zg7 zi9 P6 zX5 (zc1 _)))) zb6)
     (za2 (zc8 (zc2 (yf9 (ZI (zi0 j))) P2 P3 (zc1 _)) (za5 (zb7 (zg7 yn8 P6 zr3 (zc1 _)))) zb6)
     (za2 (zb4 (i:=7) zx2.nd rfl (Or.inl rfl) (za6 (zK1 T) j.m T.aX zb3 (za0 P1 (za0 P2 (za0 (zw5 (za0 P6 za1)) za1)))))
     (za5 (zb7 (zD6 (zg7 zX8 P7 zr3 (zc1 _)) (zy2 (zg7 zi9 (zo6 (zi0 j) (pv 4) P7 (fun _ _=>rfl)) (zb9 zg4 (zo6 (zi0 j) (pv 4) P2 (fun _ _=>rfl)) za4) (zc1 _)))))))))))))),?_⟩
   refine cut9 ?_;intro ai aj ak al am an ao ap;obtain⟨dx,hp⟩:=J.hp;have ok:=(let⟨_,h,_⟩:=I;h:zg9 n r B v);have hw:=ok.w;have l1:=s.len;have l2:=E.len;refine⟨_,rfl,o,_,rfl,.inr (SqT.of f),fun G H5 W f5 u=>?_⟩;refine⟨_,rfl,_,rfl,_,rfl,_,rfl,p,dx,_,rfl,W _ _ hp,pf_fewest _ _ _ _,_,rfl,p,b,Q,x,m,G,n,r,v,B,a,c,g,R,S,rfl,J.same W,s,E,.inl (SqL.of u),L,U,fun wy H6 s6 a4=>?_⟩;have X:=W.trans s6;refine⟨k,D,o,wy,n,r,v,B,c,g,rfl,I.same X,s,X _ _ l,X _ _ f,a4,fun H7 s7=>⟨_,rfl,iteF ?_⟩⟩;have a1:=s6.trans s7;have F:=W.trans a1;replace u:=a1 _ _ u;refine⟨_,rfl,_,rfl,G,o,g,g,rfl,.inl (SqL.of u),.inr (SqT.of (F _ _ f)),by omega,?_⟩;rw[Qf rfl];refine⟨_,rfl,iteF ?_⟩;refine⟨_,rfl,_,rfl,_,rfl,_,rfl,p,dx,_,rfl,F _ _ hp,pf_least _ _ _ _,_,rfl,p,b,Q,x,m,o,n,r,v,B,a,c,g,R,S,rfl,J.same F,s,E,.inr (F _ _ f),fun lo H8 s8 Lr=>?_⟩;have Y:=F.trans s8;refine⟨k,D,o,lo,n,r,v,B,c,g,rfl,I.same Y,s,E,Y _ _ l,Y _ _ f,Lr,fun H9 s9=>⟨_,rfl,iteF ?_⟩⟩;have a2:=s8.trans s9;have y:=F.trans a2;replace u:=a2 _ _ u;clear a4 Lr;obtain⟨TT,C,a6,N⟩:=a3;have H:((kvT TT).map (·.1)).Nodup:=by rw[zh6];exact a6
   have P9:=J.same y;replace l:=y _ _ l;replace f:=y _ _ f;replace C:=y _ _ C;have S9:=I.same y;refine⟨_,rfl,_,rfl,p,b,Q,x,m,G,n,r,v,B,a,c,g,R,S,rfl,P9,s,E,.inl (SqL.of u),L,U,fun a7 HA e=>?_,fun M HA e=>?_,fun d m' aq a' HA e M a5 hG a8=>?_⟩
   . refine⟨_,rfl,_,rfl,G,o,g,g,rfl,.inl (SqL.of (e _ _ u)),.inr (SqT.of (e _ _ f)),by omega,?_⟩
     rw[Qf rfl];refine⟨_,rfl,iteF ?_⟩;refine⟨_,rfl,_,rfl,A,_,rfl,dget (e _ _ C) (e _ _ l),?_⟩;rw[zx4 H,zh6,Qg (fun hx=>by
       obtain⟨a0,he,eg⟩:=QA.mp hx;exact a7 a0.2 ((((N a0.1 a0.2).mp he).rev E U) |> fun z=>eg▸z))]
     refine⟨_,rfl,iteT ?_⟩;exact⟨_,rfl,rfl,q _ (y.trans e)⟩
   . refine⟨_,rfl,_,rfl,G,o,g,g,rfl,.inl (SqL.of (e _ _ u)),.inr (SqT.of (e _ _ f)),by omega,?_⟩
     rw[Qf rfl];refine⟨_,rfl,iteF ?_⟩;refine⟨_,rfl,_,rfl,A,_,rfl,dget (e _ _ C) (e _ _ l),?_⟩;obtain rfl:c=g:=by obtain⟨w0,_⟩:=M;cases w0;rfl
     rw[zx4 H,zh6,Qf (QA.mpr ⟨(c,0),(N c 0).mpr Dst.zero,rfl⟩)];refine⟨_,rfl,iteF ?_⟩;refine⟨_,rfl,_,rfl,D,o,_,_,rfl,rfl,SqT.of (e _ _ l),SqT.of (e _ _ f),zC4,?_⟩;rw[Qf rfl];refine⟨_,rfl,iteT ?_⟩;refine⟨_,rfl,rfl,?_⟩;rw[Qf rfl];exact q _ (y.trans e)
   . refine⟨_,rfl,_,rfl,G,o,g,g,rfl,.inl (SqL.of (e _ _ u)),.inr (SqT.of (e _ _ f)),by omega,?_⟩
     rw[Qf rfl];refine⟨_,rfl,iteF ?_⟩;refine⟨_,rfl,_,rfl,A,_,rfl,dget (e _ _ C) (e _ _ l),?_⟩;have mc:=(N c (d+1)).mpr (M.rev s L);have mb:=(N _ d).mpr (M.step s L hG a8);have a9:c≠g:=fun z=>by
       subst z;have:=M.uniq Dst.zero;omega
     rw[zx4 H,zh6,Qf (QA.mpr ⟨(c,d+1),mc,rfl⟩)];refine⟨_,rfl,iteF ?_⟩;refine⟨_,rfl,_,rfl,D,o,_,_,rfl,rfl,SqT.of (e _ _ l),SqT.of (e _ _ f),zC4,?_⟩;refine⟨_,rfl,iteB (Qg fun z=>a9 ((List.map_inj_right fun x aw h=>V.int.inj h).mp z)) ?_⟩;refine⟨_,rfl,_,rfl,_,rfl,(by show 1<=sizeLine;decide),fun aa HB sB ar ab=>?_⟩;have Z:=e.trans sB;refine⟨k,D,aa,n,r,v,B,c,c.set m'.1 m'.2,[a'],[m'],rfl,S9.same Z,s,Z _ _ l,ab,⟨sB _ _ a5,trivial⟩,⟨hG.1,rfl⟩,fun nb HC sC ac=>?_⟩;have O:=Z.trans sC;refine⟨_,rfl,rfl,?_⟩;rw[Qg fun z=>nomatch z];have g1:DGet HC A (.ref nb) (some (.int (d:Int))):=by
       have:=dget (O _ _ C) ac;rw[zn1 H (zC3 mb)] at this;exact this
     have g2:DGet HC A (.ref D) (some (.int ((d+1:Nat):Int))):=by
       have:=dget (O _ _ C) (O _ _ l);rw[zn1 H (zC3 mc)] at this;exact this
     refine⟨_,rfl,iteT ⟨_,rfl,_,rfl,A,_,rfl,g1,_,rfl,_,rfl,A,_,rfl,g2,_,_,rfl,rfl,rfl,?_⟩⟩;rw[show(((d+1:Nat):Int)-1)=(d:Int) from by omega,Qf rfl];exact q _ (y.trans O)
structure DI (t:Adr)(H:Hp)(p b s0 x m md:Addr)(n r lim:Int)(hs s c:List Int)(ys yd:List V)(es:List (List Int×Nat×Int)):Prop where
 pl:zg3 t H p b s0 x m n r hs lim s c ys (zn6 es)
 hmd:H md=some (.lst yd)
 td:Tups H yd (zn6 es)
 ch:Ch n r hs lim s es c
theorem DI.same {t:Adr}{H H':Hp}{p b a x m d:Addr}{n r lim:Int}{hs s c:List Int}{ys f:List V}{es:List (List Int×Nat×Int)}(I:DI t H p b a x m d n r lim hs s c ys f es)(e:Same H H'):DI t H' p b a x m d n r lim hs s c ys f es:=⟨I.pl.same e,e _ _ I.hmd,e.tups I.td,I.ch⟩
def zX2 (p m d:Addr)(H H':Hp):Prop:=∀b o,H b=some o->b≠p->b≠m->b≠d->H' b=some o
theorem zX2.after {p m d:Addr}{H a c:Hp}(s:zX2 p m d H a)(s':Same a c):zX2 p m d H c:=fun b o e f g h=>s' b o (s b o e f g h)
theorem DI.step {t:Adr}{H f:Hp}{p b g x l m d:Addr}{n r lim:Int}{hs s c h:List Int}{ys q j yd':List V}{es es':List (List Int×Nat×Int)}(I:DI t H p b g x m d n r lim hs s c ys q es)(k:d≠m)(u:zj8 p m H f)(v:zg3 t f p b g l m n r hs lim s h j (zn6 es'))(w:Tups f yd' (zn6 es'))(ch:Ch n r hs lim s es' h) :
   DI t (upd f d (.lst yd')) p b g l m d n r lim hs s h j yd' es'/\zX2 p m d H (upd f d (.lst yd')):=by
 have y:d≠p:=fun z=>by obtain⟨C,F,fs,A⟩:=I.pl.ip;have:=I.hmd;rw[z,A] at this;cases this
 have i:f d=some (.lst q):=u _ _ I.hmd y k;refine⟨⟨v.updL i k,za3,zk7 i (fun _ z=>nomatch z) w,ch⟩,fun a o e B D E=>?_⟩;rw[za7 E];exact u _ _ e B D
inductive zX3 (K:W.Frag)(t:Adr)(vs:List V)(H:Hp)(Q:VK)(E:XK):Prop
 | mk (p nw md b s0 x m:Addr)(n r lim:Int)(hs s c:List Int)(ys yd:List V)(es:List (List Int×Nat×Int))(h0:vs=[.ref p,.ref nw,.ref md])(h1:DI t H p b s0 x m md n r lim hs s c ys yd es)(h2:H nw=some (.tup (c.map V.int)))(h3:c.length<=1000)(h4:es.length<=300)(h5:∀H',Same H H'->Q (.bl true) H'):zX3 K t vs H Q E
def sp_w_fits (K:W.Frag)(t:Adr):Sp:=fun vs H Q E=>zX3 K t vs H Q E
theorem zX4 (T:Txt K mg t):FnOk P w K mg base CX0 4 t.b1 t.b2 PJ (sp_w_fits K t):=by
 refine T.bn.F.ok sc_w_fits (fun G H Q E h=>?_) (fun M A L s H G Q E f h=>?_)
 . obtain⟨p,o,u,b,y,x,m,n,r,k,z,s,c,a,B,d,rfl,I,C,l,F,q⟩:=h
   rfl
 . obtain⟨p,o,u,b,y,x,m,n,r,k,z,s,c,a,B,d,rfl,I,C,l,F,q⟩:=h
   refine⟨_,(za2 (zc8 (PW.pt (zl3 (zd4 (zd0 (zb0 zi6 rfl T.af QJ (za0 (zc4 P0 rfl) (za0 (zm3 (v:=.ty "tuple") rfl T.aA Zv rfl) za1))))) (zj1 (zd4 (zd0 (za6 (zv8 T) f.m T.aF zb3 (za0 (zc4 P0 rfl) (za0 P1 za1)))))))) (za5 (zb7 zg8)) zb6)
     (za5 (zb7 (za6 (zn5 T) f.m T.au zb3 (za0 (ya5 P0 T.ab T.b2 (ok_Play_trail T) f.m T.bi.b .nil zb3) (za0 P2 za1)))))),?_⟩
   have g:=I.pl;obtain⟨i,j⟩:=g.hp;refine⟨_,rfl,p,_,i,_,_,rfl,j,T.ab,T.ac,zh5 _ _ _ _,_,_,_,_,_,rfl,.ty _,.tup g.hx,rfl,_,rfl,iteF ?_⟩;refine⟨_,rfl,p,_,i,_,_,rfl,j,T.ab,T.ac,zh5 _ _ _ _,_,rfl,x,o,c,c,rfl,.inr (SqT.of g.hx),.inr (SqT.of C),l,?_⟩;rw[Qf rfl];refine⟨_,rfl,iteF ?_⟩;refine⟨_,rfl,p,i,_,rfl,j,pf_trail _ _ _ _,p,b,y,x,m,n,r,k,z,s,c,a,zn6 d,rfl,I.pl,fun D J=>?_⟩;have e:Same H (upd H D (.lst a)):=Same.upd J;refine⟨_,rfl,D,u,a,B,zn6 d,zn6 d,rfl,za3,e.tups I.pl.tm,e _ _ I.hmd,e.tups I.td,by rw[zC5];omega,rowsE_mem,?_⟩;rw[Qf rfl];exact q _ e
end
section
variable {P:Program} {w:World} {K:W.Frag} {mg:Str->Option Value} {base:Heap} {t:Adr}
structure Lp (t:Adr)(H1 H:Hp)(p b s0 x m md cl nw:Addr)(n r lim:Int)(hs s c:List Int)(ys yd cs:List V)(es:List (List Int×Nat×Int)):Prop where
 sm:Same H1 H
 di:DI t H p b s0 x m md n r lim hs s c ys yd es
 hn:H nw=some (.tup (c.map V.int))
 hc:H cl=some (.lst cs)
theorem Lp.same {t:Adr}{a H H':Hp}{p b d x m f g h:Addr}{n r lim:Int}{hs s c:List Int}{ys i j:List V}{es:List (List Int×Nat×Int)}(I:Lp t a H p b d x m f g h n r lim hs s c ys i j es)(e:Same H H'):Lp t a H' p b d x m f g h n r lim hs s c ys i j es:=⟨I.sm.trans e,I.di.same e,e _ _ I.hn,e _ _ I.hc⟩
theorem Lp.step {t:Adr}{f H H':Hp}{p b h x l m d g v j:Addr}{n r lim:Int}{hs s c i:List Int}{ys w q k yd':List V}{es es':List (List Int×Nat×Int)}(I:Lp t f H p b h x m d g v n r lim hs s c ys w q es)(y:f p=none)(A:f m=none)(fd:f d=none)(nm:g≠m)(B:g≠d)(u:zX2 p m d H H')(J:DI t H' p b h l m d n r lim hs s i k yd' es')(D:H' j=some (.tup (i.map V.int))):Lp t f H' p b h l m d g j n r lim hs s i k yd' q es' :=
 ⟨fun a o e=>u _ _ (I.sm _ _ e) (zb2 e y) (zb2 e A) (zb2 e fd),J,D,u _ _ I.hc (fun z=>by obtain⟨C,F,fs,E⟩:=I.di.pl.ip;have:=I.hc;rw[z,E] at this;cases this) nm B⟩
theorem Ch.keep {n r:Int}{hs:List Int}{lim:Int}{s:List Int}(b:zc6 n r hs.length s)(k0:absI (zb5 hs s)<=lim):∀ {a:List (List Int×Nat×Int)} {c:List Int},Ch n r hs lim s a c->absI (zb5 hs c)<=lim
 | [],c,h=>by
   obtain rfl:c=s:=h;exact k0
 | e::a,c,⟨ec,L,ch⟩=>by
   have d:=ch.valid b;rw[ec,zv4 hs e.1 _ _ d.len.symm L.lt];exact L.behind
theorem zR7.same {H H':Hp}{f:Addr}{n r:Int}{hs:List Int}{lim:Int}{s:List Int}(h:zR7 H f n r hs lim s)(e:Same H H'):zR7 H' f n r hs lim s:=let⟨T,a,b,c⟩:=h;⟨T,e _ _ a,b,c⟩
theorem use_finM {R S:Addr->V->Hp->Prop}{G:Prop}(c:(∀a v b,S a v b->R a v b)->G)(d:∀a v b,S a v b->R a v b):G:=c d
end
section
variable {P:Program} {w:World} {K:W.Frag} {mg:Str->Option Value} {base:Heap} {t:Adr}
theorem ok_law (T:Txt K mg t):FnOk P w K mg base CX0 14 t.bg t.b4 Pd (sp_law K t):=by
 refine T.co.ok zn0 (fun vs c9 ca cb a9=>?_) (fun cf ct cd s c9 vs ca cb u a9=>?_)
 . obtain⟨a,ns,rfl,hS,bq,bo⟩:=a9
   rfl
 . obtain⟨a,ns,rfl,hS,bq,bo⟩:=a9
   refine⟨_,(za2 (zD7 (za6 (ok_w_case T) u.m T.bJ zb3 (za0 P0 za1)) (zN3 rfl (zd8 (zc5 (i:=1) zn0.nd rfl (Or.inl rfl)) (zd8 (zc5 (i:=2) zn0.nd rfl (Or.inl rfl)) (zd8 (zc5 (i:=3) zn0.nd rfl (Or.inl rfl)) zw0)))))
     (za2 (zb4 (i:=4) zn0.nd rfl (Or.inl rfl) (za6 (zA6 T) u.m T.aJ zb3 (za0 P1 (za0 P3 za1))))
     (za2 (zb4 (i:=5) zn0.nd rfl (Or.inl rfl) (zB2 T.ck (ok_Play_init T) u.m rfl T.cm T.bq.b .nil zb3 (za0 (za6 (ok_w_beam T) u.m T.bL zb3 (za0 P1 za1)) (za0 P2 za1))))
     (za2 (zb4 (i:=6) zn0.nd rfl (Or.inl rfl) P2)
     (za2 (zb4 (i:=7) zn0.nd rfl (Or.inl rfl) (zw5 za1))
     (za2 (zb4 (i:=8) zn0.nd rfl (Or.inl rfl) (zb9 op_catS (zw5 (za0 za4 za1)) (zj7 sl_listS P0 (zk5 za4) (zk5 za4))))
     (za2 (zh7 PassesOwn.never rfl (zj9 rfl T.am (za0 (zb0 zc0 rfl T.ae QB (za0 P8 za1)) za1)) (zc5 (i:=9) zn0.nd rfl (Or.inl rfl)) (za2 (zb4 (i:=10) zn0.nd rfl (Or.inl rfl) (za6 (ok_w_pick T) u.m T.bM zb3 (za0 P1 (za0 P6 (za0 (zb9 zl8 (zc9 zd1 P8 (pv 9) (fun _ _=>rfl)) za4) za1)))))
     (za2 (zc8 (PW.pt (zy1 (zc2 zi9 (zb9 zf0 (zc9 zd1 P8 (pv 9) (fun _ _=>rfl)) za4) za4 (zc1 _)) (zv9 (zc2 (op_neE (ZI (zi0 u))) P7 (zw5 za1) (zc1 _))))) (za2 (zb4 (i:=10) zn0.nd rfl (Or.inl rfl) (zY1 QE PySem.F.slot_list_pop PySem.F.type_list_pop yo9 P7))
     (za2 (ze7 (ya5 (pv 5) T.ab T.cb (ok_Play_back T) u.m T.bs.b .nil zb3))
     (za5 (zb4 (i:=6) zn0.nd rfl (Or.inl rfl) (zb9 zo5 (zb9 zo5 (zj7 zM0 P6 zm7 (zk5 (zb9 zg4 (zc9 zg5 P10 za4 (fun _ _=>rfl)) za4))) (yk4 (za0 (zc9 zg5 P10 za4 (fun _ _=>rfl)) za1))) (zj7 zM0 P6 (zk5 (zc9 zg5 P10 za4 (fun _ _=>rfl))) zm7)))))) (za5 (zc8 (zc2 zX8 P10 zr3 (zc1 _)) (za2 (ze7 (zL2 (pv 5) T.ab T.ca (ok_Play_move T) u.m T.br.b .nil zb3 (za0 P10 za1)))
     (za2 (ze7 (zr4 QE QV QU zh0 P7 (za0 P10 za1)))
     (za5 (zb4 (i:=6) zn0.nd rfl (Or.inl rfl) (zb9 zo5 (zb9 zo5 (zj7 zM0 P6 zm7 (zk5 (zb9 zg4 (zc9 zg5 P10 za4 (fun _ _=>rfl)) za4))) (yk4 (za0 (zc9 zg5 P10 za4 (fun _ _=>rfl)) za1))) (zj7 zM0 P6 (zk5 (zc9 zg5 P10 za4 (fun _ _=>rfl))) zm7)))))) zb6)))
     (za5 (zc8 (PW.pt (zl3 (zd4 (zd0 (za6 (zR9 T) u.m T.a7 zb3 (za0 (pv 5) (za0 P1 (za0 P6 (za0 P3 (za0 (pv 4) za1)))))))) (zj1 (zd4 (zd0 (za6 (zX4 T) u.m T.bn zb3 (za0 (pv 5) (za0 P6 (za0 P7 za1))))))))) (za5 (zb7 zg8)) zb6)))))
     (za5 (zb7 (zD6 (za6 (zR9 T) u.m T.a7 zb3 (za0 (pv 5) (za0 P1 (za0 P6 (za0 P2 (za0 (za6 (zA6 T) u.m T.aJ zb3 (za0 P1 (za0 P2 za1))) za1)))))) (zy2 (za6 (zX4 T) u.m T.bn zb3 (za0 (pv 5) (za0 P6 (za0 P7 za1))))))))))))))),?_⟩
   refine cut8 ?_;intro cg ci cj ck cm cn co;refine⟨_,rfl,a,ns,rfl,hS,fun cc L a9 Z go H1 n r k g s ag C=>?_⟩;refine⟨cc,_,rfl,SqL.of C.hl,rfl,_,_,rfl,_,_,rfl,_,_,rfl,rfl,?_⟩;have hw:=C.ok.w;have b7:=C.vs.len;have cp:=C.vg.len;have S1:zi3 K H1 L n r g k:=⟨a9,C.ok,SqL.of C.hsc,SqL.of C.hh⟩;refine⟨_,rfl,_,rfl,L,go,n,r,k,g,ag,rfl,S1,C.vg,C.hgo,fun fr q F bp=>?_⟩;refine⟨_,rfl,L,n,r,k,g,rfl,S1.same F,fun b B G B3=>?_⟩;have a3:=F.trans G;refine⟨_,rfl,fun p M W bu bv=>?_⟩;have Q:Same B (upd (upd B M (.own p)) p (.ins t.aa M [])):=(Same.upd bu).updT (by rw[za7 (Ne.symm bv)];exact W);have ao:(upd (upd B M (.own p)) p (.ins t.aa M [])) p=some (.ins t.aa M []):=za3;revert Q ao;generalize upd (upd B M (.own p)) p (.ins t.aa M [])=H4;intro Q ao;have bw:b≠p:=fun z=>by obtain⟨_,_,_,hb,_⟩:=B3;rw[z,W] at hb;cases hb
   have ap:=a3.trans Q;refine⟨p,b,Z,M,n,r,k,g,s,rfl,ao,bw,B3.same Q,C.vs,.inr (ap _ _ C.hst),C.ks,fun H5 y m x5 b8 P5=>⟨rfl,?_⟩⟩;have bx:H1 p=none:=a3.free W;have cq:H1 m=none:=ap.free b8;have b9:Same H1 H5:=fun c o e=>x5 c o (ap _ _ e) (zb2 e bx)
   have F5:zR7 H5 fr n r g k ag:=by
     obtain⟨TT,bz,r1,r2⟩:=bp;have b3:=G _ _ bz;exact⟨TT,x5 _ _ (Q _ _ b3) (zb2 b3 W),r1,r2⟩
   refine⟨_,rfl,QD _,fun d H6 s6 ba bb=>?_⟩;obtain⟨cs,a4,c0⟩:=cut_map ns (some 7) (some 8);have c1:=b9.trans s6;refine⟨(by show 1<=sizeLine;decide),fun l7 H7 s7 f7 h7=>⟨_,rfl,_,rfl,_,rfl,a,_,rfl,((C.sm.trans c1).trans s7).seq hS,fun l8 H8 s8 f8 h8=>?_⟩⟩;replace h8:H8 l8=some (.lst (cs.map V.int)):=by rw[h8];exact congrArg (fun z=>some (HO.lst z)) a4
   refine⟨l7,l8,_,_,rfl,rfl,s8 _ _ h7,h8,Za (zc3 (by rw[Qb];show 1+_<=_;omega)),fun D H9 s9 f9 h9=>?_⟩;have aq:=s6.trans (s7.trans (s8.trans s9));have c2:=b9.trans aq;have ar:H9 D=some (.lst ((0::cs).map V.int)):=h9;have c3:(0::cs).length<=64:=by rw[Qz];omega
   have bc:Same B H5:=fun c o e=>x5 c o (Q _ _ e) (zb2 e W)
   have be:B m=none:=Q.free b8;have bf:B d=none:=bc.free ba;have ae:d≠m:=(zb2 P5.hm ba).symm;have bg:D≠m:=(zb2 ((s6.trans (s7.trans s8)) _ _ P5.hm) f9).symm;have bh:D≠d:=(zb2 ((s7.trans s8) _ _ bb) f9).symm;have I0:Lp t B H9 p b y y m d D Z n r k g s s [] [] ((0::cs).map V.int) []:=⟨bc.trans aq,⟨P5.same aq,(s7.trans (s8.trans s9)) _ _ bb,.nil,rfl⟩,c2 _ _ C.hst,ar⟩;have S3:=S1.same a3;have F3:zR7 B fr n r g k ag:=bp.same G;have b4:=a3 _ _ C.hst;have br:=a3 _ _ C.hgo;refine⟨_,rfl,D,_,rfl,.inl (SqL.of ar),?_⟩;rw[Qb];generalize(0::cs:List Int)=ds at c3 I0 ⊢;clear h9 ar h8 h7 a4 c0;refine⟨_,rfl,by omega,by omega,zk0 (n:=((ds.length:Nat):Int).toNat) (fun i σ H'=>∃A v9 au x c h l f,σ=[some (.ref a),some (.ref L),some (.ref Z),some (.ref go),some (.ref fr),some (.ref p),some (.ref A),some (.ref d),some (.ref D),v9,au]/\Lp t B H' p b y x m d D A n r k g s c h l (ds.map V.int) f/\f.length<=i) ⟨Z,none,none,y,s,[],[],[],rfl,I0,Qi _⟩ ?_ ?_⟩
   . rintro i σ HA hi ⟨A,v9,au,x,c,h,l,f,rfl,I,a5⟩
     have c4:i<ds.length:=by simpa using hi
     have H:=I.di.ch.valid C.vs;have bi:=H.len;obtain⟨z,hz⟩:∃z,ds[i]?=some z:=⟨_,Qe c4⟩;have az:atI (ds.map V.int) (0+(i:Int))=some (.int z):=by rw[Int.zero_add];exact zF3 hz
     refine⟨_,rfl,_,rfl,_,rfl,_,rfl,D,_,_,_,rfl,rfl,SqL.of I.hc,az,_,_,rfl,rfl,⟨by decide,by decide⟩,L,A,_,n,r,k,g,c,rfl,S3.same I.sm,H,I.hn,fun cu HB sB hv=>?_⟩;replace I:=I.same sB;refine⟨_,rfl,_,rfl,D,_,_,_,rfl,rfl,SqL.of I.hc,az,_,_,rfl,rfl,(by show(0:Int)<3;decide),rfl,_,rfl,?_⟩;dsimp only[List.set];refine use_finM (R:=?R1) (S:=fun a6 v' H'=>∃x c h l f,Lp t B H' p b y x m d D a6 n r k g s c h l (ds.map V.int) f/\f.length<=i+1) (fun ah=>?mainA) ?finA
     case mainA =>
       refine use_finH (R:=?R2) (S:=fun q=>Same HB q) (fun fin=>?main) ?fin
       case main =>
         refine ite2 (fun h1=>?yes) (fun h1=>?no)
         case yes =>
           refine⟨_,rfl,QD _,fun l2 q F f2 h2=>?_⟩;refine⟨d,l2,l,rfl,rfl,SqL.of (F _ _ I.di.hmd),SqL.of h2,_,rfl,?_⟩;refine ite2 (fun h3=>?_) (fun h3=>?_)
           . cases f with
             | nil =>
               have:=ze6 I.di.td;rw[QC this] at h3;cases h3
             | cons e f =>
               clear fin;obtain⟨J,j,N⟩:=e;replace I:=I.same F;obtain⟨ec,aa,ch⟩:=I.di.ch;have bj:=I.di.td;have bl:=I.di.pl.tm;rw[zx7] at bj bl;obtain⟨v,O,rfl,Td,c5⟩:=zX0 bj;obtain⟨af,tv,rfl,Ts,c6⟩:=zX0 bl;have cr:J.length=g.length:=(ch.valid C.vs).len;have bm:j<J.length:=aa.lt;rw[Qz] at a5;have bn:(af++[V.ref tv]).length<=300:=by rw[ze6 I.di.pl.tm,zC5,Qz];omega
               have a0:=I.di.hmd;have b7:(v++[V.ref O])[(v++[V.ref O]).length-1]?=some (.ref O):=by rw[Qq];simp
               refine⟨_,rfl,.inl ⟨rfl,_,SqL.of a0⟩,d,_,_,rfl,rfl,a0,b7,?_⟩;rw[List.dropLast_concat];have X:=I.di.pl.updL (o:=.lst v) a0 ae;have a1:(upd q d (.lst v)) d=some (.lst v):=za3;have kP:∀ {a:Addr} {o:HO},q a=some o->a≠d->(upd q d (.lst v)) a=some o:=fun e n=>by rw[za7 n];exact e
               have kT:∀ {a:Addr} {us:List V},q a=some (.tup us)->(upd q d (.lst v)) a=some (.tup us):=fun e=>kP e (fun z=>by rw[z,a0] at e;cases e)
               have av:Tups (upd q d (.lst v)) v (zn6 f):=zk7 a0 (fun _ z=>nomatch z) Td;have ai:=kT c5;have aj:=kT c6;have ak:=kT I.hn;revert X a1 kP av ai aj ak;clear kT;generalize upd q d (.lst v)=HP;intro X a1 kP av ai aj ak;rw[zx7] at X;obtain⟨aw,a7⟩:=X.hp;refine⟨_,rfl,p,aw,_,rfl,a7,pf_back _ _ _ _,p,b,y,x,m,n,r,k,g,s,c,_,_,rfl,X,by omega,bn,⟨af,zn6 f,tv,j,J.getD j 0,N,rfl,rfl,aj,by omega,fun x' HQ sQ PQ=>?_⟩⟩;have a4:c.set j (J.getD j 0)=J:=by rw[ec];exact set_bk bm
               rw[a4] at PQ;have ip:=X.ip;have Y:∃h,HP m=some (.lst h):=⟨_,X.hm⟩;have np:d≠p:=fun z=>by rw[z,a7] at a1;cases a1
               have al:HQ O=some (.tup [.int ((j:Int)+1),.int (J.getD j 0),.int N]):=sQ.tup ip Y ai;have b5:=sQ.tup ip Y ak;have ab:DI t HQ p b y x' m d n r k g s J af v f:=⟨PQ,sQ _ _ a1 np ae,sQ.tups ip Y av,ch⟩;have G:zX2 p m d q HQ:=fun a o e h1 h2 h3=>sQ _ _ (kP e h3) h1 h2
               have e1:(j:Int)+1-1=(j:Int):=by omega
               refine⟨_,rfl,_,rfl,O,_,_,_,rfl,rfl,SqT.of al,rfl,_,_,rfl,rfl,_,rfl,A,_,rfl,SqT.of b5,?_,fun l1 Ha sa f1 ax=>?_⟩
               . rw[e1,HT.sIx_none,HT.sIx_nat,Qb,Zy (by omega)]
                 omega
               rw[e1] at *;refine⟨_,rfl,O,_,_,_,rfl,rfl,SqT.of (sa _ _ al),rfl,(by show 1<=sizeLine;decide),fun l2 Hb sb f2 ay=>?_⟩;have am:=zj0 (c.map V.int) none (some (j:Int));rw[Qb] at am;refine⟨l1,l2,_,_,rfl,rfl,sb _ _ ax,ay,Za (zc3 (by show _+1<=_;omega)),fun l3 Hc b0 b1=>?_⟩;have U:=sa.trans (sb.trans b0);refine⟨_,rfl,_,rfl,O,_,_,_,rfl,rfl,SqT.of (U _ _ al),rfl,_,rfl,A,_,rfl,SqT.of (U _ _ b5),?_,fun l4 Hd sd f4 b2=>?_⟩
               . rw[show((j:Int)+1)=((j+1:Nat):Int) by omega,HT.sIx_nat,Qb]
                 omega
               have e5:=zH7 c j (J.getD j 0) (by omega);refine⟨l3,l4,_,_,rfl,rfl,sd _ _ b1,b2,?_,fun l5 He se he=>?_⟩
               . rw[<-Qq,e5,Qb,Zj]
                 exact Za (zc3 (by omega))
               rw[e5] at he;have a8:=U.trans (sd.trans se);rw[a4] at he;dsimp only[List.set];have II:=I.step W be bf bg bh (G.after a8) (ab.same a8) he;generalize V.ref O=vv;exact ah l5 vv He ⟨x',J,af,v,f,II,by omega⟩
           . exact fin q F
         case no=>exact iteF (fin HB (Same.refl _))
       case fin =>
         rintro q F;replace I:=I.same F;rcases hv with rfl | ⟨j,N,E,rfl,aa,c7⟩
         . refine⟨_,rfl,rfl,_,rfl,iteB (by rw[Qf rfl];rfl) ?_⟩
           exact ah A .non q ⟨x,c,h,l,f,I,by omega⟩
         refine⟨_,rfl,rfl,?_⟩;rw[Qg fun z=>nomatch z];refine⟨_,rfl,iteT ?_⟩;have ac:=F _ _ c7;have bm:=aa.lt;have bn:h.length=f.length:=by rw[ze6 I.di.pl.tm,zC5]
         have ce:l.length=f.length:=by rw[ze6 I.di.td,zC5]
         obtain⟨aw,a7⟩:=I.di.pl.hp;have c8:E≠m:=fun z=>by rw[z,I.di.pl.hm] at ac;cases ac
         refine⟨_,rfl,p,aw,_,rfl,a7,pf_move _ _ _ _,_,rfl,p,E,b,y,x,m,n,r,k,N,g,s,c,h,zn6 f,j,rfl,I.di.pl,H,.inr ac,c8,aa,by omega,fun x' tv H4 s4 P4=>?_⟩;have ip:=I.di.pl.ip;have Y:∃h,q m=some (.lst h):=⟨_,I.di.pl.hm⟩;have np:d≠p:=fun z=>by have:=I.di.hmd;rw[z,a7] at this;cases this
         have an:H4 d=some (.lst l):=s4 _ _ I.di.hmd np ae;have b6:=s4.tup ip Y ac;have bt:=s4.tup ip Y I.hn;refine⟨_,rfl,.inl ⟨rfl,_,SqL.of an⟩,_,rfl,d,_,_,rfl,rfl,an,zc3 (by omega),?_⟩;obtain⟨ab,G⟩:=I.di.step (yd':=l++[.ref E]) (es':=(c,j,N)::f) ae s4 (by rw[zx7];exact P4) (by rw[zx7];exact zr0 (s4.tups ip Y I.di.td) b6) ⟨rfl,aa,I.di.ch⟩;have k6:∀ {a:Addr} {vs:List V},H4 a=some (.tup vs)->(upd H4 d (.lst (l++[.ref E]))) a=some (.tup vs):=fun e=>by
           rw[za7 (fun z=>by rw[z,an] at e;cases e)];exact e
         have a2:=k6 b6;have ad:=k6 bt;clear k6;revert ab G a2 ad;generalize upd H4 d (.lst (l++[.ref E]))=H6;intro ab G a2 ad;have e1:(j:Int)+1-1=(j:Int):=by omega
         refine⟨_,rfl,_,rfl,E,_,_,_,rfl,rfl,SqT.of a2,rfl,_,_,rfl,rfl,_,rfl,A,_,rfl,SqT.of ad,?_,fun l1 Ha sa f1 ax=>?_⟩
         . rw[e1,HT.sIx_none,HT.sIx_nat,Qb,Zy (by omega)]
           omega
         rw[e1] at *;refine⟨_,rfl,E,_,_,_,rfl,rfl,SqT.of (sa _ _ a2),rfl,(by show 1<=sizeLine;decide),fun l2 Hb sb f2 ay=>?_⟩;have am:=zj0 (c.map V.int) none (some (j:Int));rw[Qb] at am;refine⟨l1,l2,_,_,rfl,rfl,sb _ _ ax,ay,Za (zc3 (by show _+1<=_;omega)),fun l3 Hc b0 b1=>?_⟩;have U:=sa.trans (sb.trans b0);refine⟨_,rfl,_,rfl,E,_,_,_,rfl,rfl,SqT.of (U _ _ a2),rfl,_,rfl,A,_,rfl,SqT.of (U _ _ ad),?_,fun l4 Hd sd f4 b2=>?_⟩
         . rw[show((j:Int)+1)=((j+1:Nat):Int) by omega,HT.sIx_nat,Qb]
           omega
         have e5:=zH7 c j (N) (by omega);refine⟨l3,l4,_,_,rfl,rfl,sd _ _ b1,b2,?_,fun l5 He se he=>?_⟩
         . rw[<-Qq,e5,Qb,Zj]
           exact Za (zc3 (by omega))
         rw[e5] at he;have a8:=U.trans (sd.trans se);dsimp only[List.set];have II:=I.step W be bf bg bh (G.after a8) (ab.same a8) he;exact ah l5 (.ref E) He ⟨x',c.set j N,h++[.ref tv],l++[.ref E],(c,j,N)::f,II,by rw[Qz];omega⟩
     case finA =>
       rintro a6 v' H' ⟨x,c,h,l,f,I,a5⟩;have H:=I.di.ch.valid C.vs;have bi:=H.len;refine⟨_,rfl,_,rfl,_,rfl,_,rfl,_,rfl,p,L,a6,go,fr,b,y,x,m,n,r,k,g,s,c,ag,h,zn6 f,rfl,S3.same I.sm,I.di.pl,H,C.vg,I.hn,I.sm _ _ br,F3.same I.sm,I.di.ch.keep C.vs C.ks,C.kg,fun HC sC=>⟨_,rfl,iteF ?_⟩⟩;replace I:=I.same sC;refine⟨_,rfl,_,rfl,_,rfl,p,a6,d,b,y,x,m,n,r,k,g,s,c,h,l,f,rfl,I.di,I.hn,by omega,by omega,fun HD sD=>⟨_,rfl,iteF ?_⟩⟩;exact⟨a6,_,_,x,c,h,l,f,rfl,I.same sD,a5⟩
   . rintro σ HA ⟨A,v9,au,x,c,h,l,f,rfl,I,a5⟩
     rw[QZ] at a5;have H:=I.di.ch.valid C.vs;have bi:=H.len;refine⟨_,rfl,_,rfl,_,rfl,_,rfl,_,rfl,_,rfl,L,Z,n,r,k,g,s,rfl,S3.same I.sm,C.vs,I.sm _ _ b4,fun f2 HB sB F2=>?_⟩;replace I:=I.same sB;refine⟨p,L,A,Z,f2,b,y,x,m,n,r,k,g,s,c,s,h,zn6 f,rfl,S3.same I.sm,I.di.pl,H,C.vs,I.hn,I.sm _ _ b4,F2,I.di.ch.keep C.vs C.ks,C.ks,fun HC sC=>⟨_,rfl,iteT ?_⟩⟩;replace I:=I.same sC;exact⟨_,rfl,_,rfl,_,rfl,p,A,d,b,y,x,m,n,r,k,g,s,c,h,l,f,rfl,I.di,I.hn,by omega,by omega,fun HD sD=>bo _⟩
end
theorem ars {n:Nat}{us:List Value}(h:us.length=n+1):∃x a,us=x::a/\a.length=n:=by
 cases us with
 | nil=>cases h
 | cons x a=>exact⟨x,a,rfl,Nat.succ.inj h⟩
theorem ar1 {us:List Value}(h:us.length=1):∃a,us=[a]:=by
 obtain⟨b,d,rfl,c⟩:=ars h;obtain rfl:=QC c;exact⟨b,rfl⟩
theorem ar2 {us:List Value}(h:us.length=2):∃a b,us=[a,b]:=by
 obtain⟨c,g,rfl,d⟩:=ars h;obtain⟨e,i,rfl,f⟩:=ars d;obtain rfl:=QC f;exact⟨c,e,rfl⟩
theorem ar3 {us:List Value}(h:us.length=3):∃a b c,us=[a,b,c]:=by
 obtain⟨d,k,rfl,e⟩:=ars h;obtain⟨f,l,rfl,g⟩:=ars e;obtain⟨i,m,rfl,j⟩:=ars g;obtain rfl:=QC j;exact⟨d,f,i,rfl⟩
theorem ar4 {us:List Value}(h:us.length=4):∃a b c d,us=[a,b,c,d]:=by
 obtain⟨e,n,rfl,f⟩:=ars h;obtain⟨g,o,rfl,i⟩:=ars f;obtain⟨j,p,rfl,k⟩:=ars i;obtain⟨l,q,rfl,m⟩:=ars k;obtain rfl:=QC m;exact⟨e,g,j,l,rfl⟩
theorem ar5 {us:List Value}(h:us.length=5):∃a b c d e,us=[a,b,c,d,e]:=by
 obtain⟨f,q,rfl,g⟩:=ars h;obtain⟨i,r,rfl,j⟩:=ars g;obtain⟨k,s,rfl,l⟩:=ars j;obtain⟨m,t,rfl,n⟩:=ars l;obtain⟨o,u,rfl,p⟩:=ars n;obtain rfl:=QC p;exact⟨f,i,k,m,o,rfl⟩
theorem ar7 {us:List Value}(h:us.length=7):∃a b c d e f g,us=[a,b,c,d,e,f,g]:=by
 obtain⟨i,w,rfl,j⟩:=ars h;obtain⟨k,x,rfl,l⟩:=ars j;obtain⟨m,y,rfl,n⟩:=ars l;obtain⟨o,z,rfl,p⟩:=ars n;obtain⟨q,A,rfl,r⟩:=ars p;obtain⟨s,B,rfl,t⟩:=ars r;obtain⟨u,C,rfl,v⟩:=ars t;obtain rfl:=QC v;exact⟨i,k,m,o,q,s,u,rfl⟩
theorem all_mk {l:W.OpenLaw} {w:World} {K:W.Frag} {h:Heap} {mg:Str->Option Value} {fa:Addr} (X:K.In h) (G:h.Ns mainGlobals mg) (hfa:mg "law" = some (.ref fa))
   {b8 aS aT aU al aV:Value} {b9 aW:Option Addr} {ca:Array (Option Value)} {ab:Addr}
   {ap:Addr} {cb:Value} {cc:Option Addr} {cd:Nat} {ce:Array (Option Value)} {cf cg:Value}
   {c8 bs bt bu aK bv:Value} {c9 bw:Option Addr} {da:Array (Option Value)} {aj:Addr}
   {aZ:Addr} {db:Value} {dc:Option Addr} {dd:Nat} {de:Array (Option Value)} {df:Value}
   {aE:Addr}
   {c2:Addr}
   {bl:Addr}
   {bx:Addr}
   {aX:Addr}
   {dW:Addr}
   {bz:Addr}
   {ec:Addr}
   {ed:Addr}
   {dX:Addr}
   {c3:Addr}
   {dY:Addr}
   {dZ:Addr}
   {di:Addr}
   {dj:Addr}
   {ee:Addr}
   {bM:Addr}
   {bm:Addr}
   {ci:Addr}
   {bA:Addr}
   {ef:Addr}
   {aY:Addr}
   {cr:Addr}
   {be:Addr}
   {dk:Addr}
   {bN:Addr}
   {dl:Addr}
   {bB:Addr}
   {au:Addr}
   {cR:Addr}
   {a0:Addr}
   {bb:Addr}
   {aF:Addr}
   {aG:Addr}
   {aH:Addr}
   {av:Addr}
   {an:Addr}
   {af:Addr}
   {aw:Addr}
   {eg:Addr}
   {c4:Addr}
   {dm:Addr}
   {c5:Addr}
   {d0:Addr}
   {dn:Addr}
   {c6:Addr}
   {dp:Addr}
   {dq:Addr}
   {dr:Addr}
   {ds:Addr}
   {d1:Addr}
   {bO:Addr}
   {dt:Addr}
   {bC:Addr}
   {du:Addr}
   {dv:Addr}
   {dw:Addr}
   {d2:Addr}
   {d3:Addr}
   {bD:Addr}
   {bE:Addr}
   {dx:Addr}
   {dy:Addr}
   {c7:Addr}
   {dz:Addr}
   {fe ff fg fh eh fi:Value} {fj fk:Option Addr} {fl:Array (Option Value)} {d8:Addr}
   {ae:Addr}
   {ad:Addr}
   {ac:Addr}
   {aa:Addr}
   {ak:Addr}
   {ai:Addr}
   {es et:Str} {eV:Addr} {eu dA:List Value} {ev:List Str} {ei:List Value} {ew:Bool} {ej:Option Bool} {ex:Option Addr} {ey ez eA eB eC:Option Value}
   {aA:Tok}
   {bf:Tok}
   {a1:Tok}
   {aB:Tok}
   {bg:Tok}
   {aq:Tok}
   {a2:Tok}
   (fm:W.nsIn K mainGlobals "Beam" = some (some (.ref ae)))
   (ft:W.nsIn K mainGlobals "Way" = some (some (.ref ad)))
   (eW:W.nsIn K mainGlobals "Least" = some (some (.ref ac)))
   (fn:W.nsIn K mainGlobals "Play" = some (some (.ref aa)))
   (eX:W.nsIn K mainGlobals "NoWay" = some (some (.ref ak)))
   (dR:W.nsIn K mainGlobals "BeamError" = some (some (.ref ai)))
   (cs:W.findIn K (.ref ai) "__init__" = some (some (.ref ab)))
   (eD:W.isFn K (.ref ab)=true)
   (ct:K.lookup ab=some ⟨b8,b9,.func (W.fnOf "__init__" "BeamError.__init__" (zi2 zd6) (zd3 zd6) (za8 zd6) (.ref ap) aS aT aU aW al aV),ca⟩)
   (cu:W.codeIn K al "BeamError.__init__" = true) (ag:W.keepIn K (.ref ab)=true)
   (ch:K.lookup ap=some ⟨cb,cc,.seq #[cf,cg] cd,ce⟩)
   (bP:W.findIn K (.ref ak) "__init__" = some (some (.ref aj)))
   (dB:W.isFn K (.ref aj)=true)
   (dC:K.lookup aj=some ⟨c8,c9,.func (W.fnOf "__init__" "NoWay.__init__" (zi2 zg2) (zd3 zg2) (za8 zg2) (.ref aZ) bs bt bu bw aK bv),da⟩)
   (dD:W.codeIn K aK "NoWay.__init__" = true) (a3:W.keepIn K (.ref aj)=true)
   (dg:K.lookup aZ=some ⟨db,dc,.seq #[df] dd,de⟩)
   (cj:W.findIn K (.ref ae) "__init__" = some (some (.ref aE)))
   (dS:W.isFn K (.ref aE)=true)
   (bh:∃fd,Dm K "__init__" "Beam.__init__" Pl zz0 aE fd)
   (bQ:∃fd,Df K mg "outside" Pm zI9 c2 fd)
   (aC:∃fd,Df K mg "check_bounds" Pn zr7 bl fd)
   (aL:∃fd,Df K mg "check_hefts" ["hefts"] zt5 bx fd)
   (am:∃fd,Df K mg "check_standings" PK zm8 aX fd)
   (cS:∃fd,Df K mg "under" Po zZ0 dW fd)
   (aM:∃fd,Df K mg "as_standing" Pa zt6 bz fd)
   (dE:∃fd,Df K mg "tilt" Pa zO8 ec fd)
   (dF:∃fd,Df K mg "past" Pp yg1 ed fd)
   (cT:∃fd,Df K mg "keeps" Pa zZ1 dX fd)
   (bR:∃fd,Df K mg "in_hand" PM zJ0 c3 fd)
   (cU:∃fd,Df K mg "moved" Pf zZ2 dY fd)
   (cV:∃fd,Df K mg "moves" Pa zG5 dZ fd)
   (cv:∃fd,Df K mg "turned" ["move"] zO9 di fd)
   (cw:∃fd,Df K mg "behind" Pq zP0 dj fd)
   (dG:∃fd,Df K mg "full" Pr yg2 ee fd)
   (a4:∃fd,Df K mg "check_move" Ps zw6 bM fd)
   (aD:∃fd,Df K mg "check_weight" Pt zr8 bm fd)
   (bi:∃fd,Df K mg "check_put" Pu zz1 ci fd)
   (aN:∃fd,Df K mg "check_tilts" Pv zt7 bA fd)
   (dH:∃fd,Df K mg "puts" PN zP1 ef fd)
   (cO:W.findIn K (.ref ad) "__init__" = some (some (.ref aY)))
   (d9:W.isFn K (.ref aY)=true)
   (br:∃fd,Dm K "__init__" "Way.__init__" Pw zE1 aY fd)
   (cx:∃fd,Df K mg "fewest" Pb zP2 cr fd)
   (bj:∃fd,Df K mg "next_move" Pb zz2 be fd)
   (cy:∃fd,Df K mg "search" Pb zP3 dk fd)
   (a5:∃fd,Df K mg "next_layer" PP zw7 bN fd)
   (cz:∃fd,Df K mg "row_to" PR zP4 dl fd)
   (aO:∃fd,Df K mg "moved_again" ["row"] zh8 bB fd)
   (bS:W.findIn K (.ref ac) "__init__" = some (some (.ref au)))
   (dI:W.isFn K (.ref au)=true)
   (a6:∃fd,Dm K "__init__" "Least.__init__" Px zw8 au fd)
   (cW:∃fd,Df K mg "least" Pb zZ3 cR fd)
   (ar:∃fd,Df K mg "limit_to_leave" PU zi7 a0 fd)
   (ax:∃fd,Df K mg "limit_to_move" Pf zq0 bb fd)
   (ck:W.findIn K (.ref aa) "__init__" = some (some (.ref aF)))
   (dT:W.isFn K (.ref aF)=true)
   (bk:∃fd,Dm K "__init__" "Play.__init__" PV zz3 aF fd)
   (cl:W.findIn K (.ref aa) "move" = some (some (.ref aG)))
   (dU:W.isFn K (.ref aG)=true)
   (aI:∃fd,Dm K "move" "Play.move" Py zz4 aG fd)
   (cm:W.findIn K (.ref aa) "back" = some (some (.ref aH)))
   (dV:W.isFn K (.ref aH)=true)
   (aJ:∃fd,Dm K "back" "Play.back" Pg zz5 aH fd)
   (bT:W.findIn K (.ref aa) "trail" = some (some (.ref av)))
   (dJ:W.isFn K (.ref av)=true)
   (ay:∃fd,Dm K "trail" "Play.trail" Pg zw9 av fd)
   (bF:W.findIn K (.ref aa) "fewest" = some (some (.ref an)))
   (dh:W.isFn K (.ref an)=true)
   (ao:∃fd,Dm K "fewest" "Play.fewest" Pc zt8 an fd)
   (a7:W.findIn K (.ref aa) "next_move" = some (some (.ref af)))
   (cA:W.isFn K (.ref af)=true)
   (ah:∃fd,Dm K "next_move" "Play.next_move" Pc zo1 af fd)
   (bU:W.findIn K (.ref aa) "least" = some (some (.ref aw)))
   (dK:W.isFn K (.ref aw)=true)
   (az:∃fd,Dm K "least" "Play.least" Pc zx0 aw fd)
   (dL:∃fd,Df K mg "_law_at" Pz yg3 eg fd)
   (bV:∃fd,Df K mg "_law_whole" PB zJ1 c4 fd)
   (cB:∃fd,Df K mg "_law_figs" PX zP5 dm fd)
   (bW:∃fd,Df K mg "_law_shape" Pd zu6 c5 fd)
   (cX:∃fd,Df K mg "_law_put" PY zZ4 d0 fd)
   (cC:∃fd,Df K mg "_law_tilt" PZ zP6 dn fd)
   (bX:∃fd,Df K mg "_law_limit" Vc zJ2 c6 fd)
   (cD:∃fd,Df K mg "_law_hard" ["_law_cell"] zP7 dp fd)
   (cE:∃fd,Df K mg "_law_case" Pd zP8 dq fd)
   (cF:∃fd,Df K mg "_law_lets" Vd zP9 dr fd)
   (cG:∃fd,Df K mg "_law_near" Ve zz6 ds fd)
   (cY:∃fd,Df K mg "_law_far" Vf zZ5 d1 fd)
   (a8:∃fd,Df K mg "_law_is_spots" Vg zx1 bO fd)
   (cH:∃fd,Df K mg "_law_same" Ph zQ0 dt fd)
   (aP:∃fd,Df K mg "_law_same_rows" Ph zt9 bC fd)
   (cI:∃fd,Df K mg "_law_walk" Vh zQ1 du fd)
   (cJ:∃fd,Df K mg "_law_with" PD zQ2 dv fd)
   (cK:∃fd,Df K mg "_law_beam" PF zQ3 dw fd)
   (cZ:∃fd,Df K mg "_law_way" Pe zZ6 d2 fd)
   (c0:∃fd,Df K mg "_law_low" Pe zZ7 d3 fd)
   (aQ:∃fd,Df K mg "_law_exact_way" Pi zf7 bD fd)
   (aR:∃fd,Df K mg "_law_exact_low" Pi zu0 bE fd)
   (cL:∃fd,Df K mg "_law_pick" Vj zz7 dx fd)
   (cM:∃fd,Df K mg "_law_next" PH zQ4 dy fd)
   (bY:∃fd,Df K mg "_law_asked" Vk zJ3 c7 fd)
   (cN:∃fd,Df K mg "_law_fits" PJ zQ5 dz fd)
   (ea:W.nsIn K mainGlobals "law" = some (some (.ref d8)))
   (fu:K.lookup d8=some ⟨fe,fj,.func (W.fnOf "law" "law" (zi2 zU2) (zd3 zU2) (za8 zU2) .none ff fg fh fk eh fi),fl⟩)
   (fv:W.codeIn K eh "law" = true) (eb:W.keepIn K (.ref d8)=true)
   (eY:W.plainGet K ae Str.empty=true) (eZ:W.hasDictIn K ae=true) (e0:W.plainOver K ae=true) (e1:W.findIn K (.ref ae) "__setattr__" = some (some (.builtin "object.__setattr__"))) (d4:W.makesIn K ae=true) (e2:W.keepIn K (.ref ae)=true)
   (bc:W.findIn K (.ref ae) "notches" = some none)
   (bZ:W.findIn K (.ref ae) "room" = some none)
   (bG:W.findIn K (.ref ae) "hefts" = some none)
   (bH:W.findIn K (.ref ae) "limit" = some none)
   (fo:W.plainGet K ad Str.empty=true) (fp:W.hasDictIn K ad=true) (fq:W.plainOver K ad=true) (fr:W.findIn K (.ref ad) "__setattr__" = some (some (.builtin "object.__setattr__"))) (ek:W.makesIn K ad=true) (fs:W.keepIn K (.ref ad)=true)
   (bn:W.findIn K (.ref ad) "reached" = some none)
   (cn:W.findIn K (.ref ad) "many" = some none)
   (cP:W.findIn K (.ref ad) "row" = some none)
   (bI:W.findIn K (.ref ad) "layers" = some none)
   (b0:W.findIn K (.ref ad) "again" = some none)
   (co:W.findIn K (.ref ad) "shut" = some none)
   (eE:W.plainGet K ac Str.empty=true) (eF:W.hasDictIn K ac=true) (eG:W.plainOver K ac=true) (eH:W.findIn K (.ref ac) "__setattr__" = some (some (.builtin "object.__setattr__"))) (dM:W.makesIn K ac=true) (eI:W.keepIn K (.ref ac)=true)
   (bo:W.findIn K (.ref ac) "limit" = some none)
   (b1:W.findIn K (.ref ac) "row" = some none)
   (bJ:W.findIn K (.ref ac) "shut" = some none)
   (e3:W.plainGet K aa Str.empty=true) (e4:W.hasDictIn K aa=true) (e5:W.plainOver K aa=true) (e6:W.findIn K (.ref aa) "__setattr__" = some (some (.builtin "object.__setattr__"))) (d5:W.makesIn K aa=true) (e7:W.keepIn K (.ref aa)=true)
   (b2:W.findIn K (.ref aa) "beam" = some none)
   (bK:W.findIn K (.ref aa) "start" = some none)
   (a9:W.findIn K (.ref aa) "standing" = some none)
   (b3:W.findIn K (.ref aa) "made" = some none)
   (eJ:K.lookup ak=some (excClassObj es et ak eV eu dA true ev ei ew ej ex ey ez eA eB eC "ValueError.__new__")) (eK:MroV dA) (eL:W.findIn K (.ref ak) "__setattr__" = some (some (.builtin "object.__setattr__"))) (eM:W.keepIn K (.ref ak)=true)
   (bd:W.findIn K (.ref ak) "reason" = some none)
   (bL:W.findIn K (.ref ak) "word" = some none)
   (dN:W.specialIn K (.ref ai) "__getattribute__" = some (some (.builtin "type.__getattribute__"))) (dO:W.readsIn K ai (.type "type")=true) (dP:W.findCls K (.ref ai) (.type "type") "__init__" = some (.val (.ref ab)))
   (e8:W.findIn K (.ref ad) "__class__" = some (some (.builtin "object.__class__")))
   (e9:W.specialIn K (.builtin "object.__class__") "__get__" = some (some (.builtin "getset_descriptor.__get__")))
   (fb:W.takesIn K (.builtin "object.__class__")=some true)
   (fc:W.mroIn K ad (.type "object")=some true)
   (el:W.findIn K (.ref ac) "__class__" = some (some (.builtin "object.__class__")))
   (em:W.specialIn K (.builtin "object.__class__") "__get__" = some (some (.builtin "getset_descriptor.__get__")))
   (en:W.takesIn K (.builtin "object.__class__")=some true)
   (eo:W.mroIn K ac (.type "object")=some true)
   (cQ:W.nsIn K mainGlobals "fewest_layers" = some (some (.ref cr)))
   (b4:W.nsIn K mainGlobals "next_move_layers" = some (some (.ref be)))
   (c1:W.nsIn K mainGlobals "least_limits" = some (some (.ref cR)))
   (d6:W.nsIn K mainGlobals "tuple" = some none)
   (eN:W.nsIn K mainGlobals "len" = some none)
   (d7:W.nsIn K mainGlobals "range" = some none)
   (eO:W.nsIn K mainGlobals "sum" = some none)
   (eP:W.nsIn K mainGlobals "zip" = some none)
   (eQ:W.nsIn K mainGlobals "abs" = some none)
   (dQ:W.nsIn K mainGlobals "sorted" = some none)
   (eR:W.nsIn K mainGlobals "set" = some none)
   (eS:W.nsIn K mainGlobals "max" = some none)
   (ep:W.nsIn K mainGlobals "dict" = some none)
   (eT:W.nsIn K mainGlobals "min" = some none)
   (eq:W.nsIn K mainGlobals "list" = some none)
   (b5:W.nsIn K mainGlobals "isinstance" = some none)
   (eU:W.nsIn K mainGlobals "int" = some none)
   (er:W.nsIn K mainGlobals "bool" = some none)
   (bp:W.nsIn K mainGlobals "MOST_NOTCHES" = some (some (.int 4 aA)))
   (cp:W.nsIn K mainGlobals "MOST_ROOM" = some (some (.int 3 bf)))
   (b6:W.nsIn K mainGlobals "MOST_LIMIT" = some (some (.int 400 a1)))
   (bq:W.nsIn K mainGlobals "MOST_WEIGHTS" = some (some (.int 5 aB)))
   (cq:W.nsIn K mainGlobals "MOST_HEFT" = some (some (.int 20 bg)))
   (ba:W.nsIn K mainGlobals "MOST_STANDINGS" = some (some (.int 1000 aq)))
   (b7:W.nsIn K mainGlobals "MOST_MOVES" = some (some (.int 300 a2))) :
   ∃fd:FuncData,(∀(s:Shared) (v:Value),BindsTo s fd ⟨[v],[]⟩ [("_law_script",v)])/\∀base:Heap,K.In base->base.Ns mainGlobals mg->FnOk l.prog w K mg base CX0 14 fa fd Pd (yd4 K):=by
 have e:=hfa.symm.trans (W.mg_of X G ea);cases e;have F_BeamError_init:=yi4 (st:=zd6) ct cu ag;have b_BeamError_init:zm6 K _ Pj []:=fun s us X hl=>by
   rw[Zz] at hl ⊢
   match us,hl with
   | [_,_,_],_=>exact BindsTo.of_defaults (fd:=W.fnOf "__init__" "BeamError.__init__" (zi2 zd6) (zd3 zd6) (za8 zd6) (.ref ap) aS aT aU aW al aV) rfl (X _ _ ch) rfl rfl rfl
 have F_NoWay_init:=yi4 (st:=zg2) dC dD a3;have b_NoWay_init:zm6 K _ Pk []:=fun s us X hl=>by
   rw[Zz] at hl ⊢
   match us,hl with
   | [_,_],_=>exact BindsTo.of_defaults (fd:=W.fnOf "__init__" "NoWay.__init__" (zi2 zg2) (zd3 zg2) (za8 zg2) (.ref aZ) bs bt bu bw aK bv) rfl (X _ _ dg) rfl rfl rfl
 have F_law:=zN0 (st:=zU2) fu fv eb;have b_law:=F_law.binds (ps:=Pd) fun _ _ _ _ _ _ us hl=>by obtain⟨x0,rfl⟩:=ar1 hl;rfl
 have T:Txt K mg { af:=ab,ah:=_,ag:=aj,ak:=_,aq:=aE,a6:=bh.choose,bh:=c2,bi:=bQ.choose,aD:=bl,aE:=aC.choose,aH:=bx,aI:=aL.choose,ao:=aX,ap:=am.choose,b5:=dW,b6:=cS.choose,aJ:=bz,aK:=aM.choose,co:=ec,cp:=dE.choose,cq:=ed,cr:=dF.choose,b7:=dX,b8:=cT.choose,bj:=c3,bk:=bR.choose,b9:=dY,ca:=cU.choose,cb:=dZ,cc:=cV.choose,bt:=di,bu:=cv.choose,bv:=dj,bw:=cw.choose,cs:=ee,ct:=dG.choose,aW:=bM,aX:=a4.choose,aF:=bm,aG:=aD.choose,a7:=ci,a8:=bi.choose,aL:=bA,aM:=aN.choose,cu:=ef,cv:=dH.choose,aA:=aY,bf:=br.choose,aY:=cr,bx:=cx.choose,ar:=be,a9:=bj.choose,bz:=dk,bA:=cy.choose,aZ:=bN,a0:=a5.choose,bB:=dl,bC:=cz.choose,aN:=bB,aO:=aO.choose,al:=au,a1:=a6.choose,be:=cR,cd:=cW.choose,ax:=a0,ay:=ar.choose,aB:=bb,aC:=ax.choose,au:=aF,ba:=bk.choose,av:=aG,bb:=aI.choose,aw:=aH,bc:=aJ.choose,am:=av,a2:=ay.choose,aj:=an,aP:=ao.choose,ai:=af,az:=ah.choose,an:=aw,a3:=az.choose,cw:=eg,cx:=dL.choose,bl:=c4,bm:=bV.choose,bD:=dm,bE:=cB.choose,bn:=c5,bo:=bW.choose,ce:=d0,cf:=cX.choose,bF:=dn,bG:=cC.choose,bp:=c6,bq:=bX.choose,bH:=dp,bI:=cD.choose,bJ:=dq,bK:=cE.choose,bL:=dr,bM:=cF.choose,bN:=ds,bO:=cG.choose,cg:=d1,ch:=cY.choose,a4:=bO,a5:=a8.choose,bP:=dt,bQ:=cH.choose,aQ:=bC,aR:=aP.choose,bR:=du,bS:=cI.choose,bT:=dv,bU:=cJ.choose,bV:=dw,bW:=cK.choose,ci:=d2,cj:=cZ.choose,ck:=d3,cl:=c0.choose,aS:=bD,aT:=aQ.choose,aU:=bE,aV:=aR.choose,bX:=dx,bY:=cL.choose,bZ:=dy,b0:=cM.choose,br:=c7,bs:=bY.choose,b1:=dz,b2:=cN.choose,bg:=fa,b4:=_,ae:=ae,ac:=ad,ab:=ac,aa:=aa,ad:=ak,bd:=ai,cm:=aA,cA:=bf,cy:=a1,cn:=aB,cB:=bg,b3:=aq,cz:=a2 }:={ bE:=F_BeamError_init,bF:=b_BeamError_init,ct:=ag,b5:=F_NoWay_init,b6:=b_NoWay_init,cu:=a3,aS:=bh.choose_spec,an:=bQ.choose_spec,a3:=aC.choose_spec,a8:=aL.choose_spec,aR:=am.choose_spec,a4:=cS.choose_spec,ai:=aM.choose_spec,aM:=dE.choose_spec,aN:=dF.choose_spec,a5:=cT.choose_spec,aO:=bR.choose_spec,bR:=cU.choose_spec,bt:=cV.choose_spec,be:=cv.choose_spec,ay:=cw.choose_spec,bz:=dG.choose_spec,bf:=a4.choose_spec,a6:=aD.choose_spec,bp:=bi.choose_spec,a9:=aN.choose_spec,b7:=dH.choose_spec,a0:=br.choose_spec,ap:=cx.choose_spec,aT:=bj.choose_spec,bG:=cy.choose_spec,bg:=a5.choose_spec,bH:=cz.choose_spec,ba:=aO.choose_spec,bh:=a6.choose_spec,bu:=cW.choose_spec,aV:=ar.choose_spec,a1:=ax.choose_spec,bq:=bk.choose_spec,br:=aI.choose_spec,bs:=aJ.choose_spec,bi:=ay.choose_spec,bb:=ao.choose_spec,aW:=ah.choose_spec,bj:=az.choose_spec,aC:=dL.choose_spec,aI:=bV.choose_spec,bk:=cB.choose_spec,bA:=bW.choose_spec,bv:=cX.choose_spec,az:=cC.choose_spec,bB:=bX.choose_spec,bI:=cD.choose_spec,bJ:=cE.choose_spec,bK:=cF.choose_spec,bl:=cG.choose_spec,aJ:=cY.choose_spec,bm:=a8.choose_spec,aF:=cH.choose_spec,au:=aP.choose_spec,aX:=cI.choose_spec,aY:=cJ.choose_spec,bL:=cK.choose_spec,bS:=cZ.choose_spec,bT:=c0.choose_spec,bc:=aQ.choose_spec,bd:=aR.choose_spec,bM:=cL.choose_spec,bN:=cM.choose_spec,a7:=bY.choose_spec,bn:=cN.choose_spec,co:=F_law,cv:=b_law,cw:=W.mg_of X G ea,cx:=eb,ad:=⟨eY,eZ,e0,e1⟩,b8:=W.mg_of X G fm,bU:=⟨d4,cj,dS,e2⟩,ah:=bc,av:=bZ,al:=bG,aK:=bH,aa:=⟨fo,fp,fq,fr⟩,bP:=W.mg_of X G ft,b9:=⟨ek,cO,d9,fs⟩,ag:=bn,aB:=cn,ao:=cP,aE:=bI,aP:=b0,aU:=co,aj:=⟨eE,eF,eG,eH⟩,bV:=W.mg_of X G eW,ci:=⟨dM,bS,dI,eI⟩,ak:=bo,aQ:=b1,aL:=bJ,ab:=⟨e3,e4,e5,e6⟩,cm:=W.mg_of X G fn,ck:=⟨d5,ck,dT,e7⟩,aw:=b2,b1:=bK,ac:=a9,aq:=b3,ax:=W.mg_of X G cQ,bC:=W.mg_of X G b4,bW:=W.mg_of X G c1,ca:=⟨cl,dU,aI.choose_spec.F.kp⟩,cb:=⟨cm,dV,aJ.choose_spec.F.kp⟩,b2:=⟨bT,dJ,ay.choose_spec.F.kp⟩,bX:=⟨bF,dh,ao.choose_spec.F.kp⟩,bD:=⟨a7,cA,ah.choose_spec.F.kp⟩,b3:=⟨bU,dK,az.choose_spec.F.kp⟩,aG:=⟨e8,e9,fb,fc⟩,aZ:=⟨el,em,en,eo⟩,bY:=W.mg_of X G eX,cf:=W.mg_of X G dR,bw:=⟨⟨_,_,_,_,_,_,_,_,_,_,_,_,_,_,_,eJ,eK⟩,eL,eM⟩,cl:=bP,cj:=dB,bQ:=bd,b4:=bL,cc:=⟨dN,dO,dP,ag⟩,aA:=W.mg_none_of X G d6,ae:=W.mg_none_of X G eN,am:=W.mg_none_of X G d7,cp:=W.mg_none_of X G eO,cq:=W.mg_none_of X G eP,ar:=W.mg_none_of X G eQ,aH:=W.mg_none_of X G dQ,cr:=W.mg_none_of X G eR,a2:=W.mg_none_of X G eS,cn:=W.mg_none_of X G ep,bx:=W.mg_none_of X G eT,aD:=W.mg_none_of X G eq,af:=W.mg_none_of X G b5,cs:=W.mg_none_of X G eU,cd:=W.mg_none_of X G er,bZ:=W.mg_of X G bp,cg:=W.mg_of X G cp,bo:=W.mg_of X G b6,b0:=W.mg_of X G bq,ch:=W.mg_of X G cq,bO:=W.mg_of X G ba,ce:=W.mg_of X G b7 }
 exact⟨_,fun s v=>.of_eq rfl,fun base _ _=>ok_law T⟩
theorem walk {l:W.OpenLaw}{q:Program}{j:List Str}{o:(Str->Option Value)->Heap->Prop}{e:World->Heap->Prop}{d:DefRec}{K:Params->W.Frag}(p:l.most=some 63)(m:d.params.defaults=[])
   (r:∀(w:World) (h:Heap),e w h->(K w.params).In h)
   (F:∀(w:World) (b:Str->Option Value) (g:Addr) (h:Heap),(K w.params).In h->h.Ns mainGlobals b->b d.name=some (.ref g) →
     ∃i:FuncData,(∀(s:Shared) (u:Value),BindsTo s i ⟨[u],[]⟩ [("_law_script",u)])/\∀c:Heap,(K w.params).In c->c.Ns mainGlobals b->FnOk l.prog w (K w.params) b c CX0 14 g i Pd (yd4 (K w.params))) :
   W.WalkO q j o e l.row.toRowW d [] (fun f t=>PySem.call f t) :=
 L2.walk_of (n:=63) (k:=14) (x:="_law_script") (CX:=fun _=>CX0) (sp:=fun w=>yd4 (K w.params)) p (by decide) m ⟨rfl,by decide,by decide⟩ r F (fun _ _ a v y _ A=>⟨a,v,rfl,A,y,fun _=>rfl⟩) fun _ _ _ _ _ z=>z
theorem walkZ {l:W.OpenLaw}{q:Program}{g:List Str}{j:(Str->Option Value)->Heap->Prop}{d:DefRec}{K:Params->W.Frag}(k:l.most=some 63)(i:d.params.defaults=[])
 (F:∀(w:World) (a:Str->Option Value) (c:Addr) (h:Heap),(K w.params).In h->h.Ns mainGlobals a->a d.name=some (.ref c) →
   ∃e:FuncData,(∀(s:Shared) (u:Value),BindsTo s e ⟨[u],[]⟩ [("_law_script",u)])/\∀b:Heap,(K w.params).In b->b.Ns mainGlobals a->FnOk l.prog w (K w.params) a b CX0 14 c e Pd (yd4 (K w.params))) :
 W.WalkO q g j (fun w h=>(K w.params).In h) l.row.toRowW d [] (fun f m=>PySem.call f m):=walk k i (fun _ _ Y=>Y) F
end Bt
open PySem PySem.W PyProof.Rows
set_option maxRecDepth 100000 in
set_option maxHeartbeats 0 in
theorem PySem.Challenge.cw_beamtender_k25_play_asked_holds : PySem.Challenge.rw_beamtender_k25_play_asked.Holds := by
  w_on; o_law; z_head; (case hw => w_witness2)
  k_fill
  intro w0 s0 s1 mg0 mb0 G0 y0 fa0 o0 pm0 cd0 doc0 dV0 kV0 ho0 hd0 hcd0 hD0 hmg0 hg0 args0 vals0 as0 L0 hpre0 hlay0 hrd0 hwl0 hlo0
  z_open y0 L0 KX0 ZH0 ZN0 ZT0
  clear ZH0 ZN0 ZT0;refine Bt.walkZ (l := PySem.Challenge.rw_beamtender_k25_play_asked) rfl rfl ?F w0 s0 s1 mg0 mb0 G0 KX0 fa0 o0 pm0 cd0 doc0 dV0 kV0 ho0 hd0 hcd0 hD0 hmg0 hg0 args0 vals0 as0 hpre0 hlay0 hrd0 hwl0 hlo0
  case F =>
    clear y0 L0 KX0 G0 ho0 hd0 hcd0 hD0 hmg0 hg0 hpre0 hlay0 hrd0 hwl0 hlo0;intro w mg fa h KX G hmg;refine' Bt.all_mk KX G hmg ?aA ?aB ?aC ?aD ?aE ?aF ?aG ?aH ?aI ?aJ ?aK ?aL ?aM ?aN ?aO ?aP ?aQ ?aR ?aS ?aT ?aU ?aV ?aW ?aX ?aY ?aZ ?bA ?bB ?bC ?bD ?bE ?bF ?bG ?bH ?bI ?bJ ?bK ?bL ?bM ?bN ?bO ?bP ?bQ ?bR ?bS ?bT ?bU ?bV ?bW ?bX ?bY ?bZ ?cA ?cB ?cC ?cD ?cE ?cF ?cG ?cH ?cI ?cJ ?cK ?cL ?cM ?cN ?cO ?cP ?cQ ?cR ?cS ?cT ?cU ?cV ?cW ?cX ?cY ?cZ ?dA ?dB ?dC ?dD ?dE ?dF ?dG ?dH ?dI ?dJ ?dK ?dL ?dM ?dN ?dO ?dP ?dQ ?dR ?dS ?dT ?dU ?dV ?dW ?dX ?dY ?dZ ?eA ?eB ?eC ?eD ?eE ?eF ?eG ?eH ?eI ?eJ ?eK ?eL ?eM ?eN ?eO ?eP ?eQ ?eR ?eS ?eT ?eU ?eV ?eW ?eX ?eY ?eZ ?fA ?fB ?fC ?fD ?fE ?fF ?fG ?fH ?fI ?fJ ?fK ?fL ?fM ?fN ?fO ?fP ?fQ ?fR ?fS ?fT ?fU ?fV ?fW ?fX ?fY ?fZ ?gA ?gB ?gC ?gD ?gE ?gF ?gG ?gH ?gI ?gJ ?gK ?gL ?gM ?gN ?gO ?gP ?gQ ?gR ?gS ?gT ?gU ?gV ?gW ?gX ?gY ?gZ ?hA ?hB ?hC ?hD ?hE ?hF ?hG ?hH
    (case aA|aB|aC|aD|aE|aF|aG|aH|aI|aJ|aK|aL|aM|aN|aO|aP|aQ|aR|aS|aT=>k_is)
    (case aU=>exact L2.dm_mk (by k_is) (by k_is) (by k_is) fun _ _ _ _ _ _ us hl => by obtain ⟨x0, x1, x2, x3, x4, rfl⟩ := Bt.ar5 hl; rfl)
    (case aV|aW|bE|bF|bJ|bL|bN|bO|bS|bT|bU|bV|cB|cD|dI|dO|dV|dY=>exact L2.df_mk KX G (by k_is) (by k_is) (by k_is) (by k_is) fun _ _ _ _ _ _ us hl=>by obtain ⟨x0,x1,x2,rfl⟩:=Bt.ar3 hl;rfl)
    (case aX|bH|bX|dA|dC|dG|dH|dQ=>exact L2.df_mk KX G (by k_is) (by k_is) (by k_is) (by k_is) fun _ _ _ _ _ _ us hl=>by obtain ⟨x0,rfl⟩:=Bt.ar1 hl;rfl)
    (case aY|aZ|bA|bB|bC|bD|bG|bI|bW|cC|cZ|dE|dF|dJ|dK|dL|dM|dN|dP|dW=>exact L2.df_mk KX G (by k_is) (by k_is) (by k_is) (by k_is) fun _ _ _ _ _ _ us hl=>by obtain ⟨x0,x1,rfl⟩:=Bt.ar2 hl;rfl)
    (case bK|dX=>exact L2.df_mk KX G (by k_is) (by k_is) (by k_is) (by k_is) fun _ _ _ _ _ _ us hl=>by obtain ⟨x0,x1,x2,x3,x4,rfl⟩:=Bt.ar5 hl;rfl)
    (case bM|dB|dD|dR|dS|dT|dU=>exact L2.df_mk KX G (by k_is) (by k_is) (by k_is) (by k_is) fun _ _ _ _ _ _ us hl=>by obtain ⟨x0,x1,x2,x3,rfl⟩:=Bt.ar4 hl;rfl)
    (case bP|bQ=>k_is)
    (case bR=>exact L2.dm_mk (by k_is) (by k_is) (by k_is) fun _ _ _ _ _ _ us hl => by obtain ⟨x0, x1, x2, x3, x4, x5, x6, rfl⟩ := Bt.ar7 hl; rfl)
    (case bY|bZ=>k_is)
    (case cA=>exact L2.dm_mk (by k_is) (by k_is) (by k_is) fun _ _ _ _ _ _ us hl => by obtain ⟨x0, x1, x2, x3, rfl⟩ := Bt.ar4 hl; rfl)
    (case cE|cF=>k_is)
    (case cG=>exact L2.dm_mk (by k_is) (by k_is) (by k_is) fun _ _ _ _ _ _ us hl => by obtain ⟨x0, x1, x2, rfl⟩ := Bt.ar3 hl; rfl)
    (case cH|cI=>k_is)
    (case cJ=>exact L2.dm_mk (by k_is) (by k_is) (by k_is) fun _ _ _ _ _ _ us hl => by obtain ⟨x0, x1, rfl⟩ := Bt.ar2 hl; rfl)
    (case cK|cL=>k_is)
    (case cM=>exact L2.dm_mk (by k_is) (by k_is) (by k_is) fun _ _ _ _ _ _ us hl => by obtain ⟨x0, rfl⟩ := Bt.ar1 hl; rfl)
    (case cN|cO=>k_is)
    (case cP=>exact L2.dm_mk (by k_is) (by k_is) (by k_is) fun _ _ _ _ _ _ us hl => by obtain ⟨x0, rfl⟩ := Bt.ar1 hl; rfl)
    (case cQ|cR=>k_is)
    (case cS=>exact L2.dm_mk (by k_is) (by k_is) (by k_is) fun _ _ _ _ _ _ us hl => by obtain ⟨x0, x1, rfl⟩ := Bt.ar2 hl; rfl)
    (case cT|cU=>k_is)
    (case cV=>exact L2.dm_mk (by k_is) (by k_is) (by k_is) fun _ _ _ _ _ _ us hl => by obtain ⟨x0, x1, rfl⟩ := Bt.ar2 hl; rfl)
    (case cW|cX=>k_is)
    (case cY=>exact L2.dm_mk (by k_is) (by k_is) (by k_is) fun _ _ _ _ _ _ us hl => by obtain ⟨x0, x1, rfl⟩ := Bt.ar2 hl; rfl)
    (case dZ|eA|eB|eC|eD|eE|eF|eG|eH|eI|eJ|eK|eL|eM|eN|eO|eP|eQ|eR|eS|eT|eU|eV|eW|eX|eY|eZ|fA|fB|fC|fD|fE|fF|fG|fH|fI|fJ|fK|fL|fM|fN|fO|fP|fQ|fR|fS=>k_is)
    (case fT=>first | exact Or.inl rfl | exact Or.inr ⟨_, rfl⟩)
    (case fU|fV|fW|fX|fY|fZ|gA|gB|gC|gD|gE|gF|gG|gH|gI|gJ|gK|gL|gM|gN|gO|gP|gQ|gR|gS|gT|gU|gV|gW|gX|gY|gZ|hA|hB|hC|hD|hE|hF|hG|hH=>k_is)
