import PyProof.Rows.All
import Wide.All
import OpenK.AllK
import Wide.FinOn
import Open.Tops
import Lean
import PyProof.EqAt
import PyProof.EqKinds
import PyProof.TupleCall
import PyProof.ExcInit
import PyProof.ExcClass3
import PyProof.ExcBaseAll.ValueError
import PyProof.InstStoreFacts
import KE.KTryMore
import PyProof.RulesAs
import PyProof.NsDelKeeps
import PyProof.Rows.SortRuns
import KE.KDictSum
import KE.KSortTup
import PyProof.Rows.SetFrom
import PyProof.Rows.MinMaxN
import KE.KDictOf
import KE.KDictList
import PySem.Challenge.RW_beamtender_k12_error_classes
set_option genSizeOf false
set_option bootstrap.genMatcherCode false
set_option Elab.async false
set_option linter.all false
set_option maxRecDepth 100000
set_option maxHeartbeats 4000000
namespace PySem.W.Fast
def tw15609538096005654625:=()
def tw9875701858856188877:=()
def tw449046763473305251:=()
def tw2354759294639353536:=()
def tw13491113790074028277:=()
def tw13652248161764325046:=()
def tw17883220682929012078:=()
def tw18249555477751974558:=()
def tw3686975172084563495:=()
def tw17575088844732008527:=()
def tw9220982260813905369:=()
def tw3885653689373858798:=()
def tw14892364612390536782:=()
def tw17826476109758355594:=()
def tw8375649982213735651:=()
def tw3229229481544349078:=()
def tw9487006584877795745:=()
def tw66229536854496254:=()
def tw8799371766316806195:=()
def tw11668266817788257214:=()
def tw5261004023476992904:=()
def tw418678471844162285:=()
def tw15946059240643880343:=()
def tw5311949027486367893:=()
def tw11682295079994835959:=()
def tw14793528613841356241:=()
def tw13047818546100001039:=()
def tw3230255935634896069:=()
def tw15427409953187825900:=()
def tw13280436945506912963:=()
def tw12549236495366979181:=()
def tw1752667804752854530:=()
def tw7968951724926223929:=()
def tw7328391522925769082:=()
def tw3019469949455086360:=()
def tw9534376928585669338:=()
def tw12585168246023265348:=()
def tw17363523651913115151:=()
def tw13715859635340528996:=()
def tw12139359464509512641:=()
def tw10441242611306285572:=()
def tw3658717247614812554:=()
def tw8653466076819977750:=()
def tw17875217992876123986:=()
def tw15382187792202659720:=()
def tw3212918311393277687:=()
def tw3981664305713050090:=()
def tw13284986261401224365:=()
def tw18057817570977750915:=()
def tw8676383313225913412:=()
def tw15690082421701309362:=()
def tw11215009313291275738:=()
def tw5102564316427039747:=()
def tw7441907535588193731:=()
def tw16946864209008080458:=()
def tw12738888062330648496:=()
def tw16601209679299077434:=()
def tw4740779726407543000:=()
def tw1703398147701914194:=()
def tw7359527180395260068:=()
def tw9490309155736654723:=()
def tw14720310561434911567:=()
def tw12401827627117488271:=()
def tw9617132747901357244:=()
def tw6534638269923451698:=()
def tw7827199926834777277:=()
def tw510508489687345004:=()
def tw16881123178058997748:=()
def tw12947404294107896272:=()
def tw6495966422785669206:=()
def tw13152590778591533176:=()
def tw2611873140177220868:=()
def tw8884381631845321293:=()
def tw16328061554116807395:=()
def tw7926837570122743213:=()
def tw13345255716235234187:=()
def tw16496239058014000790:=()
def tw16016550133085892538:=()
def tw5618704081367992974:=()
def tw14119287083160921775:=()
def tw4011314796010634301:=()
def tw12114802680203865219:=()
def tw6789391691469668130:=()
def tw7394711482365575798:=()
def tw16305689355389022376:=()
def tw1000842258696149368:=()
def tw8624747683254120841:=()
def tw2820001725760277863:=()
def tw8890067713494089578:=()
def tw17868243287415312093:=()
def tw6832014229881987696:=()
def tw6225532646710409926:=()
def tw15635021653711906561:=()
def tw2641776999433522293:=()
def tw14195979810670126923:=()
def tw8863032751403379839:=()
def tw11152937896425033067:=()
def tw12502990643044651330:=()
def tw16919948864608603538:=()
def tw1474243260737092745:=()
def tw3178918529748216085:=()
def tw13330442626456223456:=()
def tw7714284404807913830:=()
def tw4661913934292462982:=()
def tw16712202820130727285:=()
def tw13326879605935550310:=()
def tw10636932806721120778:=()
def tw3831817799466036911:=()
def tw13424009735776669124:=()
def tw12772585543002508241:=()
def tw12544126094507759576:=()
def tw4181922629742367180:=()
def tw7665518572684538450:=()
def tw6372348885402806909:=()
def tw3890045312479836345:=()
def tw7046939658872891319:=()
def tw13177692204964674833:=()
def tw5268945621321606819:=()
def tw10717283139417537689:=()
def tw7993358469165024741:=()
def tw12124372697101007219:=()
def tw103882420914111513:=()
def tw3104085137606496750:=()
def tw17001882099196446411:=()
def tw7081219217070067141:=()
def tw13289688069668668681:=()
def tw13937447743923076125:=()
def tw15040187060045286449:=()
def tw13980391716373973125:=()
def tw2376146251339899467:=()
def tw18047574368044514900:=()
def tw2437979993322105874:=()
def tw15057397456611768808:=()
def tw16234127316536661992:=()
def tw6209469394655371424:=()
def tw13929211453740900326:=()
def tw5789251425771625663:=()
def tw1733810911919734349:=()
def tw1208637784526272848:=()
def tw17189059836961385283:=()
def tw3568221113690699628:=()
def tw1669564008409280018:=()
def tw4741379270892838527:=()
def tw4855218871840319181:=()
def tw3830430188680812704:=()
def tw5575936949887020196:=()
def tw5814548082606291424:=()
def tw13195202737579115229:=()
def tw7757829612694936006:=()
def tw18049346029238642890:=()
def tw15535141418324576845:=()
def tw3352996709335487206:=()
def tw8358627711272145:=()
def tw12549439521719691834:=()
def tw14809745626097494037:=()
def tw13921026743781489350:=()
def tw10267624684649909220:=()
def tw1047169307133417189:=()
def tw2913326399590932868:=()
def tw13218395427782074052:=()
def tw14188994159716540630:=()
def tw15672753558651411490:=()
def tw5307621015708992375:=()
def tw9716621485308279651:=()
def tw8388551247895793903:=()
def tw2932835573917132828:=()
def tw1869324414925723995:=()
def tw18008403900301762646:=()
def tw12541263485161198205:=()
def tw11446110343686128798:=()
def tw6215533152039126534:=()
def tw8289201723033672784:=()
def tw12854131776258026056:=()
def tw942869215506676227:=()
def tw4345019911108530133:=()
def tw4710178389734660098:=()
def tw2993589644520889473:=()
def tw4435536550739958806:=()
def tw9949440491145687473:=()
def tw9030311337530289954:=()
def tw257805031048349312:=()
def tw13388329295594954441:=()
def tw3323336000576858892:=()
def tw13051554338707416700:=()
def tw3040603241819733037:=()
def tw8796100428091466779:=()
def tw7222261686387887083:=()
def tw2955376334476329085:=()
def tw1832620355775954873:=()
def tw3580542493968091524:=()
def tw2184249255590281158:=()
def tw12473246741174196860:=()
def tw15549063411931563809:=()
def tw11230721723131433943:=()
def tw12752150830553017451:=()
def tw6221288335226394357:=()
def tw18135836161813606872:=()
def tw1916129475366820216:=()
def tw9010099809741596245:=()
def tw946860814155284815:=()
def tw12949322264152296818:=()
def tw10115618877673005015:=()
def tw5355366707231505081:=()
def tw8179984010025559478:=()
def tw11920347305827331542:=()
def tw16357710459693451616:=()
def tw1011886094808034365:=()
def tw7913487494982484974:=()
def tw12910276793347104840:=()
def tw3450276488458835093:=()
def tw6823255452266843197:=()
def tw6489391182173414287:=()
def tw4599408916308314879:=()
def tw1140207687960164541:=()
def tw16107666608751028353:=()
def tw4603454429747954337:=()
def tw7307169189179478989:=()
def tw8440458137534088382:=()
def tw3687594823114701914:=()
def tw11690546079099957906:=()
def tw10768007242653255701:=()
def tw12995501554110903693:=()
def tw12967348301036314611:=()
def tw14215123122354833209:=()
def tw11281166094575822959:=()
def tw4944619957281068203:=()
def tw11314527338411894176:=()
def tw9531923861127612310:=()
def tw8995606092004679833:=()
def tw11674666907471650257:=()
def tw11135430593145654385:=()
def tw15048338034750435528:=()
def tw7060385967723963791:=()
def tw5286631185430878847:=()
def tw5383940708330879871:=()
def tw5261130503777914796:=()
def tw13118480719370024398:=()
def tw5754295190014058437:=()
def tw2126626906519902842:=()
def tw6562495770406627015:=()
def tw333248365107832312:=()
def tw13462262104740601851:=()
def tw411974920610325560:=()
def tw12733668384243040457:=()
def tw493912871080457170:=()
def tw10320752571988328849:=()
def tw18393411409448080188:=()
def tw3344264856214762453:=()
def tw660990302595897368:=()
def tw15104624696282731153:=()
def tw108875523471179226:=()
def tw2354034852605817712:=()
def tw10000473865394507068:=()
def tw7206778218585899309:=()
def tw472602114130254167:=()
def tw4520251332391347864:=()
def tw2420187410074616686:=()
def tw4266247291153199747:=()
def tw5732601891569811610:=()
def tw3911240729315104563:=()
def tw15311386704708405849:=()
def tw8994995011787857516:=()
def tw13434053614691055782:=()
def tw5222410140486056405:=()
def tw13549170709803225205:=()
def tw17097572129063985214:=()
def tw1028674323301138617:=()
def tw14139705462525784017:=()
def tw8437378167665425292:=()
def tw2524090735876988561:=()
def tw3310474441111162943:=()
def tw10959502279142616385:=()
def tw16014629909880642031:=()
def tw11371428006593430020:=()
def tw12863423857544739882:=()
def tw6773530256975149701:=()
def tw10404248668069894984:=()
def tw14843347528962581828:=()
def tw4432696882315497185:=()
def tw3569682346032787453:=()
def tw1514344064824093552:=()
def tw3553067781159141254:=()
def tw7164401465345759305:=()
def tw15097151832389050100:=()
def tw7265332195313137301:=()
def tw3538019497977664112:=()
def tw5861541601230951947:=()
def tw9197304658949117301:=()
def tw12994980737285001976:=()
def tw5226688397888932757:=()
def tw1773169158880882427:=()
def tw909209579666521076:=()
def tw7007480984082095211:=()
def tw967181451958306903:=()
def tw309385545636862894:=()
def tw7969766742950106731:=()
def tw7194236489510154445:=()
def tw15904199594167711245:=()
def tw502495836982246989:=()
def tw13342077861458292948:=()
def tw16303290952775889906:=()
def tw1791923353313668367:=()
def tw7010526503082130429:=()
def tw17833299349283812095:=()
def tw7585699332345302173:=()
def tw12568553590447402063:=()
def tw2154145614821177048:=()
def tw10674909896736814064:=()
def tw12141376564654145885:=()
def tw6021518616687916795:=()
def tw16177564472515902282:=()
def tw11521242049146232390:=()
def tw13042987009090369755:=()
def tw4713069534419796162:=()
def tw7763899285281672527:=()
def tw12414909999554087841:=()
def tw510474459344450861:=()
def tw16621055288179733572:=()
def tw13112545718370287331:=()
def tw7176615548978978305:=()
def tw8527514369018007257:=()
def tw9774171697980739067:=()
def tw2791225963907702458:=()
def tw12267645336050823156:=()
def tw15583261048998747082:=()
def tw2982073985316677885:=()
def tw8066867726715957376:=()
def tw7691898122354419227:=()
def tw17290972964042678537:=()
def tw3723177373317537601:=()
def tw9254505162750572084:=()
def tw6003258108348354880:=()
def tw7919678704030120392:=()
def tw10903336093356984243:=()
def tw18318756707950350615:=()
def tw7235606131348083305:=()
def tw18127286466306570104:=()
def tw11594446826732008288:=()
def tw2664406493659040729:=()
def tw9411876675700126472:=()
def tw13702891178513515200:=()
def tw13426165663420723542:=()
def tw17320941017906573961:=()
def tw15184719589391248835:=()
def tw12884345898040493565:=()
def tw2314850991181414015:=()
def tw6725825616237840880:=()
def tw16569931499038282646:=()
def tw9955913986758740559:=()
def tw1809605570951312235:=()
def tw2504313450237132770:=()
def tw12763405279172489904:=()
def tw14733206643531474862:=()
def tw3127482724838381079:=()
def tw14404858087532498792:=()
def tw7601485478738791909:=()
def tw14236634364658081537:=()
def tw9437125512719922277:=()
def tw10884504835522081619:=()
def tw2660240500735174058:=()
def tw14511448695305008439:=()
def tw9178179058778410696:=()
def tw13727869218938716840:=()
def tw12273328002279823398:=()
def tw2211392441463003465:=()
def tw665817556643461201:=()
def tw529854329468910250:=()
def tw243014645851030326:=()
def tw3310003191857137361:=()
def tw7501313016683694444:=()
def tw3761220389164215930:=()
def tw7665099563914829251:=()
def tw8231027407842749250:=()
def tw13361512355217181844:=()
def tw9825204371644591898:=()
def tw9577353047086436272:=()
def tw14319998673970433405:=()
def tw4478221943781944084:=()
def tw8799843197480935225:=()
def tw5099782730629757621:=()
def tw6456229382141864479:=()
def tw14677674703312933230:=()
def tw3959295344381382892:=()
def tw16571092839454270792:=()
def tw1541844247297520286:=()
def tw8358301076202330920:=()
def tw11035741090231338881:=()
def tw9016096609202252766:=()
def tw17843169904580934029:=()
def tw16693665330406178084:=()
def tw12086055875710105966:=()
def tw13940807443798281087:=()
def tw2997100427077911204:=()
def tw16506412502484781965:=()
def tw2100303338328872314:=()
def tw14458000407063584397:=()
def tw7153372282856021588:=()
def tw702434908443484134:=()
def tw12703518704471188779:=()
def tw1845818362578280308:=()
def tw14698416519950074807:=()
def tw14153967976283286783:=()
def tw5899196017250092262:=()
def tw4090890459014202459:=()
def tw14835577465991547960:=()
def tw997224137280953189:=()
def tw9975440970417669999:=()
def tw12591875417144711589:=()
def tw1492534315095241964:=()
def tw4098889890243815929:=()
def tw2487258139088548446:=()
def tw11299500888830994319:=()
def tw9735821931208282710:=()
def tw5822687539928157022:=()
def tw5423673438373497237:=()
def tw8667717744889200915:=()
def tw2525549545224435720:=()
def tw15662631657644082128:=()
def tw10314816697101052396:=()
def tw5712438867180111753:=()
def tw14097661504929121555:=()
def tw10336500330731997569:=()
def tw2202985319021082558:=()
def tw9308976407678652887:=()
def tw8831346728554376552:=()
def tw5120911708596212068:=()
def tw6923828956726058166:=()
def tw15934638170662338972:=()
def tw11070642299167359730:=()
def tw18395447249889284424:=()
def tw13395928122616157352:=()
def tw15699863016569598264:=()
def tw3682201383558988232:=()
def tw4607666237618533621:=()
def tw13886701811110005027:=()
def tw6384380429368410037:=()
def tw8206308077353077152:=()
def tw7991381263852058442:=()
def tw1583082192504555227:=()
def tw1887009147814325085:=()
def tw3950208620310107622:=()
def tw6881704362152558297:=()
def tw18211344035370026615:=()
def tw14855928715544039322:=()
def tw13335986610790126325:=()
def tw4636657776213585086:=()
def tw17158726855702223075:=()
def tw18093655901463029135:=()
def tw144847829894191211:=()
def tw206532577557242041:=()
def tw13878885515207244826:=()
def tw16058616996003280953:=()
def tw2474205682884165117:=()
def tw10320761425662938211:=()
def tw8570919375960198125:=()
def tw13961376157995586912:=()
def tw13818548423629187672:=()
def tw15076246694279220373:=()
end PySem.W.Fast
open_shared Tp for PySem.Challenge.pw_beamtender_k12_error_classes leaving 1
namespace L2
open PySem PySem.Spec PyProof.Rows
noncomputable abbrev Key:=Sum Int Str
noncomputable def zH4:Key->Value->Bool
 | .inl k,v=>Value.isInt k v
 | .inr x,v=>Value.isStrOf x v
noncomputable def keyH (w:World):Key->Int
 | .inl k=>hashInt k
 | .inr x=>hashStr w x
theorem zh2:∀ {k:Key} {v:Value},zH4 k v=true->(∃i t,k=Sum.inl i/\v=Value.int i t)\/(∃x t,k=Sum.inr x/\v=Value.str x t)
 | .inl i,v,h=>by
   obtain⟨t,e⟩:=Value.isInt_shape (k:=i) (v:=v) h
   exact .inl ⟨i,t,rfl,e⟩
 | .inr x,v,h=>by
   obtain⟨t,e⟩:=Value.isStrOf_shape (x:=x) (v:=v) h
   exact .inr ⟨x,t,rfl,e⟩
theorem keyIs_int (i:Int)(t:Tok):zH4 (.inl i) (.int i t)=true:=by simp[zH4,Value.isInt]
theorem keyIs_str (x:Str)(t:Tok):zH4 (.inr x) (.str x t)=true:=by simp[zH4,Value.isStrOf]
theorem key_ll (a b:Int):decide ((Sum.inl a:Key)=Sum.inl b)=(a == b):=by
 by_cases e:a=b
 . subst e;simp
 . have h:¬ (Sum.inl a:Key)=Sum.inl b:=fun q=>e (Sum.inl.inj q)
   rw[decide_eq_false h]
   exact(beq_eq_false_iff_ne.mpr e).symm
theorem key_rr (a b:Str):decide ((Sum.inr a:Key)=Sum.inr b)=decide (a=b):=by
 by_cases e:a=b
 . subst e;simp
 . have h:¬ (Sum.inr a:Key)=Sum.inr b:=fun q=>e (Sum.inr.inj q)
   rw[decide_eq_false h,decide_eq_false e]
theorem key_lr (a:Int)(b:Str):decide ((Sum.inl a:Key)=Sum.inr b)=false:=decide_eq_false (fun q=>nomatch q)
theorem key_rl (a:Str)(b:Int):decide ((Sum.inr a:Key)=Sum.inl b)=false:=decide_eq_false (fun q=>nomatch q)
noncomputable def zh5 (prog:Program)(w:World):PySem.KeyKind prog w Key where
 is:=zH4
 hash:=keyH w
 inj:=fun v a b ha hb=>by
   rcases zh2 ha with⟨i,t,rfl,rfl⟩ | ⟨x,t,rfl,rfl⟩
   . rcases zh2 hb with⟨j,u,rfl,e⟩ | ⟨y,u,rfl,e⟩
     . injection e with e1 _;rw[e1]
     . exact nomatch e
   . rcases zh2 hb with⟨j,u,rfl,e⟩ | ⟨y,u,rfl,e⟩
     . exact nomatch e
     . injection e with e1 _;rw[e1]
 byValue:=fun k v h=>by
   rcases zh2 h with⟨i,t,rfl,rfl⟩ | ⟨x,t,rfl,rfl⟩<;>rfl
 pyHash:=fun hv h=>by
   rcases zh2 hv with⟨i,t,rfl,rfl⟩ | ⟨x,t,rfl,rfl⟩
   . exact wpAny_pyHash_int h
   . exact wpAny_pyHash_str h
 eqBool:=fun hu hv h=>by
   rcases zh2 hu with⟨i,t,rfl,rfl⟩ | ⟨x,t,rfl,rfl⟩
   . rcases zh2 hv with⟨j,u,rfl,rfl⟩ | ⟨y,u,rfl,rfl⟩
     . rw[key_ll] at h;exact wpAny_eqBool_int h
     . rw[key_lr] at h;exact SeqAt.EqAt.int_str i t y u _ _ _ _ h
   . rcases zh2 hv with⟨j,u,rfl,rfl⟩ | ⟨y,u,rfl,rfl⟩
     . rw[key_rl] at h;exact SeqAt.EqAt.str_int x t j u _ _ _ _ h
     . rw[key_rr] at h;exact wpAny_eqBool_str h
 «strs»:=fun k x t v h=>by
   rcases zh2 h with⟨i,u,rfl,e⟩ | ⟨y,u,rfl,e⟩
   . exact nomatch e
   . injection e with e1 _
     subst e1
     cases v<;>rfl
theorem mixKind_int (prog:Program)(w:World)(i:Int)(t:Tok):(zh5 prog w).is (.inl i) (.int i t)=true:=keyIs_int i t
theorem mixKind_str (prog:Program)(w:World)(x:Str)(t:Tok):(zh5 prog w).is (.inr x) (.str x t)=true:=keyIs_str x t
inductive V where
 | non | bl (b:Bool) | int (i:Int) | str (x:Str) | byt (b:Array UInt8) | flt (b:UInt64) | ref (a:Addr) | ty (n:String)
 deriving DecidableEq
noncomputable def RelV:V->Value->Prop
 | .non,u=>u=Value.none
 | .bl b,u=>u=Value.bool b
 | .int i,u=>∃t,u=Value.int i t
 | .str x,u=>∃t,u=Value.str x t
 | .byt b,u=>∃t,u=Value.bytes b t
 | .flt b,u=>∃t,u=Value.float b t
 | .ref a,u=>u=Value.ref a
 | .ty n,u=>u=Value.type n
noncomputable abbrev Vals:List V->List Value->Prop:=Paired RelV
theorem Vals.length {xs:List V}{us:List Value}(r:Vals xs us):xs.length=us.length:=Paired.length r
theorem Vals.get:∀ {xs:List V} {us:List Value} {i:Nat} {x:V},Vals xs us->xs[i]?=some x->∃u,us[i]?=some u/\RelV x u
 | _,_,_,_,.nil,e=>by simp at e
 | _,_,0,_,.cons r _,e=>by simp at e;subst e;exact⟨_,rfl,r⟩
 | _,_,i+1,x,.cons _ t,e=>by
   obtain⟨u,h1,h2⟩:=Vals.get (i:=i) (x:=x) t (by simpa using e)
   exact⟨u,by simpa using h1,h2⟩
theorem Vals.append:∀ {xs ys:List V} {us ws:List Value},Vals xs us->Vals ys ws->Vals (xs++ys) (us++ws)
 | _,_,_,_,.nil,s=>s
 | _,_,_,_,.cons r t,s=>.cons r (Vals.append t s)
theorem Vals.take:∀ {xs:List V} {us:List Value} (n:Nat),Vals xs us->Vals (xs.take n) (us.take n)
 | _,_,0,_=>.nil
 | _,_,_+1,.nil=>.nil
 | _,_,n+1,.cons r t=>.cons r (Vals.take n t)
theorem Vals.drop:∀ {xs:List V} {us:List Value} (n:Nat),Vals xs us->Vals (xs.drop n) (us.drop n)
 | _,_,0,r=>r
 | _,_,_+1,.nil=>.nil
 | _,_,n+1,.cons _ t=>Vals.drop n t
noncomputable def RelO:Option V->Option Value->Prop
 | some v,some u=>RelV v u
 | none,none=>True
 | _,_=>False
noncomputable def KV {κ:Type}:List (κ×V)->List (κ×Value)->Prop:=Paired fun(p:κ×V) (q:κ×Value)=>p.1=q.1/\RelV p.2 q.2
noncomputable def kV:Key->V
 | .inl i=>.int i
 | .inr x=>.str x
inductive HO where
 | lst (xs:List V)
 | tup (xs:List V)
 | dK (kvs:List (Key×V)) | dT (kvs:List (List Key×V))
 | set (S:Int->Bool) (n:Nat)
 | ins (C dx:Addr) (fs:List (Str×V))
 | own (x:Addr)
 | xd (fs:List (Str×V))
 | met (f x:Addr)
 | rng (lo hi:Int)
 | frz (o:Obj) (u:HO)
 | tbl (ps:Array Value)
 | ext (φ:Heap->Prop)
noncomputable abbrev Hp:=Addr->Option HO
noncomputable def upd (H:Hp)(a:Addr)(o:HO):Hp:=fun b=>if b=a then some o else H b
theorem za5 {H:Hp}{a:Addr}{o:HO}:upd H a o a=some o:=by unfold upd;rw[if_pos rfl]
theorem za7 {H:Hp}{a b:Addr}{o:HO}(h:b≠a):upd H a o b=H b:=by unfold upd;rw[if_neg h]
theorem zu6 {H:Hp}{a:Addr}{o u:HO}:upd (upd H a o) a u=upd H a u:=by
 funext b;unfold upd;split<;>rfl
theorem zv6 {H:Hp}{a b:Addr}{o u:HO}(h:H a=some o)(h':H b=some u)(d:o≠u):a≠b:=by
 intro e;subst e;rw[h] at h';exact d (Option.some.inj h')
theorem zb2 {H:Hp}{a b:Addr}{o:HO}(h:H a=some o)(h':H b=none):a≠b:=by
 intro e;subst e;rw[h] at h';cases h'
noncomputable def TupD (h:Heap) (a:Addr) (items:Array Value):Prop:=∃o,h.get? a=some o/\o.cls = .type "tuple"/\o.dict=none/\∃n,o.data = .seq items n
theorem TupD.isTup {h:Heap}{a:Addr}{items:Array Value}(x:TupD h a items):IsTup h a items:=let⟨o,e,c,_,n,d⟩:=x;⟨o,e,c,n,d⟩
theorem TupD.new (h:Heap) (items:Array Value):TupD (h.push { cls:=.type "tuple",data:=.seq items }) h.objs.size items:=⟨_,Heap.get?_push_size _ rfl,rfl,rfl,_,rfl⟩
section
variable (P:Program) (w:World)
noncomputable def zg7 (H:Hp)(h:Heap)(a:Addr):HO->Prop
 | .lst xs=>xs.length<=sizeLine/\∃(its:List Value) (n:Nat),Vals xs its/\h.get? a=some { cls:=.type "list",data:=.seq its.toArray n }
 | .tup xs=>xs.length<=sizeLine/\∃its:List Value,Vals xs its/\TupD h a its.toArray
 | .dK kvs=>kvs.length<=sizeLine/\(a == sysModules)=false/\∃vs,KV kvs vs/\h.DictOf (zh5 P w) a vs
 | .dT kvs=>kvs.length<=sizeLine/\(a == sysModules)=false/\∃xs:List (List Key×Addr×Value),
     Paired (fun(p:List Key×V) (q:List Key×Addr×Value)=>p.1=q.1/\H q.2.1=some (.tup (p.1.map kV))/\RelV p.2 q.2.2) kvs xs ∧
     ∃o es ep,h.get? a=some o/\o.ExactDict/\o.data = .dict es ep/\es.toList=xs.map (entryOfKey (tupleKind (zh5 P w)))/\(xs.map (·.1)).Nodup
 | .set S n=>h.SetOf (intKind P w) a S n
 | .ins C dx fs=>H dx=some (.own a)/\fs.length<=1000/\dx≠a/\h.get? a=some (W.instObj C dx) ∧
     ∃mA,h.Ns1 dx mA/\(∀f,RelO (fs.lookup f) (mA f))/\PySem.Within mA (fs.map (·.1))
 | .own _=>∃o,h.get? a=some o
 | .xd fs=>fs.length<=1000/\∃mA,h.Ns1 a mA/\(∀f,RelO (fs.lookup f) (mA f))/\PySem.Within mA (fs.map (·.1))
 | .rng lo hi=>∃t u v,h.get? a=some { cls:=.type "range",data:=.fields #[.int lo t,.int hi u,.int 1 v] }
 | .frz o u=>h.get? a=some o/\zg7 H h a u
 | .tbl ps=>h.get? a=some { cls:=.none,data:=.fields ps }
 | .met f x=>h.get? a=some (W.methodObj (.ref f) (.ref x))
 | .ext φ=>φ h/\(∃o,h.get? a=some o)/\∀h1 h2:Heap,φ h1->(∀o,h1.get? a=some o->h2.get? a=some o)->φ h2
noncomputable def HOk (H:Hp)(h:Heap):Prop:=∀a o,H a=some o->zg7 P w H h a o
end
section
variable {P:Program} {w:World} {H H':Hp} {h h':Heap} {a:Addr} {o:HO}
theorem zg7.lt (x:zg7 P w H h a o):a<h.objs.size:=by
 cases o with
 | lst xs=>obtain⟨_,_,_,_,e⟩:=x;exact Heap.lt_size e
 | tup xs=>obtain⟨_,_,_,_,e,_⟩:=x;exact Heap.lt_size e
 | dK kvs=>obtain⟨_,_,_,_,o,_,_,e,_⟩:=x;exact Heap.lt_size e
 | dT kvs=>obtain⟨_,_,_,_,o,_,_,e,_⟩:=x;exact Heap.lt_size e
 | set S n=>obtain⟨o,_,_,_,e,_⟩:=x;exact Heap.lt_size e
 | ins C dx fs=>obtain⟨_,_,_,e,_⟩:=x;exact Heap.lt_size e
 | own y=>obtain⟨_,e⟩:=x;exact Heap.lt_size e
 | xd fs=>obtain⟨_,_,⟨_,_,_,e,_⟩,_⟩:=x;exact Heap.lt_size e
 | rng lo hi=>obtain⟨_,_,_,e⟩:=x;exact Heap.lt_size e
 | frz ob u=>obtain⟨e,_⟩:=x;exact Heap.lt_size e
 | tbl ps=>exact Heap.lt_size (show h.get? a=some _ from x)
 | met f y=>exact Heap.lt_size (show h.get? a=some _ from x)
 | ext φ=>obtain⟨_,⟨_,e⟩,_⟩:=x;exact Heap.lt_size e
theorem Paired.mapP {α β:Type}{F G:α->β->Prop}:∀ {l₁:List α} {l₂:List β},Paired F l₁ l₂->(∀a b,F a b->G a b)->Paired G l₁ l₂
 | _,_,.nil,_=>.nil
 | _,_,.cons r t,f=>.cons (f _ _ r) (Paired.mapP t f)
theorem zg7.stay (x:zg7 P w H h a o)(k:∀b u,(b=a\/H b=some (.own a))->h.get? b=some u->h'.get? b=some u)
   (ho:∀b,H b=some (.own a)->H' b=some (.own a)) (ht:∀b xs,H b=some (.tup xs)->H' b=some (.tup xs)):zg7 P w H' h' a o:=by
 induction o with
 | lst xs=>obtain⟨z,its,n,r,e⟩:=x;exact⟨z,its,n,r,k _ _ (.inl rfl) e⟩
 | tup xs=>obtain⟨z,its,r,ob,e,c⟩:=x;exact⟨z,its,r,ob,k _ _ (.inl rfl) e,c⟩
 | dK kvs=>obtain⟨z,y,vs,r,ob,es,ep,e,c⟩:=x;exact⟨z,y,vs,r,ob,es,ep,k _ _ (.inl rfl) e,c⟩
 | dT kvs =>
   obtain⟨z,y,xs,r,ob,es,ep,e,c⟩:=x
   exact⟨z,y,xs,Paired.mapP r fun p q z=>⟨z.1,ht _ _ z.2.1,z.2.2⟩,ob,es,ep,k _ _ (.inl rfl) e,c⟩
 | set S n=>obtain⟨ob,es,ep,t,e,c⟩:=x;exact⟨ob,es,ep,t,k _ _ (.inl rfl) e,c⟩
 | ins C dx fs =>
   obtain⟨d,z,ne,e,mA,⟨od,es,ep,e2,c⟩,r⟩:=x
   exact⟨ho _ d,z,ne,k _ _ (.inl rfl) e,mA,⟨od,es,ep,k _ _ (.inr d) e2,c⟩,r⟩
 | own y=>obtain⟨ob,e⟩:=x;exact⟨ob,k _ _ (.inl rfl) e⟩
 | xd fs=>obtain⟨z,mA,⟨od,es,ep,e,c⟩,r⟩:=x;exact⟨z,mA,⟨od,es,ep,k _ _ (.inl rfl) e,c⟩,r⟩
 | rng lo hi=>obtain⟨t,u,v,e⟩:=x;exact⟨t,u,v,k _ _ (.inl rfl) e⟩
 | frz ob u ih=>obtain⟨e,q⟩:=x;exact⟨k _ _ (.inl rfl) e,ih q⟩
 | tbl ps =>
   have e:h.get? a=some { cls:=.none,data:=.fields ps }:=x
   show h'.get? a=some { cls:=.none,data:=.fields ps }
   exact k a _ (.inl rfl) e
 | met f y =>
   have e:h.get? a=some (W.methodObj (.ref f) (.ref y)):=x
   show h'.get? a=some (W.methodObj (.ref f) (.ref y))
   exact k a _ (.inl rfl) e
 | ext φ=>obtain⟨p,⟨o,e⟩,st⟩:=x;exact⟨st _ _ p fun o q=>k _ _ (.inl rfl) q,⟨o,k _ _ (.inl rfl) e⟩,st⟩
theorem HOk.lt (x:HOk P w H h)(e:H a=some o):a<h.objs.size:=(x a o e).lt
theorem HOk.fresh (x:HOk P w H h)(e:h.objs.size<=a):H a=none:=by
 cases q:H a with
 | none=>rfl
 | some u=>exact absurd (Nat.lt_of_lt_of_le (x.lt q) e) (Nat.lt_irrefl _)
theorem HOk.kept (x:HOk P w H h)(k:∀b u,h.get? b=some u->h'.get? b=some u):HOk P w H h':=fun a o e =>
 (x a o e).stay (fun b u _ q=>k b u q) (fun _ q=>q) fun _ _ q=>q
theorem HOk.laid (x:HOk P w H h)(k:∀b u,h.get? b=some u->h'.get? b=some u)(hp:h.objs.size<=a)(new:zg7 P w (upd H a o) h' a o):HOk P w (upd H a o) h':=fun b u e=>by
 have hn:=x.fresh hp
 by_cases hb:b=a
 . subst hb;rw[za5] at e;cases e;exact new
 . rw[za7 hb] at e
   exact(x b u e).stay (fun c v _ q=>k c v q) (fun c q=>by rw[za7 (zb2 q hn)];exact q) fun c xs q=>by rw[za7 (zb2 q hn)];exact q
end
noncomputable def Rd (H:Hp)(a:Addr)(u:HO):Prop:=H a=some u\/∃o,H a=some (.frz o u)
theorem Rd.ok {P:Program}{w:World}{H:Hp}{h:Heap}{a:Addr}{u:HO}(r:Rd H a u)(x:HOk P w H h):zg7 P w H h a u:=by
 rcases r with r | ⟨o,r⟩
 . exact x a u r
 . obtain⟨_,q⟩:=x a _ r
   exact q
noncomputable def Mut:Option HO->Prop
 | some (.lst _)=>True
 | some (.dK _)=>True
 | some (.dT _)=>True
 | some (.set _ _)=>True
 | some (.ins _ _ _)=>True
 | some (.ext _)=>True
 | some (.xd _)=>True
 | _=>False
section
variable {P:Program} {w:World} {H:Hp} {h h':Heap} {x e:Addr} {o':HO}
theorem HOk.write (ok:HOk P w H h)(mu:Mut (H x))(he:e=x\/H e=some (.own x))(k:∀b u,b≠e->h.get? b=some u->h'.get? b=some u)(heo:∃u,h'.get? e=some u)
   (new:zg7 P w (upd H x o') h' x o'):HOk P w (upd H x o') h':=fun b u q=>by
 have nown:∀c y,H c=some (.own y)->c≠x:=fun c y r z=>by subst z;rw[r] at mu;exact mu
 have ntup:∀c xs,H c=some (.tup xs)->c≠x:=fun c xs r z=>by subst z;rw[r] at mu;exact mu
 by_cases hb:b=x
 . subst hb;rw[za5] at q;cases q;exact new
 . rw[za7 hb] at q
   by_cases hbe:b=e
   . have q':H b=some (.own x):=by
       rcases he with z | z
       . exact absurd (hbe.trans z) hb
       . rw[hbe];exact z
     rw[q] at q';cases q'
     obtain⟨v,hv⟩:=heo
     exact⟨v,by rw[hbe];exact hv⟩
   . refine(ok b u q).stay (fun c v hc r=>k c v ?_ r) (fun c r=>by rw[za7 (nown c b r)];exact r) fun c xs r=>by rw[za7 (ntup c xs r)];exact r
     rcases hc with rfl | hc
     . exact hbe
     . rintro rfl
       rcases he with z | z
       . exact nown c b hc z
       . rw[hc] at z;cases z;exact hb rfl
end
structure Un (fs ex:List Addr)(H H':Hp)(h h':Heap):Prop where
 keep:∀b o,h.get? b=some o->H b=none->b∉fs->b∉ex->h'.get? b=some o
 slot:∀b o,h.get? b=some o->H b=none->b∈fs->b∉ex->∃sl,h'.get? b=some { o with slots:=sl }
 free:∀b o,h.get? b=some o->H b=none->b∉ex->H' b=none
 there:∀b o,h.get? b=some o->b∉ex->∃o',h'.get? b=some o'
 tups:∀b xs,H b=some (.tup xs)->H' b=some (.tup xs)
 frzs:∀b o u,H b=some (.frz o u)->H' b=some (.frz o u)
 tbls:∀b ps,H b=some (.tbl ps)->∃more,H' b=some (.tbl (ps++more))
section
variable {fs fs' ex ex':List Addr} {H H1 H2:Hp} {h h1 h2 h':Heap} {a x e:Addr} {o:HO}
theorem Un.any (u:Un fs ex H H1 h h1){b:Addr}{ob:Obj}(q:h.get? b=some ob)(n:H b=none)(hx:b∉ex):∃sl,h1.get? b=some { ob with slots:=sl }:=by
 by_cases hb:b∈fs
 . exact u.slot b ob q n hb hx
 . exact⟨ob.slots,u.keep b ob q n hb hx⟩
theorem Un.kept (k:∀b u,h.get? b=some u->h'.get? b=some u):Un fs ex H H h h' :=
 ⟨fun b ob q _ _ _=>k b ob q,fun b ob q _ _ _=>⟨ob.slots,k b ob q⟩,fun _ _ _ n _=>n,fun b ob q _=>⟨ob,k b ob q⟩,fun _ _ q=>q,fun _ _ _ q=>q,fun _ ps q=>⟨#[],by rw[q];simp⟩⟩
theorem Un.refl:Un fs ex H H h h:=Un.kept fun _ _ q=>q
theorem Un.laid (k:∀b u,h.get? b=some u->h'.get? b=some u)(hp:h.objs.size<=a)(hn:H a=none):Un fs ex H (upd H a o) h h' where
 keep:=fun b u q _ _ _=>k b u q
 slot:=fun b u q _ _ _=>⟨u.slots,k b u q⟩
 free:=fun b u q n _=>by rw[za7 (Nat.ne_of_lt (Nat.lt_of_lt_of_le (Heap.lt_size q) hp))];exact n
 there:=fun b u q _=>⟨u,k b u q⟩
 tups:=fun b xs q=>by rw[za7 (zb2 q hn)];exact q
 frzs:=fun b u xs q=>by rw[za7 (zb2 q hn)];exact q
 tbls:=fun b ps q=>⟨#[],by rw[za7 (zb2 q hn),q];simp⟩
theorem Un.write (mu:Mut (H x))(he:e=x\/H e=some (.own x))(k:∀b u,b≠e->h.get? b=some u->h'.get? b=some u)(heo:∃u,h'.get? e=some u):Un fs ex H (upd H x o) h h':=by
 have hx:∀b,H b=none->b≠x:=fun b n z=>by subst z;rw[n] at mu;exact mu
 have hb:∀b,H b=none->b≠e:=fun b n z=>by
   subst z
   rcases he with r | r
   . exact hx b n r
   . rw[n] at r;cases r
 have hm:∀b u,H b=some u->¬ Mut (some u)->b≠x:=fun b u q nm z=>by subst z;rw[q] at mu;exact nm mu
 refine⟨fun b u q n _ _=>k b u (hb b n) q,fun b u q n _ _=>⟨u.slots,k b u (hb b n) q⟩,fun b u q n _=>by rw[za7 (hx b n)];exact n,fun b u q _=>?_,
   fun b xs q=>by rw[za7 (hm b _ q fun z=>z)];exact q,fun b u xs q=>by rw[za7 (hm b _ q fun z=>z)];exact q,fun b ps q=>⟨#[],by rw[za7 (hm b _ q fun z=>z),q];simp⟩⟩
 by_cases hbe:b=e
 . subst hbe;exact heo
 . exact⟨u,k b u hbe q⟩
end
noncomputable def trk (h:Heap)(H:Hp):List Addr:=(List.range h.objs.size).filter fun a=>(H a).isSome
noncomputable def hidT (h:Heap)(H:Hp):Heap:=W.hideAll h (trk h H)
theorem hidT_size (h:Heap)(H:Hp):(hidT h H).objs.size=h.objs.size:=W.hideAll_size _ _
theorem hidT_get {h:Heap}{H:Hp}{b:Addr}{o:Obj}(e:h.get? b=some o)(n:H b=none):(hidT h H).get? b=some o :=
 W.hideAll_get _ e fun hm=>by
   have q:(H b).isSome=true:=(List.mem_filter.mp hm).2
   rw[n] at q;simp at q
theorem of_hidT {h:Heap}{H:Hp}{b:Addr}{o:Obj}(e:(hidT h H).get? b=some o):h.get? b=some o/\H b=none:=by
 have e':h.get? b=some o:=W.of_hideAll (trk h H) e
 refine⟨e',?_⟩
 cases q:H b with
 | none=>rfl
 | some x =>
   have hm:b∈trk h H:=List.mem_filter.mpr ⟨List.mem_range.mpr (Heap.lt_size e'),by simp[q]⟩
   have z:(hidT h H).get? b=none:=W.hideAll_none (trk h H) hm
   rw[z] at e;cases e
structure Mod (K:W.Frag)(mg:Str->Option Value)(base:Heap):Prop where
 kin:K.In base
 glob:base.Ns mainGlobals mg
 blt:∃mb,base.Ns builtinsNs mb/\∀x:Str,x≠"__name__"->mb x=bootBuiltins x
 nolimit:base.NoLimit
structure Cx where
 prog:Program
 w:World
 K:W.Frag
 mg:Str->Option Value
 base:Heap
 A:Around
 N:List Str
 s₀:Shared
 H₀:Hp
 env:Env
 outer:List Env
 stack:List Env
 ex:List Addr
 fn:Str->Bool
 calm:Bool
 pn:List (Addr×Obj)
 xe:Value->Shared->Prop
noncomputable def frs (l:List Env):List Addr:=l.filterMap (·.frame)
noncomputable abbrev Cx.fs (X:Cx):List Addr:=frs X.outer
noncomputable def Vis (sc:Scope)(x:Str):Prop:=sc.names.lookup x=some .local\/sc.names.lookup x=some .cell\/sc.names.lookup x=some .free
noncomputable def Loc (sc:Scope)(x:Str):Prop:=sc.names.lookup x=some .local\/sc.names.lookup x=some .cell
noncomputable def Look (env:Env)(h:Heap)(m:Str->Option Value)(x:Str)(u:Value):Prop :=
 (env.kindOf x=some .local/\m x=some u)\/((env.kindOf x=some .cell\/env.kindOf x=some .free)/\∃c,env.cells.lookup x=some c/\h.IsCell c (some u))
structure Cx.Ok (X:Cx):Prop where
 mod:Mod X.K X.mg X.base
 kind:X.env.scope.kind = .function
 glob:X.env.globals=mainGlobals
 blt:X.env.builtins=builtinsNs
 above:X.s₀.heap.objs.size<=X.env.locals
 inj:∀x y c,X.env.cells.lookup x=some c->X.env.cells.lookup y=some c->x=y
 has:∀x,(X.env.kindOf x=some .cell\/X.env.kindOf x=some .free)->∃c,X.env.cells.lookup x=some c
 cab:∀x c,X.fn x=true->X.env.cells.lookup x=some c->X.s₀.heap.objs.size<=c
 hd:X.calm=true->X.A.handled=none
 frames:X.A.frames=some X.stack
 stk:X.stack=X.outer\/(X.stack=X.env::X.outer/\X.env.frame=some X.env.locals)
 exf:∀b∈X.ex,b≠X.env.locals/\∀x c,X.env.cells.lookup x=some c->c≠b
 bs:∀b o,X.base.get? b=some o->X.s₀.heap.get? b=some o/\X.H₀ b=none
 bsz:X.base.objs.size<=X.s₀.heap.objs.size
 noex:∀b o,X.base.get? b=some o->b∉X.ex
 exfs:∀b∈X.ex,b∉X.fs
 funs:X.s₀.heap.FunFrames X.base X.outer
 frf:∀b∈X.fs,X.H₀ b=none
structure Inv (X:Cx)(pins:List (Addr×Obj))(σ:List (Option V))(H:Hp)(s:Shared):Prop where
 ok:X.Ok
 os:s.os=X.s₀.os
 bare:AllBare s.gens
 base:Un X.fs X.ex X.H₀ H X.s₀.heap s.heap
 loc:∃m,s.heap.Ns X.env.locals m/\∀(i:Nat) (x:Str) (v:V),X.N[i]?=some x->σ[i]?=some (some v)->Vis X.env.scope x->∃u,RelV v u/\Look X.env s.heap m x u
 cell:∀x c,X.env.cells.lookup x=some c->∃v,s.heap.IsCell c v
 free:H X.env.locals=none
 freeC:∀x c,X.env.cells.lookup x=some c->H c=none
 pin:∀p∈X.pn++pins,s.heap.get? p.1=some p.2/\H p.1=none/\p.1≠X.env.locals/\p.1∉X.fs/\∀v,p.2.data≠.cell v
 hok:HOk X.prog X.w H s.heap
 len:σ.length=X.N.length
section
variable {X:Cx} {pins:List (Addr×Obj)} {σ:List (Option V)} {H H':Hp} {s:Shared} {h':Heap}
theorem Cx.Ok.nofr (ok:X.Ok){b:Addr}{o:Obj}(e:X.base.get? b=some o):b∉X.fs:=fun hb=>by
 have:=(ok.funs.mem hb).1
 rw[e] at this;cases this
theorem Inv.bs (I:Inv X pins σ H s):∀b o,X.base.get? b=some o->s.heap.get? b=some o/\H b=none:=fun b o e =>
 ⟨I.base.keep b o (I.ok.bs b o e).1 (I.ok.bs b o e).2 (I.ok.nofr e) (I.ok.noex b o e),I.base.free b o (I.ok.bs b o e).1 (I.ok.bs b o e).2 (I.ok.noex b o e)⟩
theorem Inv.bk (I:Inv X pins σ H s):∀b o,X.base.get? b=some o->s.heap.get? b=some o:=fun b o e=>(I.bs b o e).1
theorem Inv.mod (I:Inv X pins σ H s):Mod X.K X.mg X.base:=I.ok.mod
theorem Inv.kIn (I:Inv X pins σ H s):X.K.In s.heap:=I.ok.mod.kin.keeps I.bk
theorem Inv.lt (I:Inv X pins σ H s):X.env.locals<s.heap.objs.size:=let⟨_,hn,_⟩:=I.loc;hn.lt
theorem Inv.sz (I:Inv X pins σ H s):X.s₀.heap.objs.size<=s.heap.objs.size:=Nat.le_trans I.ok.above (Nat.le_of_lt I.lt)
theorem Inv.nofs (I:Inv X pins σ H s){a:Addr}(h:s.heap.objs.size<=a):a∉X.fs:=fun hb=>by
 obtain⟨_,o,ho,_⟩:=I.ok.funs.mem hb
 exact absurd (Nat.lt_of_lt_of_le (Heap.lt_size ho) (Nat.le_trans I.sz h)) (Nat.lt_irrefl _)
theorem Inv.cne (I:Inv X pins σ H s):∀x c,X.env.cells.lookup x=some c->c≠X.env.locals:=fun x c e z=>by
 obtain⟨v,o,ho,hd⟩:=I.cell x c e
 obtain⟨m,⟨o',es,ep,ho',hd',_⟩,_⟩:=I.loc
 rw[z,ho'] at ho;cases ho;rw[hd'] at hd;cases hd
theorem Inv.funs (I:Inv X pins σ H s):s.heap.FunFrames X.base X.outer:=by
 have all:∀(l:List Env),(∀b∈frs l,b∈X.fs)->X.s₀.heap.FunFrames X.base l->s.heap.FunFrames X.base l:=by
   intro l
   induction l with
   | nil=>intro _ _;trivial
   | cons env r ih =>
     intro hs hl
     obtain⟨hk,⟨L,o,hf,hn,ho,hd⟩,hr⟩:=hl
     have hL:L∈X.fs:=hs L (by unfold frs;rw[List.filterMap_cons,hf];exact List.mem_cons_self)
     obtain⟨sl,e⟩:=I.base.slot L o ho (I.ok.frf L hL) hL fun z=>I.ok.exfs L z hL
     exact⟨hk,⟨L,_,hf,hn,e,hd⟩,ih (fun b hb=>hs b (by unfold frs;rw[List.filterMap_cons,hf];exact List.mem_cons_of_mem _ hb)) hr⟩
 exact all X.outer (fun _ hb=>hb) I.ok.funs
theorem Inv.stack (I:Inv X pins σ H s):s.heap.FunFrames X.base X.stack:=by
 rcases I.ok.stk with e | ⟨e,hf⟩
 . rw[e];exact I.funs
 . rw[e]
   obtain⟨m,hn,_⟩:=I.loc
   refine .cons (by rw[I.ok.kind];decide) hf hn ?_ I.funs
   exact Heap.get?_none_of_le (Nat.le_trans I.ok.bsz I.ok.above)
theorem Inv.stkSub (I:Inv X pins σ H s):∀b∈frs X.stack,b∈X.env.locals::X.fs:=fun b hb=>by
 rcases I.ok.stk with e | ⟨e,hf⟩
 . rw[e] at hb;exact List.mem_cons_of_mem _ hb
 . rw[e] at hb
   unfold frs at hb
   rw[List.filterMap_cons,hf] at hb
   exact hb
theorem Inv.stkFree (I:Inv X pins σ H s):∀b∈frs X.stack,H b=none:=fun b hb=>by
 rcases List.mem_cons.mp (I.stkSub b hb) with e | hb
 . rw[e];exact I.free
 . obtain⟨_,o,ho,_⟩:=I.ok.funs.mem hb
   exact I.base.free b o ho (I.ok.frf b hb) fun z=>I.ok.exfs b z hb
theorem Inv.step {g':Array GenState}{t':Nat}{d':Drawn}{ch:List Addr}(I:Inv X pins σ H s)
   (hch:∀b∈ch,(b∈X.ex\/X.s₀.heap.objs.size<=b)/\b≠X.env.locals/\(∀x c,X.env.cells.lookup x=some c->c≠b)/\∀p∈X.pn++pins,p.1≠b)
   (keep:∀b o,b≠X.env.locals->b∉X.fs->b∉ch->s.heap.get? b=some o->H b=none->h'.get? b=some o)
   (slot:∀b o,b≠X.env.locals->b∈X.fs->b∉ch->s.heap.get? b=some o->H b=none->∃sl,h'.get? b=some { o with slots:=sl }) (free:∀b o,b∉ch->s.heap.get? b=some o->H b=none->H' b=none)
   (there:∀b o,b∉ch->s.heap.get? b=some o->∃o',h'.get? b=some o')
   (tups:∀b xs,H b=some (.tup xs)->H' b=some (.tup xs)) (frzs:∀b o u,H b=some (.frz o u)->H' b=some (.frz o u)) (tbls:∀b ps,H b=some (.tbl ps)->∃more,H' b=some (.tbl (ps++more)))
   (ns:∀m,s.heap.Ns X.env.locals m->h'.Ns X.env.locals m) (hok:HOk X.prog X.w H' h') (hg:AllBare g') :
   Inv X pins σ H' { s with heap:=h',gens:=g',drawn:=d',toks:=t' }:=by
 have neL:∀b o,X.s₀.heap.get? b=some o->b≠X.env.locals:=fun b o e=>Nat.ne_of_lt (Nat.lt_of_lt_of_le (Heap.lt_size e) I.ok.above)
 have neC:∀b o,X.s₀.heap.get? b=some o->b∉X.ex->b∉ch:=fun b o e hx hb=>by
   rcases(hch b hb).1 with z | z
   . exact hx z
   . exact absurd (Nat.lt_of_lt_of_le (Heap.lt_size e) z) (Nat.lt_irrefl _)
 have cellK:∀x c,X.env.cells.lookup x=some c->∀v,s.heap.IsCell c v->h'.IsCell c v:=fun x c e v ⟨o,ho,hd⟩=>by
   have nch:c∉ch:=fun z=>(hch c z).2.2.1 x c e rfl
   by_cases hc:c∈X.fs
   . obtain⟨sl,q⟩:=slot c o (I.cne x c e) hc nch ho (I.freeC x c e)
     exact⟨_,q,hd⟩
   . exact⟨o,keep c o (I.cne x c e) hc nch ho (I.freeC x c e),hd⟩
 refine⟨I.ok,I.os,hg,⟨fun b o e n hb hx=>?_,fun b o e n hb hx=>?_,fun b o e n hx=>?_,fun b o e hx=>?_,fun b xs e=>tups b xs (I.base.tups b xs e),fun b o xs e=>frzs b o xs (I.base.frzs b o xs e),fun b ps e=>?_⟩,?_,fun x c e=>?_,?_,fun x c e=>?_,fun p hp=>?_,hok,I.len⟩
 . exact keep b o (neL b o e) hb (neC b o e hx) (I.base.keep b o e n hb hx) (I.base.free b o e n hx)
 . obtain⟨sl,e1⟩:=I.base.slot b o e n hb hx
   obtain⟨sl',e2⟩:=slot b _ (neL b o e) hb (neC b o e hx) e1 (I.base.free b o e n hx)
   exact⟨sl',e2⟩
 . obtain⟨o',e1⟩:=I.base.there b o e hx
   exact free b o' (neC b o e hx) e1 (I.base.free b o e n hx)
 . obtain⟨o',e1⟩:=I.base.there b o e hx
   exact there b o' (neC b o e hx) e1
 . obtain⟨m1,e1⟩:=I.base.tbls b ps e
   obtain⟨m2,e2⟩:=tbls b _ e1
   exact⟨m1++m2,by rw[e2,Array.append_assoc]⟩
 . obtain⟨m,hn,hl⟩:=I.loc
   refine⟨m,ns m hn,fun i x v e1 e2 e3=>?_⟩
   obtain⟨u,r,l⟩:=hl i x v e1 e2 e3
   refine⟨u,r,?_⟩
   rcases l with l | ⟨k,c,e,z⟩
   . exact .inl l
   . exact .inr ⟨k,c,e,cellK x c e _ z⟩
 . obtain⟨v,z⟩:=I.cell x c e
   exact⟨v,cellK x c e v z⟩
 . obtain⟨m,⟨o,_,_,ho,_⟩,_⟩:=I.loc
   exact free _ o (fun z=>(hch _ z).2.1 rfl) ho I.free
 . obtain⟨v,o,ho,hd⟩:=I.cell x c e
   exact free c o (fun z=>(hch c z).2.2.1 x c e rfl) ho (I.freeC x c e)
 . obtain⟨e,n,ne,nf,d⟩:=I.pin p hp
   have nch:p.1∉ch:=fun z=>(hch p.1 z).2.2.2 p hp rfl
   exact⟨keep p.1 p.2 ne nf nch e n,free p.1 p.2 nch e n,ne,nf,d⟩
theorem Inv.un {t':Nat}(I:Inv X pins σ H s)(u:Un X.fs [] H H' s.heap h')(hok:HOk X.prog X.w H' h'):Inv X pins σ H' { s with heap:=h',toks:=t' }:=by
 obtain⟨m,⟨o,es,ep,ho,r⟩,_⟩:=id I.loc
 obtain⟨sl,hL⟩:=u.any ho I.free (by simp)
 exact I.step (g':=s.gens) (d':=s.drawn) (ch:=[]) (fun _ z=>nomatch z) (fun b o _ hb _ e n=>u.keep b o e n hb (by simp)) (fun b o _ hb _ e n=>u.slot b o e n hb (by simp)) (fun b o _ e n=>u.free b o e n (by simp)) (fun b o _ e=>u.there b o e (by simp)) u.tups u.frzs u.tbls (fun m' hm=>by
   obtain⟨o',es',ep',ho',r'⟩:=hm
   rw[ho] at ho';cases ho'
   exact⟨_,es',ep',hL,r'⟩) hok I.bare
theorem Inv.call {g':Array GenState}{t':Nat}{d':Drawn}{ch:List Addr}(I:Inv X pins σ H s)(u:Un (frs X.stack) ch H H' s.heap h')(hok:HOk X.prog X.w H' h')(hg:AllBare g')
   (hch:∀b∈ch,(b∈X.ex\/X.s₀.heap.objs.size<=b)/\b≠X.env.locals/\(∀x c,X.env.cells.lookup x=some c->c≠b)/\∀p∈X.pn++pins,p.1≠b) :
   Inv X pins σ H' { s with heap:=h',gens:=g',drawn:=d',toks:=t' }:=by
 obtain⟨m,⟨o,es,ep,ho,r⟩,_⟩:=id I.loc
 obtain⟨sl,hL⟩:=u.any ho I.free fun z=>(hch _ z).2.1 rfl
 exact I.step (ch:=ch) hch (fun b o hL hb hc e n=>u.keep b o e n (fun z=>(List.mem_cons.mp (I.stkSub b z)).elim hL hb) hc) (fun b o _ _ hc e n=>u.any e n hc) (fun b o hc e n=>u.free b o e n hc) (fun b o hc e=>u.there b o e hc) u.tups u.frzs u.tbls (fun m' hm=>by
   obtain⟨o',es',ep',ho',r'⟩:=hm
   rw[ho] at ho';cases ho'
   exact⟨_,es',ep',hL,r'⟩) hok hg
theorem Inv.turned {t':Nat}{it:Addr}(I:Inv X pins σ H s)(k:∀b o,b≠it->s.heap.get? b=some o->h'.get? b=some o)(hn:H it=none)(hL:it≠X.env.locals)
   (h1:it∈X.ex\/X.s₀.heap.objs.size<=it) (h2:∀x c,X.env.cells.lookup x=some c->c≠it) (h3:∀p∈X.pn++pins,p.1≠it):Inv X pins σ H { s with heap:=h',toks:=t' }:=by
 have nit:∀b u,H b=some u->b≠it:=fun b u e z=>by rw[z,hn] at e;cases e
 refine I.step (g':=s.gens) (d':=s.drawn) (ch:=[it]) (fun b hb=>?_) (fun b o _ _ hc e _=>k b o (fun z=>hc (by simp[z])) e) (fun b o _ _ hc e _=>⟨o.slots,k b o (fun z=>hc (by simp[z])) e⟩) (fun _ _ _ _ n=>n)
   (fun b o hc e=>⟨o,k b o (fun z=>hc (by simp[z])) e⟩) (fun _ _ e=>e) (fun _ _ _ e=>e) (fun b ps e=>⟨#[],by rw[e];simp⟩) (fun m hm=>?_) (fun b u e=>?_) I.bare
 . have e:b=it:=by simpa using hb
   subst e
   exact⟨h1,hL,h2,h3⟩
 . obtain⟨o,es,ep,ho,r⟩:=hm
   exact⟨o,es,ep,k _ o (Ne.symm hL) ho,r⟩
 . refine(I.hok b u e).stay (fun c v hc q=>k c v ?_ q) (fun _ q=>q) fun _ _ q=>q
   rcases hc with z | z
   . rw[z];exact nit b u e
   . exact nit c _ z
theorem Inv.tok (I:Inv X pins σ H s)(t:Nat):Inv X pins σ H { s with toks:=t }:=I.un (h':=s.heap) (t':=t) Un.refl I.hok
theorem Inv.kept {t':Nat}(I:Inv X pins σ H s)(k:∀b u,s.heap.get? b=some u->h'.get? b=some u):Inv X pins σ H { s with heap:=h',toks:=t' }:=I.un (Un.kept k) (I.hok.kept k)
theorem Inv.laid {a:Addr}{o:HO}{t':Nat}(I:Inv X pins σ H s)(k:∀b u,s.heap.get? b=some u->h'.get? b=some u)(hp:s.heap.objs.size<=a)(new:zg7 X.prog X.w (upd H a o) h' a o) :
 Inv X pins σ (upd H a o) { s with heap:=h',toks:=t' }:=I.un (Un.laid k hp (I.hok.fresh hp)) (I.hok.laid k hp new)
theorem Inv.write {x e:Addr}{o:HO}{t':Nat}(I:Inv X pins σ H s)(mu:Mut (H x))(he:e=x\/H e=some (.own x))(k:∀b u,b≠e->s.heap.get? b=some u->h'.get? b=some u)(heo:∃u,h'.get? e=some u)
 (new:zg7 X.prog X.w (upd H x o) h' x o):Inv X pins σ (upd H x o) { s with heap:=h',toks:=t' }:=I.un (Un.write mu he k heo) (I.hok.write mu he k heo new)
theorem Inv.pins_of {pins':List (Addr×Obj)}(I:Inv X pins σ H s)(h:∀p∈pins',s.heap.get? p.1=some p.2/\H p.1=none/\p.1≠X.env.locals/\p.1∉X.fs/\∀v,p.2.data≠.cell v):Inv X pins' σ H s :=
 ⟨I.ok,I.os,I.bare,I.base,I.loc,I.cell,I.free,I.freeC,fun p hp=>(List.mem_append.mp hp).elim (fun z=>I.pin p (List.mem_append_left _ z)) (h p),I.hok,I.len⟩
theorem zD9 {N:List Str}(hN:N.Nodup){i j:Nat}{x:Str}(a:N[i]?=some x)(b:N[j]?=some x):i=j:=by
 obtain⟨h1,e1⟩:=List.getElem?_eq_some_iff.mp a
 obtain⟨h2,e2⟩:=List.getElem?_eq_some_iff.mp b
 exact(List.getElem_inj hN).mp (e1.trans e2.symm)
theorem store_ok2 {M:Model}{A:Around}{E:Value->Shared->Prop}{i:Nat}{x:Str}{v:V}{u:Value}{Q:Unit->Shared->Prop}(I:Inv X pins σ H s)(hN:X.N.Nodup)(hi:X.N[i]?=some x)(hx:Loc X.env.scope x)(r:RelV v u)
   (h:∀s',Inv X pins (σ.set i (some v)) H s'->(∃a,Heap.SameBut a s.heap s'.heap/\(a=X.env.locals\/X.env.cells.lookup x=some a))->Q () s') (hf:X.fn x=true\/X.env.scope.names.lookup x=some .local:=by first | exact .inl rfl | exact .inr rfl | assumption):wpAny M A (storeName X.env x u) Q E s:=by
 obtain⟨m,hn,hl⟩:=id I.loc
 have hcls:(X.env.scope.kind == .class || (X.env.scope.kind == .module && X.env.locals != X.env.globals))=false:=by rw[I.ok.kind];rfl
 have hiσ:i<σ.length:=by rw[I.len];exact(List.getElem?_eq_some_iff.mp hi).1
 have cne:=I.cne
 have tracked:∀ {a:Addr} {h':Heap},(∃o,s.heap.get? a=some o/\H a=none)->Heap.SameBut a s.heap h'->HOk X.prog X.w H h':=fun {a h'} ha hs b ob e=>by
   obtain⟨_,_,hfree⟩:=ha
   refine(I.hok b ob e).stay (fun c w' hc q=>(hs.2 c ?_).trans q) (fun _ q=>q) fun _ _ q=>q
   rintro rfl
   rcases hc with rfl | hc
   . rw[hfree] at e;cases e
   . rw[hfree] at hc;cases hc
 rcases hx with hk | hk
 . refine wpAny_storeName_local hk hn (fun h' hn' hs=>?_) hcls
   obtain⟨oL,_,_,hoL,_⟩:=id hn
   refine h _ ⟨I.ok,I.os,I.bare,⟨fun b o e n hb hx=>?_,fun b o e n hb hx=>?_,I.base.free,fun b o e hx=>?_,I.base.tups,I.base.frzs,I.base.tbls⟩,⟨_,hn',fun j y v' e1 e2 e3=>?_⟩,fun y c e=>?_,I.free,I.freeC,fun p hp=>?_,tracked ⟨oL,hoL,I.free⟩ hs,by simpa using I.len⟩ ⟨_,hs,.inl rfl⟩
   . exact(hs.2 b (Nat.ne_of_lt (Nat.lt_of_lt_of_le (Heap.lt_size e) I.ok.above))).trans (I.base.keep b o e n hb hx)
   . obtain⟨sl,e1⟩:=I.base.slot b o e n hb hx
     exact⟨sl,(hs.2 b (Nat.ne_of_lt (Nat.lt_of_lt_of_le (Heap.lt_size e) I.ok.above))).trans e1⟩
   . obtain⟨o',e1⟩:=I.base.there b o e hx
     exact⟨o',(hs.2 b (Nat.ne_of_lt (Nat.lt_of_lt_of_le (Heap.lt_size e) I.ok.above))).trans e1⟩
   . by_cases hj:j=i
     . subst hj
       rw[hi] at e1;cases e1
       rw[List.getElem?_set_self hiσ] at e2
       cases e2
       exact⟨u,r,.inl ⟨hk,by simp⟩⟩
     . rw[List.getElem?_set_ne (Ne.symm hj)] at e2
       obtain⟨u',r',q⟩:=hl j y v' e1 e2 e3
       refine⟨u',r',?_⟩
       rcases q with⟨k,e⟩ | ⟨k,c,e,z⟩
       . refine .inl ⟨k,?_⟩
         have:y≠x:=fun e=>hj (zD9 hN e1 (e▸hi))
         simp[this,e]
       . exact .inr ⟨k,c,e,z.sameBut hs (cne y c e)⟩
   . obtain⟨w',z⟩:=I.cell y c e
     exact⟨w',z.sameBut hs (cne y c e)⟩
   . obtain⟨e,n,ne,nf,d⟩:=I.pin p hp
     exact⟨(hs.2 p.1 ne).trans e,n,ne,nf,d⟩
 . have hfn:X.fn x=true:=by
     rcases hf with z | z
     . exact z
     . rw[z] at hk;cases hk
   obtain⟨c,hc⟩:=I.ok.has x (.inl hk)
   obtain⟨w',z⟩:=I.cell x c hc
   refine wpAny_storeName_cell I.ok.kind hk hc z (fun h' hc' hs=>?_)
   obtain⟨oc,hoc,hocd⟩:=id z
   refine h { s with heap:=h' } ⟨I.ok,I.os,I.bare,⟨fun b o e n hb hx=>?_,fun b o e n hb hx=>?_,I.base.free,fun b o e hx=>?_,I.base.tups,I.base.frzs,I.base.tbls⟩,⟨m,hn.sameBut hs (Ne.symm (cne x c hc)),fun j y v' e1 e2 e3=>?_⟩,fun y c' e=>?_,I.free,I.freeC,fun p hp=>?_,tracked ⟨oc,hoc,I.freeC x c hc⟩ hs,by simpa using I.len⟩ ⟨c,hs,.inr hc⟩
   . exact(hs.2 b (Nat.ne_of_lt (Nat.lt_of_lt_of_le (Heap.lt_size e) (I.ok.cab x c hfn hc)))).trans (I.base.keep b o e n hb hx)
   . obtain⟨sl,e1⟩:=I.base.slot b o e n hb hx
     exact⟨sl,(hs.2 b (Nat.ne_of_lt (Nat.lt_of_lt_of_le (Heap.lt_size e) (I.ok.cab x c hfn hc)))).trans e1⟩
   . obtain⟨o',e1⟩:=I.base.there b o e hx
     exact⟨o',(hs.2 b (Nat.ne_of_lt (Nat.lt_of_lt_of_le (Heap.lt_size e) (I.ok.cab x c hfn hc)))).trans e1⟩
   . by_cases hj:j=i
     . subst hj
       rw[hi] at e1;cases e1
       rw[List.getElem?_set_self hiσ] at e2
       cases e2
       exact⟨u,r,.inr ⟨.inl hk,c,hc,hc'⟩⟩
     . rw[List.getElem?_set_ne (Ne.symm hj)] at e2
       obtain⟨u',r',q⟩:=hl j y v' e1 e2 e3
       refine⟨u',r',?_⟩
       rcases q with q | ⟨k,c',e,z'⟩
       . exact .inl q
       . refine .inr ⟨k,c',e,z'.sameBut hs ?_⟩
         rintro rfl
         exact hj (zD9 hN e1 (I.ok.inj _ _ _ e hc▸hi))
   . by_cases hcc:c'=c
     . subst hcc;exact⟨_,hc'⟩
     . obtain⟨w2,z2⟩:=I.cell y c' e
       exact⟨w2,z2.sameBut hs hcc⟩
   . obtain⟨e,n,ne,nf,d⟩:=I.pin p hp
     refine⟨(hs.2 p.1 ?_).trans e,n,ne,nf,d⟩
     intro q
     rw[q,hoc] at e
     have q':oc=p.2:=Option.some.inj e
     exact d w' (by rw[<-q'];exact hocd)
theorem zE0 {M:Model}{A:Around}{E:Value->Shared->Prop}{i:Nat}{x:Str}{v:V}{u:Value}{Q:Unit->Shared->Prop}(I:Inv X pins σ H s)(hN:X.N.Nodup)(hi:X.N[i]?=some x)(hx:Loc X.env.scope x)(r:RelV v u)
   (h:∀s',Inv X pins (σ.set i (some v)) H s'->Q () s') (hf:X.fn x=true\/X.env.scope.names.lookup x=some .local:=by first | exact .inl rfl | exact .inr rfl | assumption):wpAny M A (storeName X.env x u) Q E s :=
 store_ok2 I hN hi hx r (fun s' I' _=>h s' I') hf
theorem Inv.call' {s':Shared}{ch:List Addr}(I:Inv X pins σ H s)(ho:s'.os=s.os)(u:Un (frs X.stack) ch H H' s.heap s'.heap)(hok:HOk X.prog X.w H' s'.heap)(hg:AllBare s'.gens)
   (hch:∀b∈ch,(b∈X.ex\/X.s₀.heap.objs.size<=b)/\b≠X.env.locals/\(∀x c,X.env.cells.lookup x=some c->c≠b)/\∀p∈X.pn++pins,p.1≠b):Inv X pins σ H' s':=by
 obtain⟨h',g',d',t',o'⟩:=s'
 have e:o'=s.os:=ho
 subst e
 exact I.call (g':=g') (t':=t') (d':=d') u hok hg hch
end
noncomputable abbrev XK:=Value->Option Addr->Hp->Prop
noncomputable abbrev St:=List (Option V)
noncomputable abbrev VK:=V->Hp->Prop
noncomputable abbrev TE:=St->Hp->VK->Prop
noncomputable abbrev TT:=St->Hp->(Bool->Hp->Prop)->Prop
noncomputable abbrev TA:=St->Hp->(List V->Hp->Prop)->Prop
structure Ends where
 nx:St->Hp->Prop
 rt:VK
 bk:St->Hp->Prop:=fun _ _=>False
 ct:St->Hp->Prop:=fun _ _=>False
noncomputable abbrev TS:=Ends->St->Hp->Prop
noncomputable def EP (X:Cx)(pins:List (Addr×Obj))(σ:St)(Q:VK)(u:Value)(s':Shared):Prop:=∃v H',Inv X pins σ H' s'/\RelV v u/\Q v H'
noncomputable def TP (X:Cx)(pins:List (Addr×Obj))(σ:St)(Q:Bool->Hp->Prop)(b:Bool)(s':Shared):Prop:=∃H',Inv X pins σ H' s'/\Q b H'
noncomputable def AP (X:Cx)(pins:List (Addr×Obj))(σ:St)(Q:List V->Hp->Prop)(us:List Value)(s':Shared):Prop:=∃vs H',Inv X pins σ H' s'/\Vals vs us/\Q vs H'
noncomputable def SP (X:Cx)(pins:List (Addr×Obj))(D:Ends)(f:Flow)(s':Shared):Prop :=
 match f with
 | .next=>∃σ' H',Inv X pins σ' H' s'/\D.nx σ' H'
 | .brk=>∃σ' H',Inv X pins σ' H' s'/\D.bk σ' H'
 | .cont=>∃σ' H',Inv X pins σ' H' s'/\D.ct σ' H'
 | .ret u=>∃v σ' H',Inv X pins σ' H' s'/\RelV v u/\D.rt v H'
noncomputable def PE (X:Cx)(e:Expr)(t:TE):Prop :=
 ∀(pins:List (Addr×Obj)) (s:Shared) (σ:St) (H:Hp) (Q:VK),Inv X pins σ H s->t σ H Q->wpAny (model X.prog X.w) X.A (eval e X.env) (EP X pins σ Q) X.xe s
noncomputable def PT (X:Cx)(e:Expr)(t:TT):Prop :=
 ∀(pins:List (Addr×Obj)) (s:Shared) (σ:St) (H:Hp) (Q:Bool->Hp->Prop),Inv X pins σ H s->t σ H Q->wpAny (model X.prog X.w) X.A (isTrue e X.env (eval e X.env)) (TP X pins σ Q) X.xe s
noncomputable def PW (X:Cx)(e:Expr)(t:TT):Prop :=
 ∀(whole:Sem Value) (pins:List (Addr×Obj)) (s:Shared) (σ:St) (H:Hp) (Q:Bool->Hp->Prop),Inv X pins σ H s->t σ H Q->wpAny (model X.prog X.w) X.A (isTrue e X.env whole) (TP X pins σ Q) X.xe s
theorem PW.pt {X:Cx}{e:Expr}{t:TT}(h:PW X e t):PT X e t:=h _
noncomputable def PA (X:Cx)(es:List Expr)(t:TA):Prop :=
 ∀(pos:Pos) (pins:List (Addr×Obj)) (s:Shared) (σ:St) (H:Hp) (Q:List V->Hp->Prop),Inv X pins σ H s->t σ H Q->wpAny (model X.prog X.w) X.A (spliced (backTo pos (starEach es X.env))) (AP X pins σ Q) X.xe s
noncomputable def PS (X:Cx)(st:Stmt)(t:TS):Prop :=
 ∀(pins:List (Addr×Obj)) (s:Shared) (σ:St) (H:Hp) (D:Ends),Inv X pins σ H s->t D σ H->wpAny (model X.prog X.w) X.A (exec st X.env) (SP X pins D) X.xe s
noncomputable def PSs (X:Cx)(st:List Stmt)(t:TS):Prop :=
 ∀(pins:List (Addr×Obj)) (s:Shared) (σ:St) (H:Hp) (D:Ends),Inv X pins σ H s->t D σ H->wpAny (model X.prog X.w) X.A (execs st X.env) (SP X pins D) X.xe s
theorem thn {α:Type}{t:Sem α}{Q Q':α->Shared->Prop}{M:Model}{A:Around}{E:Value->Shared->Prop}{s:Shared}(h:wpAny M A t Q E s)(hQ:∀a s,Q a s->Q' a s):wpAny M A t Q' E s:=wpAny_mono h hQ fun _ _ x=>x
section
variable {X:Cx}
noncomputable def tVar (i:Nat):TE:=fun σ H Q=>∃v,σ[i]?=some (some v)/\Q v H
noncomputable def tC (v:V):TE:=fun _ H Q=>Q v H
theorem pe_var {i:Nat} {x:Str} {pos:Pos} (hN:X.N[i]?=some x) (hv:Vis X.env.scope x) (hd:(x == ("__debug__" : Str))=false:=by decide) (hcd:(x == ("__classdict__" : Str))=false:=by decide):PE X (.Name x pos) (tVar i):=by
 intro pins s σ H Q I h
 obtain⟨v,e,h⟩:=h
 obtain⟨m,hn,hl⟩:=I.loc
 obtain⟨u,r,l⟩:=hl i x v hN e hv
 have fin:EP X pins σ Q u s:=⟨v,H,I,r,h⟩
 rcases l with⟨hk,hm⟩ | ⟨hk,c,hc,hcell⟩
 . exact wpAny_Name (wpAny_loadName_local I.ok.kind hk hn hm fin) hd
 . rcases hk with hk | hk
   . exact wpAny_Name (wpAny_loadName_cell I.ok.kind hk hc hcell fin) hd
   . exact wpAny_Name (wpAny_loadName_free I.ok.kind hk hc hcell fin hcd) hd
theorem za8 {i j pos}:PE X (.Constant (.int i) j pos) (tC (.int i)):=fun _ _ _ H _ I h=>wpAny_Constant_int ⟨.int i,H,I.tok _,⟨_,rfl⟩,h⟩
theorem zM4 {b j pos}:PE X (.Constant (.bool b) j pos) (tC (.bl b)):=fun _ _ _ H _ I h=>Constant_bool ⟨.bl b,H,I,rfl,h⟩
theorem zP9 {j pos}:PE X (.Constant .none j pos) (tC .non):=fun _ _ _ H _ I h=>Constant_none ⟨.non,H,I,rfl,h⟩
theorem ze1 {x j pos}:PE X (.Constant (.str x) j pos) (tC (.str x)):=fun _ _ _ H _ I h=>Calls.Constant_str ⟨.str x,H,I.tok _,⟨_,rfl⟩,h⟩
noncomputable def Gl (X:Cx)(x:Str):Prop:=X.env.kindOf x=some .globalImplicit
theorem zr1 {E:Value->Shared->Prop}{pins:List (Addr×Obj)}{s:Shared}{σ:St}{H:Hp}{x:Str}{u:Value}{pos:Pos}{Q:Value->Shared->Prop}(I:Inv X pins σ H s)(hg:Gl X x)(hm:X.mg x=some u)(h:Q u s)
   (hd:(x == ("__debug__" : Str))=false:=by decide):wpAny (model X.prog X.w) X.A (eval (.Name x pos) X.env) Q E s :=
 Calls.Name_function_global I.ok.kind hg (Calls.loadGlobal_global (by rw[I.ok.glob];exact I.mod.glob.keeps I.bk) hm h) hd
theorem zA6 {E:Value->Shared->Prop}{pins:List (Addr×Obj)}{s:Shared}{σ:St}{H:Hp}{x:Str}{u:Value}{pos:Pos}{Q:Value->Shared->Prop}(I:Inv X pins σ H s)(hg:Gl X x)(hm:X.mg x=none)(hv:bootBuiltins x=some u)(h:Q u s)
   (hn:x≠"__name__":=by decide) (hd:(x == ("__debug__" : Str))=false:=by decide):wpAny (model X.prog X.w) X.A (eval (.Name x pos) X.env) Q E s:=by
 obtain⟨mb,h1,h2⟩:=I.mod.blt
 exact Calls.Name_function_global I.ok.kind hg (Calls.loadGlobal_builtin (by rw[I.ok.glob];exact I.mod.glob.keeps I.bk) hm (by rw[I.ok.blt];exact h1.keeps I.bk) ((h2 x hn).trans hv) h) hd
theorem ze8 {x:Str} {v:V} {u:Value} {pos:Pos} (hg:Gl X x) (hm:X.mg x=some u) (r:RelV v u) (hd:(x == ("__debug__" : Str))=false:=by decide):PE X (.Name x pos) (tC v) :=
 fun _ _ _ H _ I h=>zr1 I hg hm ⟨v,H,I,r,h⟩ hd
theorem pe_bltn {x:Str} {v:V} {u:Value} {pos:Pos} (hg:Gl X x) (hm:X.mg x=none) (hv:bootBuiltins x=some u) (r:RelV v u) (hn:x≠"__name__":=by decide) (hd:(x == ("__debug__" : Str))=false:=by decide):PE X (.Name x pos) (tC v) :=
 fun _ _ _ H _ I h=>zA6 I hg hm hv ⟨v,H,I,r,h⟩ hn hd
variable {a b:Expr} {ta tb:TE} {pos:Pos}
noncomputable def PC (X:Cx)(op:CmpOp)(a b:Expr)(t:TE):Prop :=
 ∀(pins:List (Addr×Obj)) (s:Shared) (σ:St) (H:Hp) (Q:VK),Inv X pins σ H s->t σ H Q →
   wpAny (model X.prog X.w) X.A (eval a X.env) (fun v s₁=>wpAny (model X.prog X.w) X.A (eval b X.env) (fun u s₂=>wpAny (model X.prog X.w) X.A (compareOp op v u) (EP X pins σ Q) X.xe s₂) X.xe s₁) X.xe s
noncomputable def tB (t:TE):TT:=fun σ H Q=>t σ H fun x H1=>∃c,x = .bl c/\Q c H1
theorem zU8 {op:CmpOp}{t:TE}(h:PC X op a b t)(h1:behindInMarks op b=false:=by first | exact nobehind _ (by decide) (by decide) | rfl):PT X (.Compare a [op] [b] pos) (tB t):=by
 intro pins s σ H Q I hw
 refine wpAny_isTrue_Compare1 (thn (h pins s σ H _ I hw) fun v s1 h1=>thn h1 fun u s2 h2=>thn h2 fun c s3 ⟨x,H1,I1,r1,q1⟩=>?_) h1
 obtain⟨d,rfl,q⟩:=q1
 cases r1
 exact wpAny_truthy_bool ⟨H1,I1,q⟩
theorem zg8 {e:Expr}{t:TE}(h:PE X e t)(he:∀whole,isTrue e X.env whole=(do let v <-whole;standAt e.pos;holding [v] (truthy v)):=by intro _;rfl):PT X e (tB t):=by
 intro pins s σ H Q I hw
 refine isTrue_plain (thn (h pins s σ H _ I hw) fun v s1 ⟨x,H1,I1,r1,q1⟩=>?_) (he _)
 obtain⟨d,rfl,q⟩:=q1
 cases r1
 exact wpAny_truthy_bool ⟨H1,I1,q⟩
variable {tA tB':TT} {rest:List Expr}
noncomputable def tAnd (t u:TT):TT:=fun σ H Q=>t σ H fun c H1=>if c=true then u σ H1 Q else Q false H1
noncomputable def tOr (t u:TT):TT:=fun σ H Q=>t σ H fun c H1=>if c=true then Q true H1 else u σ H1 Q
noncomputable def tNot (t:TT):TT:=fun σ H Q=>t σ H fun c H1=>Q (!c) H1
theorem zQ5 (ha:PT X a tA):PW X (.BoolOp .And [a] pos) tA:=by
 intro wh pins s σ H Q I h
 refine isTrue_and (thn (ha pins s σ H Q I h) fun c s1 e=>?_)
 cases c with
 | true=>exact isTrue_and_nil e
 | false=>exact e
theorem pw_or1 (ha:PT X a tA):PW X (.BoolOp .Or [a] pos) tA:=by
 intro wh pins s σ H Q I h
 refine isTrue_or (thn (ha pins s σ H Q I h) fun c s1 e=>?_)
 cases c with
 | false=>exact isTrue_or_nil e
 | true=>exact e
theorem zQ0 (ha:PT X a tA)(hb:PW X (.BoolOp .And (b::rest) pos) tB'):PW X (.BoolOp .And (a::b::rest) pos) (tAnd tA tB'):=by
 intro wh pins s σ H Q I h
 refine isTrue_and (thn (ha pins s σ H _ I h) fun c s1 ⟨H1,I1,q1⟩=>?_)
 cases c with
 | true=>exact hb wh pins s1 σ H1 Q I1 q1
 | false=>exact⟨H1,I1,q1⟩
theorem pw_or (ha:PT X a tA)(hb:PW X (.BoolOp .Or (b::rest) pos) tB'):PW X (.BoolOp .Or (a::b::rest) pos) (tOr tA tB'):=by
 intro wh pins s σ H Q I h
 refine isTrue_or (thn (ha pins s σ H _ I h) fun c s1 ⟨H1,I1,q1⟩=>?_)
 cases c with
 | true=>exact⟨H1,I1,q1⟩
 | false=>exact hb wh pins s1 σ H1 Q I1 q1
theorem zo5 (ha:PT X a tA):PT X (.UnaryOp .Not a pos) (tNot tA):=by
 intro pins s σ H Q I h
 exact isTrue_not (ha pins s σ H (fun c H1=>Q (!c) H1) I h)
noncomputable def tAndV (ta tb:TE):TE:=fun σ H Q=>ta σ H fun x H1=>∃c,x = .bl c/\if c=true then tb σ H1 Q else Q (.bl false) H1
noncomputable def tOrV (ta tb:TE):TE:=fun σ H Q=>ta σ H fun x H1=>∃c,x = .bl c/\if c=true then Q (.bl true) H1 else tb σ H1 Q
noncomputable def tNotV (ta:TE):TE:=fun σ H Q=>ta σ H fun x H1=>∃c,x = .bl c/\Q (.bl (!c)) H1
theorem zU9 {op}{t:TE}(h:PE X a t):PE X (.BoolOp op [a] pos) t:=fun pins s σ H Q I hw=>BoolOp_one (h pins s σ H Q I hw)
theorem pe_and (ha:PE X a ta)(hb:PE X (.BoolOp .And (b::rest) pos) tb):PE X (.BoolOp .And (a::b::rest) pos) (tAndV ta tb):=by
 intro pins s σ H Q I h
 refine BoolOp_and (thn (ha pins s σ H _ I h) fun v s1 ⟨x,H1,I1,r1,q1⟩=>?_)
 obtain⟨c,rfl,q1⟩:=q1
 cases r1
 refine wpAny_truthy_bool ?_
 cases c with
 | true=>exact hb pins s1 σ H1 Q I1 q1
 | false=>exact⟨.bl false,H1,I1,rfl,q1⟩
theorem pe_or (ha:PE X a ta)(hb:PE X (.BoolOp .Or (b::rest) pos) tb):PE X (.BoolOp .Or (a::b::rest) pos) (tOrV ta tb):=by
 intro pins s σ H Q I h
 refine BoolOp_or (thn (ha pins s σ H _ I h) fun v s1 ⟨x,H1,I1,r1,q1⟩=>?_)
 obtain⟨c,rfl,q1⟩:=q1
 cases r1
 refine wpAny_truthy_bool ?_
 cases c with
 | false=>exact hb pins s1 σ H1 Q I1 q1
 | true=>exact⟨.bl true,H1,I1,rfl,q1⟩
theorem pe_not (ha:PE X a ta):PE X (.UnaryOp .Not a pos) (tNotV ta):=by
 intro pins s σ H Q I h
 refine UnaryOp_ (thn (ha pins s σ H _ I h) fun v s1 ⟨x,H1,I1,r1,q1⟩=>?_)
 obtain⟨c,rfl,q1⟩:=q1
 cases r1
 exact not_of (wpAny_truthy_bool ⟨.bl (!c),H1,I1,rfl,q1⟩)
end
noncomputable def SqL (K:W.Frag)(H:Hp)(a:Addr)(xs:List V):Prop :=
 Rd H a (.lst xs) ∨
   ∃(o:Obj) (its:Array Value) (n:Nat),K.lookup a=some o/\o.cls = .type "list"/\o.dict=none/\o.data = .seq its n/\its.size<=sizeLine/\Vals xs its.toList
noncomputable def SqT (K:W.Frag)(H:Hp)(a:Addr)(xs:List V):Prop :=
 Rd H a (.tup xs) ∨
   ∃(o:Obj) (its:Array Value) (n:Nat),K.lookup a=some o/\o.cls = .type "tuple"/\o.data = .seq its n/\its.size<=sizeLine/\Vals xs its.toList
noncomputable def absV:Value->Option V
 | .none=>some .non
 | .bool b=>some (.bl b)
 | .int i _=>some (.int i)
 | .str x _=>some (.str x)
 | .bytes b _=>some (.byt b)
 | .float b _=>some (.flt b)
 | .ref a=>some (.ref a)
 | .type n=>some (.ty n)
 | _=>none
theorem RelV.abs {x:V}{u:Value}(r:RelV x u):absV u=some x:=by
 cases x with
 | non=>cases r;rfl
 | bl _=>cases r;rfl
 | int _=>obtain⟨t,rfl⟩:=r;rfl
 | str _=>obtain⟨t,rfl⟩:=r;rfl
 | byt _=>obtain⟨t,rfl⟩:=r;rfl
 | flt _=>obtain⟨t,rfl⟩:=r;rfl
 | ref _=>cases r;rfl
 | ty _=>cases r;rfl
theorem RelV.inj {x y:V}{u:Value}(r:RelV x u)(q:RelV y u):x=y:=Option.some.inj (r.abs.symm.trans q.abs)
theorem Vals.inj:∀ {xs ys:List V} {us:List Value},Vals xs us->Vals ys us->xs=ys
 | _,_,_,.nil,.nil=>rfl
 | _,_,_,.cons r t,.cons r' t'=>by rw[r.inj r',Vals.inj t t']
section
variable {X:Cx} {pins:List (Addr×Obj)} {σ:St} {H:Hp} {s:Shared} {a:Addr} {xs ys:List V}
theorem SqL.of {K:W.Frag}(h:H a=some (.lst xs)):SqL K H a xs:=.inl (.inl h)
theorem SqT.of {K:W.Frag}(h:H a=some (.tup xs)):SqT K H a xs:=.inl (.inl h)
theorem Inv.list (I:Inv X pins σ H s)(h:SqL X.K H a xs):∃its:List Value,Vals xs its/\PlainL s.heap a its.toArray/\xs.length<=sizeLine:=by
 rcases h with h | ⟨o,its,n,hk,hc,hd,hs,hz,r⟩
 . obtain⟨z,its,n,r,e⟩:=h.ok I.hok
   exact⟨its,r,⟨_,n,e,rfl,rfl,rfl⟩,z⟩
 . refine⟨its.toList,r,⟨o,n,I.kIn a o hk,hc,hd,by simpa using hs⟩,?_⟩
   have e:=r.length
   simp only[Array.length_toList] at e
   omega
theorem Inv.tuple (I:Inv X pins σ H s)(h:SqT X.K H a xs):∃its:List Value,Vals xs its/\IsTup s.heap a its.toArray/\xs.length<=sizeLine:=by
 rcases h with h | ⟨o,its,n,hk,hc,hs,hz,r⟩
 . obtain⟨z,its,r,p⟩:=h.ok I.hok
   exact⟨its,r,p.isTup,z⟩
 . refine⟨its.toList,r,⟨o,I.kIn a o hk,hc,n,by simpa using hs⟩,?_⟩
   have e:=r.length
   simp only[Array.length_toList] at e
   omega
theorem Inv.list_inj (I:Inv X pins σ H s)(h:SqL X.K H a xs)(h':SqL X.K H a ys):xs=ys:=by
 obtain⟨its,r,⟨o,n,e,_,_,d⟩,_⟩:=I.list h
 obtain⟨its',r',⟨o',n',e',_,_,d'⟩,_⟩:=I.list h'
 rw[e] at e';cases e'
 rw[d] at d'
 injection d' with d1 _
 have:its=its':=by simpa using congrArg Array.toList d1
 subst this
 exact r.inj r'
theorem Inv.tuple_inj (I:Inv X pins σ H s)(h:SqT X.K H a xs)(h':SqT X.K H a ys):xs=ys:=by
 obtain⟨its,r,⟨o,e,_,n,d⟩,_⟩:=I.tuple h
 obtain⟨its',r',⟨o',e',_,n',d'⟩,_⟩:=I.tuple h'
 rw[e] at e';cases e'
 rw[d] at d'
 injection d' with d1 _
 have:its=its':=by simpa using congrArg Array.toList d1
 subst this
 exact r.inj r'
end
noncomputable abbrev Cx.wish (X:Cx)(E:Value->Shared->Prop):Cx:={ X with xe:=E }
noncomputable abbrev Cx.nox (X:Cx):Cx:=X.wish fun _ _=>False
theorem Cx.Ok.wish {X:Cx}(ok:X.Ok)(E:Value->Shared->Prop):(X.wish E).Ok :=
 ⟨ok.mod,ok.kind,ok.glob,ok.blt,ok.above,ok.inj,ok.has,ok.cab,ok.hd,ok.frames,ok.stk,ok.exf,ok.bs,ok.bsz,ok.noex,ok.exfs,ok.funs,ok.frf⟩
theorem Cx.Ok.unwish {X:Cx}{E:Value->Shared->Prop}(ok:(X.wish E).Ok):X.Ok :=
 ⟨ok.mod,ok.kind,ok.glob,ok.blt,ok.above,ok.inj,ok.has,ok.cab,ok.hd,ok.frames,ok.stk,ok.exf,ok.bs,ok.bsz,ok.noex,ok.exfs,ok.funs,ok.frf⟩
section
variable {X:Cx} {pins:List (Addr×Obj)} {σ:St} {H:Hp} {s:Shared} {E:Value->Shared->Prop}
theorem Inv.wish (I:Inv X pins σ H s)(E:Value->Shared->Prop):Inv (X.wish E) pins σ H s:=⟨I.ok.wish E,I.os,I.bare,I.base,I.loc,I.cell,I.free,I.freeC,I.pin,I.hok,I.len⟩
theorem Inv.unwish (I:Inv (X.wish E) pins σ H s):Inv X pins σ H s:=⟨I.ok.unwish,I.os,I.bare,I.base,I.loc,I.cell,I.free,I.freeC,I.pin,I.hok,I.len⟩
theorem SP.unwish {D:Ends}{f:Flow}{s':Shared}(h:SP (X.wish E) pins D f s'):SP X pins D f s':=by
 cases f with
 | next=>obtain⟨σ',H',I,q⟩:=h;exact⟨σ',H',I.unwish,q⟩
 | brk=>obtain⟨σ',H',I,q⟩:=h;exact⟨σ',H',I.unwish,q⟩
 | cont=>obtain⟨σ',H',I,q⟩:=h;exact⟨σ',H',I.unwish,q⟩
 | ret u=>obtain⟨v,σ',H',I,r,q⟩:=h;exact⟨v,σ',H',I.unwish,r,q⟩
theorem PSs.nox {st:List Stmt}{t:TS}(h:PSs X.nox st t):PSs X st t:=fun pins s σ H D I hw =>
 wpAny_mono (h pins s σ H D (I.wish _) hw) (fun _ _ q=>q.unwish) fun _ _ z=>False.elim z
end
section
variable {X:Cx} {st:Stmt} {rest:List Stmt} {t u:TS} {e:Expr} {te:TE} {pos:Pos}
noncomputable def tNext:TS:=fun D σ H=>D.nx σ H
noncomputable def tSeq (t u:TS):TS:=fun D σ H=>t { D with nx:=u D } σ H
theorem zb7:PSs X [] tNext:=fun _ _ σ H _ I h=>wpAny_execs_nil ⟨σ,H,I,h⟩
theorem za4 (h1:PS X st t)(h2:PSs X rest u):PSs X (st::rest) (tSeq t u):=by
 intro pins s σ H D I h
 refine wpAny_execs_cons (thn (h1 pins s σ H { D with nx:=u D } I h) fun f s1 q=>?_)
 cases f with
 | next =>
   obtain⟨σ',H',I',q⟩:=q
   exact h2 pins s1 σ' H' D I' q
 | ret v=>exact q
 | brk=>exact q
 | cont=>exact q
theorem za6 (h1:PS X st t):PSs X [st] t:=by
 intro pins s σ H D I h
 refine wpAny_execs_cons (thn (h1 pins s σ H D I h) fun f s1 q=>?_)
 cases f with
 | next=>exact wpAny_execs_nil q
 | ret v=>exact q
 | brk=>exact q
 | cont=>exact q
theorem Inv.quiet {pins:List (Addr×Obj)}{σ:St}{H:Hp}{s:Shared}(I:Inv X pins σ H s):interactive X.env=false:=by simp[interactive,I.ok.kind]
noncomputable def tDrop (te:TE):TS:=fun D σ H=>te σ H fun _ H1=>D.nx σ H1
theorem zc6 (he:PE X e te)(hs:swapsWith e none pos.line X.env=pure false:=by rfl):PS X (.Expr e pos) (tDrop te):=by
 intro pins s σ H D I h
 exact wpAny_Expr_any (thn (he pins s σ H _ I h) fun v s1 ⟨x,H1,I1,r1,q1⟩=>⟨σ,H1,I1,q1⟩) I.quiet hs
noncomputable def tRet (te:TE):TS:=fun D σ H=>te σ H D.rt
theorem zc8 (he:PE X e te):PS X (.Return (some e) pos) (tRet te):=by
 intro pins s σ H D I h
 exact wpAny_Return_some (thn (he pins s σ H _ I h) fun v s1 ⟨x,H1,I1,r1,q1⟩=>⟨x,σ,H1,I1,r1,q1⟩)
noncomputable def tIfS (c:TT)(t u:TS):TS:=fun D σ H=>c σ H fun b H1=>if b=true then t D σ H1 else u D σ H1
theorem zd2 {c:Expr}{a b:List Stmt}{tc:TT}(hc:PT X c tc)(ha:PSs X a t)(hb:PSs X b u):PS X (.If c a b pos) (tIfS tc t u):=by
 intro pins s σ H D I h
 refine wpAny_If (thn (hc pins s σ H _ I h) fun d s1 ⟨H1,I1,q1⟩=>?_)
 cases d with
 | true=>exact ha pins s1 σ H1 D I1 q1
 | false=>exact hb pins s1 σ H1 D I1 q1
noncomputable def zV0:TS:=fun _ _ _=>False
theorem zh6:PS X st zV0:=fun _ _ _ _ _ _ h=>h.elim
theorem zh0 {sts:List Stmt}:PSs X sts zV0:=fun _ _ _ _ _ _ h=>h.elim
end
noncomputable abbrev TG:=V->St->Hp->(St->Hp->Prop)->Prop
noncomputable abbrev TGs:=List V->St->Hp->(St->Hp->Prop)->Prop
noncomputable def PG (X:Cx)(target:Expr)(t:TG):Prop :=
 ∀(pins:List (Addr×Obj)) (s:Shared) (σ:St) (H:Hp) (v:V) (u:Value) (Q:St->Hp->Prop),Inv X pins σ H s->RelV v u->t v σ H Q →
   wpAny (model X.prog X.w) X.A (assign target X.env u) (fun _ s'=>∃σ' H',Inv X pins σ' H' s'/\Q σ' H') X.xe s
noncomputable def PGs (X:Cx)(ts:List Expr)(t:TGs):Prop :=
 ∀(pins:List (Addr×Obj)) (s:Shared) (σ:St) (H:Hp) (vs:List V) (us:List Value) (Q:St->Hp->Prop),Inv X pins σ H s->Vals vs us->t vs σ H Q →
   wpAny (model X.prog X.w) X.A (assignInOrder ((assignEach ts X.env).map (·.2)) us) (fun _ s'=>∃σ' H',Inv X pins σ' H' s'/\Q σ' H') X.xe s
section
variable {X:Cx} {pos:Pos}
noncomputable def zB8 (i:Nat):TG:=fun v σ H Q=>Q (σ.set i (some v)) H
theorem zh9 {i:Nat}{x:Str}(hN:X.N.Nodup)(hi:X.N[i]?=some x)(hx:Loc X.env.scope x)(hf:X.fn x=true\/X.env.scope.names.lookup x=some .local:=by first | exact .inl rfl | exact .inr rfl | assumption):PG X (.Name x pos) (zB8 i):=by
 intro pins s σ H v u Q I r h
 exact wpAny_assign_Name (zE0 I hN hi hx r (fun s' I'=>⟨_,H,I',h⟩) hf)
noncomputable def gNil:TGs:=fun vs σ H Q=>vs=[]/\Q σ H
noncomputable def zV1 (t:TG)(u:TGs):TGs:=fun vs σ H Q=>∃v r,vs=v::r/\t v σ H fun σ' H'=>u r σ' H' Q
theorem pgs_nil:PGs X [] gNil:=by
 intro pins s σ H vs us Q I r h
 obtain⟨e,h⟩:=h
 subst e
 cases r
 exact assignInOrder_nil ⟨σ,H,I,h⟩
theorem zM5 {e:Expr}{es:List Expr}{t:TG}{u:TGs}(h1:PG X e t)(h2:PGs X es u)
   (hs:(assignEach (e::es) X.env).map (·.2)=assign e X.env::(assignEach es X.env).map (·.2):=by rfl):PGs X (e::es) (zV1 t u):=by
 intro pins s σ H vs us Q I r h
 obtain⟨v,vr,e1,h⟩:=h
 subst e1
 cases r with
 | cons r rr =>
   rw[hs]
   refine assignInOrder_cons (thn (h1 pins s σ H _ _ _ I r h) fun _ s1 ⟨σ1,H1,I1,q1⟩=>?_)
   exact h2 pins s1 σ1 H1 _ _ Q I1 rr q1
inductive zV2 (K:W.Frag)(n:Nat)(t:TGs)(v:V)(σ:St)(H:Hp)(Q:St->Hp->Prop):Prop
 | mk (a xs:_)(h0:v = .ref a)(h1:SqT K H a xs)(h2:xs.length=n)(h3:t xs σ H Q):zV2 K n t v σ H Q
noncomputable def gTup (K:W.Frag)(n:Nat)(t:TGs):TG:=fun v σ H Q=>zV2 K n t v σ H Q
theorem pg_tup {es:List Expr}{k:Nat}{t:TGs}{n:Nat}(hc:X.calm=true)(h:PGs X es t)
   (hn:(assignEach es X.env).length=n:=by rfl) (hst:(assignEach es X.env).findIdx? (·.1)=none:=by rfl):PG X (.Tuple es k pos) (gTup X.K n t):=by
 intro pins s σ H v u Q I r hw
 obtain⟨a,xs,e1,hq,hl,hw⟩:=hw
 subst e1
 cases r
 obtain⟨its,rv,ht,hz⟩:=I.tuple hq
 refine assign_Tuple_tuple (I.ok.hd hc) ht (by simp[hn,<-hl,rv.length]) hst fun h' hx=>?_
 have I1:Inv X pins σ H { s with heap:=h' }:=I.kept (t':=s.toks) fun b o e=>hx b o (Nat.ne_of_lt (Heap.lt_size e)) e
 exact h pins _ σ H xs _ Q I1 (by simpa using rv) hw
noncomputable def tAsg (te:TE)(g:TG):TS:=fun D σ H=>te σ H fun x H1=>g x σ H1 D.nx
theorem zc2 {i:Nat}{x:Str}{e:Expr}{te:TE}{pos':Pos}(hN:X.N.Nodup)(hi:X.N[i]?=some x)(hx:Loc X.env.scope x)(he:PE X e te)(hs:swapsWith e (some (.Name x pos')) pos.line X.env=pure false:=by rfl)(hf:X.fn x=true\/X.env.scope.names.lookup x=some .local:=by first | exact .inl rfl | exact .inr rfl | assumption) :
   PS X (.Assign [.Name x pos'] e pos) (tAsg te (zB8 i)):=by
 intro pins s σ H D I h
 refine wpAny_Assign_Name (thn (he pins s σ H _ I h) fun v s1 ⟨y,H1,I1,r1,q1⟩=>?_) hs
 exact zE0 I1 hN hi hx r1 (fun s2 I2=>⟨_,H1,I2,q1⟩) hf
end
section
variable {X:Cx} {pos:Pos}
noncomputable def zV3 (c:TT)(tb:TS):TS:=fun D σ H=>∃W:Nat->St->Hp->Prop,(∃m,W m σ H)/\∀m σ H,W m σ H →
 c σ H fun b H1=>if b=true then ∃N:St->Hp->Prop,(∀σ' H',N σ' H'->∃m',m'<m/\W m' σ' H')/\tb { D with nx:=N,ct:=N,bk:=D.nx } σ H1 else D.nx σ H1
theorem zM6 {c:Expr}{body:List Stmt}{tc:TT}{tb:TS}(hp:PassesOwn (model X.prog X.w) X.A X.env X.xe)(hc:PT X c tc)(hb:PSs X body tb):PS X (.While c body [] pos) (zV3 tc tb):=by
 intro pins s σ H D I h
 obtain⟨W,⟨m0,w0⟩,turn⟩:=h
 refine wpAny_While (codeAny_whileLoop (fun n s'=>∃σ' H',Inv X pins σ' H' s'/\W n σ' H') ?_ m0 ⟨σ,H,I,w0⟩)
 rintro n s1 ⟨σ1,H1,I1,w1⟩
 refine wpAny_passesOwn hp (thn (hc pins s1 σ1 H1 _ I1 (turn n σ1 H1 w1)) fun b s2 ⟨H2,I2,q2⟩=>?_)
 cases b with
 | true =>
   obtain⟨N,hN,q2⟩:=q2
   rw[if_pos rfl]
   refine wpAny_passesOwn hp (thn (hb pins s2 σ1 H2 _ I2 q2) fun f s3 q3=>?_)
   cases f with
   | next =>
     obtain⟨σ3,H3,I3,n3⟩:=q3
     obtain⟨m',hm,w3⟩:=hN σ3 H3 n3
     exact⟨m',hm,σ3,H3,I3,w3⟩
   | cont =>
     obtain⟨σ3,H3,I3,n3⟩:=q3
     obtain⟨m',hm,w3⟩:=hN σ3 H3 n3
     exact⟨m',hm,σ3,H3,I3,w3⟩
   | brk=>exact q3
   | ret v=>exact q3
 | false =>
   rw[if_neg Bool.false_ne_true]
   exact wpAny_execs_nil ⟨σ1,H2,I2,q2⟩
end
structure It where
 go:Nat->Hp->Prop
 yld:Nat->Hp->V->Hp->Prop
 stop:Nat->Hp->Prop
noncomputable def FpOk (X:Cx)(pins:List (Addr×Obj))(H:Hp)(b:Addr):Prop :=
 H b=none/\b≠X.env.locals/\b∉X.fs/\(b∈X.ex\/X.s₀.heap.objs.size<=b)/\(∀x c,X.env.cells.lookup x=some c->c≠b)/\∀p∈X.pn++pins,p.1≠b
theorem Inv.fpOk {X:Cx}{pins:List (Addr×Obj)}{σ:St}{H H':Hp}{s:Shared}{b:Addr}(I:Inv X pins σ H s)(hb:s.heap.objs.size<=b)(hn:H' b=none):FpOk X pins H' b:=by
 refine⟨hn,Nat.ne_of_gt (Nat.lt_of_lt_of_le I.lt hb),I.nofs hb,.inr (Nat.le_trans I.sz hb),fun x c e z=>?_,fun p hp z=>?_⟩
 . obtain⟨v,q⟩:=I.cell x c e
   exact absurd (Nat.lt_of_lt_of_le q.lt (by rw[z];exact hb)) (Nat.lt_irrefl _)
 . exact absurd (Nat.lt_of_lt_of_le (Heap.lt_size (I.pin p hp).1) (by rw[z];exact hb)) (Nat.lt_irrefl _)
structure Turn (P:Program)(w:World)(K:W.Frag)(tg:Expr)(J:It)(fp:List Addr)(it:Addr)(tn:Nat->Heap->Prop):Prop where
 mem:it∈fp
 obj:∀i h,tn i h->∀b∈fp,∃o,h.get? b=some o/\∀v,o.data≠.cell v
 keep:∀i h h',tn i h->(∀b∈fp,∀o,h.get? b=some o->h'.get? b=some o)->tn i h'
 item:∀(X:Cx),X.prog=P->X.w=w->X.K=K->X.calm=true->∀(i:Nat) (pins:List (Addr×Obj)) (s:Shared) (σ:St) (H:Hp) (E:Value->Shared->Prop),Inv X pins σ H s->(∀b∈fp,FpOk X pins H b)->tn i s.heap->J.go i H →
   wpAny (model P w) X.A (pyNext (.ref it)) (fun r s1=>∃u,r=some u ∧
     wpAny (model P w) X.A (letOwnedTupleGo tg (.ref it) u) (fun _ s2=>∃x H',Inv X pins σ H' s2/\RelV x u/\J.yld i H x H'/\tn (i+1) s2.heap/\∀b∈fp,H' b=none) E s1) E s
 done:∀(X:Cx),X.prog=P->X.w=w->X.K=K->X.calm=true->∀(i:Nat) (pins:List (Addr×Obj)) (s:Shared) (σ:St) (H:Hp) (E:Value->Shared->Prop),Inv X pins σ H s->(∀b∈fp,FpOk X pins H b)->tn i s.heap->J.stop i H →
   wpAny (model P w) X.A (pyNext (.ref it)) (fun r s1=>r=none/\Inv X pins σ H s1) E s
 self:∀(A:Around) (i:Nat) (s:Shared) (Q:Value->Shared->Prop) (E:Value->Shared->Prop),tn i s.heap->Q (.ref it) s->wpAny (model P w) A (pyIter (.ref it)) Q E s
noncomputable abbrev TI:=St->Hp->(It->Hp->Prop)->Prop
noncomputable def PIE (X:Cx)(pins:List (Addr×Obj))(σ:St)(tg:Expr)(R:It->Hp->Prop)(itv:Value)(s2:Shared):Prop :=
 ∃(it:Addr) (fp:List Addr) (tn:Nat->Heap->Prop) (J:It) (H':Hp),itv = .ref it/\Inv X pins σ H' s2/\Turn X.prog X.w X.K tg J fp it tn/\tn 0 s2.heap/\(∀b∈fp,FpOk X pins H' b)/\R J H'
noncomputable def PI (X:Cx)(tg iter:Expr)(wi:TI):Prop :=
 ∀(pins:List (Addr×Obj)) (s:Shared) (σ:St) (H:Hp) (R:It->Hp->Prop),Inv X pins σ H s->wi σ H R →
   wpAny (model X.prog X.w) X.A (eval iter X.env) (fun v s1=>wpAny (model X.prog X.w) X.A (pyIter v) (PIE X pins σ tg R) X.xe s1) X.xe s
theorem zV4 {M:Model}{A:Around}{E:Value->Shared->Prop}{s:Shared}{tg:Expr}{it:Addr}{u:Value}{o:Obj}{n:String}{vs:Array Value}{Q:Unit->Shared->Prop}(ho:s.heap.get? it=some o)(hc:o.cls = .type n)(hd:o.data = .fields vs)
   (hn:["enumerate","zip","dict_itemiterator","dict_reverseitemiterator","odict_iterator","itertools.zip_longest","itertools.pairwise"].contains n=false) (hQ:Q () s):wpAny M A (letOwnedTupleGo tg (.ref it) u) Q E s:=by
 unfold letOwnedTupleGo
 cases tg<;>first
   | exact wpAny_pure hQ
   | (cases u<;>first
       | exact wpAny_pure hQ
       | (refine wpAny_bind (wpAny_load ho ?_)
          rw[hc,hd]
          show wpAny M A (if (["enumerate","zip","dict_itemiterator","dict_reverseitemiterator","odict_iterator","itertools.zip_longest","itertools.pairwise"].contains n && vs[0]? == some (rawInt _))=true then _ else _) Q E s
          rw[if_neg (by intro h;rw[hn,Bool.false_and] at h;cases h)]
          exact wpAny_pure hQ))
noncomputable def Itl (K:W.Frag)(a:Addr):It :=
 ⟨fun i H=>∃xs x,SqL K H a xs/\xs[i]?=some x,fun i H x H'=>H'=H/\∀xs,SqL K H a xs->xs[i]?=some x,fun i H=>∃xs,SqL K H a xs/\xs.length<=i⟩
noncomputable def Itt (K:W.Frag)(a:Addr):It :=
 ⟨fun i H=>∃xs x,SqT K H a xs/\xs[i]?=some x,fun i H x H'=>H'=H/\∀xs,SqT K H a xs->xs[i]?=some x,fun i H=>∃xs,SqT K H a xs/\xs.length<=i⟩
noncomputable def Itr (lo:Int)(n:Nat):It:=⟨fun i _=>i<n,fun i H x H'=>H'=H/\x = .int (lo+i),fun i _=>n<=i⟩
theorem zH5 {P:Program}{w:World}{K:W.Frag}{tg:Expr}(a it:Addr):Turn P w K tg (Itl K a) [it] it (fun i h=>h.IsListIter it a i) where
 mem:=by simp
 obj:=fun i h st b hb=>by
   have e:b=it:=by simpa using hb
   subst e
   obtain⟨o,e,c,d⟩:=st
   exact⟨o,e,fun v z=>by rw[d] at z;cases z⟩
 keep:=fun i h h' st k=>st.at fun o e=>k it (by simp) o e
 item:=by
   intro X hP hw hK hc i pins s σ H E I hf st hg
   subst hP hw hK
   obtain⟨xs,x,hq,hx⟩:=hg
   obtain⟨its,rv,p,hz⟩:=I.list hq
   obtain⟨u,hu,ru⟩:=rv.get hx
   obtain⟨f0,f1,f2,f3,f4,f5⟩:=hf it (by simp)
   refine wpAny_pyNext_list_item st p.isList (x:=u) (by simpa using hu) fun h' st' sb=>?_
   have I1:Inv X pins σ H { s with heap:=h' }:=I.turned (t':=s.toks) (fun b o hb e=>(sb.2 b hb).trans e) f0 f1 f3 f4 f5
   obtain⟨o,e,c,d⟩:=id st'
   exact⟨u,rfl,zV4 (s:={ s with heap:=h' }) e c d (by decide) ⟨x,H,I1,ru,⟨rfl,fun ys hy=>by rw[I.list_inj hy hq];exact hx⟩,st',fun b hb=>(hf b hb).1⟩⟩
 done:=by
   intro X hP hw hK hc i pins s σ H E I hf st hg
   subst hP hw hK
   obtain⟨xs,hq,hx⟩:=hg
   obtain⟨its,rv,p,hz⟩:=I.list hq
   obtain⟨f0,f1,f2,f3,f4,f5⟩:=hf it (by simp)
   have hl:=rv.length
   exact wpAny_pyNext_list_end (I.ok.hd hc) st p.isList (by simp;omega) fun h' eb=>⟨rfl,I.turned (t':=s.toks) (fun b o hb e=>eb b o hb e) f0 f1 f3 f4 f5⟩
 self:=fun _ _ _ _ _ st h=>wpAny_pyIter_listiter st h
theorem zE1 {P:Program}{w:World}{K:W.Frag}{tg:Expr}(a it:Addr):Turn P w K tg (Itt K a) [it] it (fun i h=>h.IsTupleIter it a i) where
 mem:=by simp
 obj:=fun i h st b hb=>by
   have e:b=it:=by simpa using hb
   subst e
   obtain⟨o,e,c,d⟩:=st
   exact⟨o,e,fun v z=>by rw[d] at z;cases z⟩
 keep:=fun i h h' st k=>st.at fun o e=>k it (by simp) o e
 item:=by
   intro X hP hw hK hc i pins s σ H E I hf st hg
   subst hP hw hK
   obtain⟨xs,x,hq,hx⟩:=hg
   obtain⟨its,rv,p,hz⟩:=I.tuple hq
   obtain⟨u,hu,ru⟩:=rv.get hx
   obtain⟨f0,f1,f2,f3,f4,f5⟩:=hf it (by simp)
   refine wpAny_pyNext_tuple_item st (show s.heap.IsTuple a its.toArray from p) (x:=u) (by simpa using hu) fun h' st' sb=>?_
   have I1:Inv X pins σ H { s with heap:=h' }:=I.turned (t':=s.toks) (fun b o hb e=>(sb.2 b hb).trans e) f0 f1 f3 f4 f5
   obtain⟨o,e,c,d⟩:=id st'
   exact⟨u,rfl,zV4 (s:={ s with heap:=h' }) e c d (by decide) ⟨x,H,I1,ru,⟨rfl,fun ys hy=>by rw[I.tuple_inj hy hq];exact hx⟩,st',fun b hb=>(hf b hb).1⟩⟩
 done:=by
   intro X hP hw hK hc i pins s σ H E I hf st hg
   subst hP hw hK
   obtain⟨xs,hq,hx⟩:=hg
   obtain⟨its,rv,p,hz⟩:=I.tuple hq
   obtain⟨f0,f1,f2,f3,f4,f5⟩:=hf it (by simp)
   have hl:=rv.length
   exact wpAny_pyNext_tuple_end (I.ok.hd hc) st (show s.heap.IsTuple a its.toArray from p) (by simp;omega) fun h' eb=>⟨rfl,I.turned (t':=s.toks) (fun b o hb e=>eb b o hb e) f0 f1 f3 f4 f5⟩
 self:=fun _ _ _ _ _ st h=>wpAny_pyIter_tupleiter st h
theorem turn_range {P:Program}{w:World}{K:W.Frag}{tg:Expr}(it:Addr)(lo:Int)(n:Nat):Turn P w K tg (Itr lo n) [it] it (fun i h=>IsRangeIter h it (lo+(i:Nat)*1) ((n:Int)-(i:Nat)) 1) where
 mem:=by simp
 obj:=fun i h st b hb=>by
   have e:b=it:=by simpa using hb
   subst e
   exact⟨_,st,fun v z=>by
     have z':Data.fields _=Data.cell v:=z
     cases z'⟩
 keep:=fun i h h' st k=>k it (by simp) _ st
 item:=by
   intro X hP hw hK hc i pins s σ H E I hf st hg
   subst hP hw hK
   obtain⟨f0,f1,f2,f3,f4,f5⟩:=hf it (by simp)
   have W:=Walks.range (prog:=X.prog) (w:=X.w) (I.ok.hd hc) it lo 1 n
   refine W.item i s _ _ hg st fun v h' tk hv st' kk=>?_
   obtain⟨t,rfl⟩:=hv
   have I1:Inv X pins σ H { s with heap:=h',toks:=tk }:=I.turned (fun b o hb e=>kk b o (by simpa using hb) e) f0 f1 f3 f4 f5
   refine⟨_,rfl,zV4 (s:={ s with heap:=h',toks:=tk }) (n:="range_iterator") st' rfl rfl (by decide) ⟨.int (lo+i),H,I1,⟨t,?_⟩,⟨rfl,rfl⟩,st',fun b hb=>(hf b hb).1⟩⟩
   rw[Int.mul_one]
 done:=by
   intro X hP hw hK hc i pins s σ H E I hf st hg
   subst hP hw hK
   obtain⟨f0,f1,f2,f3,f4,f5⟩:=hf it (by simp)
   exact wpAny_pyNext_range_end (I.ok.hd hc) st (by have:n<=i:=hg;omega) fun h' eb=>⟨rfl,I.turned (t':=s.toks) (fun b o hb e=>eb b o hb e) f0 f1 f3 f4 f5⟩
 self:=fun _ _ _ _ _ st h=>wpAny_pyIter_rangeiter st h
section
variable {X:Cx} {tg:Expr}
noncomputable def iList (K:W.Frag)(tl:TE):TI:=fun σ H R=>tl σ H fun x H1=>∃a,x = .ref a/\(∃xs,SqL K H1 a xs)/\R (Itl K a) H1
noncomputable def iTup (K:W.Frag)(tl:TE):TI:=fun σ H R=>tl σ H fun x H1=>∃a,x = .ref a/\(∃xs,SqT K H1 a xs)/\R (Itt K a) H1
theorem zx1 {l:Expr}{tl:TE}(hl:PE X l tl):PI X tg l (iList X.K tl):=by
 intro pins s σ H R I h
 refine thn (hl pins s σ H _ I h) fun v s1 ⟨x,H1,I1,r1,q1⟩=>?_
 obtain⟨a,e,⟨xs,hq⟩,q⟩:=q1
 subst e
 cases r1
 obtain⟨its,rv,p,hz⟩:=I1.list hq
 refine wpAny_pyIter_list p.isList ?_
 refine⟨s1.heap.objs.size,[s1.heap.objs.size],_,_,H1,rfl,I1.kept (t':=s1.toks) fun b o e=>Heap.get?_push_of_some _ e,zH5 a _,⟨_,Heap.get?_push_size _ rfl,rfl,rfl⟩,fun b hb=>?_,q⟩
 have e:b=s1.heap.objs.size:=by simpa using hb
 subst e
 exact I1.fpOk (Nat.le_refl _) (I1.hok.fresh (Nat.le_refl _))
theorem pi_tup {l:Expr}{tl:TE}(hl:PE X l tl):PI X tg l (iTup X.K tl):=by
 intro pins s σ H R I h
 refine thn (hl pins s σ H _ I h) fun v s1 ⟨x,H1,I1,r1,q1⟩=>?_
 obtain⟨a,e,⟨xs,hq⟩,q⟩:=q1
 subst e
 cases r1
 obtain⟨its,rv,p,hz⟩:=I1.tuple hq
 refine wpAny_pyIter_tuple (show s1.heap.IsTuple a its.toArray from p) ?_
 refine⟨s1.heap.objs.size,[s1.heap.objs.size],_,_,H1,rfl,I1.kept (t':=s1.toks) fun b o e=>Heap.get?_push_of_some _ e,zE1 a _,⟨_,Heap.get?_push_size _ rfl,rfl,rfl⟩,fun b hb=>?_,q⟩
 have e:b=s1.heap.objs.size:=by simpa using hb
 subst e
 exact I1.fpOk (Nat.le_refl _) (I1.hok.fresh (Nat.le_refl _))
theorem zM7 {pins:List (Addr×Obj)}{σ:St}{H:Hp}{s:Shared}{R:It->Hp->Prop}{E:Value->Shared->Prop}{lo hi:Int}{t u v:Tok}{tk:Nat}(I:Inv X pins σ H s)(h1:-(2 ^ 62)<=lo)(h2:lo<2 ^ 62)(h3:-(2 ^ 62)<=hi)(h4:hi<2 ^ 62)
   (q:R (Itr lo (hi-lo).toNat) H):wpAny (model X.prog X.w) X.A (pyIter (.ref s.heap.objs.size)) (PIE X pins σ tg R) E { s with heap:=s.heap.push { cls:=.type "range",data:=.fields #[.int lo t,.int hi u,.int 1 v] },toks:=tk }:=by
 refine wpAny_pyIter_range (IsRange.new ..) (small_one h1 h2 h3 h4) ?_
 have I1:Inv X pins σ H { s with heap:=s.heap.push { cls:=.type "range",data:=.fields #[.int lo t,.int hi u,.int 1 v] },toks:=tk }:=I.kept fun b o e=>Heap.get?_push_of_some _ e
 refine⟨(s.heap.push { cls:=.type "range",data:=.fields #[.int lo t,.int hi u,.int 1 v] }).objs.size,[(s.heap.push { cls:=.type "range",data:=.fields #[.int lo t,.int hi u,.int 1 v] }).objs.size],_,_,H,rfl,
   I1.kept (t':=tk) fun b o e=>Heap.get?_push_of_some _ e,turn_range _ lo (hi-lo).toNat,?_,fun b hb=>?_,q⟩
 . have e1:lo+((0:Nat):Int)*1=lo:=by simp
   have e2:(((hi-lo).toNat:Nat):Int)-((0:Nat):Int)=Builtin.Range.rangeSize lo hi 1:=by rw[rangeSize_one];split<;>omega
   show IsRangeIter _ _ (lo+((0:Nat):Int)*1) ((((hi-lo).toNat:Nat):Int)-((0:Nat):Int)) 1
   rw[e1,e2]
   exact Heap.get?_push_size _ rfl
 . have e:b=(s.heap.push { cls:=.type "range",data:=.fields #[.int lo t,.int hi u,.int 1 v] }).objs.size:=by simpa using hb
   subst e
   exact I1.fpOk (Nat.le_refl _) (I1.hok.fresh (Nat.le_refl _))
noncomputable def iRng1 (ta:TA):TI:=fun σ H R=>ta σ H fun vs H1=>∃j:Int,vs=[.int j]/\-(2 ^ 62)<=j/\j<2 ^ 62/\R (Itr 0 j.toNat) H1
noncomputable def iRng2 (ta:TA):TI:=fun σ H R=>ta σ H fun vs H1=>∃i j:Int,vs=[.int i,.int j]/\(-(2 ^ 62)<=i/\i<2 ^ 62/\-(2 ^ 62)<=j/\j<2 ^ 62)/\R (Itr i (j-i).toNat) H1
theorem zu7 {a:Expr} {ta:TA} {p pos:Pos} (hg:Gl X "range") (hm:X.mg "range" = none) (ha:PA X [a] ta) (hs:starEach [a] X.env=[(false,eval a X.env)]:=by rfl):PI X tg (.Call (.Name "range" p) [a] [] pos) (iRng1 ta):=by
 intro pins s σ H R I h
 refine Call_ (zA6 I hg hm boot_range (PyProof.Rows.callWith_type1 (thn (ha pos pins s σ H _ I h) fun us s1 ⟨vs,H1,I1,r1,q1⟩=>?_) hs rfl))
 obtain⟨j,e,q1,q2,q⟩:=q1
 subst e
 cases r1 with
 | cons r rr =>
   cases rr
   obtain⟨t,rfl⟩:=r
   exact call_range_1 (zM7 I1 (by omega) (by omega) q1 q2 (by simpa using q))
theorem zH6 {a b:Expr} {ta:TA} {p pos:Pos} (hg:Gl X "range") (hm:X.mg "range" = none) (ha:PA X [a,b] ta) (hs:starEach [a,b] X.env=[(false,eval a X.env),(false,eval b X.env)]:=by rfl) (hs2:starEach [b] X.env=[(false,eval b X.env)]:=by rfl) :
   PI X tg (.Call (.Name "range" p) [a,b] [] pos) (iRng2 ta):=by
 intro pins s σ H R I h
 refine Call_ (zA6 I hg hm boot_range (PyProof.Rows.callWith_type1 (thn (ha pos pins s σ H _ I h) fun us s1 ⟨vs,H1,I1,r1,q1⟩=>?_) (by rw[hs,hs2]) (by rw[hs2];rfl)))
 obtain⟨i,j,e,⟨q1,q2,q3,q4⟩,q⟩:=q1
 subst e
 cases r1 with
 | cons r rr =>
   cases rr with
   | cons r' rr =>
     cases rr
     obtain⟨t,rfl⟩:=r
     obtain⟨t',rfl⟩:=r'
     exact call_range_2 (zM7 I1 q1 q2 q3 q4 q)
noncomputable def tFor (wi:TI)(g:TG)(tb:TS):TS:=fun D σ H=>wi σ H fun J H1=>∃W:Nat->Nat->St->Hp->Prop,(∃m,W 0 m σ H1)/\∀i m σ H,W i m σ H →
 (J.stop i H/\D.nx σ H)\/(J.go i H/\∃N:St->Hp->Prop,(∀σ' H',N σ' H'->∃m',m'<m/\W (i+1) m' σ' H')/\∀x H',J.yld i H x H'->g x σ H' fun σ2 H2=>tb { D with nx:=N,ct:=N,bk:=D.nx } σ2 H2)
noncomputable def zA7 (fp:List Addr)(h:Heap):List (Addr×Obj):=fp.filterMap fun b=>(h.get? b).map fun o=>(b,o)
theorem zr2 {fp:List Addr}{h:Heap}{b:Addr}{o:Obj}(hb:b∈fp)(e:h.get? b=some o):(b,o)∈zA7 fp h:=List.mem_filterMap.mpr ⟨b,hb,by rw[e];rfl⟩
theorem of_pinsAt {fp:List Addr}{h:Heap}{p:Addr×Obj}(hp:p∈zA7 fp h):p.1∈fp/\h.get? p.1=some p.2:=by
 obtain⟨b,hb,e⟩:=List.mem_filterMap.mp hp
 cases q:h.get? b with
 | none=>rw[q] at e;cases e
 | some o =>
   rw[q] at e
   have e':(b,o)=p:=Option.some.inj e
   subst e'
   exact⟨hb,q⟩
theorem Inv.pinned {pins:List (Addr×Obj)}{σ:St}{H:Hp}{s:Shared}{fp:List Addr}(I:Inv X pins σ H s)(hf:∀b∈fp,FpOk X pins H b)(ho:∀b∈fp,∃o,s.heap.get? b=some o/\∀v,o.data≠.cell v):Inv X (pins++zA7 fp s.heap) σ H s :=
 I.pins_of fun p hp=>(List.mem_append.mp hp).elim (fun z=>I.pin p (List.mem_append_right _ z)) fun z=>by
   obtain⟨hb,e⟩:=of_pinsAt z
   obtain⟨f0,f1,f2,_⟩:=hf p.1 hb
   obtain⟨o,e',d⟩:=ho p.1 hb
   rw[e] at e';cases e'
   exact⟨e,f0,f1,f2,d⟩
theorem Inv.unpinned {pins pl:List (Addr×Obj)}{σ:St}{H:Hp}{s:Shared}(I:Inv X (pins++pl) σ H s):Inv X pins σ H s:=I.pins_of fun p hp=>I.pin p (List.mem_append_right _ (List.mem_append_left _ hp))
theorem zr3 {iter:Expr}{body:List Stmt}{wi:TI}{g:TG}{tb:TS}{pos:Pos}(hp:PassesOwn (model X.prog X.w) X.A X.env X.xe)(hc:X.calm=true)(hi:PI X tg iter wi)(hg:PG X tg g)(hb:PSs X body tb)
   (hs:∀x,foldedSetIterable iter X.env x=pure x:=by intro _;rfl):PS X (.For tg iter body [] pos) (tFor wi g tb):=by
 intro pins s σ H D I h
 refine wpAny_For (thn (hi pins s σ H _ I h) fun v s1 h1=>thn h1 fun itv s2 h2=>?_) hs
 obtain⟨it,fp,tn,J,H2,e,I2,T,st2,f2,W,⟨m0,w0⟩,turn⟩:=h2
 subst e
 have stat:∀ {H':Hp},(∀b∈fp,H' b=none)->∀b∈fp,FpOk X pins H' b:=fun hn b hb=>⟨hn b hb,(f2 b hb).2⟩
 refine codeAny_forLoop_any (fun n s'=>∃i σ' H',Inv X pins σ' H' s'/\tn i s'.heap/\(∀b∈fp,H' b=none)/\W i n σ' H') ?_ m0 ⟨0,σ,H2,I2,st2,fun b hb=>(f2 b hb).1,w0⟩
 rintro n s3 ⟨i,σ3,H3,I3,st3,fr3,w3⟩
 rcases turn i n σ3 H3 w3 with⟨stop,qn⟩ | ⟨go,N,hN,step⟩
 . refine wpAny_passesOwn hp (thn (T.done X rfl rfl rfl hc i pins s3 σ3 H3 X.xe I3 (stat fr3) st3 stop) fun r s4 ⟨hr,I4⟩=>?_)
   subst hr
   exact wpAny_execs_nil ⟨σ3,H3,I4,qn⟩
 . refine wpAny_passesOwn hp (thn (T.item X rfl rfl rfl hc i pins s3 σ3 H3 X.xe I3 (stat fr3) st3 go) fun r s4 ⟨u,hr,h4⟩=>?_)
   subst hr
   refine wpAny_passesOwn hp (thn h4 fun _ s5 ⟨x,H5,I5,r5,y5,st5,fr5⟩=>?_)
   have I5':=I5.pinned (stat fr5) (T.obj _ _ st5)
   refine wpAny_passesOwn hp (thn (hg _ s5 σ3 H5 x u _ I5' r5 (step x H5 y5)) fun _ s6 ⟨σ6,H6,I6,q6⟩=>?_)
   refine wpAny_passesOwn hp (thn (hb _ s6 σ6 H6 _ I6 q6) fun f s7 q7=>?_)
   have again:∀ {σ7:St} {H7:Hp},Inv X (pins++zA7 fp s5.heap) σ7 H7 s7->N σ7 H7->∃m,m<n/\∃i σ' H',Inv X pins σ' H' s7/\tn i s7.heap/\(∀b∈fp,H' b=none)/\W i m σ' H':=fun {σ7 H7} I7 n7=>by
     obtain⟨m',hm,w7⟩:=hN σ7 H7 n7
     refine⟨m',hm,i+1,σ7,H7,I7.unpinned,T.keep _ _ _ st5 fun b hb o e=>(I7.pin (b,o) (List.mem_append_right _ (List.mem_append_right _ (zr2 hb e)))).1,fun b hb=>?_,w7⟩
     obtain⟨o,e,d⟩:=T.obj _ _ st5 b hb
     exact(I7.pin (b,o) (List.mem_append_right _ (List.mem_append_right _ (zr2 hb e)))).2.1
   cases f with
   | next=>obtain⟨σ7,H7,I7,n7⟩:=q7;exact again I7 n7
   | cont=>obtain⟨σ7,H7,I7,n7⟩:=q7;exact again I7 n7
   | brk=>obtain⟨σ7,H7,I7,q7⟩:=q7;exact⟨σ7,H7,I7.unpinned,q7⟩
   | ret v=>obtain⟨x7,σ7,H7,I7,r7,q7⟩:=q7;exact⟨x7,σ7,H7,I7.unpinned,r7,q7⟩
end
theorem zE2 {K:W.Frag}{a:Addr}{xs:List V}{g:TG}{tb:TS}{D:Ends}{σ:St}{H:Hp}(Pv:Nat->St->Hp->Prop)(h0:Pv 0 σ H)(hl:∀i σ H,i<=xs.length->Pv i σ H->SqL K H a xs)
   (hs:∀i x σ H,xs[i]?=some x->Pv i σ H->g x σ H fun σ2 H2=>tb { D with nx:=Pv (i+1),ct:=Pv (i+1),bk:=D.nx } σ2 H2) (hd:∀σ H,Pv xs.length σ H->D.nx σ H) :
   ∃W:Nat->Nat->St->Hp->Prop,(∃m,W 0 m σ H)/\∀i m σ H,W i m σ H →
     ((Itl K a).stop i H/\D.nx σ H)\/((Itl K a).go i H/\∃N:St->Hp->Prop,(∀σ' H',N σ' H'->∃m',m'<m/\W (i+1) m' σ' H')/\∀x H',(Itl K a).yld i H x H'->g x σ H' fun σ2 H2=>tb { D with nx:=N,ct:=N,bk:=D.nx } σ2 H2):=by
 refine⟨fun i m σ H=>m=xs.length-i/\i<=xs.length/\Pv i σ H,⟨xs.length,by simp,Nat.zero_le _,h0⟩,?_⟩
 rintro i m σ H ⟨rfl,hi,p⟩
 have q:=hl i σ H hi p
 by_cases hlt:i<xs.length
 . refine .inr ⟨⟨xs,xs[i],q,by simp[hlt]⟩,Pv (i+1),fun σ' H' p'=>⟨xs.length-(i+1),by omega,rfl,hlt,p'⟩,fun x H' y=>?_⟩
   obtain⟨e,y⟩:=y
   subst e
   exact hs i x σ _ (y xs q) p
 . have e:i=xs.length:=by omega
   subst e
   exact .inl ⟨⟨xs,q,Nat.le_refl _⟩,hd σ H p⟩
theorem zK7 {K:W.Frag}{a:Addr}{xs:List V}{g:TG}{tb:TS}{D:Ends}{σ:St}{H:Hp}(Pv:Nat->St->Hp->Prop)(h0:Pv 0 σ H)(hl:∀i σ H,i<=xs.length->Pv i σ H->SqT K H a xs)
   (hs:∀i x σ H,xs[i]?=some x->Pv i σ H->g x σ H fun σ2 H2=>tb { D with nx:=Pv (i+1),ct:=Pv (i+1),bk:=D.nx } σ2 H2) (hd:∀σ H,Pv xs.length σ H->D.nx σ H) :
   ∃W:Nat->Nat->St->Hp->Prop,(∃m,W 0 m σ H)/\∀i m σ H,W i m σ H →
     ((Itt K a).stop i H/\D.nx σ H)\/((Itt K a).go i H/\∃N:St->Hp->Prop,(∀σ' H',N σ' H'->∃m',m'<m/\W (i+1) m' σ' H')/\∀x H',(Itt K a).yld i H x H'->g x σ H' fun σ2 H2=>tb { D with nx:=N,ct:=N,bk:=D.nx } σ2 H2):=by
 refine⟨fun i m σ H=>m=xs.length-i/\i<=xs.length/\Pv i σ H,⟨xs.length,by simp,Nat.zero_le _,h0⟩,?_⟩
 rintro i m σ H ⟨rfl,hi,p⟩
 have q:=hl i σ H hi p
 by_cases hlt:i<xs.length
 . refine .inr ⟨⟨xs,xs[i],q,by simp[hlt]⟩,Pv (i+1),fun σ' H' p'=>⟨xs.length-(i+1),by omega,rfl,hlt,p'⟩,fun x H' y=>?_⟩
   obtain⟨e,y⟩:=y
   subst e
   exact hs i x σ _ (y xs q) p
 . have e:i=xs.length:=by omega
   subst e
   exact .inl ⟨⟨xs,q,Nat.le_refl _⟩,hd σ H p⟩
theorem zo9 {lo:Int}{n:Nat}{g:TG}{tb:TS}{D:Ends}{σ:St}{H:Hp}(Pv:Nat->St->Hp->Prop)(h0:Pv 0 σ H)
   (hs:∀i σ H,i<n->Pv i σ H->g (.int (lo+i)) σ H fun σ2 H2=>tb { D with nx:=Pv (i+1),ct:=Pv (i+1),bk:=D.nx } σ2 H2) (hd:∀σ H,Pv n σ H->D.nx σ H) :
   ∃W:Nat->Nat->St->Hp->Prop,(∃m,W 0 m σ H)/\∀i m σ H,W i m σ H →
     ((Itr lo n).stop i H/\D.nx σ H)\/((Itr lo n).go i H/\∃N:St->Hp->Prop,(∀σ' H',N σ' H'->∃m',m'<m/\W (i+1) m' σ' H')/\∀x H',(Itr lo n).yld i H x H'->g x σ H' fun σ2 H2=>tb { D with nx:=N,ct:=N,bk:=D.nx } σ2 H2):=by
 refine⟨fun i m σ H=>m=n-i/\i<=n/\Pv i σ H,⟨n,by simp,Nat.zero_le _,h0⟩,?_⟩
 rintro i m σ H ⟨rfl,hi,p⟩
 by_cases hlt:i<n
 . refine .inr ⟨hlt,Pv (i+1),fun σ' H' p'=>⟨n-(i+1),by omega,rfl,hlt,p'⟩,fun x H' y=>?_⟩
   obtain⟨e,y⟩:=y
   subst e y
   exact hs i σ _ hlt p
 . have e:i=n:=by omega
   subst e
   exact .inl ⟨Nat.le_refl _,hd σ H p⟩
theorem zM8 {c:TT}{tb:TS}{D:Ends}{σ:St}{H:Hp}(Pv:St->Hp->Prop)(μ:St->Hp->Nat)(h0:Pv σ H)
   (hs:∀σ H,Pv σ H->c σ H fun b H1=>if b=true then tb { D with nx:=fun σ' H'=>Pv σ' H'/\μ σ' H'<μ σ H,ct:=fun σ' H'=>Pv σ' H'/\μ σ' H'<μ σ H,bk:=D.nx } σ H1 else D.nx σ H1)
   (mono:∀σ H Q Q',(∀b H1,Q b H1->Q' b H1)->c σ H Q->c σ H Q'):zV3 c tb D σ H:=by
 refine⟨fun m σ H=>m=μ σ H/\Pv σ H,⟨_,rfl,h0⟩,?_⟩
 rintro m σ H ⟨rfl,p⟩
 refine mono σ H _ _ (fun b H1 q=>?_) (hs σ H p)
 cases b with
 | true=>exact⟨_,fun σ' H' ⟨p',l⟩=>⟨_,l,rfl,p'⟩,q⟩
 | false=>exact q
noncomputable abbrev R2:=V->V->Hp->VK->Prop
noncomputable def OpR (X:Cx)(f:Value->Value->Sem Value)(r:R2):Prop :=
 ∀(pins:List (Addr×Obj)) (s:Shared) (σ:St) (H:Hp) (x y:V) (v u:Value) (Q:VK),Inv X pins σ H s->RelV x v->RelV y u->r x y H Q →
   wpAny (model X.prog X.w) X.A (f v u) (EP X pins σ Q) X.xe s
noncomputable def UnR (X:Cx)(f:Value->Sem Value)(r:V->Hp->VK->Prop):Prop :=
 ∀(pins:List (Addr×Obj)) (s:Shared) (σ:St) (H:Hp) (x:V) (v:Value) (Q:VK),Inv X pins σ H s->RelV x v->r x H Q →
   wpAny (model X.prog X.w) X.A (f v) (EP X pins σ Q) X.xe s
noncomputable def zp0 (X:Cx)(f:Value)(r:List V->Hp->VK->Prop):Prop :=
 ∀(pins:List (Addr×Obj)) (s:Shared) (σ:St) (H:Hp) (xs:List V) (us:List Value) (Q:VK),Inv X pins σ H s->Vals xs us->r xs H Q →
   wpAny (model X.prog X.w) X.A (call f us) (EP X pins σ Q) X.xe s
noncomputable def tOp (r:R2)(ta tb:TE):TE:=fun σ H Q=>ta σ H fun x H1=>tb σ H1 fun y H2=>r x y H2 Q
noncomputable def tUn (r:V->Hp->VK->Prop)(ta:TE):TE:=fun σ H Q=>ta σ H fun x H1=>r x H1 Q
noncomputable def rI (C:Int->Int->Prop)(g:Int->Int->V):R2:=fun x y H Q=>∃i j,x = .int i/\y = .int j/\C i j/\Q (g i j) H
noncomputable def rI0 (g:Int->Int->V):R2:=fun x y H Q=>∃i j,x = .int i/\y = .int j/\Q (g i j) H
noncomputable def rU (g:Int->V):V->Hp->VK->Prop:=fun x H Q=>∃i,x = .int i/\Q (g i) H
section
variable {X:Cx} {a b c:Expr} {ta tb tc:TE} {pos:Pos}
theorem binT (ha:PE X a ta)(hb:PE X b tb){pins:List (Addr×Obj)}{s:Shared}{σ:St}{H:Hp}{R:V->V->Hp->Prop}(I:Inv X pins σ H s)
   (h:ta σ H fun x H1=>tb σ H1 fun y H2=>R x y H2) {Q:Value->Shared->Prop} {f:Value->Value->Sem Value}
   (hf:∀v u s2 x y H2,Inv X pins σ H2 s2->RelV x v->RelV y u->R x y H2->wpAny (model X.prog X.w) X.A (f v u) Q X.xe s2) :
   wpAny (model X.prog X.w) X.A (eval a X.env) (fun v s₁=>wpAny (model X.prog X.w) X.A (eval b X.env) (fun u s₂=>wpAny (model X.prog X.w) X.A (f v u) Q X.xe s₂) X.xe s₁) X.xe s:=by
 refine thn (ha pins s σ H _ I h) fun v s1 ⟨x,H1,I1,r1,q1⟩=>?_
 refine thn (hb pins s1 σ H1 _ I1 q1) fun u s2 ⟨y,H2,I2,r2,q2⟩=>?_
 exact hf v u s2 x y H2 I2 r1 r2 q2
theorem zf9 {op:Operator}{r:R2}(ho:OpR X (binaryOp op) r)(ha:PE X a ta)(hb:PE X b tb):PE X (.BinOp a op b pos) (tOp r ta tb):=by
 intro pins s σ H Q I h
 exact wpAny_BinOp (binT ha hb I h fun v u s2 x y H2 I2 rx ry q=>ho pins s2 σ H2 x y v u Q I2 rx ry q)
theorem zB9 {op:UnaryOp}{r:V->Hp->VK->Prop}(ho:UnR X (unaryOp op) r)(ha:PE X a ta):PE X (.UnaryOp op a pos) (tUn r ta):=by
 intro pins s σ H Q I h
 exact UnaryOp_ (thn (ha pins s σ H _ I h) fun v s1 ⟨x,H1,I1,r1,q1⟩=>ho pins s1 σ H1 x v Q I1 r1 q1)
theorem opI {f:Value->Value->Sem Value}{C:Int->Int->Prop}{g:Int->Int->Int}
   (rule:∀(i j:Int) (t u:Tok) (s:Shared) (Q:Value->Shared->Prop) (E:Value->Shared->Prop),C i j->Q (.int (g i j) s.toks) { s with toks:=s.toks+1 }->wpAny (model X.prog X.w) X.A (f (.int i t) (.int j u)) Q E s) :
   OpR X f (rI C fun i j=>.int (g i j)):=by
 intro pins s σ H x y v u Q I rx ry h
 obtain⟨i,j,rfl,rfl,hc,q⟩:=h
 obtain⟨t,rfl⟩:=rx
 obtain⟨t',rfl⟩:=ry
 exact rule i j t t' s _ _ hc ⟨.int (g i j),H,I.tok _,⟨_,rfl⟩,q⟩
theorem opI0 {f:Value->Value->Sem Value}{g:Int->Int->Int}
   (rule:∀(i j:Int) (t u:Tok) (s:Shared) (Q:Value->Shared->Prop) (E:Value->Shared->Prop),Q (.int (g i j) s.toks) { s with toks:=s.toks+1 }->wpAny (model X.prog X.w) X.A (f (.int i t) (.int j u)) Q E s) :
   OpR X f (rI0 fun i j=>.int (g i j)):=by
 intro pins s σ H x y v u Q I rx ry h
 obtain⟨i,j,rfl,rfl,q⟩:=h
 obtain⟨t,rfl⟩:=rx
 obtain⟨t',rfl⟩:=ry
 exact rule i j t t' s _ _ ⟨.int (g i j),H,I.tok _,⟨_,rfl⟩,q⟩
theorem opB0 {f:Value->Value->Sem Value}{g:Int->Int->Bool}
   (rule:∀(i j:Int) (t u:Tok) (s:Shared) (Q:Value->Shared->Prop) (E:Value->Shared->Prop),Q (.bool (g i j)) s->wpAny (model X.prog X.w) X.A (f (.int i t) (.int j u)) Q E s) :
   OpR X f (rI0 fun i j=>.bl (g i j)):=by
 intro pins s σ H x y v u Q I rx ry h
 obtain⟨i,j,rfl,rfl,q⟩:=h
 obtain⟨t,rfl⟩:=rx
 obtain⟨t',rfl⟩:=ry
 exact rule i j t t' s _ _ ⟨.bl (g i j),H,I,rfl,q⟩
noncomputable def CMul (i j:Int):Prop:=(-(2 ^ 64)<i/\i<2 ^ 64)\/(-(2 ^ 64)<j/\j<2 ^ 64)
theorem CMul.ok {i j:Int}(h:CMul i j):IntMulOk i j:=by
 rcases h with⟨h1,h2⟩ | ⟨h1,h2⟩
 . exact .of_left (intBits_le_64 h1 h2)
 . exact .of_right (intBits_le_64 h1 h2)
theorem zs8:OpR X (binaryOp .Add) (rI0 fun i j=>.int (i+j)):=opI0 fun _ _ _ _ _ _ _ q=>add_int q
theorem zr4:OpR X (binaryOp .Sub) (rI0 fun i j=>.int (i-j)):=opI0 fun _ _ _ _ _ _ _ q=>sub_int q
theorem zw7:OpR X (binaryOp .Mult) (rI CMul fun i j=>.int (i*j)):=opI fun _ _ _ _ _ _ _ hc q=>mul_int q hc.ok
theorem zK8:OpR X (binaryOp .Mod) (rI (fun _ j=>0<j) fun i j=>.int (i % j)):=opI fun i j _ _ _ _ _ hc q=>by
 have h1:(0:Int)<j:=hc
 exact mod_int' (by omega) (by rw[Int.fmod_eq_emod_of_nonneg i (by omega)];exact q)
theorem unI {f:Value->Sem Value}{g:Int->Int}
   (rule:∀(i:Int) (t:Tok) (s:Shared) (Q:Value->Shared->Prop) (E:Value->Shared->Prop),Q (.int (g i) s.toks) { s with toks:=s.toks+1 }->wpAny (model X.prog X.w) X.A (f (.int i t)) Q E s) :
   UnR X f (rU fun i=>.int (g i)):=by
 intro pins s σ H x v Q I rx h
 obtain⟨i,rfl,q⟩:=h
 obtain⟨t,rfl⟩:=rx
 exact rule i t s _ _ ⟨.int (g i),H,I.tok _,⟨_,rfl⟩,q⟩
theorem zs9:UnR X (unaryOp .USub) (rU fun i=>.int (-i)):=unI fun _ _ _ _ _ q=>neg_int q
end
noncomputable def scal:V->V->Bool
 | .non,.non=>true | .non,.int _=>true | .int _,.non=>true | .non,.bl _=>true | .bl _,.non=>true | .non,.str _=>true | .str _,.non=>true
 | .int _,.int _=>true | .bl _,.bl _=>true | .str _,.str _=>true | .byt _,.byt _=>true
 | .int _,.str _=>true | .str _,.int _=>true | .bl _,.str _=>true | .str _,.bl _=>true
 | _,_=>false
noncomputable def rEq:R2:=fun x y H Q=>scal x y=true/\Q (.bl (decide (x=y))) H
noncomputable def rNe:R2:=fun x y H Q=>scal x y=true/\Q (.bl (!decide (x=y))) H
theorem zQ6 {i j:Int}:decide (V.int i=V.int j)=(i == j):=by
 rw[Bool.eq_iff_iff]
 simp
theorem zV5 {i j:Bool}:decide (V.bl i=V.bl j)=(i == j):=by
 rw[Bool.eq_iff_iff]
 simp
theorem zQ7 {i j:Str}:decide (V.str i=V.str j)=(i == j):=by
 rw[Bool.eq_iff_iff]
 simp
theorem zQ8 {i j:Array UInt8}:decide (V.byt i=V.byt j)=(i.toList == j.toList):=by
 rw[Bool.eq_iff_iff]
 cases i
 cases j
 simp
section
variable {X:Cx} {a b c:Expr} {ta tb tc:TE} {pos:Pos}
theorem ze6 {pins:List (Addr×Obj)}{σ:St}{H:Hp}{s:Shared}{Q:VK}{k k':Bool}(I:Inv X pins σ H s)(q:Q (.bl k) H)(e:k=k'):EP X pins σ Q (.bool k') s:=by
 subst e
 exact⟨.bl k,H,I,rfl,q⟩
theorem zm1:OpR X (compareOp .Eq) rEq:=by
 intro pins s σ H x y v u Q I rx ry h
 obtain⟨hs,q⟩:=h
 cases x with
 | non =>
   cases rx
   cases y with
   | non=>cases ry;exact PySem.EqNone.eq_none_none (ze6 I q (by simp))
   | bl j=>cases ry;exact PySem.EqNone.eq_none_bool (ze6 I q (by simp))
   | int j=>obtain⟨t',rfl⟩:=ry;exact PySem.EqNone.eq_none_int (ze6 I q (by simp))
   | str j=>obtain⟨t',rfl⟩:=ry;exact PySem.EqNone.eq_none_str (ze6 I q (by simp))
   | _=>exact absurd (show false=true from hs) Bool.false_ne_true
 | bl i =>
   cases rx
   cases y with
   | non=>cases ry;exact PySem.EqNone.eq_bool_none (ze6 I q (by simp))
   | bl j=>cases ry;exact eq_bool (ze6 I q zV5)
   | str j=>obtain⟨t',rfl⟩:=ry;exact PySem.EqMixed.eq_bool_str (ze6 I q (by simp))
   | _=>exact absurd (show false=true from hs) Bool.false_ne_true
 | int i =>
   obtain⟨t,rfl⟩:=rx
   cases y with
   | non=>cases ry;exact PySem.EqNone.eq_int_none (ze6 I q (by simp))
   | int j=>obtain⟨t',rfl⟩:=ry;exact eq_int (ze6 I q zQ6)
   | str j=>obtain⟨t',rfl⟩:=ry;exact PySem.EqMixed.eq_int_str (ze6 I q (by simp))
   | _=>exact absurd (show false=true from hs) Bool.false_ne_true
 | str i =>
   obtain⟨t,rfl⟩:=rx
   cases y with
   | non=>cases ry;exact PySem.EqNone.eq_str_none (ze6 I q (by simp))
   | bl j=>cases ry;exact PySem.EqMixed.eq_str_bool (ze6 I q (by simp))
   | int j=>obtain⟨t',rfl⟩:=ry;exact PySem.EqMixed.eq_str_int (ze6 I q (by simp))
   | str j=>obtain⟨t',rfl⟩:=ry;exact eq_str (ze6 I q zQ7)
   | _=>exact absurd (show false=true from hs) Bool.false_ne_true
 | byt i =>
   obtain⟨t,rfl⟩:=rx
   cases y with
   | byt j=>obtain⟨t',rfl⟩:=ry;exact W.eq_bytes (ze6 I q zQ8)
   | _=>exact absurd (show false=true from hs) Bool.false_ne_true
 | _=>cases y<;>exact absurd (show false=true from hs) Bool.false_ne_true
theorem zx2:OpR X (compareOp .NotEq) rNe:=by
 intro pins s σ H x y v u Q I rx ry h
 obtain⟨hs,q⟩:=h
 cases x with
 | non =>
   cases rx
   cases y with
   | non=>cases ry;exact PySem.EqNone.ne_none_none (ze6 I q (by simp))
   | bl j=>cases ry;exact PySem.EqNone.ne_none_bool (ze6 I q (by simp))
   | int j=>obtain⟨t',rfl⟩:=ry;exact PySem.EqNone.ne_none_int (ze6 I q (by simp))
   | str j=>obtain⟨t',rfl⟩:=ry;exact PySem.EqNone.ne_none_str (ze6 I q (by simp))
   | _=>exact absurd (show false=true from hs) Bool.false_ne_true
 | bl i =>
   cases rx
   cases y with
   | non=>cases ry;exact PySem.EqNone.ne_bool_none (ze6 I q (by simp))
   | bl j=>cases ry;exact ne_bool (ze6 I q (congrArg not zV5))
   | str j=>obtain⟨t',rfl⟩:=ry;exact PySem.EqMixed.ne_bool_str (ze6 I q (by simp))
   | _=>exact absurd (show false=true from hs) Bool.false_ne_true
 | int i =>
   obtain⟨t,rfl⟩:=rx
   cases y with
   | non=>cases ry;exact PySem.EqNone.ne_int_none (ze6 I q (by simp))
   | int j=>obtain⟨t',rfl⟩:=ry;exact ne_int (ze6 I q (congrArg not zQ6))
   | str j=>obtain⟨t',rfl⟩:=ry;exact PySem.EqMixed.ne_int_str (ze6 I q (by simp))
   | _=>exact absurd (show false=true from hs) Bool.false_ne_true
 | str i =>
   obtain⟨t,rfl⟩:=rx
   cases y with
   | non=>cases ry;exact PySem.EqNone.ne_str_none (ze6 I q (by simp))
   | bl j=>cases ry;exact PySem.EqMixed.ne_str_bool (ze6 I q (by simp))
   | int j=>obtain⟨t',rfl⟩:=ry;exact PySem.EqMixed.ne_str_int (ze6 I q (by simp))
   | str j=>obtain⟨t',rfl⟩:=ry;exact ne_str (ze6 I q (congrArg not zQ7))
   | _=>exact absurd (show false=true from hs) Bool.false_ne_true
 | byt i =>
   obtain⟨t,rfl⟩:=rx
   cases y with
   | byt j=>obtain⟨t',rfl⟩:=ry;exact W.ne_bytes (ze6 I q (congrArg not zQ8))
   | _=>exact absurd (show false=true from hs) Bool.false_ne_true
 | _=>cases y<;>exact absurd (show false=true from hs) Bool.false_ne_true
theorem zY0:OpR X (compareOp .Lt) (rI0 fun i j=>.bl (decide (i<j))):=opB0 fun _ _ _ _ _ _ _ q=>lt_int q
theorem zH7:OpR X (compareOp .Gt) (rI0 fun i j=>.bl (decide (j<i))):=opB0 fun _ _ _ _ _ _ _ q=>gt_int q
theorem zV6:OpR X (compareOp .GtE) (rI0 fun i j=>.bl (decide (j<=i))):=opB0 fun _ _ _ _ _ _ _ q=>ge_int q
theorem op_notN:OpR X (compareOp .IsNot) (fun x y H Q=>y = .non/\Q (.bl (!decide (x = .non))) H):=by
 intro pins s σ H x y v u Q I rx ry h
 obtain⟨rfl,q⟩:=h
 cases ry
 refine isnot_none_gen (ze6 I q ?_)
 cases x<;>first
   | (cases rx;rfl)
   | (obtain⟨t,rfl⟩:=rx;rfl)
theorem zd1 (b:Expr){op:CmpOp}(h:op≠.In:=by decide)(h2:op≠.NotIn:=by decide):behindInMarks op b=false:=by
 have e1:(op == CmpOp.In)=false:=by cases op<;>first | rfl | exact absurd rfl h
 have e2:(op == CmpOp.NotIn)=false:=by cases op<;>first | rfl | exact absurd rfl h2
 cases b<;>simp[behindInMarks,e1,e2]
theorem zu8 {op:CmpOp}{r:R2}(ho:OpR X (compareOp op) r)(ha:PE X a ta)(hb:PE X b tb)(hm:behindInMarks op b=false):PE X (.Compare a [op] [b] pos) (tOp r ta tb):=by
 intro pins s σ H Q I h
 exact wpAny_Compare1 (binT ha hb I h fun v u s2 x y H2 I2 rx ry q=>ho pins s2 σ H2 x y v u Q I2 rx ry q) hm
noncomputable def tTest (t:TE):TT:=fun σ H Q=>t σ H fun x H'=>∃k,x = .bl k/\Q k H'
theorem zc7 {op:CmpOp}{r:R2}(ho:OpR X (compareOp op) r)(ha:PE X a ta)(hb:PE X b tb)(hm:behindInMarks op b=false):PT X (.Compare a [op] [b] pos) (tTest (tOp r ta tb)):=by
 intro pins s σ H Q I h
 refine wpAny_isTrue_Compare1 (thn (ha pins s σ H _ I h) fun v s1 ⟨x,H1,I1,r1,q1⟩=>thn (hb pins s1 σ H1 _ I1 q1) fun u s2 ⟨y,H2,I2,r2,q2⟩ =>
   thn (ho pins s2 σ H2 x y v u _ I2 r1 r2 q2) fun c s3 ⟨z,H3,I3,r3,k,e,q3⟩=>?_) hm
 subst e
 cases r3
 exact wpAny_truthy_bool ⟨H3,I3,q3⟩
theorem zK9:(sizeLine:Nat)<2 ^ 63:=by rw[sizeLine_eq];decide
theorem zC0 {x:V}{us:List Value}(r:Vals [x] us):∃u,us=[u]/\RelV x u:=by
 cases r with
 | cons r1 r2=>cases r2;exact⟨_,rfl,r1⟩
theorem zY1 {x y:V}{us:List Value}(r:Vals [x,y] us):∃u w',us=[u,w']/\RelV x u/\RelV y w':=by
 cases r with
 | cons r1 r2 =>
   cases r2 with
   | cons r3 r4=>cases r4;exact⟨_,_,rfl,r1,r3⟩
theorem call_abs:zp0 X (.builtin "abs") (fun xs H Q=>∃i,xs=[.int i]/\Q (.int (if i<0 then -i else i)) H):=by
 intro pins s σ H xs us Q I r h
 obtain⟨i,rfl,q⟩:=h
 obtain⟨u,rfl,t,rfl⟩:=zC0 r
 exact call_abs_int fun u tk=>⟨.int (if i<0 then -i else i),H,I.tok _,⟨_,rfl⟩,q⟩
end
structure ObjM (h:Heap)(x dx C:Addr)(mA:Str->Option Value):Prop where
 obj:h.get? x=some (W.instObj C dx)
 ns:h.Ns1 dx mA
 ne:dx≠x
theorem zH8 {h:Heap}{dx:Addr}{mA:Str->Option Value}(n:h.Ns1 dx mA):∃od,h.get? dx=some od/\∀name,W.lookIn name od=some (mA name):=by
 obtain⟨o,es,ep,ho,hd,hk,_,hm⟩:=n
 refine⟨o,ho,fun name=>?_⟩
 have e:=hm name
 unfold nsFind findBy at e
 rw[<-Array.find?_toList] at e
 unfold W.lookIn
 rw[hd]
 dsimp only
 split
 . rename_i y q
   rw[q] at e
   exact congrArg some e
 . rename_i q
   rw[q] at e
   have a:es.toList.any (·.refKey)=false:=by
     rw[List.any_eq_false]
     intro y hy
     obtain⟨z,t,hkey⟩:=hk y (Array.mem_toList_iff.mp hy)
     simp[DictEntry.refKey,hkey]
   have a':¬ es.toList.any (·.refKey)=true:=by rw[a];exact Bool.false_ne_true
   rw[if_neg a']
   exact congrArg some e
theorem ObjM.look {h:Heap}{x dx C:Addr}{mA:Str->Option Value}(I:ObjM h x dx C mA):∃od,W.InstAt h x (W.instObj C dx) C (some od)/\∀name,W.lookIn name od=some (mA name) :=
 let⟨od,ho,hl⟩:=zH8 I.ns
 ⟨od,⟨I.obj,rfl,rfl,ho⟩,hl⟩
section
variable {prog:Program} {w:World} {A:Around} {E:Value->Shared->Prop} {s:Shared} {K:W.Frag} {x dx C f:Addr} {mA:Str->Option Value} {name:Str} {v:Value}
theorem get_map {expr:Bool}{Q:Value->Shared->Prop}(X:K.In s.heap)(I:ObjM s.heap x dx C mA)(hg:W.plainGet K C name=true)(hh:W.hasDictIn K C=true)
   (ha:W.findIn K (.ref C) name=some none) (hv:mA name=some v) (hv':W.handedIn v=true) (h:Q v { s with toks:=s.toks+1 }) :
   wpAny (model prog w) A (getAttr (.ref x) name expr) Q E s:=by
 obtain⟨od,J,hl⟩:=I.look
 exact W.get_value X J (W.plainGet_of hg).1 (W.findObj_own hh ha rfl (by rw[hl,hv])) hv' h
theorem get_meth {pl:Sem Bool}{Q:Value×List Value->Shared->Prop}(X:K.In s.heap)(I:ObjM s.heap x dx C mA)(hg:W.plainGet K C name=true)
   (hf:W.findIn K (.ref C) name=some (some (.ref f))) (ht:W.isFn K (.ref f)=true) (hv:mA name=none) (h:Q (.ref f,[.ref x]) s) :
   wpAny (model prog w) A (getMethod (.ref x) name pl) Q E s:=by
 obtain⟨od,J,hl⟩:=I.look
 exact W.method_fn X J (W.plainGet_of hg).1 (W.plainGet_of hg).2 hf (beq_iff_eq.mp ht) (by show(W.lookIn name od).map (·.isSome)=some false;rw[hl,hv];rfl) h
theorem set_map {ns:List Str}{Q:Unit->Shared->Prop}(X:K.In s.heap)(I:ObjM s.heap x dx C mA)
   (hs:W.findIn K (.ref C) "__setattr__" = some (some (.builtin "object.__setattr__"))) (hp:W.plainOver K C=true) (ht:W.takerIn K C name=some none) (hh:W.hasDictIn K C=true)
   (hw:PySem.Within mA ns) (hsz:ns.length<=sizeLine)
   (h:∀h',ObjM h' x dx C (fun y=>if y=name then some v else mA y)->Heap.SameBut dx s.heap h'->Q () { s with heap:=h',toks:=s.toks+2 }) :
   wpAny (model prog w) A (setAttr (.ref x) name v) Q E s:=by
 obtain⟨od,J,hl⟩:=I.look
 refine W.set_plain X J hs (W.osa_open (s:={ s with toks:=s.toks+1 }) (r:=none) X J hp ht fun b=>?_)
 obtain⟨cd,hc,hd'⟩:=W.any_some hh
 have hx:s.heap.get? x=some ⟨.ref C,some dx,.plain,#[]⟩:=I.obj
 refine wpAny_bind (wpAny_pure (wpAny_bind (wpAny_bind (wpAny_loadPart hx (wpAny_bind (W.Looks.here (s:={ s with toks:=s.toks+1 }) (W.looks_clsIn X hc) ?_))))))
 rw[hd']
 refine wpAny_pure (a:=some dx) (wpAny_bind (wpAny_pure (wpAny_bind ?_)))
 refine wpAny_nsSet1 (s:={ s with toks:=s.toks+1 }) I.ns fun h' hn2 hs2=>?_
 obtain⟨oD,esD,epD,hoD,hdD,hcD⟩:=hn2.count (PySem.Within.cons name v hw)
 refine wpAny_bind (wpAny_lookBehind hoD (by rw[hdD];exact pastItsLine_dict (Nat.le_trans hcD (by rw[List.length_cons];omega))) ?_)
 exact wpAny_pure (h _ ⟨(hs2.2 _ (Ne.symm I.ne)).trans I.obj,hn2,I.ne⟩ hs2)
theorem make_map {R:Result->Shared->Prop}{vs:List Value}{kw:List (Str×Value)}(X:K.In s.heap)(hm:W.makesIn K C=true)
   (hi:W.findIn K (.ref C) "__init__" = some (some (.ref f))) (hf:W.typeIn K (.ref f)=some (.type "function"))
   (h:codeAny (model prog w) (A.under (.builtin "type.__call__" ⟨.ref C::vs,kw⟩)) (.call (.ref f) ⟨.ref (s.heap.objs.size+1)::vs,kw⟩) (W.InitBack (s.heap.objs.size+1) R)
     { s with heap:=(s.heap.push W.emptyDict).push (W.instObj C s.heap.objs.size) }) :
   codeAny (model prog w) A (.call (.ref C) ⟨vs,kw⟩) R s:=by
 obtain⟨hh,g,d,t,os⟩:=s
 exact W.make_core (W.makes_of X hm) (W.looks_findIn X hi) (fun self=>W.bind_fn X self hf) (.inl rfl) h
end
noncomputable def putF (f:Str)(v:V):List (Str×V)->List (Str×V)
 | []=>[(f,v)]
 | (g,x)::r=>if g=f then(g,v)::r else(g,x)::putF f v r
theorem zb3 (f g:Str)(v:V):∀fs:List (Str×V),(putF f v fs).lookup g=if g=f then some v else fs.lookup g
 | []=>by
   show List.lookup g [(f,v)]=_
   by_cases h:g=f
   . have hb:(g == f)=true:=beq_iff_eq.mpr h
     simp only[List.lookup,hb,if_pos h]
   . have hb:(g == f)=false:=beq_eq_false_iff_ne.mpr h
     simp only[List.lookup,hb,if_neg h]
 | (k,x)::r=>by
   have ih:=zb3 f g v r
   rw[show putF f v ((k,x)::r)=(if k=f then(k,v)::r else(k,x)::putF f v r) from rfl]
   by_cases hk:k=f
   . rw[if_pos hk]
     by_cases h:g=k
     . have hb:(g == k)=true:=beq_iff_eq.mpr h
       simp only[List.lookup,hb,if_pos (h.trans hk)]
     . have hb:(g == k)=false:=beq_eq_false_iff_ne.mpr h
       simp only[List.lookup,hb,if_neg (fun e:g=f=>h (e.trans hk.symm))]
   . rw[if_neg hk]
     by_cases h:g=k
     . have hb:(g == k)=true:=beq_iff_eq.mpr h
       simp only[List.lookup,hb,if_neg (fun e:g=f=>hk (h.symm.trans e))]
     . have hb:(g == k)=false:=beq_eq_false_iff_ne.mpr h
       simp only[List.lookup,hb]
       exact ih
theorem zp6 (f:Str)(v:V):∀fs:List (Str×V),f∈(putF f v fs).map (·.1)/\∀g,g∈fs.map (·.1)->g∈(putF f v fs).map (·.1)
 | []=>⟨by simp[putF],fun g h=>by simp at h⟩
 | (k,x)::r=>by
   obtain⟨i1,i2⟩:=zp6 f v r
   rw[show putF f v ((k,x)::r)=(if k=f then(k,v)::r else(k,x)::putF f v r) from rfl]
   by_cases hk:k=f
   . rw[if_pos hk]
     subst hk
     exact⟨by simp,fun g h=>by simpa using h⟩
   . rw[if_neg hk]
     refine⟨?_,fun g h=>?_⟩
     . rw[List.map_cons]
       exact List.mem_cons_of_mem _ i1
     . rw[List.map_cons] at h ⊢
       rcases List.mem_cons.mp h with e | e
       . exact List.mem_cons.mpr (.inl e)
       . exact List.mem_cons_of_mem _ (i2 g e)
theorem zm2 (f:Str)(v:V):∀fs:List (Str×V),(putF f v fs).length<=fs.length+1
 | []=>by simp[putF]
 | (k,x)::r=>by
   have ih:=zm2 f v r
   rw[show putF f v ((k,x)::r)=(if k=f then(k,v)::r else(k,x)::putF f v r) from rfl]
   by_cases hk:k=f
   . rw[if_pos hk,List.length_cons,List.length_cons];omega
   . rw[if_neg hk,List.length_cons,List.length_cons];omega
theorem RelO.some_of {v:V}{o:Option Value}(r:RelO (some v) o):∃u,o=some u/\RelV v u:=by
 cases o with
 | none=>exact(show False from r).elim
 | some u=>exact⟨u,rfl,r⟩
theorem RelO.none_of {o:Option Value}(r:RelO none o):o=none:=by
 cases o with
 | none=>rfl
 | some u=>exact(show False from r).elim
theorem handed_of {v:V}{u:Value}(r:RelV v u):W.handedIn u=true:=by
 cases v with
 | non=>cases (show u=Value.none from r);rfl
 | bl b=>cases (show u=Value.bool b from r);rfl
 | int i=>obtain⟨t,e⟩:=(show ∃t,u=Value.int i t from r);cases e;rfl
 | str x=>obtain⟨t,e⟩:=(show ∃t,u=Value.str x t from r);cases e;rfl
 | byt b=>obtain⟨t,e⟩:=(show ∃t,u=Value.bytes b t from r);cases e;rfl
 | flt b=>obtain⟨t,e⟩:=(show ∃t,u=Value.float b t from r);cases e;rfl
 | ref a=>cases (show u=Value.ref a from r);rfl
 | ty n=>cases (show u=Value.type n from r);rfl
section
variable {P:Program} {w:World} {H H':Hp} {h h':Heap} {a C dx:Addr} {fs fs':List (Str×V)}
theorem zL0 (hok:HOk P w H h)(e:H a=some (.ins C dx fs)):∃mA,ObjM h a dx C mA/\(∀f,RelO (fs.lookup f) (mA f))/\PySem.Within mA (fs.map (·.1))/\fs.length<=1000/\H dx=some (.own a):=by
 obtain⟨d,z,ne,ob,mA,n,r,q⟩:=(show zg7 P w H h a (.ins C dx fs) from hok a _ e)
 exact⟨mA,⟨ob,n,ne⟩,r,q,z,d⟩
end
structure Cls (K:W.Frag)(C:Addr):Prop where
 pg:W.plainGet K C Str.empty=true
 hd:W.hasDictIn K C=true
 po:W.plainOver K C=true
 sa:W.findIn K (.ref C) "__setattr__" = some (some (.builtin "object.__setattr__"))
theorem Cls.get {K:W.Frag}{C:Addr}(c:Cls K C)(f:Str):W.plainGet K C f=true:=c.pg
noncomputable def zc1 (K:W.Frag)(C:Addr)(f:Str):Prop:=W.findIn K (.ref C) f=some none
theorem zc1.taker {K:W.Frag}{C:Addr}{f:Str}(n:zc1 K C f):W.takerIn K C f=some none:=by
 unfold W.takerIn
 rw[show W.findIn K (.ref C) f=some none from n]
 rfl
structure Meth (K:W.Frag)(C:Addr)(m:Str)(f:Addr):Prop where
 at_:W.findIn K (.ref C) m=some (some (.ref f))
 fn:W.isFn K (.ref f)=true
 kp:W.keepIn K (.ref f)=true
section
variable {X:Cx} {pins:List (Addr×Obj)} {σ:St} {H:Hp} {s:Shared} {a C dx:Addr} {fs:List (Str×V)} {f:Str} {v:V} {A:Around} {E:Value->Shared->Prop}
theorem getattr_ok {b:Bool}{Q:Value->Shared->Prop}(I:Inv X pins σ H s)(e:H a=some (.ins C dx fs))(c:Cls X.K C)(n:zc1 X.K C f)(l:fs.lookup f=some v)
   (h:∀u s',Inv X pins σ H s'->RelV v u->Q u s'):wpAny (model X.prog X.w) A (getAttr (.ref a) f b) Q E s:=by
 obtain⟨mA,O,r,_,_,_⟩:=zL0 I.hok e
 obtain⟨u,hu,ru⟩:=RelO.some_of (v:=v) (o:=mA f) (by rw[<-l];exact r f)
 exact get_map I.kIn O (c.get f) c.hd n hu (handed_of ru) (h u _ (I.tok _) ru)
theorem zw8 {m:Str}{g:Addr}{pl:Sem Bool}{Q:Value×List Value->Shared->Prop}(I:Inv X pins σ H s)(e:H a=some (.ins C dx fs))(c:Cls X.K C)(k:Meth X.K C m g)(l:fs.lookup m=none)
   (h:Q (.ref g,[.ref a]) s):wpAny (model X.prog X.w) A (getMethod (.ref a) m pl) Q E s:=by
 obtain⟨mA,O,r,_,_,_⟩:=zL0 I.hok e
 have hn:mA m=none:=RelO.none_of (by rw[<-l];exact r m)
 exact get_meth I.kIn O (c.get m) k.at_ k.fn hn h
theorem setattr_ok {y:V}{u:Value}{Q:Unit->Shared->Prop}(I:Inv X pins σ H s)(e:H a=some (.ins C dx fs))(c:Cls X.K C)(n:zc1 X.K C f)(hl:fs.length<1000)(ry:RelV y u)
   (h:∀s',Inv X pins σ (upd H a (.ins C dx (putF f y fs))) s'->Q () s'):wpAny (model X.prog X.w) A (setAttr (.ref a) f u) Q E s:=by
 obtain⟨mA,O,r,wi,_,ho⟩:=zL0 I.hok e
 have hz:(fs.map (·.1)).length<=sizeLine:=by rw[List.length_map,sizeLine_eq];omega
 refine set_map I.kIn O c.sa c.po n.taker c.hd wi hz fun h' O' sb=>h _ ?_
 have hd:∃o,h'.get? dx=some o:=let⟨o,_,_,e',_⟩:=O'.ns;⟨o,e'⟩
 refine I.write (x:=a) (e:=dx) (by rw[e];exact True.intro) (.inr ho) (fun b q hb z=>(sb.2 b hb).trans z) hd ?_
 refine⟨by rw[za7 O.ne];exact ho,?_,O.ne,O'.obj,_,O'.ns,fun g=>?_,fun g hg=>?_⟩
 . have:=zm2 f y fs;omega
 . show RelO ((putF f y fs).lookup g) (if g=f then some u else mA g)
   rw[zb3]
   by_cases q:g=f
   . rw[if_pos q,if_pos q];exact ry
   . rw[if_neg q,if_neg q];exact r g
 . by_cases q:g=f
   . rw[q];exact(zp6 f y fs).1
   . refine(zp6 f y fs).2 g (wi g fun z=>hg ?_)
     show(if g=f then some u else mA g)=none
     rw[if_neg q];exact z
theorem Inv.made (I:Inv X pins σ H s):Inv X pins σ (upd (upd H s.heap.objs.size (.own (s.heap.objs.size+1))) (s.heap.objs.size+1) (.ins C s.heap.objs.size []))
   { s with heap:=(s.heap.push W.emptyDict).push (W.instObj C s.heap.objs.size) }:=by
 have e1:(s.heap.push W.emptyDict).get? s.heap.objs.size=some W.emptyDict:=Heap.get?_push_size s.heap rfl
 have e2:((s.heap.push W.emptyDict).push (W.instObj C s.heap.objs.size)).get? (s.heap.objs.size+1)=some (W.instObj C s.heap.objs.size):=by
   have:=Heap.get?_push_size (s.heap.push W.emptyDict) (o:=W.instObj C s.heap.objs.size) rfl
   rwa [Heap.size_push] at this
 have e3:(s.heap.push W.emptyDict).Ns s.heap.objs.size (fun _=>none):=⟨W.emptyDict,#[],_,e1,rfl,(fun e he=>absurd he (by simp)),fun _=>rfl⟩
 have I1:=I.laid (a:=s.heap.objs.size) (o:=.own (s.heap.objs.size+1)) (h':=s.heap.push W.emptyDict) (t':=s.toks) (fun b u q=>Heap.get?_push_of_some _ q) (Nat.le_refl _) ⟨_,e1⟩
 refine I1.laid (a:=s.heap.objs.size+1) (o:=.ins C s.heap.objs.size []) (t':=s.toks) (fun b u q=>Heap.get?_push_of_some _ q) (Nat.le_of_eq (Heap.size_push _ _)) ?_
 have ne:s.heap.objs.size≠s.heap.objs.size+1:=Nat.ne_of_lt (Nat.lt_succ_self _)
 refine⟨by rw[za7 ne,za5],Nat.zero_le _,ne,e2,fun _=>none,(Heap.Ns1.of_empty e3).at fun o q=>Heap.get?_push_of_some _ q,fun _=>True.intro,fun y hy=>absurd rfl hy⟩
theorem attr_of {prog:Program}{w:World}{env:Env}{e:Expr}{f:Str}{pos:Pos}{s:Shared}{Q:Value->Shared->Prop}(hb:attributeBase e f env (eval e env)=eval e env)
   (h:wpAny (model prog w) A (eval e env) (fun o s₁=>wpAny (model prog w) A (getAttr o f true) Q E s₁) E s):wpAny (model prog w) A (eval (.Attribute e f pos) env) Q E s :=
 Attribute_any_ h (by rw[arm_eval_Attribute,hb])
end
inductive zV7 (K:W.Frag)(f:Str)(x:V)(H1:Hp)(Q:VK):Prop
 | mk (a C dx fs v:_)(h0:x = .ref a)(h1:H1 a=some (.ins C dx fs))(h2:Cls K C)(h3:zc1 K C f)(h4:fs.lookup f=some v)(h5:Q v H1):zV7 K f x H1 Q
noncomputable def tFld (K:W.Frag)(ta:TE)(f:Str):TE:=fun σ H Q=>ta σ H fun x H1=>zV7 K f x H1 Q
inductive zV8 (K:W.Frag)(f:Str)(y:V)(D:Ends)(σ:St)(x:V)(H2:Hp):Prop
 | mk (a C dx fs:_)(h0:x = .ref a)(h1:H2 a=some (.ins C dx fs))(h2:Cls K C)(h3:zc1 K C f)(h4:fs.length<1000)(h5:D.nx σ (upd H2 a (.ins C dx (putF f y fs)))):zV8 K f y D σ x H2
noncomputable def sFld (K:W.Frag)(ta tv:TE)(f:Str):TS:=fun D σ H=>tv σ H fun y H1=>ta σ H1 fun x H2=>zV8 K f y D σ x H2
section
variable {X:Cx} {o e value:Expr} {f:Str} {pos pos' tpos:Pos} {ta tv:TE}
theorem zg9 (he:PE X e ta)(hb:attributeBase e f X.env (eval e X.env)=eval e X.env):PE X (.Attribute e f pos) (tFld X.K ta f):=by
 intro pins s σ H Q I h
 refine attr_of hb (thn (he pins s σ H _ I h) fun u s1 ⟨x,H1,I1,rx,a,C,dx,fs,v,ex,ea,c,n,l,q⟩=>?_)
 subst ex
 obtain rfl:u=Value.ref a:=rx
 exact getattr_ok I1 ea c n l fun u' s2 I2 ru=>⟨v,H1,I2,ru,q⟩
theorem zk3 (ha:PE X o ta)(hv:PE X value tv)(hs:swapsWith value (some (.Attribute o f pos')) pos.line X.env=pure false):PS X (.Assign [.Attribute o f pos'] value pos) (sFld X.K ta tv f):=by
 intro pins s σ H D I h
 refine plainObj_wpAny_Assign_Attribute (thn (hv pins s σ H _ I h) fun u s1 ⟨y,H1,I1,ry,q⟩=>thn (ha pins s1 σ H1 _ I1 q) fun ov s2 ⟨x,H2,I2,rx,a,C,dx,fs,ex,ea,c,n,l,q2⟩=>?_) hs
 subst ex
 obtain rfl:ov=Value.ref a:=rx
 exact setattr_ok I2 ea c n l ry fun s3 I3=>⟨σ,_,I3,q2⟩
end
section
variable {X:Cx} {pins:List (Addr×Obj)} {σ:St} {H:Hp} {s:Shared} {A:Around} {E:Value->Shared->Prop} {Q:Value->Shared->Prop} {c:Value} {b:Bool}
end
structure Room (k:Nat)(A:Around):Prop where
 hd:A.handled=none
 dp:A.depth+3*k+5<recursionLimit
 un:A.units+16*k+200<cLine
theorem Room.mono {j k:Nat}{A:Around}(r:Room k A)(h:j<=k):Room j A:=⟨r.hd,by have:=r.dp;omega,by have:=r.un;omega⟩
theorem Room.deeper {k:Nat}{A:Around}(r:Room (k+1) A)(env:Env):Room k (A.deeper env) :=
 ⟨r.hd,by have:=r.dp;show A.depth+1+3*k+5<_;omega,by have:=r.un;show A.units+3+16*k+200<_;omega⟩
theorem make_depth {A:Around} {C:Addr} {us:List Value} {kw:List (Str×Value)}:(A.under (.builtin "type.__call__" ⟨.ref C::us,kw⟩)).depth=A.depth+1:=by
 first | rfl | simp[Around.under,Code.weight,Code.isCreation,Code.isGuard,Code.isCaller,Code.frames,Code.isFrame,guardIds]
theorem make_units {A:Around} {C:Addr} {us:List Value} {kw:List (Str×Value)}:(A.under (.builtin "type.__call__" ⟨.ref C::us,kw⟩)).units=A.units+1:=by
 first | rfl | simp[Around.under,Code.cUnits,Code.frames,Code.isFrame]
theorem Room.make {k:Nat} {A:Around} (r:Room (k+1) A) (C:Addr) (us:List Value) (kw:List (Str×Value)):Room k (A.under (.builtin "type.__call__" ⟨.ref C::us,kw⟩)) :=
 ⟨r.hd,by have:=r.dp;rw[make_depth];omega,by have:=r.un;rw[make_units];omega⟩
theorem Room.depth {k:Nat}{A:Around}(r:Room k A):A.depth<recursionLimit:=by have:=r.dp;omega
theorem Room.units {k:Nat}{A:Around}(r:Room k A):A.units+64<cLine:=by have:=r.un;omega
noncomputable def tNil:TA:=fun _ H Q=>Q [] H
noncomputable def tCons (ta:TE)(tr:TA):TA:=fun σ H Q=>ta σ H fun x H1=>tr σ H1 fun xs H2=>Q (x::xs) H2
section
variable {X:Cx} {e:Expr} {es:List Expr} {te:TE} {t:TA} {pos:Pos}
theorem za1:PA X [] tNil:=fun _ _ _ _ H Q I h=>Calls.spliced_nil ⟨[],H,I,.nil,h⟩
theorem za0 (ha:PE X e te)(hr:PA X es t)(hs:starEach (e::es) X.env=(false,eval e X.env)::starEach es X.env:=by rfl):PA X (e::es) (tCons te t):=by
 intro pos pins s σ H Q I h
 rw[hs]
 show wpAny _ _ (spliced ((false,eval e X.env)::backTo pos (starEach es X.env))) _ _ s
 refine Calls.spliced_cons (thn (ha pins s σ H _ I h) fun u s1 ⟨x,H1,I1,r1,q1⟩=>?_)
 exact thn (hr pos pins s1 σ H1 _ I1 q1) fun us s2 ⟨xs,H2,I2,r2,q2⟩=>⟨x::xs,H2,I2,.cons r1 r2,q2⟩
noncomputable def tTup (t:TA):TE:=fun σ H Q=>t σ H fun xs H1=>xs.length<=sizeLine/\∀p,H1 p=none->Q (.ref p) (upd H1 p (.tup xs))
noncomputable def tLst (t:TA):TE:=fun σ H Q=>t σ H fun xs H1=>xs.length<=sizeLine/\∀p,H1 p=none->Q (.ref p) (upd H1 p (.lst xs))
theorem zQ1 {x1}(h:PA X es t):PE X (.Tuple es x1 pos) (tTup t):=by
 intro pins s σ H Q I hq
 refine wpAny_Tuple_spliced (thn (h pos pins s σ H _ I hq) fun us s1 ⟨xs,H1,I1,r,z,q⟩=>⟨by rw[<-r.length];exact z,?_⟩)
 have hf:H1 s1.heap.objs.size=none:=I1.hok.fresh (Nat.le_refl _)
 refine⟨.ref s1.heap.objs.size,upd H1 s1.heap.objs.size (.tup xs),I1.laid (t':=s1.toks) (fun b u e=>Heap.get?_push_of_some _ e) (Nat.le_refl _) ?_,rfl,q _ hf⟩
 exact⟨z,us,r,⟨_,Heap.get?_push_size _ rfl,rfl,rfl,_,rfl⟩⟩
theorem zo6 (h:PA X es t):PE X (.List es pos) (tLst t):=by
 intro pins s σ H Q I hq
 refine wpAny_List_spliced (thn (h pos pins s σ H _ I hq) fun us s1 ⟨xs,H1,I1,r,z,q⟩=>⟨by rw[<-r.length];exact z,?_⟩)
 have hf:H1 s1.heap.objs.size=none:=I1.hok.fresh (Nat.le_refl _)
 refine⟨.ref s1.heap.objs.size,upd H1 s1.heap.objs.size (.lst xs),I1.laid (t':=s1.toks) (fun b u e=>Heap.get?_push_of_some _ e) (Nat.le_refl _) ?_,rfl,q _ hf⟩
 exact⟨z,us,0,r,Heap.get?_push_size _ rfl⟩
end
noncomputable abbrev Sp:=List V->Hp->VK->XK->Prop
noncomputable abbrev CXT:=List Env->Hp->Shared->XK->Value->Shared->Prop
structure Env0 (P:Program)(w:World)(K:W.Frag)(mg:Str->Option Value)(base:Heap)(A:Around)(outer:List Env)(s:Shared)(H:Hp):Prop where
 frames:A.frames=some outer
 mod:Mod K mg base
 bs:∀b o,base.get? b=some o->s.heap.get? b=some o/\H b=none
 bsz:base.objs.size<=s.heap.objs.size
 funs:s.heap.FunFrames base outer
 frf:∀b∈frs outer,H b=none
 hok:HOk P w H s.heap
 bare:AllBare s.gens
noncomputable def CE (outer:List Env)(P:Program)(w:World)(H:Hp)(s:Shared)(Q:VK)(u:Value)(s':Shared):Prop :=
 ∃v H',s'.os=s.os/\AllBare s'.gens/\Un (frs outer) [] H H' s.heap s'.heap/\HOk P w H' s'.heap/\RelV v u/\Q v H'
noncomputable def CR (CX:CXT)(outer:List Env)(P:Program)(w:World)(H:Hp)(s:Shared)(Q:VK)(E:XK)(r:Result)(s':Shared):Prop :=
 match r with
 | .ok (.ret u)=>CE outer P w H s Q u s'
 | .ok _=>False
 | .error e=>CX outer H s E e s'
structure FnOk (P:Program)(w:World)(K:W.Frag)(mg:Str->Option Value)(base:Heap)(CX:CXT)(k:Nat)(f:Addr)(fd:FuncData)(ps:List Str)(sp:Sp):Prop where
 len:∀vs H Q E,sp vs H Q E->vs.length=ps.length
 run:∀(A:Around) (outer:List Env) (s:Shared) (H:Hp) (args:Args) (us:List Value) (vs:List V) (Q:VK) (E:XK),Room k A->Env0 P w K mg base A outer s H->BindsTo s fd args (ps.zip us)->Vals vs us->sp vs H Q E →
   codeAny (model P w) A (.call (.ref f) args) (CR CX outer P w H s Q E) s
theorem Env0.make {P:Program}{w:World}{K:W.Frag}{mg:Str->Option Value}{base:Heap}{A:Around}{outer:List Env}{s:Shared}{H:Hp}(e:Env0 P w K mg base A outer s H)(C:Addr)(us:List Value)(kw:List (Str×Value)) :
 Env0 P w K mg base (A.under (.builtin "type.__call__" ⟨.ref C::us,kw⟩)) outer s H:=⟨by first | exact e.frames | (simpa [Around.under,Code.envs,Code.isFrame,pushEnvs] using e.frames),e.mod,e.bs,e.bsz,e.funs,e.frf,e.hok,e.bare⟩
section
variable {X:Cx} {pins:List (Addr×Obj)} {σ:St} {H:Hp} {s s':Shared}
theorem Inv.env0 (I:Inv X pins σ H s):Env0 X.prog X.w X.K X.mg X.base X.A X.stack s H :=
 ⟨I.ok.frames,I.ok.mod,I.bs,Nat.le_trans I.ok.bsz I.sz,I.stack,I.stkFree,I.hok,I.bare⟩
theorem Inv.after {Q:VK}{u:Value}(I:Inv X pins σ H s)(h:CE X.stack X.prog X.w H s Q u s'):EP X pins σ Q u s':=by
 obtain⟨v,H',os,bare,un,hok,r,q⟩:=h
 obtain⟨hh,g,d,t,os'⟩:=s'
 obtain rfl:os'=s.os:=os
 exact⟨v,H',I.call (h':=hh) (g':=g) (d':=d) (t':=t) (ch:=[]) un hok bare (fun b z=>absurd z (by simp)),r,q⟩
end
noncomputable def zY2 (sp:Sp)(dvs:List V)(E:XK)(t:TA):TE:=fun σ H Q=>t σ H fun vs H1=>sp (vs++dvs) H1 Q E
inductive zQ9 (C:Addr)(m:Str)(sp:Sp)(dvs:List V)(E:XK)(t:TA)(x:V)(σ:St)(H1:Hp)(Q:VK):Prop
 | mk (a dx fs:_)(h0:x = .ref a)(h1:H1 a=some (.ins C dx fs))(h2:fs.lookup m=none)(h3:t σ H1 fun vs H2=>sp (x::(vs++dvs)) H2 Q E):zQ9 C m sp dvs E t x σ H1 Q
noncomputable def zY3 (C:Addr)(m:Str)(sp:Sp)(dvs:List V)(E:XK)(ta:TE)(t:TA):TE:=fun σ H Q=>ta σ H fun x H1=>zQ9 C m sp dvs E t x σ H1 Q
noncomputable def tMake (C:Addr)(sp:Sp)(dvs:List V)(E:XK)(t:TA):TE:=fun σ H Q=>t σ H fun vs H1=>∀x dx,H1 x=none->H1 dx=none->dx≠x →
 sp (.ref x::(vs++dvs)) (upd (upd H1 dx (.own x)) x (.ins C dx [])) (fun v H2=>v = .non/\Q (.ref x) H2) E
noncomputable def zb6 (K:W.Frag)(fd:FuncData)(ps:List Str)(ds:List Value):Prop :=
 ∀(s:Shared) (us:List Value),K.In s.heap->(us++ds).length=ps.length->BindsTo s fd ⟨us,[]⟩ (ps.zip (us++ds))
theorem zb6.all {K:W.Frag}{fd:FuncData}{ps:List Str}(h:∀us:List Value,us.length=ps.length->bindArgs fd ⟨us,[]⟩=pure (ps.zip us)):zb6 K fd ps []:=fun s us _ hl=>by
 rw[List.append_nil] at hl ⊢
 exact .of_eq (h us hl)
noncomputable def zm5 (CX:CXT)(X:Cx)(E:XK):Prop:=∀(pins:List (Addr×Obj)) (σ:St) (H:Hp) (s:Shared) (e:Value) (s':Shared),Inv X pins σ H s->CX X.stack H s E e s'->X.xe e s'
section
variable {X:Cx} {CX:CXT} {k:Nat} {f C:Addr} {fd:FuncData} {ps:List Str} {sp:Sp} {dvs:List V} {ds:List Value} {E:XK} {x m:Str} {p pos apos:Pos} {e o:Expr} {es:List Expr} {ta:TE} {t:TA}
theorem zL1 {pins:List (Addr×Obj)}{σ:St}{H:Hp}{s:Shared}{Q:VK}{us:List Value}{vs:List V}(F:FnOk X.prog X.w X.K X.mg X.base CX k f fd ps sp)(hr:Room k X.A)(hb:zb6 X.K fd ps ds)(hd:Vals dvs ds)(hx:zm5 CX X E)
   (I:Inv X pins σ H s) (r:Vals vs us) (h:sp (vs++dvs) H Q E):wpAny (model X.prog X.w) X.A (call (.ref f) us) (EP X pins σ Q) X.xe s:=by
 have r2:Vals (vs++dvs) (us++ds):=r.append hd
 have hl:(us++ds).length=ps.length:=by rw[<-r2.length];exact F.len _ _ _ _ h
 refine wpAny_call (codeAny_mono (F.run X.A X.stack s H ⟨us,[]⟩ (us++ds) (vs++dvs) Q E hr I.env0 (hb s us I.kIn hl) r2 h) fun r s' hq=>?_)
 cases r with
 | error e=>exact hx pins σ H s e s' I hq
 | ok fl =>
   cases fl with
   | ret u=>exact I.after hq
   | next=>exact False.elim hq
   | brk=>exact False.elim hq
   | cont=>exact False.elim hq
theorem zb0 (F:FnOk X.prog X.w X.K X.mg X.base CX k f fd ps sp)(hr:Room k X.A)(hg:Gl X x)(hm:X.mg x=some (.ref f))(hk:W.keepIn X.K (.ref f)=true)(hb:zb6 X.K fd ps ds)(hd:Vals dvs ds)(hx:zm5 CX X E)
   (ha:PA X (e::es) t) (hdb:(x == ("__debug__" : Str))=false:=by decide) (he:starEach (e::es) X.env=(false,eval e X.env)::starEach es X.env:=by rfl) (hpl:(backTo pos (starEach es X.env)).any (·.1)=false:=by rfl) :
   PE X (.Call (.Name x p) (e::es) [] pos) (zY2 sp dvs E t):=by
 intro pins s σ H Q I h
 refine wpAny_Call_Name_kw (zr1 I hg hm ?_ hdb)
 refine W.callWith_K (h₀:=X.base) I.ok.mod.kin hk (thn (ha pos pins s σ H _ I h) fun us s1 ⟨vs,H1,I1,r,q⟩=>⟨I1.kIn,?_⟩) he hpl
 exact zL1 F hr hb hd hx I1 r q
theorem zR0 {pl:Sem Bool}(he:PE X o ta)(c:Cls X.K C)(hm:Meth X.K C m f)(F:FnOk X.prog X.w X.K X.mg X.base CX k f fd ps sp)(hr:Room k X.A)(hb:zb6 X.K fd ps ds)(hd:Vals dvs ds)(hx:zm5 CX X E)(ha:PA X (e::es) t)
   (hst:starEach (e::es) X.env=(false,eval e X.env)::starEach es X.env:=by rfl) (hpl:(backTo pos (starEach es X.env)).any (·.1)=false:=by rfl)
   (ht:eval (.Call (.Attribute o m apos) (e::es) [] pos) X.env=(do
     let ov <-eval o X.env
     standAt apos.atName
     let(f,first) <-holding [ov] (getMethod ov m pl)
     callWith pos f first (backTo pos (starEach (e::es) X.env)) (backToKw pos (keywordEach [] X.env))):=by rfl) :
   PE X (.Call (.Attribute o m apos) (e::es) [] pos) (zY3 C m sp dvs E ta t):=by
 intro pins s σ H Q I h
 refine W.methodCall_KW (pl:=pl) (thn (he pins s σ H _ I h) fun u s1 ⟨x,H1,I1,rx,a,dx,fs,ex,ea,l,q⟩=>?_) ht
 subst ex
 obtain rfl:u=Value.ref a:=rx
 refine zw8 I1 ea c hm l ?_
 refine W.callWith_K (first:=[.ref a]) (h₀:=X.base) I.ok.mod.kin hm.kp (thn (ha pos pins s1 σ H1 _ I1 q) fun us s2 ⟨vs,H2,I2,r,q2⟩=>⟨I2.kIn,?_⟩) hst hpl
 exact zL1 (us:=.ref a::us) (vs:=.ref a::vs) F hr hb hd hx I2 (.cons rfl r) q2
theorem pe_meth0 {pl:Sem Bool}(he:PE X o ta)(c:Cls X.K C)(hm:Meth X.K C m f)(F:FnOk X.prog X.w X.K X.mg X.base CX k f fd ps sp)(hr:Room k X.A)(hb:zb6 X.K fd ps ds)(hd:Vals dvs ds)(hx:zm5 CX X E)
   (ht:eval (.Call (.Attribute o m apos) [] [] pos) X.env=(do
     let ov <-eval o X.env
     standAt apos.atName
     let(f,first) <-holding [ov] (getMethod ov m pl)
     callWith pos f first (backTo pos (starEach [] X.env)) (backToKw pos (keywordEach [] X.env))):=by rfl) :
   PE X (.Call (.Attribute o m apos) [] [] pos) (zY3 C m sp dvs E ta tNil):=by
 intro pins s σ H Q I h
 refine W.methodCall_KW (pl:=pl) (thn (he pins s σ H _ I h) fun u s1 ⟨x,H1,I1,rx,a,dx,fs,ex,ea,l,q⟩=>?_) ht
 subst ex
 obtain rfl:u=Value.ref a:=rx
 refine zw8 I1 ea c hm l ?_
 exact W.callWith_K0 (first:=[.ref a]) I1.kIn hm.kp (zL1 (us:=[.ref a]) (vs:=[.ref a]) F hr hb hd hx I1 (.cons rfl .nil) q)
structure Mk (K:W.Frag)(C f:Addr):Prop where
 makes:W.makesIn K C=true
 init:W.findIn K (.ref C) "__init__" = some (some (.ref f))
 fn:W.isFn K (.ref f)=true
 kp:W.keepIn K (.ref C)=true
theorem run_make {pins:List (Addr×Obj)}{σ:St}{H:Hp}{s:Shared}{Q:VK}{us:List Value}{vs:List V}(M:Mk X.K C f)(F:FnOk X.prog X.w X.K X.mg X.base CX k f fd ps sp)(hr:Room (k+1) X.A)(hb:zb6 X.K fd ps ds)(hd:Vals dvs ds)
   (hx:zm5 CX X E) (I:Inv X pins σ H s) (r:Vals vs us)
   (h:∀x dx,H x=none->H dx=none->dx≠x->sp (.ref x::(vs++dvs)) (upd (upd H dx (.own x)) x (.ins C dx [])) (fun v H2=>v = .non/\Q (.ref x) H2) E) :
   wpAny (model X.prog X.w) X.A (call (.ref C) us) (EP X pins σ Q) X.xe s:=by
 have hq:=h (s.heap.objs.size+1) s.heap.objs.size (I.hok.fresh (Nat.le_succ _)) (I.hok.fresh (Nat.le_refl _)) (Nat.ne_of_lt (Nat.lt_succ_self _))
 have I2:=Inv.made (C:=C) I
 have r2:Vals (V.ref (s.heap.objs.size+1)::(vs++dvs)) (Value.ref (s.heap.objs.size+1)::(us++ds)):=.cons rfl (r.append hd)
 have hl:(Value.ref (s.heap.objs.size+1)::us++ds).length=ps.length:=by
   have e:=r2.length
   rw[F.len _ _ _ _ hq] at e
   exact e.symm
 refine wpAny_call (make_map (f:=f) I.kIn M.makes M.init (beq_iff_eq.mp M.fn) (codeAny_mono (F.run _ X.stack _ _ ⟨Value.ref (s.heap.objs.size+1)::us,[]⟩ (Value.ref (s.heap.objs.size+1)::(us++ds)) _ _ E (hr.make C us [])
   (I2.env0.make C us []) (hb _ (Value.ref (s.heap.objs.size+1)::us) I2.kIn hl) r2 hq) fun r s' hq'=>?_))
 cases r with
 | error e=>exact hx pins σ _ _ e s' I2 hq'
 | ok fl =>
   cases fl with
   | ret u =>
     obtain⟨v,H',I3,rv,ev,q3⟩:=I2.after hq'
     subst ev
     exact⟨rv,⟨V.ref (s.heap.objs.size+1),H',I3,rfl,q3⟩⟩
   | next=>exact False.elim hq'
   | brk=>exact False.elim hq'
   | cont=>exact False.elim hq'
theorem zr5 (M:Mk X.K C f)(F:FnOk X.prog X.w X.K X.mg X.base CX k f fd ps sp)(hr:Room (k+1) X.A)(hg:Gl X x)(hm:X.mg x=some (.ref C))(hb:zb6 X.K fd ps ds)(hd:Vals dvs ds)(hx:zm5 CX X E)
   (ha:PA X (e::es) t) (hdb:(x == ("__debug__" : Str))=false:=by decide) (he:starEach (e::es) X.env=(false,eval e X.env)::starEach es X.env:=by rfl) (hpl:(backTo pos (starEach es X.env)).any (·.1)=false:=by rfl) :
   PE X (.Call (.Name x p) (e::es) [] pos) (tMake C sp dvs E t):=by
 intro pins s σ H Q I h
 refine wpAny_Call_Name_kw (zr1 I hg hm ?_ hdb)
 refine W.callWith_K (h₀:=X.base) I.ok.mod.kin M.kp (thn (ha pos pins s σ H _ I h) fun us s1 ⟨vs,H1,I1,r,q⟩=>⟨I1.kIn,?_⟩) he hpl
 exact run_make M F hr hb hd hx I1 r q
end
section
variable {X:Cx} {CX:CXT} {k:Nat} {f C:Addr} {fd:FuncData} {ps ks:List Str} {sp:Sp} {E:XK} {x m:Str} {p pos apos kpos:Pos} {e o:Expr} {es:List Expr} {kws:List Keyword} {te ta:TE} {t tk:TA} {nm:Option Str}
variable {g:List Value->List Value->List Value} {gV:List V->List V->List V}
end
structure zb5 (N P:List Str)(sc:Scope):Prop where
 kind:sc.kind = .function:=by rfl
 co:sc.isCoroutine=false:=by rfl
 gen:sc.isGenerator=false:=by rfl
 nd:N.Nodup:=by decide +kernel
 pre:N.take P.length=P:=by rfl
 par:∀x∈P,sc.names.lookup x=some .local\/sc.names.lookup x=some .cell:=by decide +kernel
 nofree:∀y∈sc.names,y.2≠.free:=by decide +kernel
theorem zH9 {kindOf:Str->Option NameKind}{x:Str}:∀ {binds:List (Str×Value)} {m:Str->Option Value},(∀v,(x,v)∉binds)->bindL kindOf binds m x=m x
 | [],_,_=>rfl
 | (n,v)::r,m,h=>by
   unfold bindL
   rw[zH9 fun w hw=>h w (List.mem_cons_of_mem _ hw)]
   split
   . have:x≠n:=by rintro rfl;exact h v List.mem_cons_self
     simp[this]
   . rfl
theorem zI0 {kindOf:Str->Option NameKind}{x:Str}:∀ {binds:List (Str×Value)} {m:Str->Option Value},(∀v,(x,v)∉binds)->bindC kindOf binds m x=m x
 | [],_,_=>rfl
 | (n,v)::r,m,h=>by
   unfold bindC
   rw[zI0 fun w hw=>h w (List.mem_cons_of_mem _ hw)]
   split
   . rfl
   . have:x≠n:=by rintro rfl;exact h v List.mem_cons_self
     simp[this]
theorem zI1 {kindOf:Str->Option NameKind}{x:Str}{v:Value}:∀ {P:List Str} {vs:List Value} {i:Nat} {m:Str->Option Value},P.Nodup->P[i]?=some x->vs[i]?=some v->kindOf x=some .local →
   bindL kindOf (P.zip vs) m x=some v
 | [],_,_,_,_,h,_,_=>by simp at h
 | _::_,[],_,_,_,_,h,_=>by simp at h
 | p::P,w::vs,0,m,nd,h1,h2,hk=>by
   simp at h1 h2;subst h1;subst h2
   show bindL kindOf ((p,w)::P.zip vs) m p=_
   unfold bindL
   rw[zH9 fun v hv=>(List.nodup_cons.mp nd).1 (List.of_mem_zip hv).1,if_pos hk]
   simp
 | p::P,w::vs,i+1,m,nd,h1,h2,hk=>by
   show bindL kindOf ((p,w)::P.zip vs) m x=_
   unfold bindL
   exact zI1 (i:=i) (List.nodup_cons.mp nd).2 (by simpa using h1) (by simpa using h2) hk
theorem zI2 {kindOf:Str->Option NameKind}{x:Str}{v:Value}:∀ {P:List Str} {vs:List Value} {i:Nat} {m:Str->Option Value},P.Nodup->P[i]?=some x->vs[i]?=some v->kindOf x≠some .local →
   bindC kindOf (P.zip vs) m x=some v
 | [],_,_,_,_,h,_,_=>by simp at h
 | _::_,[],_,_,_,_,h,_=>by simp at h
 | p::P,w::vs,0,m,nd,h1,h2,hk=>by
   simp at h1 h2;subst h1;subst h2
   show bindC kindOf ((p,w)::P.zip vs) m p=_
   unfold bindC
   rw[zI0 fun v hv=>(List.nodup_cons.mp nd).1 (List.of_mem_zip hv).1,if_neg hk]
   simp
 | p::P,w::vs,i+1,m,nd,h1,h2,hk=>by
   show bindC kindOf ((p,w)::P.zip vs) m x=_
   unfold bindC
   exact zI2 (i:=i) (List.nodup_cons.mp nd).2 (by simpa using h1) (by simpa using h2) hk
noncomputable def zv7 (N:List Str)(vs:List V):St:=vs.map some++List.replicate (N.length-vs.length) none
noncomputable def cxOf (CX:CXT)(P:Program)(w:World)(K:W.Frag)(mg:Str->Option Value)(base:Heap)(N:List Str)(qual:Str)(scope:Scope)(f:Addr)(cd:Value)(A:Around)(outer:List Env)(s:Shared)(H:Hp)(E:XK):Cx where
 prog:=P
 w:=w
 K:=K
 mg:=mg
 base:=base
 A:=A.deeper (envOfC qual scope s.heap.objs.size f cd)
 N:=N
 s₀:=s
 H₀:=H
 env:=envOfC qual scope s.heap.objs.size f cd
 outer:=outer
 stack:=envOfC qual scope s.heap.objs.size f cd::outer
 ex:=[]
 calm:=true
 fn:=fun _=>true
 pn:=[]
 xe:=fun e s'=>wpAny (model P w) (A.deeper (envOfC qual scope s.heap.objs.size f cd)) («leaving» (envOfC qual scope s.heap.objs.size f cd) e) (fun _ s''=>CX outer H s E e s'') (fun e' s''=>CX outer H s E e' s'') s'
theorem zM9 {sc:Scope}{n:Nat}{x:Str}(h:sc.names.lookup x=some .cell):∃c,(cellsFrom n sc.names []).lookup x=some c:=by
 have q:=W.cellsFrom_some sc.names n [] (.inl h)
 exact Option.isSome_iff_exists.mp q
theorem inv_start {CX:CXT}{P:Program}{w:World}{K:W.Frag}{mg:Str->Option Value}{base:Heap}{N ps:List Str}{qual:Str}{scope:Scope}{f:Addr}{cd:Value}{A:Around}{outer:List Env}{s s1:Shared}{H:Hp}{E:XK}{us:List Value}{vs:List V}
   (S:zb5 N ps scope) (hd:A.handled=none) (e0:Env0 P w K mg base A outer s H) (hl:vs.length=ps.length) (r:Vals vs us)
   (x:InCallC s s.heap.objs.size (bindL (envOfC qual scope s.heap.objs.size f cd).kindOf (ps.zip us) fun _=>none) (cellsFrom (s.heap.objs.size+1) scope.names []) (bindC (envOfC qual scope s.heap.objs.size f cd).kindOf (ps.zip us) fun _=>none) s1) :
   Inv (cxOf CX P w K mg base N qual scope f cd A outer s H E) [] (zv7 N vs) H s1:=by
 have hpl:ps.length<=N.length:=by have:=congrArg List.length S.pre;rw[List.length_take] at this;omega
 obtain⟨h1,tk,rfl,hk⟩:=x.done
 have noA:∀b:Addr,b∉(cxOf CX P w K mg base N qual scope f cd A outer s H E).ex:=fun b z=>absurd (show b∈([]:List Addr) from z) (by simp)
 refine⟨⟨e0.mod,S.kind,rfl,rfl,Nat.le_refl _,fun y z c h1 h2=>?_,fun y hy=>?_,fun y c _ h=>?_,fun _=>hd,Around.frames_deeper e0.frames,.inr ⟨rfl,rfl⟩,fun b z=>absurd z (noA b),e0.bs,e0.bsz,fun b _ _=>noA b,fun b z=>absurd z (noA b),e0.funs,e0.frf⟩,
   rfl,e0.bare,Un.kept hk,⟨_,x.toInCall.ns,fun i y v h1 h2 h3=>?_⟩,fun y c h=>⟨_,x.cell y c h⟩,e0.hok.fresh (Nat.le_refl _),fun y c h=>?_,fun p hp=>absurd (show p∈([]:List (Addr×Obj)) from hp) (by simp),e0.hok.kept hk,?_⟩
 . exact name_of_addr x.apart (PySem.mem_of_lookup h1) (PySem.mem_of_lookup h2)
 . have hy:scope.names.lookup y=some .cell\/scope.names.lookup y=some .free:=hy
   rcases hy with hy | hy
   . exact zM9 hy
   . exact absurd rfl (S.nofree _ (PySem.mem_of_lookup hy))
 . exact Nat.le_of_lt (x.above y c (PySem.mem_of_lookup h))
 . have hi:i<vs.length:=by
     unfold zv7 at h2
     by_cases hi:i<vs.length
     . exact hi
     . rw[List.getElem?_append_right (by simpa using hi)] at h2
       rw[List.getElem?_replicate] at h2
       split at h2<;>cases h2
   have ha:vs[i]?=some v:=by
     unfold zv7 at h2
     rw[List.getElem?_append_left (by simpa using hi),List.getElem?_map] at h2
     cases e:vs[i]? with
     | none=>rw[e] at h2;cases h2
     | some a=>rw[e] at h2;cases h2;rfl
   obtain⟨u,hu,rv⟩:=r.get ha
   have hp:ps[i]?=some y:=by
     rw[<-S.pre,List.getElem?_take_of_lt (by omega)];exact h1
   have ndP:ps.Nodup:=by rw[<-S.pre];exact S.nd.sublist (List.take_sublist _ _)
   refine⟨u,rv,?_⟩
   rcases S.par y (List.mem_of_getElem? hp) with k | k
   . exact .inl ⟨k,zI1 ndP hp hu k⟩
   . obtain⟨c,e⟩:=zM9 (n:=s.heap.objs.size+1) k
     refine .inr ⟨.inl k,c,e,?_⟩
     have q:=x.cell y c e
     rw[zI2 ndP hp hu (by show scope.names.lookup y≠_;rw[k];decide)] at q
     exact q
 . exact e0.hok.fresh (Nat.le_of_lt (x.above y c (PySem.mem_of_lookup h)))
 . unfold zv7
   show _=N.length
   rw[List.length_append,List.length_map,List.length_replicate]
   omega
theorem zV9 {CX:CXT}{P:Program}{w:World}{K:W.Frag}{mg:Str->Option Value}{base:Heap}{k:Nat}{f:Addr}{name qual:Str}{params:Arguments}{body:List Stmt}{scope:Scope}{dV kV doc pm cdv ct oc:Value}{an od:Option Addr}
   {osl:Array (Option Value)} {N ps:List Str} {sp:Sp} (lk:K.lookup f=some ⟨oc,od,.func (W.fnOf name qual params body scope dV kV doc pm an cdv ct),osl⟩) (hcd:W.codeIn K cdv qual=true) (S:zb5 N ps scope)
   (len:∀vs H Q E,sp vs H Q E->vs.length=ps.length)
   (hbody:∀(A:Around) (outer:List Env) (s:Shared) (H:Hp) (vs:List V) (Q:VK) (E:XK),Room k (A.deeper (envOfC qual scope s.heap.objs.size f cdv))->sp vs H Q E →
     ∃t,PSs (cxOf CX P w K mg base N qual scope f cdv A outer s H E) body t/\t { nx:=fun _ H'=>Q .non H',rt:=Q } (zv7 N vs) H) :
   FnOk P w K mg base CX (k+1) f (W.fnOf name qual params body scope dV kV doc pm an cdv ct) ps sp:=by
 refine⟨len,fun A outer s H args us vs Q E hr e0 hb r hsp=>?_⟩
 have hl:=len _ _ _ _ hsp
 have KX:K.In s.heap:=e0.mod.kin.keeps fun b o e=>(e0.bs b o e).1
 have lim:s.heap.NoLimit:=e0.mod.nolimit.keeps fun b o e=>(e0.bs b o e).1
 have hkind:∀y∈ps.zip us,scope.names.lookup y.1=some .local\/(scope.names.lookup y.1=some .cell/\((cellsFrom (s.heap.objs.size+1) scope.names []).lookup y.1).isSome=true):=fun⟨n,v⟩ hy=>by
   rcases S.par n (List.of_mem_zip hy).1 with q | q
   . exact .inl q
   . exact .inr ⟨q,W.cellsFrom_some _ _ _ (.inl q)⟩
 refine codeAny_call_function hr.depth (KX _ _ lk) rfl S.co S.gen rfl (W.codeRec_of KX hcd) (hb _ _ _ _ ?_)
 refine wpAny_newFunctionEnv_cells S.kind hkind fun env he s1 x=>?_
 subst he
 refine⟨lim.keeps x.toInCall.keep,codeAny_func ?_⟩
 obtain⟨t,ht,hq⟩:=hbody A outer s H vs Q E (hr.deeper _) hsp
 have I:Inv (cxOf CX P w K mg base N qual scope f cdv A outer s H E) [] (zv7 N vs) H s1:=inv_start S hr.hd e0 hl r x
 refine wpAny_mono (ht [] s1 (zv7 N vs) H _ I hq) (fun fl s' hs=>?_) fun e s' hs=>hs
 have fin:∀ {σ':St} {H':Hp} {v:V} {u:Value},Inv (cxOf CX P w K mg base N qual scope f cdv A outer s H E) [] σ' H' s'->RelV v u->Q v H'->CE outer P w H s Q u s' :=
   fun {σ' H' v u} J rv q=>⟨v,H',J.os,J.bare,J.base,J.hok,rv,q⟩
 cases fl with
 | ret u =>
   obtain⟨v,σ',H',J,rv,q⟩:=hs
   exact fin J rv q
 | next =>
   obtain⟨σ',H',J,q⟩:=hs
   exact fin (v:=V.non) (u:=Value.none) J rfl q
 | brk =>
   obtain⟨_,_,_,q⟩:=hs
   exact False.elim q
 | cont =>
   obtain⟨_,_,_,q⟩:=hs
   exact False.elim q
section
variable {X:Cx} {x:Str} {p pos:Pos} {e:Expr} {es:List Expr} {t:TA} {id T:String} {r:List V->Hp->VK->Prop}
noncomputable def tCB (r:List V->Hp->VK->Prop)(t:TA):TE:=fun σ H Q=>t σ H fun vs H1=>r vs H1 Q
theorem zb9 (hc:zp0 X (.builtin id) r) (hg:Gl X x) (hm:X.mg x=none) (hv:bootBuiltins x=some (.builtin id)) (ha:PA X (e::es) t) (hn:x≠"__name__":=by decide) (hdb:(x == ("__debug__" : Str))=false:=by decide)
   (he:starEach (e::es) X.env=(false,eval e X.env)::starEach es X.env:=by rfl) (hpl:(backTo pos (starEach es X.env)).any (·.1)=false:=by rfl):PE X (.Call (.Name x p) (e::es) [] pos) (tCB r t):=by
 intro pins s σ H Q I h
 refine wpAny_Call_Name_kw (zA6 I hg hm hv ?_ hn hdb)
 exact PyProof.Rows.callWith_builtin1 (thn (ha pos pins s σ H _ I h) fun us s1 ⟨vs,H1,I1,r1,q1⟩=>hc pins s1 σ H1 vs us Q I1 r1 q1) he hpl
theorem zp7 (hc:zp0 X (.type T) r) (hg:Gl X x) (hm:X.mg x=none) (hv:bootBuiltins x=some (.type T)) (ha:PA X (e::es) t) (hn:x≠"__name__":=by decide) (hdb:(x == ("__debug__" : Str))=false:=by decide)
   (he:starEach (e::es) X.env=(false,eval e X.env)::starEach es X.env:=by rfl) (hpl:(backTo pos (starEach es X.env)).any (·.1)=false:=by rfl):PE X (.Call (.Name x p) (e::es) [] pos) (tCB r t):=by
 intro pins s σ H Q I h
 refine wpAny_Call_Name_kw (zA6 I hg hm hv ?_ hn hdb)
 exact PyProof.Rows.callWith_type1 (thn (ha pos pins s σ H _ I h) fun us s1 ⟨vs,H1,I1,r1,q1⟩=>hc pins s1 σ H1 vs us Q I1 r1 q1) he hpl
end
end L2
namespace HT
open PySem PyProof.Rows
section
open PySem.SeqAt
open PySem.AutoSeq1 (wpAny_loadPart')
open PySem.MeetsSeq PySem.MeetsSeq2 PySem.MeetsSeq3
end
section
variable {prog:Program} {w:World} {A:Around} {E:Value->Shared->Prop} {s:Shared}
theorem cat_tup {t b:Addr}{vs ws:List Value}{Q:Value->Shared->Prop}(ht:IsTup s.heap t vs.toArray)(hb:IsTup s.heap b ws.toArray)(hv:vs≠[])
   (h1:ws=[]->Q (.ref t) s) (h2:ws≠[]->Q (.ref s.heap.objs.size) { s with heap:=s.heap.push { cls:=.type "tuple",data:=.seq (vs++ws).toArray } })
   (hsz:vs.length+ws.length<=sizeLine):wpAny (model prog w) A (binaryOp .Add (.ref t) (.ref b)) Q E s:=by
 obtain⟨⟨cls,dd,data,sl⟩,ho,hc,n,hd⟩:=id ht
 obtain⟨⟨cls2,dd2,data2,sl2⟩,ho2,hc2,n2,hd2⟩:=id hb
 simp only at hc hd hc2 hd2
 subst hc hd hc2 hd2
 have e:vs.toArray++ws.toArray=(vs++ws).toArray:=by simp
 by_cases hw:ws=[]
 . exact concat_meets ⟨_,ho,rfl⟩ ⟨_,ho2,rfl⟩ noFill_tuple_add seq_tuple_add PySem.F.slot_tuple_add PySem.F.entry_tuple_add (PySem.F.args_tuple_add_2 _ _)
     (tuple_addW1 t b vs.toArray ws.toArray n n2 dd dd2 sl sl2 (by simpa using hv) (by simp[hw])) ⟨ho,ho2,h1 hw⟩
 . refine concat_meets ⟨_,ho,rfl⟩ ⟨_,ho2,rfl⟩ noFill_tuple_add seq_tuple_add PySem.F.slot_tuple_add PySem.F.entry_tuple_add (PySem.F.args_tuple_add_2 _ _)
     (tuple_addW2 t b vs.toArray ws.toArray n n2 dd dd2 sl sl2 (by simpa using hv) (by simpa using hw) (by rw[List.size_toArray,List.size_toArray];exact hsz)) ⟨ho,ho2,?_⟩
   rw[e]
   exact h2 hw
noncomputable def sIx (n d:Nat):Option Int->Nat
 | none=>d
 | some v=>if v<0 then(v+(n:Int)).toNat else min v.toNat n
theorem sIx_none (n d:Nat):sIx n d none=d:=rfl
theorem sIx_nat (n d k:Nat):sIx n d (some (k:Int))=min k n:=by
 show(if (k:Int)<0 then((k:Int)+(n:Int)).toNat else min (k:Int).toNat n)=min k n
 rw[if_neg (by omega),Int.toNat_natCast]
theorem sIx_le (n d:Nat)(hd:d<=n)(o:Option Int):sIx n d o<=n:=by
 cases o with
 | none=>exact hd
 | some v =>
   show(if v<0 then(v+(n:Int)).toNat else min v.toNat n)<=n
   by_cases hv:v<0
   . rw[if_pos hv];omega
   . rw[if_neg hv];exact Nat.min_le_right _ _
theorem zR1 (v:Int)(n d:Nat):(if v<0 then max (v+(n:Int)) 0 else min v (n:Int))=((sIx n d (some v):Nat):Int):=by
 show(if v<0 then max (v+(n:Int)) 0 else min v (n:Int))=(((if v<0 then(v+(n:Int)).toNat else min v.toNat n):Nat):Int)
 by_cases hv:v<0
 . simp only[if_pos hv];omega
 . simp only[if_neg hv];omega
theorem adjust_gen (lo hi:Option Int)(n:Nat):Builtin.Slice.sliceAdjust lo hi 1 (n:Int)=(((sIx n 0 lo:Nat):Int),((sIx n n hi:Nat):Int)):=by
 have h1:¬ ((1:Int)<0):=by omega
 unfold Builtin.Slice.sliceAdjust
 simp only[h1,if_false]
 refine Prod.ext ?_ ?_
 . cases lo with
   | none=>rfl
   | some v=>exact zR1 v n 0
 . cases hi with
   | none=>rfl
   | some v=>exact zR1 v n n
theorem places_gen (i j:Nat):Builtin.Slice.slicePlaces (i:Int) (j:Int) 1=j-i:=by
 unfold Builtin.Slice.slicePlaces
 have h1:(1:Int)>0:=by omega
 simp only[h1,if_true,Int.ediv_one]
 split<;>omega
theorem zE3 {v:Value}{o:Option Int}{Q:Option Int->Shared->Prop}(p:IsPart v o)(h:Q o s):wpAny (model prog w) A (Builtin.Slice.slicePartIndex v) Q E s:=by
 cases p with
 | none=>exact slicePart_none h
 | int i t=>exact slicePart_int h
theorem sliceApplied_gen {sl:Addr}{vl vu:Value}{lo hi:Option Int}{n:Nat}{Q:Int×Int×Nat->Shared->Prop}(hs:s.heap.IsSliceOf sl vl vu .none)(pl:IsPart vl lo)(pu:IsPart vu hi)
   (h:Q (((sIx n 0 lo:Nat):Int),1,sIx n n hi-sIx n 0 lo) s):wpAny (model prog w) A (Builtin.Slice.sliceApplied (.ref sl) (pure (n:Int))) Q E s:=by
 obtain⟨os,hos,hcs,hds⟩:=id hs
 unfold Builtin.Slice.sliceApplied Builtin.Slice.sliceFields
 refine wpAny_bind (wpAny_bind (wpAny_field hos hds (x:=vl) rfl (wpAny_bind (wpAny_field hos hds (x:=vu) rfl (wpAny_bind (wpAny_field hos hds (x:=.none) rfl (wpAny_pure ?_)))))))
 refine wpAny_bind (slicePart_none ?_)
 show wpAny _ _ (if ((1:Int) == 0)=true then _ else _) _ _ s
 rw[if_neg (by decide)]
 refine wpAny_bind (zE3 pl (wpAny_bind (zE3 pu (wpAny_bind (wpAny_pure ?_)))))
 show wpAny _ _ (match Builtin.Slice.sliceAdjust lo hi 1 (n:Int) with | (lo,hi)=>pure (lo,(1:Int),Builtin.Slice.slicePlaces lo hi 1)) _ _ s
 rw[adjust_gen lo hi n]
 show wpAny _ _ (pure (((sIx n 0 lo:Nat):Int),(1:Int),Builtin.Slice.slicePlaces ((sIx n 0 lo:Nat):Int) ((sIx n n hi:Nat):Int) 1)) _ _ s
 rw[places_gen]
 exact wpAny_pure h
theorem pick_gen (xs:Array Value)(i k:Nat):((List.range k).filterMap fun(m:Nat)=>xs[((i:Int)+(m:Int)*1).toNat]?).toArray=((xs.toList.drop i).take k).toArray:=by
 have e:(fun(m:Nat)=>xs[((i:Int)+(m:Int)*1).toNat]?)=fun m=>xs[i+m]?:=by
   funext m
   have:((i:Int)+(m:Int)*1).toNat=i+m:=by omega
   rw[this]
 rw[e]
 have:=pick_run xs i k
 rw[List.filterMap_map] at this
 have e2:((fun x=>xs[x]?) ∘ fun x=>i+x)=fun m=>xs[i+m]?:=rfl
 rw[e2] at this
 rw[this]
theorem getItem_tuple_cut {t sl:Addr}{items:Array Value}{vl vu:Value}{lo hi:Option Int}{Q:Value->Shared->Prop}(ht:IsTup s.heap t items)(hs:s.heap.IsSliceOf sl vl vu .none)(pl:IsPart vl lo)(pu:IsPart vu hi)
   (hw:¬ (sIx items.size 0 lo=0/\sIx items.size items.size hi=items.size))
   (h:Q (.ref s.heap.objs.size) { s with heap:=s.heap.push { cls:=.type "tuple",data:=.seq ((items.toList.drop (sIx items.size 0 lo)).take (sIx items.size items.size hi-sIx items.size 0 lo)).toArray } })
   (hsz:items.size<=sizeLine):wpAny (model prog w) A (getItem (.ref t) (.ref sl)) Q E s:=by
 have htake:sizeOk (.seq ((items.toList.drop (sIx items.size 0 lo)).take (sIx items.size items.size hi-sIx items.size 0 lo)).toArray):=by
   show((items.toList.drop (sIx items.size 0 lo)).take (sIx items.size items.size hi-sIx items.size 0 lo)).toArray.size<=sizeLine
   rw[List.size_toArray,List.length_take,List.length_drop,Array.length_toList]
   omega
 have hj:sIx items.size items.size hi<=items.size:=sIx_le _ _ (Nat.le_refl _) hi
 obtain⟨os,hos,hcs,hds⟩:=id hs
 have hTs:s.TypeIs (.ref sl) "slice":=⟨os,hos,hcs⟩
 unfold getItem
 try with_reducible refine wpAny_holding ?_
 first | refine wpAny_bind (wpAny_pure ?_) | skip
 refine wpAny_bind (wpAny_sequenceKey ht.typeIs (by decide) ?_)
 refine wpAny_bind (wpAny_callSpecial?_slot (name:=Str.ofString "__getitem__") ht.typeIs PyProof.Rows.slot_tuple_getitem
   (wpAny_call_entry PyProof.Rows.slot_tuple_getitem ht.typeIs entry_tuple_getitem ?_ (args_tuple_getitem _ _)))
 show wpAny _ _ (Builtin.Tuple.tupleItemsOf (.ref t) >>= _) _ _ s
 refine wpAny_bind (tupleItemsOf_ ht ?_)
 refine wpAny_bind (wpAny_typeOf hTs ?_)
 rw[if_pos (by decide)]
 refine wpAny_bind (sliceApplied_gen hs pl pu ?_)
 have hno:¬ ((((sIx items.size 0 lo:Nat):Int) == 0 && (1:Int) == 1 && (sIx items.size items.size hi-sIx items.size 0 lo) == items.size)=true):=by
   intro q
   rw[Bool.and_eq_true,Bool.and_eq_true] at q
   have q1:((sIx items.size 0 lo:Nat):Int)=0:=eq_of_beq q.1.1
   have q2:sIx items.size items.size hi-sIx items.size 0 lo=items.size:=eq_of_beq q.2
   exact hw ⟨by omega,by omega⟩
 show wpAny _ _ (if (((sIx items.size 0 lo:Nat):Int) == 0 && (1:Int) == 1 && (sIx items.size items.size hi-sIx items.size 0 lo) == items.size)=true then _ else _) _ _ s
 rw[if_neg hno,pick_gen]
 first
   | exact wpAny_bind (m:=Builtin.Tuple.tupleExact _) (wpAny_newObj_type (wpAny_pure ⟨_,rfl,wpAny_pure h⟩) htake)
   | exact wpAny_bind (m:=Builtin.Tuple.tupleExact _) (wpAny_newObj_type (wpAny_bind (wpAny_pure (wpAny_pure ⟨_,rfl,wpAny_pure h⟩))) htake)
   | exact wpAny_bind (wpAny_bind (m:=Builtin.Tuple.tupleExact _) (wpAny_newObj_type (wpAny_pure (wpAny_pure ⟨_,rfl,wpAny_pure h⟩)) htake))
   | exact wpAny_bind (wpAny_bind (m:=Builtin.Tuple.tupleExact _) (wpAny_newObj_type (wpAny_pure ⟨_,rfl,wpAny_pure h⟩) htake))
end
end HT
namespace L2
open PySem PySem.Spec PyProof.Rows
noncomputable abbrev TO:=St->Hp->(Option Int->Hp->Prop)->Prop
noncomputable def PO (X:Cx)(e:Option Expr)(t:TO):Prop :=
 ∀(pins:List (Addr×Obj)) (s:Shared) (σ:St) (H:Hp) (Q:Option Int->Hp->Prop),Inv X pins σ H s->t σ H Q →
   wpAny (model X.prog X.w) X.A (evalPart e X.env) (fun u s'=>∃o H',Inv X pins σ H' s'/\IsPart u o/\Q o H') X.xe s
noncomputable def tNoPart:TO:=fun _ H Q=>Q none H
noncomputable def tPart (t:TE):TO:=fun σ H Q=>t σ H fun x H1=>∃i,x = .int i/\Q (some i) H1
theorem zn7 {ns:List Int}:∀ {us:List Value},Vals (ns.map V.int) us->IntsAre us ns:=by
 induction ns with
 | nil=>intro us r;rw[List.map_nil] at r;cases r;exact .nil
 | cons n ns ih =>
   intro us r
   rw[List.map_cons] at r
   cases r with
   | cons r1 r2 =>
     obtain⟨t,e⟩:=r1
     subst e
     exact .cons n t (ih r2)
section
variable {X:Cx} {e:Expr} {te:TE} {lo hi:Option Expr} {tl th:TO} {pos p2:Pos}
theorem zR2:PO X none tNoPart:=by
 intro pins s σ H Q I h
 rw[evalPart_none]
 exact wpAny_pure ⟨none,H,I,.none,h⟩
theorem zR3 (h:PE X e te):PO X (some e) (tPart te):=by
 intro pins s σ H Q I hw
 rw[evalPart_some]
 refine thn (h pins s σ H _ I hw) fun u s1 ⟨x,H1,I1,r1,q1⟩=>?_
 obtain⟨i,rfl,q⟩:=q1
 obtain⟨t,rfl⟩:=r1
 exact⟨some i,H1,I1,.int i t,q⟩
noncomputable def SlR (X:Cx)(r:V->Option Int->Option Int->Hp->VK->Prop):Prop :=
 ∀(pins:List (Addr×Obj)) (s:Shared) (σ:St) (H:Hp) (x:V) (v vl vu:Value) (lo hi:Option Int) (sl:Addr) (Q:VK),Inv X pins σ H s->RelV x v->s.heap.IsSliceOf sl vl vu .none->IsPart vl lo->IsPart vu hi->r x lo hi H Q →
   ∃T id,typeLookup (.type T) "__getitem__" = pure (some (.builtin id))/\s.TypeIs v T/\wpAny (model X.prog X.w) X.A (getItem v (.ref sl)) (EP X pins σ Q) X.xe s
noncomputable def tSl (r:V->Option Int->Option Int->Hp->VK->Prop)(te:TE)(tl th:TO):TE:=fun σ H Q=>te σ H fun x H1=>tl σ H1 fun l H2=>th σ H2 fun u H3=>r x l u H3 Q
theorem zN0 {r:V->Option Int->Option Int->Hp->VK->Prop}(hr:SlR X r)(he:PE X e te)(hl:PO X lo tl)(hu:PO X hi th):PE X (.Subscript e (.Slice lo hi none p2) pos) (tSl r te tl th):=by
 intro pins s σ H Q I h
 refine Subscript_ (thn (he pins s σ H _ I h) fun v s1 ⟨x,H1,I1,r1,q1⟩=>?_)
 refine wpAny_Slice (thn (hl pins s1 σ H1 _ I1 q1) fun vl s2 ⟨l,H2,I2,pl,q2⟩=>thn (hu pins s2 σ H2 _ I2 q2) fun vu s3 ⟨u,H3,I3,pu,q3⟩=>?_)
 rw[evalPart_none]
 refine wpAny_pure ?_
 have I4:Inv X pins σ H3 { s3 with heap:=s3.heap.push { cls:=.type "slice",data:=.fields #[vl,vu,.none] } }:=I3.kept (t':=s3.toks) fun b ob q=>Heap.get?_push_of_some _ q
 obtain⟨T,id,hT,ht,hg⟩:=hr pins { s3 with heap:=s3.heap.push { cls:=.type "slice",data:=.fields #[vl,vu,.none] } } σ H3 x v vl vu l u s3.heap.objs.size Q I4 r1 (Heap.IsSliceOf.new ..) pl pu q3
 show wpAny (model X.prog X.w) X.A (subscriptTail e (.Slice lo hi none p2) v (.ref s3.heap.objs.size)) (EP X pins σ Q) X.xe { s3 with heap:=s3.heap.push { cls:=.type "slice",data:=.fields #[vl,vu,.none] } }
 exact tail_any (ops:=[.ref s3.heap.objs.size,v]) ht hT hg (by with_unfolding_all rfl)
noncomputable def cutV (xs:List V)(lo hi:Option Int):List V:=(xs.drop (HT.sIx xs.length 0 lo)).take (HT.sIx xs.length xs.length hi-HT.sIx xs.length 0 lo)
theorem zC1 (xs:List V)(lo hi:Option Int):(cutV xs lo hi).length<=xs.length:=by
 unfold cutV
 rw[List.length_take,List.length_drop]
 omega
inductive zW0 (K:W.Frag)(x:V)(lo:Option Int)(hi:Option Int)(H:Hp)(Q:VK):Prop
 | mk (a xs:_)(h0:x = .ref a)(h1:SqT K H a xs)(h2:¬ (HT.sIx xs.length 0 lo=0/\HT.sIx xs.length xs.length hi=xs.length))(h3:∀p,H p=none->Q (.ref p) (upd H p (.tup (cutV xs lo hi)))):zW0 K x lo hi H Q
noncomputable def rSlT (K:W.Frag):V->Option Int->Option Int->Hp->VK->Prop:=fun x lo hi H Q=>zW0 K x lo hi H Q
theorem zW1:SlR X (rSlT X.K):=by
 intro pins s σ H x v vl vu lo hi sl Q I rx hs pl pu h
 obtain⟨a,xs,rfl,hx,hw,q⟩:=h
 cases rx
 obtain⟨its,r,ht,hz⟩:=I.tuple hx
 have hlen:its.toArray.size=xs.length:=by rw[List.size_toArray];exact r.length.symm
 refine⟨"tuple",_,PyProof.Rows.slot_tuple_getitem.lookup,ht.typeIs,?_⟩
 refine HT.getItem_tuple_cut ht hs pl pu (by rw[hlen];exact hw) ?_ (by rw[hlen];exact hz)
 rw[hlen]
 refine⟨.ref s.heap.objs.size,_,I.laid (t':=s.toks) (o:=.tup (cutV xs lo hi)) (fun b ob q=>Heap.get?_push_of_some _ q) (Nat.le_refl _) ?_,rfl,q _ (I.hok.fresh (Nat.le_refl _))⟩
 exact⟨Nat.le_trans (zC1 xs lo hi) hz,_,(r.drop (HT.sIx xs.length 0 lo)).take (HT.sIx xs.length xs.length hi-HT.sIx xs.length 0 lo),TupD.new _ _⟩
inductive zR4 (K:W.Frag)(x:V)(y:V)(H:Hp)(Q:VK):Prop
 | mk (a b xs ys:_)(h0:x = .ref a)(h1:y = .ref b)(h2:SqT K H a xs)(h3:SqT K H b ys)(h4:xs≠[])(h5:xs.length+ys.length<=sizeLine)(h6:(ys=[]->Q (.ref a) H))(h7:(ys≠[]->∀p,H p=none->Q (.ref p) (upd H p (.tup (xs++ys))))):zR4 K x y H Q
noncomputable def rCatT (K:W.Frag):R2:=fun x y H Q=>zR4 K x y H Q
theorem Vals.nil_iff {xs:List V}{us:List Value}(r:Vals xs us):us=[]↔xs=[]:=by
 cases r with
 | nil=>simp
 | cons _ _=>simp
theorem op_catT:OpR X (binaryOp .Add) (rCatT X.K):=by
 intro pins s σ H x y v u Q I rx ry h
 obtain⟨a,b,xs,ys,rfl,rfl,ha,hb,hx,hz,q1,q2⟩:=h
 cases rx
 cases ry
 obtain⟨its,r1,p1,_⟩:=I.tuple ha
 obtain⟨its2,r2,p2,_⟩:=I.tuple hb
 refine HT.cat_tup p1 p2 (fun z=>hx (r1.nil_iff.mp z)) (fun z=>⟨.ref a,H,I,rfl,q1 (r2.nil_iff.mp z)⟩) (fun z=>?_) (by rw[<-r1.length,<-r2.length];exact hz)
 refine⟨.ref s.heap.objs.size,_,I.laid (t':=s.toks) (o:=.tup (xs++ys)) (fun b ob q=>Heap.get?_push_of_some _ q) (Nat.le_refl _) ?_,rfl,q2 (fun w=>z (r2.nil_iff.mpr w)) _ (I.hok.fresh (Nat.le_refl _))⟩
 exact⟨by rw[List.length_append];exact hz,_,r1.append r2,TupD.new _ _⟩
end
noncomputable def ixN (n:Nat)(i:Int):Option Nat:=if 0<=i then(if i<n then some i.toNat else none) else if -(n:Int)<=i then some (i+n).toNat else none
noncomputable def atI {α:Type}(xs:List α)(i:Int):Option α:=(ixN xs.length i).bind fun j=>xs[j]?
theorem ixN_seq {n:Nat}{i:Int}{j:Nat}(h:ixN n i=some j):seqIndex? i n=some j/\j<n/\-(n:Int)<=i/\i<n:=by
 unfold ixN at h
 by_cases h0:0<=i
 . rw[if_pos h0] at h
   by_cases h1:i<n
   . rw[if_pos h1] at h
     have e:i.toNat=j:=Option.some.inj h
     exact⟨by rw[seqIndex_of h0 h1,e],by omega,by omega,h1⟩
   . rw[if_neg h1] at h;cases h
 . rw[if_neg h0] at h
   by_cases h1:-(n:Int)<=i
   . rw[if_pos h1] at h
     have e:(i+n).toNat=j:=Option.some.inj h
     exact⟨by rw[seqIndex_neg (by omega) h1,e],by omega,h1,by omega⟩
   . rw[if_neg h1] at h;cases h
theorem zL2 {α:Type}{xs:List α}{i:Int}{v:α}(h:atI xs i=some v):∃j,seqIndex? i xs.length=some j/\xs[j]?=some v/\j<xs.length/\-(xs.length:Int)<=i/\i<xs.length:=by
 unfold atI at h
 cases e:ixN xs.length i with
 | none=>rw[e] at h;cases h
 | some j =>
   rw[e] at h
   obtain⟨h1,h2,h3,h4⟩:=ixN_seq e
   exact⟨j,h1,h,h2,h3,h4⟩
theorem atI_nat {α:Type}{xs:List α}{j:Nat}{v:α}(h:xs[j]?=some v):atI xs (j:Int)=some v:=by
 have hj:j<xs.length:=(List.getElem?_eq_some_iff.mp h).1
 have e:ixN xs.length (j:Int)=some j:=by
   unfold ixN
   rw[if_pos (by omega),if_pos (by omega)];simp
 unfold atI;rw[e];exact h
noncomputable def PlainIx (b:Expr):Prop:=∀o i,subscripted b false o i=operate [o,i] (getItem o i)
noncomputable def IxR (X:Cx)(r:R2):Prop :=
 ∀(value slice:Expr) (pins:List (Addr×Obj)) (s:Shared) (σ:St) (H:Hp) (x y:V) (v u:Value) (Q:VK),Inv X pins σ H s->RelV x v->RelV y u->r x y H Q →
   subscripted slice false v u=operate [v,u] (getItem v u)->wpAny (model X.prog X.w) X.A (subscriptTail value slice v u) (EP X pins σ Q) X.xe s
noncomputable def MtR (X:Cx)(id:String)(r:V->List V->Hp->VK->Prop):Prop :=
 ∀(pins:List (Addr×Obj)) (s:Shared) (σ:St) (H:Hp) (x:V) (xs:List V) (v:Value) (us:List Value) (Q:VK),Inv X pins σ H s->RelV x v->Vals xs us->r x xs H Q →
   wpAny (model X.prog X.w) X.A (call (.builtin id) (v::us)) (EP X pins σ Q) X.xe s
section
variable {X:Cx} {a b:Expr} {ta tb:TE} {pos:Pos}
theorem IxR.or {r r':R2}(h:IxR X r)(h':IxR X r'):IxR X (fun x y H Q=>r x y H Q\/r' x y H Q):=by
 intro value slice pins s σ H x y v u Q I rx ry q hs
 rcases q with q | q
 . exact h value slice pins s σ H x y v u Q I rx ry q hs
 . exact h' value slice pins s σ H x y v u Q I rx ry q hs
theorem zj7 {r:R2}(hr:IxR X r)(ha:PE X a ta)(hb:PE X b tb)(hs:PlainIx b):PE X (.Subscript a b pos) (tOp r ta tb):=by
 intro pins s σ H Q I h
 exact Subscript_ (binT ha hb I h fun v u s2 x y H2 I2 rx ry q=>hr a b pins s2 σ H2 x y v u Q I2 rx ry q (hs _ _))
inductive zW2 (K:W.Frag)(x:V)(y:V)(H:Hp)(Q:VK):Prop
 | mk (p xs i v:_)(h0:x = .ref p)(h1:y = .int i)(h2:SqL K H p xs)(h3:atI xs i=some v)(h4:Q v H):zW2 K x y H Q
noncomputable def rIxL (K:W.Frag):R2:=fun x y H Q=>zW2 K x y H Q
inductive zW3 (K:W.Frag)(x:V)(y:V)(H:Hp)(Q:VK):Prop
 | mk (p xs i v:_)(h0:x = .ref p)(h1:y = .int i)(h2:SqT K H p xs)(h3:atI xs i=some v)(h4:Q v H):zW3 K x y H Q
noncomputable def rIxT (K:W.Frag):R2:=fun x y H Q=>zW3 K x y H Q
noncomputable def rIxS:R2:=fun x y H Q=>∃z i c,x = .str z/\y = .int i/\z.length<=sizeLine/\atI z.cps.toList i=some c/\Q (.str ⟨#[c]⟩) H
theorem zu9:IxR X (rIxL X.K):=by
 intro value slice pins s σ H x y v u Q I rx ry h hs
 obtain⟨p,xs,i,z,rfl,rfl,hq,he,q⟩:=h
 cases rx
 obtain⟨t,rfl⟩:=ry
 obtain⟨its,r,pl,hz⟩:=I.list hq
 obtain⟨j,h1,h2,h3,h4,h5⟩:=zL2 he
 obtain⟨w,ew,rw'⟩:=r.get h2
 have hl:=r.length
 have hn:=zK9
 have fin:EP X pins σ Q w s:=⟨z,H,I,rw',q⟩
 by_cases h0:0<=i
 . have hj:i.toNat=j:=by
     rw[seqIndex_of h0 h5] at h1
     exact Option.some.inj h1
   exact item_listR pl.isList h0 (by omega) (by rw[hj];simpa using ew) fin hs
 . have hj:(i+(its.toArray.size:Int)).toNat=j:=by
     rw[seqIndex_neg (by omega) h4] at h1
     rw[List.size_toArray,<-hl]
     exact Option.some.inj h1
   exact subscriptTail_builtinR (x:=w) pl.isList.typeIs slot_list_getitem.lookup
     (wpAny_getItem_list_neg (Q:=fun r s'=>r=w/\EP X pins σ Q r s') pl.isList (by omega) (by rw[List.size_toArray]<;>omega) (by omega) (by rw[hj];simpa using ew) ⟨rfl,fin⟩) hs
theorem zt0:IxR X (rIxT X.K):=by
 intro value slice pins s σ H x y v u Q I rx ry h hs
 obtain⟨p,xs,i,z,rfl,rfl,hq,he,q⟩:=h
 cases rx
 obtain⟨t,rfl⟩:=ry
 obtain⟨its,r,pl,hz⟩:=I.tuple hq
 obtain⟨j,h1,h2,h3,h4,h5⟩:=zL2 he
 obtain⟨w,ew,rw'⟩:=r.get h2
 have hl:=r.length
 have hn:=zK9
 have fin:EP X pins σ Q w s:=⟨z,H,I,rw',q⟩
 exact subscriptTail_builtinR (x:=w) pl.typeIs slot_tuple_getitem.lookup
   (getItem_tuple (j:=j) (Q:=fun r s'=>r=w/\EP X pins σ Q r s') pl (by omega) (by omega) (by rw[List.size_toArray,<-hl];exact h1) (by simpa using ew) ⟨rfl,fin⟩) hs
theorem ix_str:IxR X rIxS:=by
 intro value slice pins s σ H x y v u Q I rx ry h hs
 obtain⟨z,i,c,rfl,rfl,hz,he,q⟩:=h
 obtain⟨t,rfl⟩:=rx
 obtain⟨t',rfl⟩:=ry
 obtain⟨j,h1,h2,h3,h4,h5⟩:=zL2 he
 have hl:z.cps.toList.length=z.length:=by simp[Str.length]
 rw[hl] at h1 h4 h5
 have hn:=zK9
 exact tail_any (typeIs_str s z t) slot_str_getitem.lookup (getItem_str (c:=c) (by
   have e1:decide (i < -(2 ^ 63:Int))=false:=decide_eq_false (by omega)
   have e2:decide (i≥2 ^ 63)=false:=decide_eq_false (by omega)
   rw[e1,e2,Bool.or_false]) (by rw[h1];simpa using h2) ⟨.str ⟨#[c]⟩,H,I.tok _,⟨_,rfl⟩,q⟩) hs
noncomputable def rIx (K:W.Frag):R2:=fun x y H Q=>rIxL K x y H Q\/rIxT K x y H Q\/rIxS x y H Q
theorem zr6:IxR X (rIx X.K):=zu9.or (zt0.or ix_str)
theorem zc3:zp0 X (.builtin "len") (fun xs H Q=>∃p ys,xs=[.ref p]/\(SqL X.K H p ys\/SqT X.K H p ys)/\Q (.int ys.length) H):=by
 intro pins s σ H xs us Q I r h
 obtain⟨p,ys,rfl,hq,q⟩:=h
 obtain⟨u,rfl,rx⟩:=zC0 r
 cases rx
 have hn:=zK9
 rcases hq with hq | hq
 . obtain⟨its,r',pl,hz⟩:=I.list hq
   have hlen:=r'.length
   exact Calls.call_len_list pl.isList (by simp only[List.size_toArray]<;>omega) ⟨.int ys.length,H,I.tok _,⟨s.toks+1,by rw[List.size_toArray,hlen]⟩,q⟩
 . obtain⟨its,r',pl,hz⟩:=I.tuple hq
   have hlen:=r'.length
   exact len_tuple pl (by simp only[List.size_toArray]<;>omega) ⟨.int ys.length,H,I.tok _,⟨s.toks+1,by rw[List.size_toArray,hlen]⟩,q⟩
theorem zl9:zp0 X (.type "tuple") (fun xs H Q=>∃p ys,xs=[.ref p]/\((SqL X.K H p ys/\∀l,H l=none->Q (.ref l) (upd H l (.tup ys)))\/(SqT X.K H p ys/\Q (.ref p) H))):=by
 intro pins s σ H xs us Q I r h
 obtain⟨p,ys,rfl,h⟩:=h
 obtain⟨u,rfl,rx⟩:=zC0 r
 cases rx
 rcases h with⟨hq,q⟩ | ⟨hq,q⟩
 . obtain⟨its,r',pl,hz⟩:=I.list hq
   have hlen:=r'.length
   refine call_tuple_list pl.isList (fun h' kp=>?_) (by simp only[List.size_toArray]<;>omega)
   have I1:Inv X pins σ H { s with heap:=h' }:=I.kept (t':=s.toks) kp
   have I2:Inv X pins σ (upd H h'.objs.size (.tup ys)) { s with heap:=h'.push { cls:=.type "tuple",data:=.seq its.toArray } } :=
     I1.laid (t':=s.toks) (fun b o e=>Heap.get?_push_of_some _ e) (Nat.le_refl _) (show zg7 X.prog X.w _ _ _ (.tup ys) from⟨hz,its,r',TupD.new _ _⟩)
   exact⟨.ref h'.objs.size,_,I2,rfl,q _ (I1.hok.fresh (Nat.le_refl _))⟩
 . obtain⟨its,r',pl,hz⟩:=I.tuple hq
   exact call_tuple_same pl ⟨.ref p,H,I,rfl,q⟩
noncomputable def tyV (K:W.Frag)(T:String)(x:V)(H:Hp):Prop:=match x with
 | .str _=>T = "str"
 | .int _=>T = "int"
 | .ref p=>(T = "list"/\∃xs,SqL K H p xs)\/(T = "tuple"/\∃o,K.lookup p=some o/\o.cls = .type "tuple"/\o.dict=none) ∨
     (T = "dict"/\((∃kvs,H p=some (.dK kvs))\/∃kvs,H p=some (.dT kvs)))\/(T = "set"/\∃S n,H p=some (.set S n))
 | _=>False
theorem zW4 {pins:List (Addr×Obj)}{σ:St}{H:Hp}{s:Shared}{T:String}{x:V}{v:Value}(I:Inv X pins σ H s)(r:RelV x v)(ty:tyV X.K T x H) :
   s.TypeIs v T/\∀a,v = .ref a->∃ob,s.heap.get? a=some ob/\ob.dict=none:=by
 cases x with
 | str z =>
   obtain⟨t,rfl⟩:=r
   cases (show T = "str" from ty)
   exact⟨typeIs_str s z t,fun _ e=>nomatch e⟩
 | int i =>
   obtain⟨t,rfl⟩:=r
   cases (show T = "int" from ty)
   exact⟨typeIs_int s i t,fun _ e=>nomatch e⟩
 | ref p =>
   cases r
   rcases ty with⟨rfl,xs,hq⟩ | ⟨rfl,o,hk,hc,hd⟩ | ⟨rfl,hk⟩ | ⟨rfl,S,n,hk⟩
   . obtain⟨its,_,pl,_⟩:=I.list hq
     refine⟨pl.isList.typeIs,fun a e=>?_⟩
     cases e
     obtain⟨o,n,e,c,hd,_⟩:=pl
     exact⟨o,e,hd⟩
   . refine⟨⟨o,I.kIn p o hk,hc⟩,fun a e=>?_⟩
     cases e
     exact⟨o,I.kIn _ o hk,hd⟩
   . have z:∃o,s.heap.get? p=some o/\o.ExactDict:=by
       rcases hk with⟨kvs,hk⟩ | ⟨kvs,hk⟩
       . obtain⟨_,_,_,_,o,_,_,e,ex,_⟩:=I.hok p _ hk
         exact⟨o,e,ex⟩
       . obtain⟨_,_,_,_,o,_,_,e,ex,_⟩:=I.hok p _ hk
         exact⟨o,e,ex⟩
     obtain⟨o,e,ex⟩:=z
     refine⟨⟨o,e,ex.1⟩,fun a e2=>?_⟩
     cases e2
     exact⟨o,e,ex.2.1⟩
   . obtain⟨o,_,_,_,e,ex,_⟩:=I.hok p _ hk
     refine⟨⟨o,e,ex.1⟩,fun a e2=>?_⟩
     cases e2
     exact⟨o,e,ex.2.1⟩
 | _=>exact False.elim ty
noncomputable def tBM0 (K:W.Frag)(T:String)(r:V->List V->Hp->VK->Prop)(to:TE):TE:=fun σ H Q=>to σ H fun x H1=>tyV K T x H1/\r x [] H1 Q
noncomputable def tBM (K:W.Frag)(T:String)(r:V->List V->Hp->VK->Prop)(to:TE)(t:TA):TE:=fun σ H Q=>to σ H fun x H1=>tyV K T x H1/\t σ H1 fun xs H2=>r x xs H2 Q
variable {o e:Expr} {es:List Expr} {to:TE} {t:TA} {name:Str} {apos cpos:Pos} {T id:String} {r:V->List V->Hp->VK->Prop}
theorem pe_bm0 (pa:PlainAttrs T) (slot:Slot T name id) (hty:typeOf (.builtin id)=pure (.type "method_descriptor")) (hm:MtR X id r) (ho:PE X o to)
   (hbase:attributeBase o name X.env (eval o X.env)=eval o X.env:=by rfl) (hline:(apos.endLine == cpos.line)=true:=by rfl):PE X (.Call (.Attribute o name apos) [] [] cpos) (tBM0 X.K T r to):=by
 intro pins s σ H Q I h
 refine wpAny_Call_method0_late hbase hline (thn (ho pins s σ H _ I h) fun v s1 ⟨x,H1,I1,r1,ty,q1⟩=>?_)
 obtain⟨h1,h2⟩:=zW4 I1 r1 ty
 exact⟨T,id,pa,slot,hty,h1,h2,Calls.callWith_builtin rfl (PySem.evalArgs_none (hm pins s1 σ H1 x [] v [] Q I1 r1 .nil q1))⟩
theorem zE4 (pa:PlainAttrs T) (slot:Slot T name id) (hty:typeOf (.builtin id)=pure (.type "method_descriptor")) (hm:MtR X id r) (ho:PE X o to) (ha:PA X (e::es) t)
   (hbase:attributeBase o name X.env (eval o X.env)=eval o X.env:=by rfl)
   (hfew:((backTo cpos (starEach (e::es) X.env)).all (fun x=>!x.1) && (backToKw cpos (keywordEach [] X.env)).all (fun x=>x.1.isSome)
     && decide ((e::es).length+([]:List Keyword).length+(if ([]:List Keyword).isEmpty then 0 else 1)<30))=true:=by rfl)
   (hline:(apos.endLine == cpos.line)=true:=by rfl) (hs:starEach (e::es) X.env=(false,eval e X.env)::starEach es X.env:=by rfl) (hplain:(backTo cpos (starEach es X.env)).any (·.1)=false:=by rfl) :
   PE X (.Call (.Attribute o name apos) (e::es) [] cpos) (tBM X.K T r to t):=by
 intro pins s σ H Q I h
 refine wpAny_Call_method_late hbase hfew hline rfl (thn (ho pins s σ H _ I h) fun v s1 ⟨x,H1,I1,r1,ty,q1⟩=>?_)
 obtain⟨h1,h2⟩:=zW4 I1 r1 ty
 refine⟨T,id,pa,slot,hty,h1,h2,?_⟩
 have hA:=ha cpos pins s1 σ H1 _ I1 q1
 rw[hs] at hA ⊢
 refine Calls.callWith_builtin (by show(false || (backTo cpos (starEach es X.env)).any (·.1))=false;rw[hplain]<;>rfl) (Calls.evalArgs_plain ?_)
 exact thn hA fun us s2 ⟨vs,H2,I2,r2,q2⟩=>hm pins s2 σ H2 x vs v us Q I2 r1 r2 q2
/- xs.append(e),list.index on a module's tuple .. are MtR facts of 06m -/
end
noncomputable def MtM (X:Cx)(id:String)(r:V->List V->Hp->VK->Prop):Prop :=
 ∀(pins:List (Addr×Obj)) (s:Shared) (σ:St) (H:Hp) (x:V) (xs:List V) (v:Value) (us:List Value) (Q:VK),Inv X pins σ H s->RelV x v->Vals xs us->r x xs H Q →
   wpAny (model X.prog X.w) X.A (call (.builtin id) (v::us)) (EP X pins σ Q) X.xe s
theorem Vals.one:∀ {x:V} {us:List Value},Vals [x] us->∃u,us=[u]/\RelV x u
 | _,_,.cons r .nil=>⟨_,rfl,r⟩
theorem Vals.zero:∀ {us:List Value},Vals [] us->us=[]
 | _,.nil=>rfl
theorem Vals.reverse {xs:List V}{us:List Value}(h:Vals xs us):Vals xs.reverse us.reverse:=by
 induction h with
 | nil=>exact .nil
 | cons r t ih=>rw[List.reverse_cons,List.reverse_cons];exact Vals.append ih (.cons r .nil)
section
variable {X:Cx} {pins:List (Addr×Obj)} {σ:St} {H:Hp} {s:Shared} {l b:Addr} {xs ys zs:List V}
theorem Inv.lset {its its':List Value}{n:Nat}{f:Array Value->Array Value}{t':Nat}(I:Inv X pins σ H s)(hH:H l=some (.lst xs))
   (e:s.heap.get? l=some { cls:=.type "list",data:=.seq its.toArray n }) (hf:f its.toArray=its'.toArray) (hv:Vals ys its') (hz:ys.length<=sizeLine) :
   Inv X pins σ (upd H l (.lst ys)) { s with heap:=s.heap.update l (Obj.mapSeq f),toks:=t' }:=by
 have q:=PySem.IsL.update e f
 rw[hf] at q
 refine I.write (x:=l) (e:=l) (by rw[hH];exact trivial) (.inl rfl) (fun b' u hb hu=>(Heap.get?_update_other s.heap (Obj.mapSeq f) (Ne.symm hb)).trans hu) ⟨_,q⟩ ?_
 exact⟨hz,its',_,hv,q⟩
theorem Inv.lnew {its:List Value}{t':Nat}(I:Inv X pins σ H s)(hv:Vals ys its)(hz:ys.length<=sizeLine) :
   Inv X pins σ (upd H s.heap.objs.size (.lst ys)) { s with heap:=s.heap.push { cls:=.type "list",data:=.seq its.toArray },toks:=t' } :=
 I.laid (fun _ _ q=>Heap.get?_push_of_some _ q) (Nat.le_refl _) ⟨hz,its,0,hv,Heap.get?_push_size _ rfl⟩
theorem Inv.fresh (I:Inv X pins σ H s):H s.heap.objs.size=none:=I.hok.fresh (Nat.le_refl _)
theorem Inv.lstM (I:Inv X pins σ H s) (hH:H l=some (.lst xs)):xs.length<=sizeLine/\∃(its:List Value) (n:Nat),Vals xs its/\xs.length=its.length/\s.heap.get? l=some { cls:=.type "list",data:=.seq its.toArray n }:=by
 obtain⟨z,its,n,r,e⟩:=I.hok l _ hH
 exact⟨z,its,n,r,r.length,e⟩
theorem notLongL {n:Nat}(h:n<=sizeLine):Builtin.List.listTooLong n=false:=by
 unfold Builtin.List.listTooLong
 exact decide_eq_false (by omega)
end
section
variable {X:Cx}
inductive zI3  (x:V)(vs:List V)(H:Hp)(Q:VK):Prop
 | mk (l xs y:_)(h0:x = .ref l)(h1:vs=[y])(h2:H l=some (.lst xs))(h3:xs.length<sizeLine)(h4:Q .non (upd H l (.lst (xs++[y])))):zI3  x vs H Q
noncomputable def rAppend:V->List V->Hp->VK->Prop:=fun x vs H Q=>zI3  x vs H Q
theorem zv0:MtM X "list.append" rAppend:=by
 intro pins s σ H x vs v us Q I rx rv h
 obtain⟨l,xs,y,rfl,rfl,hH,hz,q⟩:=h
 cases rx
 obtain⟨u,rfl,ru⟩:=rv.one
 obtain⟨z,its,n,r,hl,e⟩:=I.lstM hH
 refine call_meets F.slot_list_append ⟨_,e,rfl⟩ F.entry_list_append (F.args_list_append_2 _ _) (PySem.list_append l its.toArray n u (by rw[List.size_toArray];omega)) ⟨e,?_⟩
 refine⟨.non,_,I.lset (its':=its++[u]) hH e (by simp) (r.append (.cons ru .nil)) ?_,rfl,q⟩
 rw[List.length_append,List.length_singleton]
 omega
noncomputable def rExtend:V->List V->Hp->VK->Prop:=fun x vs H Q=>∃l b xs zs,x = .ref l/\vs=[.ref b]/\H l=some (.lst xs)/\H b=some (.lst zs)/\xs.length+zs.length<=sizeLine/\Q .non (upd H l (.lst (xs++zs)))
theorem mt_extend:MtM X "list.extend" rExtend:=by
 intro pins s σ H x vs v us Q I rx rv h
 obtain⟨l,b,xs,zs,rfl,rfl,hH,hB,hz,q⟩:=h
 cases rx
 obtain⟨u,rfl,ru⟩:=rv.one
 cases ru
 obtain⟨z,its,n,r,hl,e⟩:=I.lstM hH
 obtain⟨z2,its2,n2,r2,hl2,e2⟩:=I.lstM hB
 have hsz:its.toArray.size+its2.toArray.size<=sizeLine:=by rw[List.size_toArray,List.size_toArray];omega
 have hlong:¬ (!its.toArray.isEmpty && Builtin.List.listTooLong (its.toArray.size+its2.toArray.size))=true:=by
   rw[notLongL hsz,Bool.and_false]
   exact Bool.false_ne_true
 refine call_meets F.slot_list_extend ⟨_,e,rfl⟩ F.entry_list_extend (F.args_list_extend_2 _ _)
   (AutoSeq1.list_extend_list_list_0 l its.toArray n b its2.toArray n2 hlong (by rw[List.size_toArray];omega) (by omega)) ⟨e,e2,?_⟩
 refine⟨.non,_,I.lset (its':=its++its2) hH e (by simp) (r.append r2) ?_,rfl,q⟩
 rw[List.length_append]
 omega
noncomputable def rReverse:V->List V->Hp->VK->Prop:=fun x vs H Q=>∃l xs,x = .ref l/\vs=[]/\H l=some (.lst xs)/\Q .non (upd H l (.lst xs.reverse))
theorem mt_reverse:MtM X "list.reverse" rReverse:=by
 intro pins s σ H x vs v us Q I rx rv h
 obtain⟨l,xs,rfl,rfl,hH,q⟩:=h
 cases rx
 have hus:=rv.zero
 subst hus
 obtain⟨z,its,n,r,hl,e⟩:=I.lstM hH
 refine call_meets F.slot_list_reverse ⟨_,e,rfl⟩ F.entry_list_reverse (F.args_list_reverse_1 _) (AutoSeq1.list_reverse_list_0 l its.toArray n (by rw[List.size_toArray];omega)) ⟨e,?_⟩
 refine⟨.non,_,I.lset (its':=its.reverse) hH e (by simp) r.reverse ?_,rfl,q⟩
 rw[List.length_reverse]
 omega
inductive zW5  (x:V)(y:V)(H:Hp)(Q:VK):Prop
 | mk (l b xs zs:_)(h0:x = .ref l)(h1:y = .ref b)(h2:H l=some (.lst xs))(h3:H b=some (.lst zs))(h4:xs.length+zs.length<=sizeLine)(h5:∀p,H p=none->Q (.ref p) (upd H p (.lst (xs++zs)))):zW5  x y H Q
noncomputable def rCat:R2:=fun x y H Q=>zW5  x y H Q
theorem op_cat:OpR X (binaryOp .Add) rCat:=by
 intro pins s σ H x y v u Q I rx ry h
 obtain⟨l,b,xs,zs,rfl,rfl,hH,hB,hz,q⟩:=h
 cases rx
 cases ry
 obtain⟨z,its,n,r,hl,e⟩:=I.lstM hH
 obtain⟨z2,its2,n2,r2,hl2,e2⟩:=I.lstM hB
 refine PySem.P.add_list e e2 ?_ (by rw[List.size_toArray,List.size_toArray];omega)
 have ea:its.toArray++its2.toArray=(its++its2).toArray:=by simp
 rw[ea]
 exact⟨.ref _,_,I.lnew (t':=s.toks) (r.append r2) (by rw[List.length_append];omega),rfl,q _ I.fresh⟩
end
section
variable {prog:Program} {w:World} {A:Around} {E:Value->Shared->Prop} {s:Shared}
end
section
variable {X:Cx}
end
end L2
namespace Att
open PySem PySem.W PySem.Calls PyProof.Rows
theorem ints_of_wellAll {P:Params}{h:Heap}:∀(ns:List Int) (vs:List Value),WellAll P h vs (ns.map WData.int)->IntsAre vs ns:=by
 intro ns
 induction ns with
 | nil =>
   intro vs w
   rw[List.map_nil] at w
   cases w
   exact .nil
 | cons n ns ih =>
   intro vs w
   rw[List.map_cons] at w
   cases w with
   | cons a b =>
     cases a
     exact .cons _ _ (ih _ b)
theorem script_of {l:OpenLaw}{n:Nat}(hn:l.most=some n){P:Params}{h:Heap}{args:List WData}{vals:List Value}
   (hpre:l.row.toRowW.claim.pre args=true) (hwl:WellAll P h vals args) :
   ∃a vs ns,vals=[Value.ref a]/\args=[WData.list (ns.map WData.int)]/\h.get? a=some { cls:=.type "list",data:=.seq vs.toArray }/\IntsAre vs ns/\ns.length<=n:=by
 have hsh:WShape.hasAll [] args [.list .int]=true:=(pre_splitW hpre).1
 have hc:l.pre.holds [] { args:=args }=true:=(pre_splitW hpre).2
 obtain⟨d,r,rfl,h1,h2⟩:=hasAllW_cons hsh
 obtain rfl:=hasAllW_nil h2
 obtain⟨xs,rfl,h3⟩:=hasW_list h1
 obtain⟨ns,rfl⟩:=items_int h3
 have hlen:ns.length<=n:=by
   unfold OpenLaw.pre at hc
   have h4:(WTm.not (.lt (.lit (.int (n:Int))) (.len (.arg 0)))).holds [] { args:=[.list (ns.map .int)] }=true:=by
     have h4:=(holds_andW hc).1
     rw[hn] at h4
     exact h4
   have h5:=condW_of h4 (w_not (w_lt w_lit (w_len_list (w_arg rfl))))
   rw[List.length_map] at h5
   refine Nat.le_of_not_lt fun q=>?_
   have q':(n:Int)<((ns.length:Nat):Int):=by omega
   first
     | (rw[decide_eq_true q'] at h5;exact absurd h5 (by decide))
     | (simp at h5;omega)
 cases hwl with
 | cons w1 w2 =>
   cases w2
   cases w1 with
   | list ho hall=>exact⟨_,_,ns,rfl,rfl,ho,ints_of_wellAll ns _ hall,hlen⟩
theorem post_true (l:OpenLaw)(args:List WData):l.row.toRowW.claim.post args (.bool true) args=true :=
 postW_of (r:=l.row.toRowW) (X:=(true == true))
   (show WShape.has [] (.bool true) .bool=true by first | rfl | decide | simp[WShape.has,WShape.arms,WShape.armsAll])
   (show(WTm.eq .res (.lit (.bool true))).value [] { args:=args,res:=some (.bool true),after:=args }=some (.bool (true == true)) from w_eq_bool (w_res rfl) w_lit) rfl
theorem attach_call {l:OpenLaw}{n:Nat}{q:Program}{loose:List Str}{XP:(Str->Option Value)->Heap->Prop}{YP:World->Heap->Prop}{d:DefRec}
   (hn:l.most=some n) (hdf:d.params.defaults=[])
   (call:∀(w:World) (s₀ s₁:Shared) (mg mb:Str->Option Value) (fa:Addr) (o:Obj) (pm cd doc:Value) (a:Addr) (vs:List Value) (ns:List Int),
     Ground q loose [] XP w s₀ mg mb s₁.heap->YP w s₁.heap →
     s₁.heap.get? fa=some o->o.data = .func (docDef d.name d.params d.body d.scope pm cd doc)->s₁.heap.CodeRec cd d.name->mg d.name=some (.ref fa) →
     s₁.heap.get? a=some { cls:=.type "list",data:=.seq vs.toArray }->IntsAre vs ns->ns.length<=n->s₁.gens = #[] →
     codeAny (model l.prog w) callerA (.call (.ref fa) ⟨[.ref a],[]⟩) (fun r s'=>r = .ok (.ret (.bool true))/\OldK s₁.heap s'.heap/\s'.os=s₁.os/\AllBare s'.gens) s₁) :
   WalkO q loose XP YP l.row.toRowW d [] (fun f vs=>PySem.call f vs):=by
 intro w s₀ s₁ mg mb G Y fa o pm cd doc dV kV ho hd hcd hD hmg hg args vals as hpre hlay hrd hwl hlo
 obtain rfl:dV = .none:=Dflts.none hD hdf
 obtain rfl:kV = .none:=Dflts.noKw hD
 obtain⟨a,vs,ns,rfl,rfl,hobj,hints,hlen⟩:=script_of hn hpre hwl
 refine enter_call (codeAny_mono (call w s₀ s₁ mg mb fa o pm cd doc a vs ns G Y ho (fd_plain hd) hcd hmg hobj hints hlen hg) fun r s' hq=>?_)
 obtain⟨rfl,h2,h3,h4⟩:=hq
 exact⟨.inl ⟨.bool true,.bool true,[],rfl,fun _=>rfl,.bool true,post_true l _,fun _=>⟨List.Pairwise.nil,fun _ hm=>(nomatch hm)⟩⟩,h2,h3,h4⟩
section
variable {prog:Program} {w:World} {A:Around} {E:Value->Shared->Prop} {s:Shared} {K:Frag}
end
end Att
namespace L2
open PySem PySem.Spec PyProof.Rows
theorem zA8:∀ {vs:List Value} {ns:List Int},IntsAre vs ns->Vals (ns.map V.int) vs
 | _,_,.nil=>.nil
 | _,_,.cons n t h=>.cons ⟨t,rfl⟩ (zA8 h)
noncomputable def Only (H:Hp):Prop:=∀b,H b=none\/∃o xs,H b=some (.frz o (.lst xs))
theorem law_call {P:Program}{w:World}{K:W.Frag}{mg mb:Str->Option Value}{CX:CXT}{k:Nat}{fa a:Addr}{fd:FuncData}{x:Str}{sp:Sp}{s₁:Shared}{vs:List Value}{ns:List Int}
   (KX:K.In s₁.heap) (hns:s₁.heap.Ns mainGlobals mg) (hb:s₁.heap.Ns builtinsNs mb) (hbb:∀x:Str,x≠"__name__"->mb x=bootBuiltins x) (hlim:s₁.heap.NoLimit) (hg:s₁.gens = #[])
   (ha:s₁.heap.get? a=some { cls:=.type "list",data:=.seq vs.toArray }) (hi:IntsAre vs ns) (hl:ns.length<=sizeLine) (hr:Room k callerA)
   (F:∀base:Heap,K.In base->base.Ns mainGlobals mg->FnOk P w K mg base CX k fa fd [x] sp) (hbind:∀(s:Shared) (u:Value),BindsTo s fd ⟨[u],[]⟩ [(x,u)])
   (hsp:∀H:Hp,Only H->SqL K H a (ns.map V.int)->sp [.ref a] H (fun v _=>v = .bl true) fun _ _ _=>False)
   (hCX:∀H e s',CX [] H s₁ (fun _ _ _=>False) e s'->False) :
   codeAny (model P w) callerA (.call (.ref fa) ⟨[.ref a],[]⟩) (fun r s'=>r = .ok (.ret (.bool true))/\OldK s₁.heap s'.heap/\s'.os=s₁.os/\AllBare s'.gens) s₁:=by
 have rv:=zA8 hi
 have lenV:=hi.length
 have core:∀H:Hp,Only H->SqL K H a (ns.map V.int)->HOk P w H s₁.heap->(∀b,H b≠none->b=a)->(H a≠none->K.lookup a=none) →
     codeAny (model P w) callerA (.call (.ref fa) ⟨[.ref a],[]⟩) (fun r s'=>r = .ok (.ret (.bool true))/\OldK s₁.heap s'.heap/\s'.os=s₁.os/\AllBare s'.gens) s₁:=by
   intro H hO hS hok hA hK
   have base_of:∀ {b:Addr} {o:Obj},s₁.heap.get? b=some o->H b=none->(hidT s₁.heap H).get? b=some o:=fun e n=>hidT_get e n
   have noA:∀ {b:Addr} {o:Obj} {es:Array DictEntry} {ep:Nat},s₁.heap.get? b=some o->o.data = .dict es ep->H b=none:=fun {b o es ep} e d=>by
     cases q:H b with
     | none=>rfl
     | some u =>
       have e':b=a:=hA b (by rw[q];simp)
       subst e'
       rw[ha] at e;cases e
       have d':Data.seq vs.toArray _=Data.dict es ep:=d
       cases d'
   have nsK:∀ {b:Addr} {m:Str->Option Value},s₁.heap.Ns b m->(hidT s₁.heap H).Ns b m:=fun {b m} ⟨o,es,ep,e,d,r⟩=>⟨o,es,ep,base_of e (noA e d),d,r⟩
   have hKb:K.In (hidT s₁.heap H):=fun b o e=>base_of (KX b o e) (by
     cases q:H b with
     | none=>rfl
     | some u =>
       have e':b=a:=hA b (by rw[q];simp)
       subst e'
       rw[hK (by rw[q];simp)] at e;cases e)
   have hM:Mod K mg (hidT s₁.heap H):=⟨hKb,nsK hns,⟨mb,nsK hb,hbb⟩,let⟨mc,h1,h2⟩:=hlim;⟨mc,nsK h1,h2⟩⟩
   have e0:Env0 P w K mg (hidT s₁.heap H) callerA [] s₁ H:=⟨rfl,hM,fun b o e=>of_hidT e,Nat.le_of_eq (hidT_size _ _),trivial,fun b hb=>absurd (show b∈([]:List Addr) from hb) (by simp),hok,.of_eq hg⟩
   refine codeAny_mono ((F _ hKb (nsK hns)).run callerA [] s₁ H ⟨[.ref a],[]⟩ [.ref a] [.ref a] _ _ hr e0 (hbind s₁ (.ref a)) (.cons rfl .nil) (hsp H hO hS)) fun r s' h=>?_
   cases r with
   | error e=>exact(hCX H e s' h).elim
   | ok fl =>
     cases fl with
     | next=>exact False.elim h
     | brk=>exact False.elim h
     | cont=>exact False.elim h
     | ret u =>
       obtain⟨v,H',os,bare,un,hok',r',q⟩:=h
       have q':v = .bl true:=q
       subst q'
       obtain rfl:u=Value.bool true:=r'
       refine⟨rfl,OldK.of_keep fun b o e=>?_,os,bare⟩
       cases q:H b with
       | none=>exact un.keep b o e q (by intro z;exact absurd (show b∈([]:List Addr) from z) (by simp)) (by simp)
       | some u =>
         rcases hO b with z | ⟨ob,xs,z⟩
         . rw[q] at z;cases z
         . have z2:=un.frzs b ob _ z
           obtain⟨e1,_⟩:=hok b _ z
           obtain⟨e2,_⟩:=hok' b _ z2
           rw[e] at e1;cases e1
           exact e2
 cases hk:K.lookup a with
 | some o =>
   have e:=KX a o hk
   rw[ha] at e
   cases e
   refine core (fun _=>none) (fun _=>.inl rfl) (.inr ⟨_,vs.toArray,_,hk,rfl,rfl,rfl,by rw[List.size_toArray,lenV];exact hl,by simpa using rv⟩) (fun b u z=>by have z':(none:Option HO)=some u:=z;cases z') (fun b z=>absurd rfl z) fun z=>absurd rfl z
 | none =>
   refine core (fun b=>if b=a then some (.frz { cls:=.type "list",data:=.seq vs.toArray } (.lst (ns.map V.int))) else none) (fun b=>?_) (.inl (.inr ⟨{ cls:=.type "list",data:=.seq vs.toArray },if_pos rfl⟩)) (fun b u z=>?_) (fun b z=>?_) fun _=>hk
   . by_cases hb:b=a
     . exact .inr ⟨_,_,if_pos hb⟩
     . exact .inl (if_neg hb)
   . by_cases hb:b=a
     . have z':=(if_pos hb).symm.trans z
       cases z'
       subst hb
       exact⟨ha,by rw[List.length_map];exact hl,vs,_,rv,ha⟩
     . have z':=(if_neg hb).symm.trans z
       cases z'
   . by_cases hb:b=a
     . exact hb
     . exact absurd (if_neg hb) z
theorem walk_of {l:W.OpenLaw}{n k:Nat}{q:Program}{loose:List Str}{XP:(Str->Option Value)->Heap->Prop}{YP:World->Heap->Prop}{d:DefRec}{K:Params->W.Frag}{CX:World->CXT}{sp:World->Sp}{x:Str}
   (hn:l.most=some n) (hn2:n<=sizeLine) (hdf:d.params.defaults=[]) (hr:Room k callerA)
   (hY:∀(w:World) (h:Heap),YP w h->(K w.params).In h)
   (F:∀(w:World) (mg:Str->Option Value) (fa:Addr) (h:Heap),(K w.params).In h->h.Ns mainGlobals mg->mg d.name=some (.ref fa) →
     ∃fd:FuncData,(∀(s:Shared) (u:Value),BindsTo s fd ⟨[u],[]⟩ [(x,u)]) ∧
       ∀base:Heap,(K w.params).In base->base.Ns mainGlobals mg->FnOk l.prog w (K w.params) mg base (CX w) k fa fd [x] (sp w))
   (hsp:∀(w:World) (H:Hp) (a:Addr) (ns:List Int),ns.length<=n->Only H->SqL (K w.params) H a (ns.map V.int)->sp w [.ref a] H (fun v _=>v = .bl true) fun _ _ _=>False)
   (hCX:∀(w:World) (H:Hp) (s:Shared) (e:Value) (s':Shared),CX w [] H s (fun _ _ _=>False) e s'->False) :
   W.WalkO q loose XP YP l.row.toRowW d [] (fun f vs=>PySem.call f vs):=by
 refine Att.attach_call hn hdf fun w s₀ s₁ mg mb fa o pm cd doc a vs ns G Y ho hd hcd hmg hobj hints hlen hg=>?_
 have KX:=hY w _ Y
 obtain⟨fd,hb,hF⟩:=F w mg fa _ KX G.T.g hmg
 exact law_call KX G.T.g G.T.b G.T.builtins G.T.nolimit hg hobj hints (Nat.le_trans hlen hn2) hr hF hb (fun H hO hS=>hsp w H a ns hlen hO hS) fun H e s'=>hCX w H s₁ e s'
noncomputable def zg0 (s:Stmt)(j:Nat):Stmt:=match s with
 | .ClassDef _ _ _ body _ _ _ _ _ _ _=>body.getD j (.Pass ⟨0,0,0,0⟩)
 | _=>.Pass ⟨0,0,0,0⟩
noncomputable def zb1 (s:Stmt):Arguments:=match s with
 | .FunctionDef _ a _ _ _ _ _ _ _ _=>a
 | _=>{ posonlyargs:=[],args:=[],vararg:=none,kwonlyargs:=[],kw_defaults:=[],kwarg:=none,defaults:=[] }
noncomputable def za9 (s:Stmt):List Stmt:=match s with
 | .FunctionDef _ _ b _ _ _ _ _ _ _=>b
 | _=>[]
noncomputable def za2 (s:Stmt):Scope:=match s with
 | .FunctionDef _ _ _ _ _ _ sc _ _ _=>sc
 | _=>{ kind:=.function,names:=[],isGenerator:=false,isCoroutine:=false }
noncomputable abbrev CX0:CXT:=fun _ _ _ _ _ _=>False
noncomputable abbrev E0:XK:=fun _ _ _=>False
theorem zb4 {X:Cx}:zm5 CX0 X E0:=fun _ _ _ _ _ _ _ h=>h.elim
structure Fun (K:W.Frag)(x qual:Str)(st:Stmt)(f:Addr)(fd:FuncData):Prop where
 ex:∃(oc:Value) (od:Option Addr) (kV doc pm:Value) (an:Option Addr) (cdv ct:Value) (osl:Array (Option Value)),
   fd=W.fnOf x qual (zb1 st) (za9 st) (za2 st) .none kV doc pm an cdv ct/\K.lookup f=some ⟨oc,od,.func fd,osl⟩/\W.codeIn K cdv qual=true
 kp:W.keepIn K (.ref f)=true
section
variable {P:Program} {w:World} {K:W.Frag} {mg:Str->Option Value} {base:Heap}
theorem Fun.ok {x qual:Str}{st:Stmt}{f:Addr}{fd:FuncData}{N ps:List Str}{k:Nat}{sp:Sp}(F:Fun K x qual st f fd)(S:zb5 N ps (za2 st))(len:∀vs H Q E,sp vs H Q E->vs.length=ps.length)
   (hbody:∀(cdv:Value) (A:Around) (outer:List Env) (s:Shared) (H:Hp) (vs:List V) (Q:VK) (E:XK),Room k (A.deeper (envOfC qual (za2 st) s.heap.objs.size f cdv))->sp vs H Q E →
     ∃t,PSs (cxOf CX0 P w K mg base N qual (za2 st) f cdv A outer s H E).nox (za9 st) t/\t { nx:=fun _ H'=>Q .non H',rt:=Q } (zv7 N vs) H):FnOk P w K mg base CX0 (k+1) f fd ps sp:=by
 obtain⟨oc,od,kV,doc,pm,an,cdv,ct,osl,rfl,lk,hcd⟩:=F.ex
 refine zV9 lk hcd S len fun A outer s H vs Q E hr hsp=>?_
 obtain⟨t,h,q⟩:=hbody cdv A outer s H vs Q E hr hsp
 exact⟨t,h.nox,q⟩
theorem Fun.binds {x qual:Str}{st:Stmt}{f:Addr}{fd:FuncData}{ps:List Str}(F:Fun K x qual st f fd)
   (h:∀(kV doc pm:Value) (an:Option Addr) (cdv ct:Value) (us:List Value),us.length=ps.length->bindArgs (W.fnOf x qual (zb1 st) (za9 st) (za2 st) .none kV doc pm an cdv ct) ⟨us,[]⟩=pure (ps.zip us)):zb6 K fd ps []:=by
 obtain⟨oc,od,kV,doc,pm,an,cdv,ct,osl,rfl,lk,hcd⟩:=F.ex
 exact .all (h kV doc pm an cdv ct)
theorem zd5 {x qual:Str}{st:Stmt}{f:Addr}{oc:Value}{od an:Option Addr}{osl:Array (Option Value)}{kV doc pm cdv ct:Value}(l:K.lookup f=some ⟨oc,od,.func (W.fnOf x qual (zb1 st) (za9 st) (za2 st) .none kV doc pm an cdv ct),osl⟩)
 (c:W.codeIn K cdv qual=true) (k:W.keepIn K (.ref f)=true):Fun K x qual st f (W.fnOf x qual (zb1 st) (za9 st) (za2 st) .none kV doc pm an cdv ct):=⟨⟨oc,od,kV,doc,pm,an,cdv,ct,osl,rfl,l,c⟩,k⟩
end
theorem zE5 {A:Around}{k:Nat}(hr:Room k A):A.units+1<cLine:=Nat.lt_of_le_of_lt (Nat.add_le_add_left (by decide:1<=64) _) hr.units
theorem zg6 {n:Nat}(h:n<=1000):n<sizeLine:=Nat.lt_of_le_of_lt h (by decide)
section
variable {X:Cx}
theorem pv (i:Nat) {x:Str} {pos:Pos} (hN:X.N[i]?=some x:=by rfl) (hv:Vis X.env.scope x:=by first | exact Or.inl rfl | exact Or.inr (Or.inl rfl) | exact Or.inr (Or.inr rfl)) (hd:(x == ("__debug__" : Str))=false:=by decide)
 (hcd:(x == ("__classdict__" : Str))=false:=by decide):PE X (.Name x pos) (tVar i):=pe_var hN hv hd hcd
end
theorem iteF {A B:Prop}(h:B):if false=true then A else B:=by
 rw[if_neg Bool.false_ne_true]
 exact h
theorem iteT {A B:Prop}(h:A):if true=true then A else B:=by
 rw[if_pos rfl]
 exact h
theorem ite2 {c A B:Prop}[Decidable c](h1:c->A)(h2:¬ c->B):if c then A else B:=by
 by_cases h:c
 . rw[if_pos h]
   exact h1 h
 . rw[if_neg h]
   exact h2 h
noncomputable def Same (H H':Hp):Prop:=∀b o,H b=some o->H' b=some o
theorem Same.refl (H:Hp):Same H H:=fun _ _ h=>h
theorem Same.trans {H H1 H2:Hp}(a:Same H H1)(b:Same H1 H2):Same H H2:=fun c o h=>b c o (a c o h)
theorem Same.free {H H':Hp}(e:Same H H'){l:Addr}(h:H' l=Option.none):H l=Option.none:=by
 cases q:H l with
 | none=>rfl
 | some o =>
   rw[e l o q] at h
   cases h
theorem Same.seq {K:W.Frag}{H H':Hp}{a:Addr}{xs:List V}(e:Same H H')(h:SqL K H a xs):SqL K H' a xs:=by
 rcases h with(h | ⟨o,h⟩) | h
 . exact .inl (.inl (e _ _ h))
 . exact .inl (.inr ⟨o,e _ _ h⟩)
 . exact .inr h
theorem cut3 {s1 s2 s3:TS}{D:Ends}{σ:St}{H:Hp}(h:let r3:=s3;let r2:=tSeq s2 r3;tSeq s1 r2 D σ H):(tSeq s1 (tSeq s2 (s3))) D σ H:=h
theorem cut4 {s1 s2 s3 s4:TS}{D:Ends}{σ:St}{H:Hp}(h:let r4:=s4;let r3:=tSeq s3 r4;let r2:=tSeq s2 r3;tSeq s1 r2 D σ H):(tSeq s1 (tSeq s2 (tSeq s3 (s4)))) D σ H:=h
theorem cut5 {s1 s2 s3 s4 s5:TS}{D:Ends}{σ:St}{H:Hp}(h:let r5:=s5;let r4:=tSeq s4 r5;let r3:=tSeq s3 r4;let r2:=tSeq s2 r3;tSeq s1 r2 D σ H):(tSeq s1 (tSeq s2 (tSeq s3 (tSeq s4 (s5))))) D σ H:=h
theorem cut6 {s1 s2 s3 s4 s5 s6:TS}{D:Ends}{σ:St}{H:Hp}(h:let r6:=s6;let r5:=tSeq s5 r6;let r4:=tSeq s4 r5;let r3:=tSeq s3 r4;let r2:=tSeq s2 r3;tSeq s1 r2 D σ H):(tSeq s1 (tSeq s2 (tSeq s3 (tSeq s4 (tSeq s5 (s6)))))) D σ H:=h
theorem cut7 {s1 s2 s3 s4 s5 s6 s7:TS}{D:Ends}{σ:St}{H:Hp}(h:let r7:=s7;let r6:=tSeq s6 r7;let r5:=tSeq s5 r6;let r4:=tSeq s4 r5;let r3:=tSeq s3 r4;let r2:=tSeq s2 r3;tSeq s1 r2 D σ H):(tSeq s1 (tSeq s2 (tSeq s3 (tSeq s4 (tSeq s5 (tSeq s6 (s7))))))) D σ H:=h
theorem cut8 {s1 s2 s3 s4 s5 s6 s7 s8:TS}{D:Ends}{σ:St}{H:Hp}(h:let r8:=s8;let r7:=tSeq s7 r8;let r6:=tSeq s6 r7;let r5:=tSeq s5 r6;let r4:=tSeq s4 r5;let r3:=tSeq s3 r4;let r2:=tSeq s2 r3;tSeq s1 r2 D σ H):(tSeq s1 (tSeq s2 (tSeq s3 (tSeq s4 (tSeq s5 (tSeq s6 (tSeq s7 (s8)))))))) D σ H:=h
theorem cut13 {s1 s2 s3 s4 s5 s6 s7 s8 s9 s10 s11 s12 s13:TS}{D:Ends}{σ:St}{H:Hp}(h:let r13:=s13;let r12:=tSeq s12 r13;let r11:=tSeq s11 r12;let r10:=tSeq s10 r11;let r9:=tSeq s9 r10;let r8:=tSeq s8 r9;let r7:=tSeq s7 r8;let r6:=tSeq s6 r7;let r5:=tSeq s5 r6;let r4:=tSeq s4 r5;let r3:=tSeq s3 r4;let r2:=tSeq s2 r3;tSeq s1 r2 D σ H):(tSeq s1 (tSeq s2 (tSeq s3 (tSeq s4 (tSeq s5 (tSeq s6 (tSeq s7 (tSeq s8 (tSeq s9 (tSeq s10 (tSeq s11 (tSeq s12 (s13))))))))))))) D σ H:=h
section
variable {prog:Program} {w:World} {A:Around} {R:Result->Shared->Prop} {s:Shared}
theorem compLoop_go {elt target iter:Expr}{ifs:List Expr}{scope:Scope}{pos:Pos}{it acc:Value}{env:Env}(I:Nat->Shared->Prop)
   (turn:∀n s,I n s->wpAny (model prog w) A (pyNext it) (fun r s1=>match r with
     | none=>R (.ok .next) s1
     | some v=>wpAny (model prog w) A (letOwnedTupleGo target it v) (fun _ s1'=>wpAny (model prog w) A (assign target env v) (fun _ s2 =>
         wpAny (model prog w) A (forIn ifs true fun c r=>if r=true then do let ok <-isTrue c env (eval c env);pure (ForInStep.yield ok) else pure (ForInStep.yield r)) (fun ok s3 =>
           if ok=true then wpAny (model prog w) A (eval elt env) (fun x s4 =>
             wpAny (model prog w) A (call (.builtin "list.append") [acc,x]) (fun _ s5=>∃m,m<n/\I m s5) (fun _ _=>False) s4) (fun _ _=>False) s3
           else ∃m,m<n/\I m s3) (fun _ _=>False) s2) (fun _ _=>False) s1') (fun _ _=>False) s1) (fun _ _=>False) s)
   (n:Nat) (h:I n s) :
   codeAny (model prog w) A (.compLoop (.ListComp elt [⟨target,iter,ifs,0⟩] scope pos) 0 it acc env) R s:=by
 refine codeAny_loop rfl I (fun n s hI=>?_) n h
 show wpAny _ A ((compTurn (.ListComp elt [⟨target,iter,ifs,0⟩] scope pos) 0 it acc env).onRaise (fun x=>do noteFrame x env;theTreesLotGoes x)) _ _ s
 refine wpAny_noted ?_
 rw[compTurn_list]
 refine wpAny_bind (wpAny_standAt (wpAny_bind (wpAny_mono (turn n s hI) (fun r s1 h1=>?_) fun _ _ h'=>h'.elim)))
 cases r with
 | none=>exact wpAny_pure h1
 | some v =>
   refine wpAny_bind (wpAny_mono h1 (fun _ s1' h1'=>?_) fun _ _ h'=>h'.elim)
   refine wpAny_bind (wpAny_mono h1' (fun _ s2 h2=>wpAny_bind (wpAny_mono h2 (fun ok s3 h3=>?_) fun _ _ h'=>h'.elim)) fun _ _ h'=>h'.elim)
   cases ok with
   | false=>exact wpAny_pure ⟨rfl,h3⟩
   | true=>exact wpAny_bind (wpAny_bind (wpAny_mono h3 (fun x s4 h4=>wpAny_bind (wpAny_mono h4 (fun _ s5 h5=>wpAny_pure (wpAny_pure ⟨rfl,h5⟩)) fun _ _ h'=>h'.elim)) fun _ _ h'=>h'.elim))
end
theorem closure_of {scope:Scope}{env:Env}(h:∀y∈scope.names,y.2 = .free->∃c,env.cells.lookup y.1=some c) :
   ∃cl,closureFor scope env=pure cl/\(∀x c,cl.lookup x=some c->env.cells.lookup x=some c)/\∀y∈scope.names,y.2 = .free->∃c,cl.lookup y.1=some c:=by
 have all:∀(names:List (Str×NameKind)) (acc:List (Str×Addr)) (f:Str×NameKind->List (Str×Addr)->Sem (ForInStep (List (Str×Addr)))),
     (∀n k c,f (n,k) c=if k == .free then(do let a <-cellOf env n;pure (.yield ((n,a)::c))) else pure (.yield c)) →
     (∀y∈names,y.2 = .free->∃c,env.cells.lookup y.1=some c)->(∀x c,acc.lookup x=some c->env.cells.lookup x=some c) →
     ∃cl,forIn names acc f=pure cl/\(∀x c,cl.lookup x=some c->env.cells.lookup x=some c)/\(∀x c,acc.lookup x=some c->∃c',cl.lookup x=some c')/\∀y∈names,y.2 = .free->∃c,cl.lookup y.1=some c:=by
   intro names
   induction names with
   | nil=>intro acc f _ _ ha;exact⟨acc,by rw[List.forIn_nil],ha,fun x c e=>⟨c,e⟩,fun y hy=>nomatch hy⟩
   | cons y r ih =>
     intro acc f hf hy ha
     obtain⟨n,k⟩:=y
     rw[List.forIn_cons,hf]
     by_cases hk:k = .free
     . subst hk
       obtain⟨c,hc⟩:=hy (n,.free) List.mem_cons_self rfl
       have hc':env.cells.lookup n=some c:=hc
       have ec:cellOf env n=pure c:=by unfold cellOf;rw[hc']
       rw[if_pos (by decide),ec,pure_bind,pure_bind]
       obtain⟨cl,e,h1,h2,h3⟩:=ih ((n,c)::acc) f hf (fun y hy'=>hy y (List.mem_cons_of_mem _ hy')) (fun x c' e=>by
         rw[List.lookup_cons] at e
         cases hx:x == n with
         | true=>rw[hx] at e;cases e;rw[eq_of_beq hx];exact hc'
         | false=>rw[hx] at e;exact ha x c' e)
       refine⟨cl,e,h1,fun x c' e'=>?_,fun y hy' hk'=>?_⟩
       . cases hx:x == n with
         | true=>exact h2 x c (by rw[List.lookup_cons,hx])
         | false=>exact h2 x c' (by rw[List.lookup_cons,hx];exact e')
       . rcases List.mem_cons.mp hy' with z | z
         . subst z;exact h2 n c (by rw[List.lookup_cons];simp)
         . exact h3 y z hk'
     . have hb:(k == NameKind.free)=false:=by simpa using hk
       rw[hb]
       rw[if_neg (by decide),pure_bind]
       obtain⟨cl,e,h1,h2,h3⟩:=ih acc f hf (fun y hy'=>hy y (List.mem_cons_of_mem _ hy')) ha
       refine⟨cl,e,h1,h2,fun y hy' hk'=>?_⟩
       rcases List.mem_cons.mp hy' with z | z
       . subst z;exact absurd hk' hk
       . exact h3 y z hk'
 have fin:∀f:Str×NameKind->List (Str×Addr)->Sem (ForInStep (List (Str×Addr))),
     (∀n k c,f (n,k) c=if k == .free then(do let a <-cellOf env n;pure (.yield ((n,a)::c))) else pure (.yield c)) →
     ∃cl,(forIn scope.names [] f >>= fun r=>pure r)=pure cl/\(∀x c,cl.lookup x=some c->env.cells.lookup x=some c)/\∀y∈scope.names,y.2 = .free->∃c,cl.lookup y.1=some c:=fun f hf=>by
   obtain⟨cl,e,h1,_,h3⟩:=all scope.names [] f hf h (fun x c e=>by cases e)
   exact⟨cl,by rw[e,pure_bind],h1,h3⟩
 unfold closureFor
 exact fin _ (fun n k c=>by cases hk:k == NameKind.free<;>simp[hk])
noncomputable def Cx.comp (X:Cx)(scope:Scope)(cl:List (Str×Addr))(C:Addr)(N':List Str)(s0:Shared)(H0:Hp)(fp:List Addr):Cx :=
 { X with N:=N',s₀:=s0,H₀:=H0,env:=compEnvC scope cl C X.env,outer:=X.stack,ex:=fp,fn:=fun _=>false,pn:=[],xe:=fun _ _=>False }
noncomputable def selS (ix:List (Option Nat))(σ:St):St:=ix.map fun o=>o.bind fun j=>(σ[j]?).join
structure zi4 (ON:List Str)(osc scope:Scope)(N':List Str)(ix:List (Option Nat)):Prop where
 kind:scope.kind = .function
 nocell:∀y∈scope.names,y.2≠.cell
 names:∀y∈scope.names,y.2 = .local->scope.names.lookup y.1=some .local
 frees:∀y∈scope.names,y.2 = .free->osc.names.lookup y.1=some .cell
 len:ix.length=N'.length
 nd:N'.Nodup
 chk:((ix.zip N').all fun p=>match p.1 with | none=>true | some j=>decide (ON[j]?=some p.2) && decide (scope.names.lookup p.2=some .free))=true
theorem zi4.sel {ON:List Str}{osc scope:Scope}{N':List Str}{ix:List (Option Nat)}(S:zi4 ON osc scope N' ix)(i j:Nat)(x:Str)(h1:ix[i]?=some (some j))(h2:N'[i]?=some x):ON[j]?=some x/\scope.names.lookup x=some .free:=by
 have hz:(ix.zip N')[i]?=some (some j,x):=by rw[List.getElem?_zip_eq_some];exact⟨h1,h2⟩
 have:=List.all_eq_true.mp S.chk _ (List.mem_of_getElem? hz)
 simp only[Bool.and_eq_true,decide_eq_true_eq] at this
 exact this
theorem zx3 {env:Env}:∀ {names:List (Str×NameKind)} {x:Str},names.lookup x=some .free →
   ((names.map fun(n,k)=>if (k == NameKind.free && env.scope.kind == .function && env.kindOf n == some .cell) then(n,NameKind.cell) else(n,k)).lookup x=some .cell ∨
    (names.map fun(n,k)=>if (k == NameKind.free && env.scope.kind == .function && env.kindOf n == some .cell) then(n,NameKind.cell) else(n,k)).lookup x=some .free)
 | [],_,h=>by simp at h
 | (n,k)::r,x,h=>by
   have ih:=@zx3 env r x
   rw[List.map_cons]
   cases hx:x == n with
   | true =>
     rw[List.lookup_cons,hx] at h
     cases h
     by_cases hc:(NameKind.free == NameKind.free && env.scope.kind == .function && env.kindOf n == some .cell)=true
     . left;simp only[hc,if_true,List.lookup_cons,hx]
     . right
       have hc':(NameKind.free == NameKind.free && env.scope.kind == .function && env.kindOf n == some .cell)=false:=by simpa using hc
       simp only[hc',Bool.false_eq_true,if_false,List.lookup_cons,hx]
   | false =>
     rw[List.lookup_cons,hx] at h
     have ih':=ih h
     by_cases hc:(k == NameKind.free && env.scope.kind == .function && env.kindOf n == some .cell)=true
     . simp only[hc,if_true,List.lookup_cons,hx];exact ih'
     . have hc':(k == NameKind.free && env.scope.kind == .function && env.kindOf n == some .cell)=false:=by simpa using hc
       simp only[hc',Bool.false_eq_true,if_false,List.lookup_cons,hx];exact ih'
theorem zx4 {env:Env}:∀ {names:List (Str×NameKind)} {x:Str},(∀y∈names,y.2≠.cell) →
   ((names.map fun(n,k)=>if (k == NameKind.free && env.scope.kind == .function && env.kindOf n == some .cell) then(n,NameKind.cell) else(n,k)).lookup x=some .cell ∨
    (names.map fun(n,k)=>if (k == NameKind.free && env.scope.kind == .function && env.kindOf n == some .cell) then(n,NameKind.cell) else(n,k)).lookup x=some .free)->(x,NameKind.free)∈names
 | [],_,_,h=>by simp at h
 | (n,k)::r,x,hn,h=>by
   have ih:=@zx4 env r x fun y hy=>hn y (List.mem_cons_of_mem _ hy)
   rw[List.map_cons] at h
   cases hx:x == n with
   | true =>
     have e:=eq_of_beq hx
     subst e
     by_cases hc:(k == NameKind.free && env.scope.kind == .function && env.kindOf x == some .cell)=true
     . have hk:k = .free:=by
         have:=(Bool.and_eq_true_iff.mp (Bool.and_eq_true_iff.mp hc).1).1
         exact eq_of_beq this
       subst hk;exact List.mem_cons_self
     . have hc':(k == NameKind.free && env.scope.kind == .function && env.kindOf x == some .cell)=false:=by simpa using hc
       simp only[hc',Bool.false_eq_true,if_false,List.lookup_cons,beq_self_eq_true] at h
       rcases h with h | h
       . have hk:k = .cell:=Option.some.inj h
         exact absurd hk (hn (x,k) List.mem_cons_self)
       . have hk:k = .free:=Option.some.inj h
         subst hk;exact List.mem_cons_self
   | false =>
     refine List.mem_cons_of_mem _ (ih ?_)
     by_cases hc:(k == NameKind.free && env.scope.kind == .function && env.kindOf n == some .cell)=true
     . simp only[hc,if_true,List.lookup_cons,hx] at h;exact h
     . have hc':(k == NameKind.free && env.scope.kind == .function && env.kindOf n == some .cell)=false:=by simpa using hc
       simp only[hc',Bool.false_eq_true,if_false,List.lookup_cons,hx] at h;exact h
section
variable {X:Cx} {pins:List (Addr×Obj)} {σ:St} {H:Hp} {s:Shared}
theorem Inv.comp {scope:Scope}{N':List Str}{ix:List (Option Nat)}{cl:List (Str×Addr)}{fp:List Addr}{h':Heap}{t':Nat}(I:Inv X pins σ H s)(S:zi4 X.N X.env.scope scope N' ix)(hfp:∀b∈fp,FpOk X pins H b)(hlt:∀b∈fp,b<s.heap.objs.size)
   (c1:∀x c,cl.lookup x=some c->X.env.cells.lookup x=some c) (c2:∀y∈scope.names,y.2 = .free->∃c,cl.lookup y.1=some c)
   (ns:h'.Ns s.heap.objs.size fun _=>none) (sb:∀b o,s.heap.get? b=some o->h'.get? b=some o) :
   Inv (X.comp scope cl s.heap.objs.size N' s H fp) [] (selS ix σ) H { s with heap:=h',toks:=t' }:=by
 have fpne:∀b∈fp,b≠s.heap.objs.size:=fun b hb=>Nat.ne_of_lt (hlt b hb)
 have cin:∀x c,cl.lookup x=some c->∃v,s.heap.IsCell c v:=fun x c e=>I.cell x c (c1 x c e)
 refine⟨⟨I.ok.mod,S.kind,I.ok.glob,I.ok.blt,Nat.le_refl _,fun x y c e1 e2=>I.ok.inj x y c (c1 x c e1) (c1 y c e2),fun x hx=>?_,fun x c z=>(by cases z),I.ok.hd,I.ok.frames,.inl rfl,fun b hb=>⟨fpne b hb,fun x c e=>?_⟩,I.bs,Nat.le_trans I.ok.bsz I.sz,fun b o e hb=>?_,fun b hb hf=>?_,I.stack,I.stkFree⟩,
   rfl,I.bare,Un.kept sb,⟨_,ns,fun i x v e1 e2 e3=>?_⟩,fun x c e=>?_,I.hok.fresh (Nat.le_refl _),fun x c e=>I.freeC x c (c1 x c e),fun p hp=>(by cases hp),I.hok.kept sb,?_⟩
 . obtain⟨c,e⟩:=c2 (x,.free) (zx4 S.nocell hx) rfl
   exact⟨c,e⟩
 . exact(hfp b hb).2.2.2.2.1 x c (c1 x c e)
 . rcases(hfp b hb).2.2.2.1 with z | z
   . exact I.ok.noex b o e z
   . exact absurd (Nat.lt_of_lt_of_le (Heap.lt_size (I.ok.bs b o e).1) z) (Nat.lt_irrefl _)
 . rcases List.mem_cons.mp (I.stkSub b hf) with z | z
   . exact(hfp b hb).2.1 z
   . exact(hfp b hb).2.2.1 z
 . -- what the block sees
   have e2':ix[i]?.map (fun o=>o.bind fun j=>(σ[j]?).join)=some (some v):=by
     have:=e2
     unfold selS at this
     rwa [List.getElem?_map] at this
   cases hi:ix[i]? with
   | none=>rw[hi] at e2';cases e2'
   | some o =>
     rw[hi] at e2'
     cases o with
     | none=>cases e2'
     | some j =>
       have e4:(σ[j]?).join=some v:=Option.some.inj e2'
       have e5:σ[j]?=some (some v):=by
         cases q:σ[j]? with
         | none=>rw[q] at e4;cases e4
         | some z=>rw[q] at e4;have:z=some v:=e4;rw[this]
       obtain⟨hN,hfr⟩:=S.sel i j x hi e1
       have hk:=S.frees (x,.free) (PySem.mem_of_lookup hfr) rfl
       obtain⟨m,_,hl⟩:=I.loc
       obtain⟨u,r,lk⟩:=hl j x v hN e5 (.inr (.inl hk))
       refine⟨u,r,.inr ?_⟩
       rcases lk with⟨k1,_⟩ | ⟨_,c,ec,hc⟩
       . exact absurd (k1.symm.trans hk) (by decide)
       . obtain⟨c',ec'⟩:=c2 (x,.free) (PySem.mem_of_lookup hfr) rfl
         have:=c1 x c' ec'
         rw[ec] at this
         cases this
         refine⟨zx3 hfr,c,ec',?_⟩
         obtain⟨o,ho,hd⟩:=hc
         exact⟨o,sb c o ho,hd⟩
 . obtain⟨v,o,ho,hd⟩:=cin x c e
   exact⟨v,o,sb c o ho,hd⟩
 . show(selS ix σ).length=N'.length
   unfold selS
   rw[List.length_map]
   exact S.len
theorem Inv.uncomp {scope:Scope}{N':List Str}{cl:List (Str×Addr)}{fp:List Addr}{C:Addr}{σ':St}{H':Hp}{s':Shared}(I:Inv X pins σ H s)(hfp:∀b∈fp,FpOk X pins H b)(hC:s.heap.objs.size<=C)
   (J:Inv (X.comp scope cl C N' s H fp) [] σ' H' s'):Inv X pins σ H' s' :=
 I.call' (ch:=fp) J.os J.base J.hok J.bare fun b hb=>by
   obtain⟨f0,f1,f2,f3,f4,f5⟩:=hfp b hb
   exact⟨f3,f1,f4,f5⟩
end
noncomputable def zt1 (D:Addr)(telt:TE)(N:St->Hp->Prop):St->Hp->Prop:=fun σ H=>telt σ H fun v H1=>∃acc,H1 D=some (.lst acc)/\acc.length<sizeLine/\N σ (upd H1 D (.lst (acc++[v])))
noncomputable def tComp (wi:TI)(ix:List (Option Nat))(g:TG)(tif:TT)(telt:TE):TE:=fun σ H Q=>wi σ H fun J H1=>∀D,H1 D=none->∃W:Nat->Nat->St->Hp->Prop,(∃m,W 0 m (selS ix σ) (upd H1 D (.lst []))) ∧
 ∀i m σ' H',W i m σ' H'->(J.stop i H'/\Q (.ref D) H')\/(J.go i H'/\∃N:St->Hp->Prop,(∀σ2 H2,N σ2 H2->∃m',m'<m/\W (i+1) m' σ2 H2) ∧
   ∀x H2,J.yld i H' x H2->g x σ' H2 fun σ3 H3=>tif σ3 H3 fun b H4=>if b=true then zt1 D telt N σ3 H4 else N σ3 H4)
noncomputable def PIfs (X:Cx)(ifs:List Expr)(t:TT):Prop :=
 ∀(pins:List (Addr×Obj)) (s:Shared) (σ:St) (H:Hp) (Q:Bool->Hp->Prop),Inv X pins σ H s->t σ H Q →
   wpAny (model X.prog X.w) X.A (forIn ifs true fun c r=>if r=true then do let ok <-isTrue c X.env (eval c X.env);pure (ForInStep.yield ok) else pure (ForInStep.yield r)) (TP X pins σ Q) X.xe s
noncomputable def zN1:TT:=fun _ H Q=>Q true H
theorem zE6 {X:Cx}:PIfs X [] zN1:=fun _ _ _ H _ I h=>wpAny_tests_nil ⟨H,I,h⟩
theorem zN2 {X:Cx}{c:Expr}{t:TT}(hc:PT X c t):PIfs X [c] t:=fun pins s σ H Q I h=>wpAny_tests_one (hc pins s σ H Q I h)
section
variable {X:Cx} {scope:Scope} {N':List Str} {ix:List (Option Nat)} {tg iter elt:Expr} {ifs:List Expr} {pos:Pos} {wi:TI} {g:TG} {tif:TT} {telt:TE}
theorem comp_block {RR:Value->Addr->Result->Shared->Prop}{pins:List (Addr×Obj)}{σ:St}{s2:Shared}{H2:Hp}{it:Addr}{fp:List Addr}{tn:Nat->Heap->Prop}{J:It}{cl:List (Str×Addr)}{Q:VK}{E:Value->Shared->Prop}
   (hc:X.calm=true) (S:zi4 X.N X.env.scope scope N' ix)
   (c1:∀x c,cl.lookup x=some c->X.env.cells.lookup x=some c) (c2:∀y∈scope.names,y.2 = .free->∃c,cl.lookup y.1=some c)
   (hg:∀cl C s0 H0 fp,PG (X.comp scope cl C N' s0 H0 fp) tg g) (hif:∀cl C s0 H0 fp,PIfs (X.comp scope cl C N' s0 H0 fp) ifs tif) (he:∀cl C s0 H0 fp,PE (X.comp scope cl C N' s0 H0 fp) elt telt)
   (I2:Inv X pins σ H2 s2) (T:Turn X.prog X.w X.K tg J fp it tn) (st2:tn 0 s2.heap) (f2:∀b∈fp,FpOk X pins H2 b)
   (body:∀D,H2 D=none->∃W:Nat->Nat->St->Hp->Prop,(∃m,W 0 m (selS ix σ) (upd H2 D (.lst []))) ∧
     ∀i m σ' H',W i m σ' H'->(J.stop i H'/\Q (.ref D) H')\/(J.go i H'/\∃N:St->Hp->Prop,(∀σ2 H2,N σ2 H2->∃m',m'<m/\W (i+1) m' σ2 H2) ∧
       ∀x H2,J.yld i H' x H2->g x σ' H2 fun σ3 H3=>tif σ3 H3 fun b H4=>if b=true then zt1 D telt N σ3 H4 else N σ3 H4))
   (hRR:∀D C s3 s' H' m,Inv X pins σ H' s'->s2.heap.objs.size<=s3->s3<=C->s'.heap.Ns C m->FpOk X pins H' C->HOk X.prog X.w H' s'.heap->Q (.ref D) H'->RR (.ref D) C (.ok .next) s') :
   wpAny (model X.prog X.w) X.A (newList []) (fun acc s3=>wpAny (model X.prog X.w) X.A (newFunctionEnv scope X.env.globals cl [] X.env.qual none .none (some X.env)) (fun cenv s4 =>
     codeAny (model X.prog X.w) X.A (.compStart (.ListComp elt [⟨tg,iter,ifs,0⟩] scope pos) 0 (.ref it) acc { cenv with scope:=relabel scope X.env }) (RR acc cenv.locals) s4) E s3) E s2:=by
 have hlt2:∀b∈fp,b<s2.heap.objs.size:=fun b hb=>by
   obtain⟨o,e,_⟩:=T.obj _ _ st2 b hb
   exact Heap.lt_size e
 obtain⟨W,⟨m0,w0⟩,turn⟩:=body s2.heap.objs.size I2.fresh
 refine wpAny_newObj_type (wpAny_newFunctionEnv S.nocell (by intro y hy;simp at hy) (fun h1 hns1 hsb1=>?_) S.kind)
 dsimp only at hns1 hsb1 ⊢
 have I3:Inv X pins σ (upd H2 s2.heap.objs.size (.lst [])) { s2 with heap:=s2.heap.push { cls:=.type "list",dict:=none,data:=.seq ([]:List Value).toArray } } :=
   Inv.lnew (its:=[]) (t':=s2.toks) I2 .nil (Nat.zero_le _)
 generalize hs3:({ s2 with heap:=s2.heap.push { cls:=.type "list",dict:=none,data:=.seq ([]:List Value).toArray } }:Shared)=s3 at I3
 have hh3:s3.heap=s2.heap.push { cls:=.type "list",dict:=none,data:=.seq ([]:List Value).toArray }:=by rw[<-hs3]
 have hsz3:s3.heap.objs.size=s2.heap.objs.size+1:=by rw[hh3,Heap.size_push]
 have hsh:({ s2 with heap:=h1,toks:=s2.toks+([]:List (Str×Value)).length }:Shared) = { s3 with heap:=h1,toks:=s2.toks+([]:List (Str×Value)).length }:=by rw[<-hs3]
 rw[<-hh3] at hns1 hsb1 ⊢
 have fpD:∀b∈fp,b≠s2.heap.objs.size:=fun b hb=>Nat.ne_of_lt (hlt2 b hb)
 have f3:∀b∈fp,FpOk X pins (upd H2 s2.heap.objs.size (.lst [])) b:=fun b hb=>⟨by rw[za7 (fpD b hb)];exact(f2 b hb).1,(f2 b hb).2⟩
 have old:∀b o,s3.heap.get? b=some o->h1.get? b=some o:=fun b o e=>hsb1.extBut b o (Nat.ne_of_lt (Heap.lt_size e)) (Heap.get?_push_of_some _ e)
 have J4:Inv (X.comp scope cl s3.heap.objs.size N' s3 (upd H2 s2.heap.objs.size (.lst [])) fp) [] (selS ix σ) (upd H2 s2.heap.objs.size (.lst [])) { s3 with heap:=h1,toks:=s2.toks+([]:List (Str×Value)).length } :=
   I3.comp S f3 (fun b hb=>Nat.lt_of_lt_of_le (hlt2 b hb) (by rw[hsz3];exact Nat.le_succ _)) c1 c2 hns1 old
 have st4:tn 0 h1:=T.keep _ _ _ st2 fun b hb o e=>old b o (by rw[hh3];exact Heap.get?_push_of_some _ e)
 generalize hCC:s3.heap.objs.size=C at *
 generalize hX':X.comp scope cl C N' s3 (upd H2 s2.heap.objs.size (.lst [])) fp=X' at J4
 have stat:∀ {H':Hp},(∀b∈fp,H' b=none)->∀b∈fp,FpOk X' [] H' b:=fun {H'} hn b hb=>by
   subst hX'
   refine⟨hn b hb,(J4.ok.exf b hb).1,J4.ok.exfs b hb,.inl hb,(J4.ok.exf b hb).2,fun p hp=>(by cases hp)⟩
 rw[hsh]
 have loop:codeAny (model X.prog X.w) X.A (.compLoop (.ListComp elt [⟨tg,iter,ifs,0⟩] scope pos) 0 (.ref it) (.ref s2.heap.objs.size) (compEnvC scope cl C X.env)) (RR (.ref s2.heap.objs.size) C) { s3 with heap:=h1,toks:=s2.toks+([]:List (Str×Value)).length }:=by
   refine compLoop_go (fun n s'=>∃i σ' H',Inv X' [] σ' H' s'/\tn i s'.heap/\(∀b∈fp,H' b=none)/\W i n σ' H') ?_ m0 ⟨0,_,_,J4,st4,fun b hb=>(f3 b hb).1,w0⟩
   rintro n s5 ⟨i,σ5,H5,I5,st5,fr5,w5⟩
   rcases turn i n σ5 H5 w5 with⟨stop,qn⟩ | ⟨go,N,hN,step⟩
   . have td:=T.done X' (by subst hX';rfl) (by subst hX';rfl) (by subst hX';rfl) (by subst hX';exact hc) i [] s5 σ5 H5 (fun _ _=>False) I5 (stat fr5) st5 stop
     have eA:X'.A=X.A:=by subst hX';rfl
     rw[eA] at td
     refine thn td fun r s6 ⟨hr,I6⟩=>?_
     subst hr
     subst hX'
     obtain⟨m,hnm,_⟩:=I6.loc
     have I7:Inv X pins σ H5 s6:=I3.uncomp f3 (Nat.le_of_eq hCC) I6
     refine hRR s2.heap.objs.size C s3.heap.objs.size s6 H5 m I7 (by omega) (by omega) hnm ?_ I6.hok qn
     have q:=I3.fpOk (H':=H5) (b:=C) (by omega) I6.free
     exact q
   . have ti:=T.item X' (by subst hX';rfl) (by subst hX';rfl) (by subst hX';rfl) (by subst hX';exact hc) i [] s5 σ5 H5 (fun _ _=>False) I5 (stat fr5) st5 go
     have eA:X'.A=X.A:=by subst hX';rfl
     rw[eA] at ti
     refine thn ti fun r s6 ⟨u,hr,h6⟩=>?_
     subst hr
     refine thn h6 fun _ s7 ⟨x,H7,I7,r7,y7,st7,fr7⟩=>?_
     have I7':=I7.pinned (stat fr7) (T.obj _ _ st7)
     have again:∀ {pl:List (Addr×Obj)} {σ8:St} {H8:Hp} {s8:Shared},Inv X' ([]++zA7 fp s7.heap) σ8 H8 s8->N σ8 H8->∃m,m<n/\∃i σ' H',Inv X' [] σ' H' s8/\tn i s8.heap/\(∀b∈fp,H' b=none)/\W i m σ' H':=fun {pl σ8 H8 s8} I8 n8=>by
       obtain⟨m',hm,w8⟩:=hN σ8 H8 n8
       refine⟨m',hm,i+1,σ8,H8,I8.unpinned,T.keep _ _ _ st7 fun b hb o e=>(I8.pin (b,o) (List.mem_append_right _ (List.mem_append_right _ (zr2 hb e)))).1,fun b hb=>?_,w8⟩
       obtain⟨o,e,d⟩:=T.obj _ _ st7 b hb
       exact(I8.pin (b,o) (List.mem_append_right _ (List.mem_append_right _ (zr2 hb e)))).2.1
     have eE:X'.env=compEnvC scope cl C X.env:=by subst hX';rfl
     have eP:X'.prog=X.prog:=by subst hX';rfl
     have eW:X'.w=X.w:=by subst hX';rfl
     have eX:X'.xe=fun _ _=>False:=by subst hX';rfl
     have hg':PG X' tg g:=by subst hX';exact hg _ _ _ _ _
     have hif':PIfs X' ifs tif:=by subst hX';exact hif _ _ _ _ _
     have he':PE X' elt telt:=by subst hX';exact he _ _ _ _ _
     have a1:=hg' _ s7 σ5 H7 x u _ I7' r7 (step x H7 y7)
     rw[eE,eP,eW,eA,eX] at a1
     refine thn a1 fun _ s8 ⟨σ8,H8,I8,q8⟩=>?_
     have a2:=hif' _ s8 σ8 H8 _ I8 q8
     rw[eE,eP,eW,eA,eX] at a2
     refine thn a2 fun ok s9 ⟨H9,I9,q9⟩=>?_
     cases ok with
     | false=>exact again (pl:=[]) I9 q9
     | true =>
       have q9':zt1 s2.heap.objs.size telt N σ8 H9:=q9
       have a3:=he' _ s9 σ8 H9 _ I9 q9'
       rw[eE,eP,eW,eA,eX] at a3
       show wpAny _ _ _ _ _ _
       refine thn a3 fun y s10 ⟨v,H10,I10,r10,acc,hD,hl,n10⟩=>?_
       obtain⟨hz,its,k,rv,hgD⟩:=I10.hok s2.heap.objs.size _ hD
       have hlen:=rv.length
       refine wpAny_list_append_plain (hsz:=by rw[List.size_toArray,<-hlen];exact Nat.le_of_lt hl) ⟨k,hgD⟩ fun h11 hl11 hs11=>?_
       obtain⟨k',hk'⟩:=hl11
       have ep:(its.toArray.push y)=(its++[y]).toArray:=by simp
       rw[ep] at hk'
       have I11:Inv X' ([]++zA7 fp s7.heap) σ8 (upd H10 s2.heap.objs.size (.lst (acc++[v]))) { s10 with heap:=h11 } :=
         I10.write (x:=s2.heap.objs.size) (e:=s2.heap.objs.size) (t':=s10.toks) (by rw[hD];exact trivial) (.inl rfl) (fun b o hb e=>hs11.extBut b o hb e) ⟨_,hk'⟩ ⟨by rw[List.length_append];exact hl,its++[y],k',rv.append (.cons r10 .nil),hk'⟩
       exact again (pl:=[]) I11 n10
 exact codeAny_compStart_list loop (T.self _ 0 _ _ _ st4 loop)
theorem zx5 (hc:X.calm=true)(S:zi4 X.N X.env.scope scope N' ix)(hi:PI X tg iter wi)
   (hg:∀cl C s0 H0 fp,PG (X.comp scope cl C N' s0 H0 fp) tg g) (hif:∀cl C s0 H0 fp,PIfs (X.comp scope cl C N' s0 H0 fp) ifs tif) (he:∀cl C s0 H0 fp,PE (X.comp scope cl C N' s0 H0 fp) elt telt)
   (hs:∀x,foldedSetIterable iter X.env x=pure x:=by intro _;rfl):PE X (.ListComp elt [⟨tg,iter,ifs,0⟩] scope pos) (tComp wi ix g tif telt):=by
 intro pins s σ H Q I h
 obtain⟨cl,hcl,c1,c2⟩:=closure_of (scope:=scope) (env:=X.env) fun y hy hk=>I.ok.has y.1 (.inl (S.frees y hy hk))
 rw[eval_ListComp]
 refine wpAny_comprehension_free (use:=none) rfl hs hcl S.kind S.names (thn (hi pins s σ H _ I h) fun xv s1 h1=>thn h1 fun itv s2 h2=>?_)
 obtain⟨it,fp,tn,J,H2,e,I2,T,st2,f2,body⟩:=h2
 subst e
 refine comp_block (RR:=fun acc C=>compPost (model X.prog X.w) X.A X.xe none (EP X pins σ Q) acc C) (Q:=Q) hc S c1 c2 hg hif he I2 T st2 f2 body ?_
 intro D C s3 s' H' m I' h1 h2 hm hf hok q
 obtain⟨f0,f1,f2',f3,f4,f5⟩:=hf
 refine⟨m,hm,fun h' sb=>⟨.ref D,H',?_,rfl,q⟩⟩
 exact I'.turned (t':=s'.toks) (fun b o hb e=>sb.extBut b o hb e) f0 f1 f3 f4 f5
end
section
variable {X:Cx}
inductive zI4 (K:W.Frag)(x:V)(vs:List V)(H:Hp)(Q:VK):Prop
 | mk (l:Addr)(ns:List Int)(k:Int)(h0:x = .ref l)(h1:vs=[.int k])(h2:SqL K H l (ns.map V.int))(h3:Q (.int (ns.count k:Nat)) H):zI4 K x vs H Q
noncomputable def zR5 (K:W.Frag):V->List V->Hp->VK->Prop:=fun x vs H Q=>zI4 K x vs H Q
theorem mt_countL:MtR X "list.count" (zR5 X.K):=by
 intro pins s σ H x vs v us Q I rx rv h
 obtain⟨l,ns,k,rfl,rfl,hS,q⟩:=h
 cases rx
 obtain⟨u,rfl,t,rfl⟩:=rv.one
 obtain⟨its,r,p,hz⟩:=I.list hS
 exact count_list_ints p.isList (zn7 r) ⟨.int (ns.count k:Nat),H,I.tok _,⟨_,rfl⟩,q⟩
inductive zI5 (K:W.Frag)(x:V)(vs:List V)(H:Hp)(Q:VK):Prop
 | mk (l:Addr)(ns:List Int)(k:Int)(h0:x = .ref l)(h1:vs=[.int k])(h2:SqT K H l (ns.map V.int))(h3:Q (.int (ns.count k:Nat)) H):zI5 K x vs H Q
noncomputable def rCountT (K:W.Frag):V->List V->Hp->VK->Prop:=fun x vs H Q=>zI5 K x vs H Q
theorem zI6:MtR X "tuple.count" (rCountT X.K):=by
 intro pins s σ H x vs v us Q I rx rv h
 obtain⟨l,ns,k,rfl,rfl,hS,q⟩:=h
 cases rx
 obtain⟨u,rfl,t,rfl⟩:=rv.one
 obtain⟨its,r,⟨⟨cls,dd,data,sl⟩,ho,hc,n,hd⟩,hz⟩:=I.tuple hS
 simp only at hc hd
 subst hc hd
 have hi:=zn7 r
 refine call_meets PySem.F.slot_tuple_count ⟨_,ho,rfl⟩ PySem.F.entry_tuple_count (PySem.F.args_tuple_count_2 _ _) (SeqAt.tuple_countAt l its.toArray n dd sl (.int k t) (isInt k)) ⟨ho,fun y hy=>(eq_isInt k t hi y (by simpa using hy)).at _ _,?_⟩
 rw[show its.toArray.toList=its from rfl,countP_isInt k hi]
 exact⟨.int (ns.count k:Nat),H,I.tok _,⟨_,rfl⟩,q⟩
noncomputable def tTM (r:V->List V->Hp->VK->Prop)(to:TE)(t:TA):TE:=fun σ H Q=>to σ H fun x H1=>(∃p ys,x = .ref p/\H1 p=some (.tup ys))/\t σ H1 fun xs H2=>r x xs H2 Q
variable {o e:Expr} {es:List Expr} {to:TE} {t:TA} {name:Str} {apos cpos:Pos} {id:String} {r:V->List V->Hp->VK->Prop}
theorem zY4 (slot:Slot "tuple" name id) (hty:typeOf (.builtin id)=pure (.type "method_descriptor")) (hm:MtR X id r) (ho:PE X o to) (ha:PA X (e::es) t)
   (hbase:attributeBase o name X.env (eval o X.env)=eval o X.env:=by rfl)
   (hfew:((backTo cpos (starEach (e::es) X.env)).all (fun x=>!x.1) && (backToKw cpos (keywordEach [] X.env)).all (fun x=>x.1.isSome)
     && decide ((e::es).length+([]:List Keyword).length+(if ([]:List Keyword).isEmpty then 0 else 1)<30))=true:=by rfl)
   (hline:(apos.endLine == cpos.line)=true:=by rfl) (hs:starEach (e::es) X.env=(false,eval e X.env)::starEach es X.env:=by rfl) (hplain:(backTo cpos (starEach es X.env)).any (·.1)=false:=by rfl) :
   PE X (.Call (.Attribute o name apos) (e::es) [] cpos) (tTM r to t):=by
 intro pins s σ H Q I h
 refine wpAny_Call_method_late hbase hfew hline rfl (thn (ho pins s σ H _ I h) fun v s1 ⟨x,H1,I1,r1,⟨p,ys,ex,hp⟩,q1⟩=>?_)
 subst ex
 cases r1
 obtain⟨_,its,_,ob,eo,ec,ed,_⟩:=I1.hok p _ hp
 refine⟨"tuple",id,PySem.F.plainAttrs_tuple,slot,hty,⟨ob,eo,ec⟩,fun a ea=>by cases ea;exact⟨ob,eo,ed⟩,?_⟩
 have hA:=ha cpos pins s1 σ H1 _ I1 q1
 rw[hs] at hA ⊢
 refine Calls.callWith_builtin (by show(false || (backTo cpos (starEach es X.env)).any (·.1))=false;rw[hplain]<;>rfl) (Calls.evalArgs_plain ?_)
 exact thn hA fun us s2 ⟨vs,H2,I2,r2,q2⟩=>hm pins s2 σ H2 (.ref p) vs _ us Q I2 rfl r2 q2
inductive ClsV:V->Value->Prop where
 | ty (n:String):ClsV (.ty n) (.type n)
 | own (C:Addr):ClsV (.ref C) (.ref C)
theorem zv8:∀ {us:List Value} {ns:List Int},IntsAre us ns->∃ps:List (Int×Tok),us=ps.map (fun p=>Value.int p.1 p.2)/\ps.map (·.1)=ns
 | _,_,.nil=>⟨[],rfl,rfl⟩
 | _,_,.cons n t h=>by
   obtain⟨ps,e1,e2⟩:=zv8 h
   exact⟨(n,t)::ps,by rw[List.map_cons,e1],by rw[List.map_cons,e2]⟩
noncomputable def iSeq (K:W.Frag)(tl:TE):TI:=fun σ H R=>tl σ H fun x H1=>∃a,x = .ref a/\(((∃xs,SqL K H1 a xs)/\R (Itl K a) H1)\/((∃xs,SqT K H1 a xs)/\R (Itt K a) H1))
theorem pi_seq {tg l:Expr}{tl:TE}(hl:PE X l tl):PI X tg l (iSeq X.K tl):=by
 intro pins s σ H R I h
 refine thn (hl pins s σ H _ I h) fun v s1 ⟨x,H1,I1,r1,q1⟩=>?_
 obtain⟨a,e,q⟩:=q1
 subst e
 cases r1
 rcases q with⟨⟨xs,hq⟩,q⟩ | ⟨⟨xs,hq⟩,q⟩
 . obtain⟨its,rv,p,hz⟩:=I1.list hq
   refine wpAny_pyIter_list p.isList ?_
   refine⟨s1.heap.objs.size,[s1.heap.objs.size],_,_,H1,rfl,I1.kept (t':=s1.toks) fun b o e=>Heap.get?_push_of_some _ e,zH5 a _,⟨_,Heap.get?_push_size _ rfl,rfl,rfl⟩,fun b hb=>?_,q⟩
   have e:b=s1.heap.objs.size:=by simpa using hb
   subst e
   exact I1.fpOk (Nat.le_refl _) (I1.hok.fresh (Nat.le_refl _))
 . obtain⟨its,rv,p,hz⟩:=I1.tuple hq
   refine wpAny_pyIter_tuple (show s1.heap.IsTuple a its.toArray from p) ?_
   refine⟨s1.heap.objs.size,[s1.heap.objs.size],_,_,H1,rfl,I1.kept (t':=s1.toks) fun b o e=>Heap.get?_push_of_some _ e,zE1 a _,⟨_,Heap.get?_push_size _ rfl,rfl,rfl⟩,fun b hb=>?_,q⟩
   have e:b=s1.heap.objs.size:=by simpa using hb
   subst e
   exact I1.fpOk (Nat.le_refl _) (I1.hok.fresh (Nat.le_refl _))
noncomputable def stE:Stmt->Expr
 | .Assign _ v _=>v
 | .Return (some v) _=>v
 | .Expr v _=>v
 | _=>.Constant .none 0 ⟨0,0,0,0⟩
noncomputable def zR6 (e:Expr)(j:Nat):Expr:=match e with
 | .Call _ as _ _=>as.getD j (.Constant .none 0 ⟨0,0,0,0⟩)
 | _=>.Constant .none 0 ⟨0,0,0,0⟩
noncomputable def zx6:Expr->Scope
 | .ListComp _ _ sc _=>sc
 | _=>{ kind:=.function,names:=[],isGenerator:=false,isCoroutine:=false }
noncomputable def stAt (l:List Stmt)(i:Nat):Stmt:=l.getD i (.Pass ⟨0,0,0,0⟩)
noncomputable def stBody:Stmt->List Stmt
 | .If _ b _ _=>b
 | .For _ _ b _ _=>b
 | .While _ b _ _=>b
 | _=>[]
end
theorem iteB {c:Bool}{A B:Prop}(e:c=false)(h:B):if c=true then A else B:=by
 subst e;exact iteF h
theorem iteA {c:Bool}{A B:Prop}(e:c=true)(h:A):if c=true then A else B:=by
 subst e;exact iteT h
theorem zt2 {a lo hi:Int}(h1:lo<=a)(h2:a<=hi):(decide (a<lo) || decide (hi<a))=false:=by
 rw[decide_eq_false (by omega),decide_eq_false (by omega)];rfl
theorem zL3 {a b:Int}(h:b<=a):decide (a<b)=false:=decide_eq_false (by omega)
theorem fl0 {f:Str}{v:V}:(putF f v []).length<=1:=zm2 f v []
theorem flS {f:Str}{v:V}{fs:List (Str×V)}{k:Nat}(h:fs.length<=k):(putF f v fs).length<=k+1:=Nat.le_trans (zm2 f v fs) (Nat.succ_le_succ h)
theorem zl6 {fs:List (Str×V)}{k:Nat}(h:fs.length<=k)(hk:k<1000:=by decide):fs.length<1000:=Nat.lt_of_le_of_lt h hk
noncomputable def ze5 (p:Addr)(H H':Hp):Prop:=∀b o,H b=some o->b≠p->H' b=some o
theorem Same.upd {H:Hp}{l:Addr}{o:HO}(h:H l=none):Same H (upd H l o):=fun b u e=>by
 rw[za7 (zb2 e h)];exact e
theorem Same.updT {H H1:Hp}{l:Addr}{o:HO}(s:Same H H1)(h:H1 l=none):Same H (L2.upd H1 l o):=s.trans (Same.upd h)
theorem Same.put {H H1:Hp}{l:Addr}{o:HO}(s:Same H H1)(h:H l=none):Same H (L2.upd H1 l o):=fun b u e=>by
 rw[za7 (zb2 e h)];exact s b u e
theorem mt_countLK {X:Cx} (K:W.Frag) (h:X.K=K):MtR X "list.count" (zR5 K):=h▸mt_countL
theorem zR7 {X:Cx}(K:W.Frag)(h:X.K=K):IxR X (rIxT K):=h▸zt0
theorem int_at {xs:List Int}{i:Nat}{v:V}(h:(xs.map V.int)[i]?=some v):∃z,v = .int z/\xs[i]?=some z:=by
 rw[List.getElem?_map] at h
 cases e:xs[i]? with
 | none=>rw[e] at h;cases h
 | some z=>rw[e] at h;exact⟨z,(Option.some.inj h).symm,rfl⟩
theorem zR8 {xs:List Int}{j:Nat}{z:Int}(h:xs[j]?=some z):atI (xs.map V.int) (j:Int)=some (V.int z):=atI_nat (by rw[List.getElem?_map,h];rfl)
theorem zn8 {xs:List Int}{i:Int}(h0:0<=i)(h1:i<xs.length):atI (xs.map V.int) i=some (.int (xs.getD i.toNat 0)):=by
 obtain⟨j,rfl⟩:∃j:Nat,i=j:=⟨i.toNat,by omega⟩
 have hj:j<xs.length:=by omega
 rw[zR8 (z:=xs[j]) (by simp[hj])]
 simp[hj]
theorem zm3 {a b:Int}:decide (V.int a=V.int b)=decide (a=b):=by
 by_cases h:a=b
 . subst h;simp
 . rw[decide_eq_false h,decide_eq_false];intro e;cases e;exact h rfl
section
variable {prog:Program} {w:World} {A:Around} {E:Value->Shared->Prop} {s:Shared}
theorem zE7 {it l:Addr}{i:Nat}{its:Array Value}{x:Value}{Q:Value->Shared->Prop}(hit:s.heap.IsTupleIter it l i)(hl:s.heap.IsTuple l its)(hx:its[i]?=some x)
   (hQ:∀h',h'.IsTupleIter it l (i+1)->Heap.SameBut it s.heap h'->Q x { s with heap:=h' }):wpAny (model prog w) A (Builtin.SmallTypes.nextOf (.ref it)) Q E s:=by
 obtain⟨oi,hoi,hci,hdi⟩:=id hit
 obtain⟨os,hos,_,ns,hds⟩:=hl
 unfold Builtin.SmallTypes.nextOf
 refine wpAny_bind (wpAny_callSpecial?_slot (name:=Str.ofString "__next__") hit.typeIs F.slot_tuple_iterator_next (wpAny_call_entry F.slot_tuple_iterator_next hit.typeIs F.entry_tuple_iterator_next ?_ (F.args_tuple_iterator_next_1 _)))
 show wpAny _ _ (field (.ref it) 0 >>= _) _ _ s
 refine wpAny_bind (wpAny_field hoi hdi (x:=.ref l) rfl ?_);show wpAny _ _ (if (Value.ref l == Value.none)=true then _ else _) _ _ s
 rw[if_neg (show ¬ ((Value.ref l == Value.none)=true) from Bool.false_ne_true)];show wpAny _ _ (field (.ref it) 1 >>= _) _ _ s
 refine wpAny_bind (wpAny_field hoi hdi (x:=.int i 0) rfl ?_);show wpAny _ _ (seqItems? (.ref l) >>= _) _ _ s
 refine wpAny_bind (wpAny_seqItems hos hds ?_);simp only[Int.toNat_natCast,hx]
 refine wpAny_bind (wpAny_setField hoi hdi (by simp) (wpAny_pure ⟨x,rfl,wpAny_pure (hQ _ ?_ (Heap.SameBut.update ..))⟩))
 refine⟨_,Heap.get?_update_self _ hoi (Obj.isFreed_of_fields (Obj.data_mapFields hdi _)),(Obj.cls_mapFields ..).trans hci,?_⟩;rw[Obj.data_mapFields hdi];simp[rawInt]
theorem nextOf_tup_end {it l:Addr}{i:Nat}{its:Array Value}{Q:Value->Shared->Prop}(hh:A.handled=none)(hit:s.heap.IsTupleIter it l i)(hl:s.heap.IsTuple l its)(hx:its[i]?=none)
   (hE:∀h' e,Heap.ExtBut it s.heap h'->(∃o,h'.get? e=some o/\o.cls = .type "StopIteration")->E (.ref e) { s with heap:=h' }):wpAny (model prog w) A (Builtin.SmallTypes.nextOf (.ref it)) Q E s:=by
 obtain⟨oi,hoi,hci,hdi⟩:=id hit
 obtain⟨os,hos,_,ns,hds⟩:=hl
 unfold Builtin.SmallTypes.nextOf
 refine wpAny_bind (wpAny_callSpecial?_slot (name:=Str.ofString "__next__") hit.typeIs F.slot_tuple_iterator_next (wpAny_call_entry F.slot_tuple_iterator_next hit.typeIs F.entry_tuple_iterator_next ?_ (F.args_tuple_iterator_next_1 _)))
 show wpAny _ _ (field (.ref it) 0 >>= _) _ _ s
 refine wpAny_bind (wpAny_field hoi hdi (x:=.ref l) rfl ?_);show wpAny _ _ (if (Value.ref l == Value.none)=true then _ else _) _ _ s
 rw[if_neg (show ¬ ((Value.ref l == Value.none)=true) from Bool.false_ne_true)];show wpAny _ _ (field (.ref it) 1 >>= _) _ _ s
 refine wpAny_bind (wpAny_field hoi hdi (x:=.int i 0) rfl ?_);show wpAny _ _ (seqItems? (.ref l) >>= _) _ _ s
 refine wpAny_bind (wpAny_seqItems hos hds ?_);simp only[Int.toNat_natCast,hx]
 refine wpAny_bind (wpAny_rule (wpAny_bind (wpAny_setField hoi hdi (by simp) ?_)));show wpAny _ _ (newExc (.type "StopIteration") [] >>= _) _ _ _
 refine wpAny_bind ?_;simp only[newExc,newTuple]
 refine wpAny_bind (wpAny_newObj_type ?_ (by size_fits))
 refine wpAny_bind (m:=firstArgMember _ _) (wpAny_of_eq (a:=Value.none) (by first | rfl | (simp only[firstArgMember];rfl)) ?_)
 refine wpAny_newObj_type ?_ (by size_fits);simp only[raiseNew]
 refine wpAny_bind (wpAny_handled ?_);first | rw[show A.in1.handled=none from hh] | rw[hh]
 refine wpAny_bind (wpAny_pure (wpAny_throw ?_))
 exact hE _ _ (((Heap.SameBut.update ..).extBut.push _).push _) ⟨_,Heap.get?_push_size _ rfl,rfl⟩
structure zQ2 (z TI TO i1 i2:Addr):Prop where
 TIz:TI≠z
 TOz:TO≠z
 i1z:i1≠z
 i2z:i2≠z
 TITO:TI≠TO
 TIi1:TI≠i1
 TIi2:TI≠i2
 TOi1:TO≠i1
 TOi2:TO≠i2
 i12:i1≠i2
structure ZAt (h:Heap)(z TI TO i1 i2 l1 l2:Addr)(f0:Value)(i:Nat):Prop where
 hz:IsZip h z TI TO f0
 hTI:IsPair h TI (.ref i1) (.ref i2)
 hTO:∃a b,IsPair h TO a b
 h1:h.IsTupleIter i1 l1 i
 h2:h.IsTupleIter i2 l2 i
theorem zip_item {z TI TO i1 i2 l1 l2:Addr}{k:Nat}{xs ys:Array Value}{x y:Value}{Q:Option Value->Shared->Prop}(D:zQ2 z TI TO i1 i2)(L:∀l,l=l1\/l=l2->l≠z/\l≠TO/\l≠i1/\l≠i2)(Z:ZAt s.heap z TI TO i1 i2 l1 l2 .none k)
   (hl1:s.heap.IsTuple l1 xs) (hl2:s.heap.IsTuple l2 ys) (hx:xs[k]?=some x) (hy:ys[k]?=some y)
   (hQ:∀h',ZAt h' z TI TO i1 i2 l1 l2 (rawInt s.heap.objs.size) (k+1)->IsPair h' s.heap.objs.size x y →
     (∀c o,c≠z->c≠TO->c≠i1->c≠i2->s.heap.get? c=some o->h'.get? c=some o)->Q (some (.ref s.heap.objs.size)) { s with heap:=h' }) :
   wpAny (model prog w) A (pyNext (.ref z)) Q E s:=by
 obtain⟨hz,hTI,⟨a,b,hTO⟩,h1,h2⟩:=Z
 obtain⟨l1z,l1TO,l1i1,l1i2⟩:=L l1 (.inl rfl)
 obtain⟨l2z,l2TO,l2i1,l2i2⟩:=L l2 (.inr rfl)
 have hT:s.TypeIs (.ref z) "zip":=⟨_,hz,rfl⟩
 unfold pyNext
 refine wpAny_bind (wpAny_attempt (wpAny_callSpecial?_slot (name:=Str.ofString "__next__") hT F.slot_zip_next (wpAny_call_entry F.slot_zip_next hT F.entry_zip_next ?_ (F.args_zip_next_1 _))))
 show wpAny _ _ (field (.ref z) 2 >>= _) _ _ _
 refine wpAny_bind (wpAny_field hz rfl (x:=.bool false) rfl ?_);show wpAny _ _ (field (.ref z) 3 >>= _) _ _ _
 refine wpAny_bind (wpAny_field hz rfl (x:=.ref TI) rfl ?_)
 refine wpAny_bind (wpAny_seqItems hTI rfl ?_);show wpAny _ _ (Builtin.SmallTypes.ownedTupleIsFree (.ref z) >>= _) _ _ _
 refine wpAny_bind ?_;unfold Builtin.SmallTypes.ownedTupleIsFree
 refine wpAny_bind (wpAny_field hz rfl (x:=.none) rfl (wpAny_pure ?_));simp only[if_true]
 refine wpAny_bind (wpAny_rule (wpAny_bind (wpAny_field hz rfl (x:=.ref TO) rfl ?_)))
 refine wpAny_bind (wpAny_setField_rec hz (by simp) fun g1 z1 e1=>?_)
 replace z1:IsZip g1 z TI TO .ellipsis:=z1
 refine wpAny_bind ?_;simp only[List.zipIdx_cons,List.zipIdx_nil,List.forIn_cons,List.forIn_nil]
 refine wpAny_bind (wpAny_bind (wpAny_onRaise ?_));show wpAny _ _ (Builtin.SmallTypes.nextOf (.ref i1) >>= _) _ _ _
 refine wpAny_bind (zE7 (h1.extBut e1.extBut D.i1z) (hl1.extBut e1.extBut l1z) hx fun g2 j1 e2=>wpAny_pure ?_)
 have t2:IsPair g2 TO a b:=e2.extBut _ _ D.TOi1 (e1.extBut _ _ D.TOz hTO)
 refine wpAny_bind (wpAny_seqItems t2 rfl (wpAny_bind (wpAny_updateSeq_pair t2 fun g3 t3 e3=>?_)))
 replace t3:IsPair g3 TO x b:=t3
 refine wpAny_bind (wpAny_letGo (wpAny_pure ?_))
 refine wpAny_bind (wpAny_bind (wpAny_onRaise ?_));show wpAny _ _ (Builtin.SmallTypes.nextOf (.ref i2) >>= _) _ _ _
 refine wpAny_bind (zE7 (((h2.extBut e1.extBut D.i2z).extBut e2.extBut D.i12.symm).extBut e3.extBut D.TOi2.symm) (((hl2.extBut e1.extBut l2z).extBut e2.extBut l2i1).extBut e3.extBut l2TO) hy fun g4 j2 e4=>wpAny_pure ?_)
 have t4:IsPair g4 TO x b:=e4.extBut _ _ D.TOi2 t3
 refine wpAny_bind (wpAny_seqItems t4 rfl (wpAny_bind (wpAny_updateSeq_pair t4 fun g5 t5 e5=>?_)))
 replace t5:IsPair g5 TO x y:=t5
 refine wpAny_bind (wpAny_letGo (wpAny_pure (wpAny_pure ?_)))
 refine wpAny_bind (wpAny_seqItems t5 rfl (wpAny_bind (wpAny_newTuple ?_)))
 have sz:g5.objs.size=s.heap.objs.size:=by rw[e5.1,e4.1,e3.1,e2.1,e1.1]
 have z5:IsZip g5 z TI TO .ellipsis:=e5.extBut _ _ D.TOz.symm (e4.extBut _ _ D.i2z.symm (e3.extBut _ _ D.TOz.symm (e2.extBut _ _ D.i1z.symm z1)))
 have k5:∀c o,c≠z->c≠TO->c≠i1->c≠i2->s.heap.get? c=some o->g5.get? c=some o:=fun c o c1 c2 c3 c4 e=>e5.extBut _ _ c2 (e4.extBut _ _ c4 (e3.extBut _ _ c2 (e2.extBut _ _ c3 (e1.extBut _ _ c1 e))))
 have m1:g5.IsTupleIter i1 l1 (k+1):=((j1.extBut e3.extBut D.TOi1.symm).extBut e4.extBut D.i12).extBut e5.extBut D.TOi1.symm
 have m2:g5.IsTupleIter i2 l2 (k+1):=j2.extBut e5.extBut D.TOi2.symm
 have zl:z<g5.objs.size:=Heap.lt_size z5
 show wpAny _ _ (Builtin.SmallTypes.ownedTupleHandOut (.ref z) (.ref g5.objs.size) >>= _) _ _ _
 refine wpAny_bind ?_;unfold Builtin.SmallTypes.ownedTupleHandOut
 have z6:IsZip (g5.push { cls:=.type "tuple",data:=.seq #[x,y] }) z TI TO .ellipsis:=Heap.get?_push_of_some _ z5
 refine wpAny_bind (wpAny_setField_rec z6 (by simp) fun g7 z7 e7=>?_)
 replace z7:IsZip g7 z TI TO (rawInt g5.objs.size):=z7
 refine wpAny_setField_rec z7 (by simp) fun g8 z8 e8=>?_
 replace z8:IsZip g8 z TI TO (rawInt g5.objs.size):=z8
 have up:∀c o,c≠z->g5.get? c=some o->g8.get? c=some o:=fun c o c1 e=>e8.extBut _ _ c1 (e7.extBut _ _ c1 (Heap.get?_push_of_some _ e))
 have t8:IsPair g8 g5.objs.size x y:=e8.extBut _ _ (Nat.ne_of_gt zl) (e7.extBut _ _ (Nat.ne_of_gt zl) (Heap.get?_push_size _ rfl))
 rw[sz] at z8 t8
 refine wpAny_pure ⟨_,rfl,wpAny_pure ?_⟩
 show Q (some (.ref g5.objs.size)) _
 rw[sz]
 have at1:∀ {it l:Addr} {i:Nat},g5.IsTupleIter it l i->it≠z->g8.IsTupleIter it l i:=fun q ne=>let⟨o,ho,r⟩:=q;⟨o,up _ o ne ho,r⟩
 exact hQ g8 ⟨z8,up _ _ D.TIz (k5 _ _ D.TIz D.TITO D.TIi1 D.TIi2 hTI),⟨x,y,up _ _ D.TOz t5⟩,at1 m1 D.i1z,at1 m2 D.i2z⟩ t8 fun c o c1 c2 c3 c4 e=>up c o c1 (k5 c o c1 c2 c3 c4 e)
theorem zip_end {z TI TO i1 i2 l1 l2:Addr}{k:Nat}{xs:Array Value}{Q:Option Value->Shared->Prop}(hh:A.handled=none)(D:zQ2 z TI TO i1 i2)(L:l1≠z)(Z:ZAt s.heap z TI TO i1 i2 l1 l2 .none k)
   (hl1:s.heap.IsTuple l1 xs) (hx:xs[k]?=none)
   (hQ:∀h',(∀c o,c≠z->c≠TO->c≠i1->c≠i2->s.heap.get? c=some o->h'.get? c=some o)->Q none { s with heap:=h' }):wpAny (model prog w) A (pyNext (.ref z)) Q E s:=by
 obtain⟨hz,hTI,⟨a,b,hTO⟩,h1,h2⟩:=Z
 have hT:s.TypeIs (.ref z) "zip":=⟨_,hz,rfl⟩
 unfold pyNext
 refine wpAny_bind (wpAny_attempt (wpAny_callSpecial?_slot (name:=Str.ofString "__next__") hT F.slot_zip_next (wpAny_call_entry F.slot_zip_next hT F.entry_zip_next ?_ (F.args_zip_next_1 _))))
 show wpAny _ _ (field (.ref z) 2 >>= _) _ _ _
 refine wpAny_bind (wpAny_field hz rfl (x:=.bool false) rfl ?_);show wpAny _ _ (field (.ref z) 3 >>= _) _ _ _
 refine wpAny_bind (wpAny_field hz rfl (x:=.ref TI) rfl ?_)
 refine wpAny_bind (wpAny_seqItems hTI rfl ?_);show wpAny _ _ (Builtin.SmallTypes.ownedTupleIsFree (.ref z) >>= _) _ _ _
 refine wpAny_bind ?_;unfold Builtin.SmallTypes.ownedTupleIsFree
 refine wpAny_bind (wpAny_field hz rfl (x:=.none) rfl (wpAny_pure ?_));simp only[if_true]
 refine wpAny_bind (wpAny_rule (wpAny_bind (wpAny_field hz rfl (x:=.ref TO) rfl ?_)))
 refine wpAny_bind (wpAny_setField_rec hz (by simp) fun g1 z1 e1=>?_)
 replace z1:IsZip g1 z TI TO .ellipsis:=z1
 refine wpAny_bind ?_;simp only[List.zipIdx_cons,List.zipIdx_nil,List.forIn_cons,List.forIn_nil]
 refine wpAny_bind (wpAny_bind (wpAny_onRaise ?_));show wpAny _ _ (Builtin.SmallTypes.nextOf (.ref i1) >>= _) _ _ _
 refine wpAny_bind (nextOf_tup_end hh (h1.extBut e1.extBut D.i1z) (hl1.extBut e1.extBut L) hx fun g2 e e2 he=>?_)
 obtain⟨oe,hoe,hce⟩:=he
 have z2:IsZip g2 z TI TO .ellipsis:=e2 _ _ D.i1z.symm z1
 have nez:e≠z:=fun q=>by subst q;rw[z2] at hoe;cases hoe;simp at hce
 refine wpAny_setField_rec z2 (by simp) fun g3 _ e3=>?_
 refine wpAny_bind (wpAny_isInstance (T:="StopIteration") (b:=true) ⟨oe,e3.extBut _ _ nez hoe,hce⟩ isSubtype_stop ?_)
 exact wpAny_pure (hQ _ fun c o c1 _ c3 _ q=>e3.extBut _ _ c1 (e2 _ _ c3 (e1.extBut _ _ c1 q)))
noncomputable abbrev zp1 (h:Heap) (l1:Addr):Heap:=h.push { cls:=.type "tuple_iterator",data:=.fields #[.ref l1,.int 0 0] }
noncomputable abbrev zp2 (h:Heap) (l1 l2:Addr):Heap:=(zp1 h l1).push { cls:=.type "tuple_iterator",data:=.fields #[.ref l2,.int 0 0] }
noncomputable abbrev zp3 (h:Heap) (l1 l2:Addr):Heap:=(zp2 h l1 l2).push { cls:=.type "tuple",data:=.seq #[.ref h.objs.size,.ref (zp1 h l1).objs.size] }
noncomputable abbrev zp4 (h:Heap) (l1 l2:Addr):Heap:=(zp3 h l1 l2).push { cls:=.type "tuple",data:=.seq #[.none,.none] }
noncomputable abbrev zp5 (h:Heap) (l1 l2:Addr):Heap:=(zp4 h l1 l2).push { cls:=.type "zip",data:=.fields #[.none,.bool false,.bool false,.ref (zp2 h l1 l2).objs.size,.ref (zp3 h l1 l2).objs.size] }
theorem zip_made (l1 l2:Addr)(xs ys:Array Value) :
   Meets (Builtin.«zip.__new__» ⟨[.type "zip",.ref l1,.ref l2],[]⟩) (fun _ R s=>s.heap.IsTuple l1 xs/\s.heap.IsTuple l2 ys/\R (.ok (.ret (.ref (zp4 s.heap l1 l2).objs.size))) { s with heap:=zp5 s.heap l1 l2 }) :=
 .of_wp fun prog w A R s h=>by
   obtain⟨hp,g,d,tk,os⟩:=s
   obtain⟨hl1,hl2,h⟩:=h
   have hsub:=sub_zip
   have q1:Heap.IsTuple (Shared.heap ⟨hp,g,d,tk,os⟩) l1 xs:=hl1
   have q2:Heap.IsTuple (Shared.heap ⟨hp.push { cls:=.type "tuple_iterator",data:=.fields #[.ref l1,.int 0 0] },g,d,tk,os⟩) l2 ys:=Heap.IsTuple.push hl2 _
   wp_walk using wpAny_pyIter_tuple q1,wpAny_pyIter_tuple q2
   exact⟨_,rfl,h⟩
theorem zip_call {l1 l2:Addr}{xs ys:Array Value}{Q:Value->Shared->Prop}(hl1:s.heap.IsTuple l1 xs)(hl2:s.heap.IsTuple l2 ys)
   (h:∀h',ZAt h' (s.heap.objs.size+4) (s.heap.objs.size+2) (s.heap.objs.size+3) s.heap.objs.size (s.heap.objs.size+1) l1 l2 .none 0 →
     (∀c o,s.heap.get? c=some o->h'.get? c=some o)->Q (.ref (s.heap.objs.size+4)) { s with heap:=h' }):wpAny (model prog w) A (call (.type "zip") [.ref l1,.ref l2]) Q E s:=by
 refine callType_new F.called_zip (by decide) (F.typeCall_zip_2 _ _) (F.newCall_zip_2 _ _) (fun obj=>F.args_object_init_3 obj _ _) F.entry_zip_new (zip_made l1 l2 xs ys) ⟨hl1,hl2,?_⟩
 have n1:(zp1 s.heap l1).objs.size=s.heap.objs.size+1:=Heap.size_push ..
 have n2:(zp2 s.heap l1 l2).objs.size=s.heap.objs.size+2:=by rw[Heap.size_push,n1]
 have n3:(zp3 s.heap l1 l2).objs.size=s.heap.objs.size+3:=by rw[Heap.size_push,n2]
 have n4:(zp4 s.heap l1 l2).objs.size=s.heap.objs.size+4:=by rw[Heap.size_push,n3]
 have p5:(zp5 s.heap l1 l2).get? (zp4 s.heap l1 l2).objs.size=some _:=Heap.get?_push_size _ rfl
 have p4:(zp5 s.heap l1 l2).get? (zp3 s.heap l1 l2).objs.size=some _:=Heap.get?_push_of_some _ (Heap.get?_push_size _ rfl)
 have p3:(zp5 s.heap l1 l2).get? (zp2 s.heap l1 l2).objs.size=some _:=Heap.get?_push_of_some _ (Heap.get?_push_of_some _ (Heap.get?_push_size _ rfl))
 have p2:(zp5 s.heap l1 l2).get? (zp1 s.heap l1).objs.size=some _:=Heap.get?_push_of_some _ (Heap.get?_push_of_some _ (Heap.get?_push_of_some _ (Heap.get?_push_size _ rfl)))
 have p1:(zp5 s.heap l1 l2).get? s.heap.objs.size=some _:=Heap.get?_push_of_some _ (Heap.get?_push_of_some _ (Heap.get?_push_of_some _ (Heap.get?_push_of_some _ (Heap.get?_push_size _ rfl))))
 show _/\_
 rw[n2,n3,n4] at p5
 rw[n1,n2] at p3
 rw[n3] at p4
 rw[n1] at p2
 rw[n4]
 refine⟨⟨_,p5,rfl⟩,h _ ⟨p5,p3,⟨_,_,p4⟩,⟨_,p1,rfl,rfl⟩,⟨_,p2,rfl,rfl⟩⟩ fun c o x=>?_⟩
 exact Heap.get?_push_of_some _ (Heap.get?_push_of_some _ (Heap.get?_push_of_some _ (Heap.get?_push_of_some _ (Heap.get?_push_of_some _ x))))
end
noncomputable def Itz (l1 l2:Addr):It :=
 ⟨fun i H=>∃xs ys x y,H l1=some (.tup xs)/\H l2=some (.tup ys)/\xs[i]?=some x/\ys[i]?=some y,
  fun i H v H'=>∃p xs ys x y,H p=none/\v = .ref p/\H l1=some (.tup xs)/\H l2=some (.tup ys)/\xs[i]?=some x/\ys[i]?=some y/\H'=upd H p (.tup [x,y]),
  fun i H=>∃xs ys,H l1=some (.tup xs)/\H l2=some (.tup ys)/\xs.length<=i⟩
theorem turn_zip {P:Program}{w:World}{K:W.Frag}{es:List Expr}{k0:Nat}{tp:Pos}{l1 l2 z TI TO i1 i2:Addr}(D:zQ2 z TI TO i1 i2) :
   Turn P w K (.Tuple es k0 tp) (Itz l1 l2) [z,TI,TO,i1,i2] z (fun i h=>ZAt h z TI TO i1 i2 l1 l2 .none i) where
 mem:=by simp
 obj:=fun i h Z b hb=>by
   obtain⟨hz,hTI,⟨a,c,hTO⟩,⟨o1,e1,c1,d1⟩,⟨o2,e2,c2,d2⟩⟩:=Z
   simp only[List.mem_cons,List.not_mem_nil,or_false] at hb
   rcases hb with rfl | rfl | rfl | rfl | rfl
   . exact⟨_,hz,fun v q=>by cases (show Data.fields _=Data.cell v from q)⟩
   . exact⟨_,hTI,fun v q=>by cases (show Data.seq _ _=Data.cell v from q)⟩
   . exact⟨_,hTO,fun v q=>by cases (show Data.seq _ _=Data.cell v from q)⟩
   . exact⟨o1,e1,fun v q=>by rw[d1] at q;cases q⟩
   . exact⟨o2,e2,fun v q=>by rw[d2] at q;cases q⟩
 keep:=fun i h h' Z k=>by
   obtain⟨hz,hTI,⟨a,c,hTO⟩,⟨o1,e1,r1⟩,⟨o2,e2,r2⟩⟩:=Z
   exact⟨k z (by simp) _ hz,k TI (by simp) _ hTI,⟨a,c,k TO (by simp) _ hTO⟩,⟨o1,k i1 (by simp) _ e1,r1⟩,⟨o2,k i2 (by simp) _ e2,r2⟩⟩
 item:=by
   intro X hP hw hK hc i pins s σ H E I hf Z hg
   subst hP hw hK
   obtain⟨xs,ys,x,y,hx,hy,ex,ey⟩:=hg
   obtain⟨_,vx,rx,tx⟩:=I.hok l1 _ hx
   obtain⟨_,vy,ry,ty⟩:=I.hok l2 _ hy
   obtain⟨u,hu,ru⟩:=rx.get ex
   obtain⟨v,hv,rv⟩:=ry.get ey
   have hfree:∀b∈[z,TI,TO,i1,i2],H b=none:=fun b hb=>(hf b hb).1
   have L:∀l,l=l1\/l=l2->l≠z/\l≠TO/\l≠i1/\l≠i2:=fun l hl=>by
     have hs:∃o,H l=some o:=by
       rcases hl with e | e
       . exact⟨_,by rw[e];exact hx⟩
       . exact⟨_,by rw[e];exact hy⟩
     obtain⟨o,ho⟩:=hs
     exact⟨zb2 ho (hfree z (by simp)),zb2 ho (hfree TO (by simp)),zb2 ho (hfree i1 (by simp)),zb2 ho (hfree i2 (by simp))⟩
   refine zip_item D L Z (show s.heap.IsTuple l1 vx.toArray from tx.isTup) (show s.heap.IsTuple l2 vy.toArray from ty.isTup) (x:=u) (y:=v) (by simpa using hu) (by simpa using hv) fun h' Z' hp kk=>?_
   refine⟨_,rfl,wpAny_letOwnedTupleGo_zip Z'.hz fun h2 hz2 sb=>?_⟩
   have kk2:∀c o,c∉[z,TO,i1,i2]->s.heap.get? c=some o->h2.get? c=some o:=fun c o hc e=>sb.extBut _ _ (fun q=>hc (by simp[q])) (kk c o (fun q=>hc (by simp[q])) (fun q=>hc (by simp[q])) (fun q=>hc (by simp[q])) (fun q=>hc (by simp[q])) e)
   have nb:∀c o,H c=some o->c∉[z,TO,i1,i2]:=fun c o e hm=>by
     have:H c=none:=hfree c (by simp only[List.mem_cons,List.not_mem_nil,or_false] at hm ⊢;rcases hm with q | q | q | q<;>simp[q])
     rw[this] at e;cases e
   have zlt:z<s.heap.objs.size:=Heap.lt_size Z.hz
   have hp2:IsPair h2 s.heap.objs.size u v:=sb.extBut _ _ (Nat.ne_of_gt zlt) hp
   have fr:H s.heap.objs.size=none:=I.fresh
   have I2:Inv X pins σ (upd H s.heap.objs.size (.tup [x,y])) { s with heap:=h2 }:=by
     refine I.step (g':=s.gens) (d':=s.drawn) (t':=s.toks) (ch:=[z,TO,i1,i2]) (fun b hb=>?_) (fun b o _ _ hc e _=>kk2 b o hc e) (fun b o _ _ hc e _=>⟨o.slots,kk2 b o hc e⟩)
       (fun b o _ e n=>by rw[za7 (Nat.ne_of_lt (Heap.lt_size e))];exact n)
       (fun b o hc e=>⟨o,kk2 b o hc e⟩) (fun b zs e=>by rw[za7 (zb2 e fr)];exact e) (fun b o zs e=>by rw[za7 (zb2 e fr)];exact e) (fun b ps e=>⟨#[],by rw[za7 (zb2 e fr),e];simp⟩) (fun m hm=>?_) (fun b o e=>?_) I.bare
     . obtain⟨f0,f1,f2,f3,f4,f5⟩:=hf b (by simp only[List.mem_cons,List.not_mem_nil,or_false] at hb ⊢;rcases hb with q | q | q | q<;>simp[q])
       exact⟨f3,f1,f4,f5⟩
     . obtain⟨o,es',ep,ho,r⟩:=hm
       refine⟨o,es',ep,kk2 _ o (fun hm=>?_) ho,r⟩
       exact(hf X.env.locals (by simp only[List.mem_cons,List.not_mem_nil,or_false] at hm ⊢;rcases hm with q | q | q | q<;>simp[q])).2.1 rfl
     . by_cases hb:b=s.heap.objs.size
       . subst hb
         rw[za5] at e
         cases e
         exact⟨(by show 2<=sizeLine;decide),[u,v],.cons ru (.cons rv .nil),⟨_,hp2,rfl,rfl,_,rfl⟩⟩
       . rw[za7 hb] at e
         refine(I.hok b o e).stay (fun c v hc q=>kk2 c v ?_ q) (fun c q=>by rw[za7 (zb2 q fr)];exact q) fun c zs q=>by rw[za7 (zb2 q fr)];exact q
         rcases hc with rfl | hc
         . exact nb _ _ e
         . exact nb _ _ hc
   exact⟨.ref s.heap.objs.size,_,I2,rfl,⟨_,xs,ys,x,y,fr,rfl,hx,hy,ex,ey,rfl⟩,⟨hz2,sb.extBut _ _ D.TIz Z'.hTI,(let⟨a,c,q⟩:=Z'.hTO;⟨a,c,sb.extBut _ _ D.TOz q⟩),Z'.h1.extBut sb.extBut D.i1z,Z'.h2.extBut sb.extBut D.i2z⟩,fun b hb=>by
     rw[za7]
     . exact hfree b hb
     . obtain⟨o,e,_⟩:∃o,s.heap.get? b=some o/\True:=by
         simp only[List.mem_cons,List.not_mem_nil,or_false] at hb
         obtain⟨hz,hTI,⟨a,c,hTO⟩,⟨o1,e1,_⟩,⟨o2,e2,_⟩⟩:=Z
         rcases hb with rfl | rfl | rfl | rfl | rfl
         . exact⟨_,hz,trivial⟩
         . exact⟨_,hTI,trivial⟩
         . exact⟨_,hTO,trivial⟩
         . exact⟨_,e1,trivial⟩
         . exact⟨_,e2,trivial⟩
       exact Nat.ne_of_lt (Heap.lt_size e)⟩
 done:=by
   intro X hP hw hK hc i pins s σ H E I hf Z hg
   subst hP hw hK
   obtain⟨xs,ys,hx,hy,hle⟩:=hg
   obtain⟨_,vx,rx,tx⟩:=I.hok l1 _ hx
   have hln:=rx.length
   have hfree:∀b∈[z,TI,TO,i1,i2],H b=none:=fun b hb=>(hf b hb).1
   refine zip_end (I.ok.hd hc) D (zb2 hx (hfree z (by simp))) Z (show s.heap.IsTuple l1 vx.toArray from tx.isTup) (by simp;omega) fun h' kk=>⟨rfl,?_⟩
   have kk2:∀c o,c∉[z,TO,i1,i2]->s.heap.get? c=some o->h'.get? c=some o:=fun c o hc e=>kk c o (fun q=>hc (by simp[q])) (fun q=>hc (by simp[q])) (fun q=>hc (by simp[q])) (fun q=>hc (by simp[q])) e
   have nb:∀c o,H c=some o->c∉[z,TO,i1,i2]:=fun c o e hm=>by
     have:H c=none:=hfree c (by simp only[List.mem_cons,List.not_mem_nil,or_false] at hm ⊢;rcases hm with q | q | q | q<;>simp[q])
     rw[this] at e;cases e
   refine I.step (g':=s.gens) (d':=s.drawn) (t':=s.toks) (ch:=[z,TO,i1,i2]) (fun b hb=>?_) (fun b o _ _ hc e _=>kk2 b o hc e) (fun b o _ _ hc e _=>⟨o.slots,kk2 b o hc e⟩) (fun _ _ _ _ n=>n)
     (fun b o hc e=>⟨o,kk2 b o hc e⟩) (fun _ _ e=>e) (fun _ _ _ e=>e) (fun b ps e=>⟨#[],by rw[e];simp⟩) (fun m hm=>?_) (fun b o e=>?_) I.bare
   . obtain⟨f0,f1,f2,f3,f4,f5⟩:=hf b (by simp only[List.mem_cons,List.not_mem_nil,or_false] at hb ⊢;rcases hb with q | q | q | q<;>simp[q])
     exact⟨f3,f1,f4,f5⟩
   . obtain⟨o,es',ep,ho,r⟩:=hm
     refine⟨o,es',ep,kk2 _ o (fun hm=>?_) ho,r⟩
     exact(hf X.env.locals (by simp only[List.mem_cons,List.not_mem_nil,or_false] at hm ⊢;rcases hm with q | q | q | q<;>simp[q])).2.1 rfl
   . refine(I.hok b o e).stay (fun c v hc q=>kk2 c v ?_ q) (fun _ q=>q) fun _ _ q=>q
     rcases hc with rfl | hc
     . exact nb _ _ e
     . exact nb _ _ hc
 self:=fun _ _ _ _ _ Z h=>wpAny_pyIter_zip Z.hz h
section
variable {X:Cx} {es:List Expr} {k0:Nat} {tp:Pos}
noncomputable def iZip (ta:TA):TI:=fun σ H R=>ta σ H fun vs H1=>∃l1 l2 xs ys,vs=[.ref l1,.ref l2]/\H1 l1=some (.tup xs)/\H1 l2=some (.tup ys)/\R (Itz l1 l2) H1
theorem pi_zip {a b:Expr} {ta:TA} {p pos:Pos} (hg:Gl X "zip") (hm:X.mg "zip" = none) (ha:PA X [a,b] ta) (hs:starEach [a,b] X.env=[(false,eval a X.env),(false,eval b X.env)]:=by rfl) (hs2:starEach [b] X.env=[(false,eval b X.env)]:=by rfl) :
   PI X (.Tuple es k0 tp) (.Call (.Name "zip" p) [a,b] [] pos) (iZip ta):=by
 intro pins s σ H R I h
 refine Call_ (zA6 I hg hm boot_zip (PyProof.Rows.callWith_type1 (thn (ha pos pins s σ H _ I h) fun us s1 ⟨vs,H1,I1,r1,q1⟩=>?_) (by rw[hs,hs2]) (by rw[hs2];rfl)))
 obtain⟨l1,l2,xs,ys,e,hx,hy,q⟩:=q1
 subst e
 obtain⟨u1,u2,rfl,r1',r2'⟩:=zY1 r1
 cases r1'
 cases r2'
 obtain⟨_,vx,rx,tx⟩:=I1.hok l1 _ hx
 obtain⟨_,vy,ry,ty⟩:=I1.hok l2 _ hy
 refine zip_call (show s1.heap.IsTuple l1 vx.toArray from tx.isTup) (show s1.heap.IsTuple l2 vy.toArray from ty.isTup) fun h' Z kk=>?_
 refine wpAny_pyIter_zip Z.hz ?_
 have I2:Inv X pins σ H1 { s1 with heap:=h' }:=I1.kept (t':=s1.toks) kk
 have ne:∀i j:Nat,i≠j->s1.heap.objs.size+i≠s1.heap.objs.size+j:=fun i j hij=>by omega
 refine⟨_,_,_,_,H1,rfl,I2,turn_zip (es:=es) (k0:=k0) (tp:=tp) (TI:=s1.heap.objs.size+2) (TO:=s1.heap.objs.size+3) (i1:=s1.heap.objs.size) (i2:=s1.heap.objs.size+1) ⟨ne 2 4 (by decide),ne 3 4 (by decide),ne 0 4 (by decide),ne 1 4 (by decide),ne 2 3 (by decide),ne 2 0 (by decide),ne 2 1 (by decide),ne 3 0 (by decide),ne 3 1 (by decide),ne 0 1 (by decide)⟩,Z,fun b hb=>?_,q⟩
 have hge:s1.heap.objs.size<=b:=by
   simp only[List.mem_cons,List.not_mem_nil,or_false] at hb
   rcases hb with rfl | rfl | rfl | rfl | rfl<;>first | exact Nat.le_add_right _ _ | exact Nat.le_refl _
 exact I1.fpOk hge (I1.hok.fresh hge)
theorem call_sum (hc:X.calm=true):zp0 X (.builtin "sum") (fun xs H Q=>∃l ns,xs=[.ref l]/\SqL X.K H l (ns.map V.int)/\PySem.SumFits ns/\Q (.int ns.sum) H):=by
 intro pins s σ H xs us Q I r h
 obtain⟨l,ns,rfl,hS,hfit,q⟩:=h
 obtain⟨u,rfl,ru⟩:=zC0 r
 cases ru
 obtain⟨its,rv,p,hz⟩:=I.list hS
 obtain⟨ps,e1,e2⟩:=zv8 (zn7 rv)
 have ei:its.toArray=intItems ps.toArray:=by
   unfold intItems
   rw[e1]
   simp
 have hl:=p.isList
 rw[ei] at hl
 have num:∀j,numAt ps.toArray j=ns.getD j 0:=fun j=>by
   unfold numAt
   rw[<-e2]
   simp[List.getD_eq_getElem?_getD,List.getElem?_map]
 have pre:∀j,j<=ns.length->preSum (numAt ps.toArray) j=(ns.take j).sum:=by
   intro j
   induction j with
   | zero=>intro _;rfl
   | succ j ih =>
     intro hj
     show preSum (numAt ps.toArray) j+numAt ps.toArray j=_
     rw[ih (by omega),num,List.take_succ,List.sum_append]
     have:ns[j]?=some (ns[j]'(by omega)):=by simp
     rw[List.getD_eq_getElem?_getD,this]
     simp
 have hlen:ps.toArray.size=ns.length:=by rw[<-e2];simp
 refine sum_intList (I.ok.hd hc) hl (fun j hj=>?_) fun h' tk t' kk=>?_
 . have hj':j<ns.length:=by omega
   obtain⟨f1,f2⟩:=hfit j hj'
   rw[num,pre (j+1) (by omega)]
   exact⟨f1,f2⟩
 . rw[hlen,pre ns.length (Nat.le_refl _),List.take_length]
   exact⟨.int ns.sum,H,I.kept kk,⟨_,rfl⟩,q⟩
theorem pg_tupK {es:List Expr}{k:Nat}{t:TGs}{n:Nat}{pos:Pos}(K:W.Frag)(hK:X.K=K)(hc:X.calm=true)(h:PGs X es t)
 (hn:(assignEach es X.env).length=n:=by rfl) (hst:(assignEach es X.env).findIdx? (·.1)=none:=by rfl):PG X (.Tuple es k pos) (gTup K n t):=hK▸pg_tup hc h hn hst
end
theorem comp_zip {K:W.Frag}{H1:Hp}{l1 l2 D:Addr}{xs ys:List V}{f:V->V->V}{rest:St}{telt:TE}{Q:Hp->Prop}(hx:H1 l1=some (.tup xs))(hy:H1 l2=some (.tup ys))(hl:xs.length=ys.length)(hD:H1 D=none)(hn:xs.length<=sizeLine)
   (el:∀(i:Nat) x y H' R,xs[i]?=some x->ys[i]?=some y->Same H1 H'->R (f x y) H'->telt (some x::some y::rest) H' R) (q:∀H',Same H1 H'->H' D=some (.lst (List.zipWith f xs ys))->Q H') :
   ∃W:Nat->Nat->St->Hp->Prop,(∃m,W 0 m (none::none::rest) (upd H1 D (.lst []))) ∧
     ∀i m σ' H',W i m σ' H'->((Itz l1 l2).stop i H'/\Q H')\/((Itz l1 l2).go i H'/\∃N:St->Hp->Prop,(∀σ2 H2,N σ2 H2->∃m',m'<m/\W (i+1) m' σ2 H2) ∧
       ∀v H2,(Itz l1 l2).yld i H' v H2->gTup K 2 (zV1 (zB8 0) (zV1 (zB8 1) gNil)) v σ' H2 fun σ3 H3=>zN1 σ3 H3 fun b H4=>if b=true then zt1 D telt N σ3 H4 else N σ3 H4):=by
 have hz:(List.zipWith f xs ys).length=xs.length:=by rw[List.length_zipWith,hl,Nat.min_self]
 refine⟨fun i m σ' H'=>m=xs.length-i/\i<=xs.length/\(∃a b,σ'=a::b::rest)/\Same H1 H'/\H' D=some (.lst ((List.zipWith f xs ys).take i)),⟨xs.length,by simp,Nat.zero_le _,⟨_,_,rfl⟩,Same.upd hD,by rw[za5];rfl⟩,?_⟩
 rintro i m σ' H' ⟨rfl,hi,⟨a,b,rfl⟩,s,hd⟩
 by_cases hlt:i<xs.length
 . have ex:xs[i]?=some xs[i]:=by simp[hlt]
   have ey:ys[i]?=some (ys[i]'(by omega)):=by simp
   refine .inr ⟨⟨xs,ys,_,_,s _ _ hx,s _ _ hy,ex,ey⟩,fun σ2 H2=>(∃a b,σ2=a::b::rest)/\Same H1 H2/\H2 D=some (.lst ((List.zipWith f xs ys).take (i+1))),fun σ2 H2 h=>⟨xs.length-(i+1),by omega,rfl,hlt,h.1,h.2.1,h.2.2⟩,?_⟩
   rintro v H2 ⟨p,xs',ys',x',y',fp,rfl,hx',hy',ex',ey',rfl⟩
   have e1:xs'=xs:=by have:=(s _ _ hx).symm.trans hx';cases this;rfl
   have e2:ys'=ys:=by have:=(s _ _ hy).symm.trans hy';cases this;rfl
   subst e1 e2
   have nDp:D≠p:=fun z=>by rw[z,fp] at hd;cases hd
   refine⟨p,_,rfl,SqT.of za5,rfl,_,_,rfl,_,_,rfl,rfl,?_⟩
   dsimp only[zN1]
   refine iteT ?_
   show zt1 D telt _ (some x'::some y'::rest) _
   refine el i x' y' _ _ ex' ey' (s.updT fp) ⟨_,by rw[za7 nDp];exact hd,?_,⟨_,_,rfl⟩,(s.updT fp).put hD,?_⟩
   . rw[List.length_take];omega
   . rw[za5,List.take_succ,List.getElem?_zipWith,ex',ey']
     rfl
 . have e:i=xs.length:=by omega
   subst e
   refine .inl ⟨⟨xs,ys,s _ _ hx,s _ _ hy,Nat.le_refl _⟩,q H' s ?_⟩
   rw[hd,<-hz,List.take_length]
noncomputable abbrev bmV:List Value:=[.type "ValueError",.type "Exception",.type "BaseException",.type "object"]
noncomputable def MroV (bm:List Value):Prop:=bm=bmV\/∃D:Addr,bm = .ref D::bmV
theorem MroV.has {bm:List Value}(m:MroV bm){T:String}{b:Bool}(h:bmV.contains (.type T)=b):bm.contains (.type T)=b:=by
 rcases m with rfl | ⟨D,rfl⟩
 . exact h
 . rw[List.contains_cons,h];rfl
theorem MroV.self {bm:List Value}(m:MroV bm)(C:Addr){T:String}{b:Bool}(h:bmV.contains (.type T)=b):(Value.ref C::bm).contains (.type T)=b:=by
 rw[List.contains_cons,m.has h];rfl
theorem MroV.passes {bm:List Value} (m:MroV bm) (v:Value):refuseLoop v "__setattr__" bm=pure ():=by
 rcases m with rfl | ⟨D,rfl⟩
 . exact PySem.F.store_ValueError.passes v
 . rw[refuseLoop_ref];exact PySem.F.store_ValueError.passes v
section
variable {prog:Program} {w:World} {A:Around} {E:Value->Shared->Prop} {R:Result->Shared->Prop} {h:Heap} {g:Array GenState} {d:Drawn} {t:Nat} {os:OsState}
variable {nm q:Str} {C N:Addr} {bs bm:List Value} {hdct:Bool} {sn:List Str} {sub:List Value} {ab:Bool} {col:Option Bool} {dd:Option Addr} {k0 k1 k2 k3 k5:Option Value}
theorem xnew_check {M:Model} (m:MroV bm) {rest:List Value} {Q:Unit->Shared->Prop} (hC:h.get? C=some (excClassObj nm q C N bs bm hdct sn sub ab col dd k0 k1 k2 k3 k5 "ValueError.__new__"))
   (hq:Q () ⟨h,g,d,t,os⟩):wpAny M A (checkBuiltinCall "ValueError.__new__" ⟨.ref C::rest,[]⟩) Q E ⟨h,g,d,t,os⟩:=by
 have hin:=m.self C PySem.F.excBase_ValueError.hasB
 have hst:=PySem.F.excBase_ValueError.noStar
 simp only[checkBuiltinCall,PySem.F.excBase_ValueError.newKind,PySem.F.excBase_ValueError.newSplit,PySem.F.excBase_ValueError.newRow]
 repeat (first | refine wpAny_loadPart_at hC ?_ | (refine wpAny_isSubtype_exc hC ?_;rw[hin]) | refine wpAny_staticBase_exc hC ?_ | refine wpAny_madeBy_exc hC ?_ | simp only[bne_self_eq_false,Bool.false_eq_true,if_false] | wp_step)
 exact hq
theorem xnew_code (m:MroV bm) {rest:List Value} (hC:h.get? C=some (excClassObj nm q C N bs bm hdct sn sub ab col dd k0 k1 k2 k3 k5 "ValueError.__new__"))
   (hq:R (.ok (.ret (.ref (h.objs.size+1)))) ⟨(h.push { cls:=.type "tuple",data:=.seq rest.toArray }).push { cls:=.ref C,data:=.fields #[.ref h.objs.size,.none,.none,.none,.bool false,.none] },g,d,t,os⟩)
   (hrest:rest.length<=sizeLine):codeAny (model prog w) A (.builtin "ValueError.__new__" ⟨.ref C::rest,[]⟩) R ⟨h,g,d,t,os⟩:=by
 have hends:=PySem.F.excBase_ValueError.ends
 have c1:=m.self C PySem.F.excBase_ValueError.hasB
 have c2:=m.self C PySem.F.excBase_ValueError.noAttr
 have c3:=m.self C PySem.F.excBase_ValueError.noName
 refine codeAny_builtinAt PySem.F.excBase_ValueError.entry ?_;unfold Builtin.«BaseException.__new__»
 refine PySem.wpAt_bind ?_;show PySem.wpAt _ _ _ (stack >>= _) _ _ _
 refine PySem.wpAt_bind (PySem.wpAt_stack fun p below=>PySem.wpAt_of_wpAny ?_);wp_walk
 refine PySem.wpAt_of_wpAny ?_;rw[PySem.F.excBase_ValueError.owner]
 repeat (first | with_reducible refine wpAny_madeHere_exc PySem.F.excBase_ValueError.canon hC ?_ | with_reducible refine wpAny_loadPart_at hC ?_ | (with_reducible refine wpAny_isSubtype_exc hC ?_;first | rw[c1] | rw[c2] | rw[c3]) | wp_step)
 show R _ _;rw[Heap.size_push];exact hq
theorem xcall {K:W.Frag} (X:K.In h) (m:MroV bm) {rest:List Value} {fI:Addr} {Q:Value->Shared->Prop} (hC:h.get? C=some (excClassObj nm q C N bs bm hdct sn sub ab col dd k0 k1 k2 k3 k5 "ValueError.__new__"))
   (hi:W.findIn K (.ref C) "__init__" = some (some (.ref fI))) (hf:W.isFn K (.ref fI)=true) (hrest:rest.length<=sizeLine)
   (hq:wpAny (model prog w) (A.under (.builtin "type.__call__" ⟨.ref C::rest,[]⟩)) (call (.ref fI) (.ref (h.objs.size+1)::rest)) (fun r s'=>r = .none/\Q (.ref (h.objs.size+1)) s') E
     ⟨(h.push { cls:=.type "tuple",data:=.seq rest.toArray }).push { cls:=.ref C,data:=.fields #[.ref h.objs.size,.none,.none,.none,.bool false,.none] },g,d,t,os⟩) :
   wpAny (model prog w) A (call (.ref C) rest) Q E ⟨h,g,d,t,os⟩:=by
 have f1:=tc_lookup
 have f2:=tc_bind (.ref C)
 have hT:(⟨h,g,d,t,os⟩:Shared).TypeIs (.ref C) "type":=⟨_,hC,rfl⟩
 refine wpAny_call (codeAny_of_tree ?_);show wpAny _ _ (callAny (.ref C) _) _ _ _
 repeat (any_goals (first | assumption | with_reducible refine wpAny_loadPart_at hC ?_ | wp_step))
 refine⟨rfl,?_⟩
 refine codeAny_call_builtin_at (Code.quiet_builtin _ (by decide +kernel)) entry_typeCall (wpAny_check_type_call_sub hC ?_)
 repeat (first | with_reducible refine wpAny_loadPart_at hC ?_ | with_reducible refine wpAny_madeBy_exc hC ?_ | wp_step)
 refine codeAny_call_builtin_code (Code.quiet_builtin _ PySem.F.excBase_ValueError.quiet) (xnew_check m hC (xnew_code m hC ?_ hrest))
 show wpAny _ _ _ _ _ _
 have kp:∀b o,h.get? b=some o->((h.push { cls:=.type "tuple",data:=.seq rest.toArray }).push { cls:=.ref C,data:=.fields #[.ref h.objs.size,.none,.none,.none,.bool false,.none] }).get? b=some o:=fun b o e=>Heap.get?_push_of_some _ (Heap.get?_push_of_some _ e)
 have hC1:=kp _ _ hC
 have X1:K.In ((h.push { cls:=.type "tuple",data:=.seq rest.toArray }).push { cls:=.ref C,data:=.fields #[.ref h.objs.size,.none,.none,.none,.bool false,.none] }):=X.keeps kp
 have hg:((h.push { cls:=.type "tuple",data:=.seq rest.toArray }).push { cls:=.ref C,data:=.fields #[.ref h.objs.size,.none,.none,.none,.bool false,.none] }).get? (h.objs.size+1)=some { cls:=.ref C,data:=.fields #[.ref h.objs.size,.none,.none,.none,.bool false,.none] }:=by heap_get
 have hcc:(Value.ref C::bm).contains (.ref C)=true:=by simp
 unfold isInstance
 repeat (first | with_reducible refine wpAny_loadPart_at hg ?_ | wp_step)
 refine wpAny_isSubtype_exc hC1 ?_;rw[hcc]
 repeat (first | with_reducible refine wpAny_loadPart_at hg ?_ | wp_step)
 show wpAny _ _ (typeLookup (.ref C) _) _ _ _
 refine W.looks_findIn X1 hi _ _ _ _ (fun _ _ e=>e) ?_
 refine wpAny_holding (wpAny_bind ?_);unfold bindSpecial
 refine wpAny_bind (W.looks_typeIn X1 (beq_iff_eq.mp hf) _ _ _ _ (fun _ _ e=>e) ?_)
 rw[if_pos (by decide)]
 refine wpAny_pure (wpAny_bind (wpAny_mono hq (fun r s' hr=>?_) fun _ _ x=>x))
 obtain⟨rfl,hQ⟩:=hr
 wp_walk
 exact hQ
end
open PySem.Builtin PySem.Builtin.ObjectAttr
section
variable {prog:Program} {w:World} {A:Around} {E:Value->Shared->Prop} {h:Heap} {g:Array GenState} {d:Drawn} {t:Nat} {os:OsState}
variable {nm q:Str} {C N x:Addr} {bs bm:List Value} {sn:List Str} {sub:List Value} {ab:Bool} {col:Option Bool} {dd:Option Addr} {k0 k1 k2 k3 k5:Option Value} {newId:String} {mA:Str->Option Value} {name:Str} {v:Value} {K:W.Frag}
theorem xsa_check {M:Model}(m:MroV bm){o:Obj}{nv:Value}{Q:Unit->Shared->Prop}(hC:h.get? C=some (excClassObj nm q C N bs bm true sn sub ab col dd k0 k1 k2 k3 k5 newId))(hx:h.get? x=some o)(hc:o.cls = .ref C)(hq:Q () ⟨h,g,d,t,os⟩) :
   wpAny M A (checkBuiltinCall "object.__setattr__" ⟨[.ref x,nv,v],[]⟩) Q E ⟨h,g,d,t,os⟩:=by
 have hin:=m.self C PySem.F.store_ValueError.hasOwner
 have ha:=PySem.F.store_ValueError.args (.ref x) nv v
 simp only[checkBuiltinCall,PySem.F.store_ValueError.kind,PySem.F.store_ValueError.split]
 refine wpAny_bind ?_;unfold isInstance
 repeat (first | (with_reducible refine wpAny_loadPart_at hx ?_;rw[hc]) | (with_reducible refine wpAny_isSubtype_exc hC ?_;rw[hin]) | wp_step)
 exact hq
theorem xsa_entry (X:K.In h)(m:MroV bm){tk:Tok}{Q:PySem.Fin->Shared->Prop}{ns:List Str}(hC:h.get? C=some (excClassObj nm q C N bs bm true sn sub ab col dd k0 k1 k2 k3 k5 newId))(hna:W.findIn K (.ref C) name=some none)(hxC:x≠C)(I:h.Inst x C mA)
   (hq:∀h' tk',h'.Inst x C (fun y=>if y=name then some v else mA y) →
     (∀b o,b≠x->(∀o0 dx,h.get? x=some o0->o0.dict=some dx->b≠dx)->h.get? b=some o->h'.get? b=some o) →
     (∀o0,h.get? x=some o0->∃o1,h'.get? x=some o1/\o1.cls=o0.cls/\o1.data=o0.data/\o1.slots=o0.slots/\(∀dx,o0.dict=some dx->o1.dict=some dx)/\(o0.dict=none->o1.dict=some h.objs.size))->Q (.done (.ret .none)) ⟨h',g,d,tk',os⟩) (hw:Within mA ns) (hsz:ns.length<=sizeLine) :
   wpAny (model prog w) A (Builtin.«object.__setattr__» ⟨[.ref x,.str name tk,v],[]⟩) Q E ⟨h,g,d,t,os⟩:=by
 obtain⟨o,hx,hc,hnc,hd⟩:=I
 have hpass:=m.passes (.ref x)
 have lk:∀(A:Around) (Q:Option Value->Shared->Prop) (E:Value->Shared->Prop),Q none ⟨h,g,d,t,os⟩->wpAny (model prog w) A (typeLookup (.ref C) name) Q E ⟨h,g,d,t,os⟩:=fun A Q E q=>W.looks_findIn X hna A Q E _ (fun _ _ e=>e) q
 unfold Builtin.«object.__setattr__»
 repeat (first | rw[refuse_eq] | (rw[refuseLoop_ref,hpass]) | (with_reducible refine wpAny_loadPart_at hx ?_;rw[hc]) | with_reducible refine wpAny_mroOf_exc hC ?_ | with_reducible refine lk _ _ _ ?_ | wp_step)
 rcases hd with⟨hdn,hmA⟩ | ⟨dx,hdx,hne,hns⟩
 . rw[hdn,if_neg (by simp[typeHasDict])]
   split
   . rename_i hcd
     cases hcd
   split
   . rename_i c hcd
     exact absurd hcd (hnc c)
   . have hx1:(h.push { cls:=.type "dict",data:=.dict #[] }).get? x=some o:=Heap.get?_push_of_some _ hx
     have hxs:x≠h.objs.size:=Nat.ne_of_lt (Heap.lt_size hx)
     refine wpAny_bind (wpAny_alloc' (wpAny_bind (wpAny_update' hx1 (wpAny_pure ?_))))
     have hgd:((h.push { cls:=.type "dict",data:=.dict #[] }).update x fun o=>{ cls:=o.cls,dict:=some h.objs.size,data:=o.data,slots:=o.slots }).get? h.objs.size=some { cls:=.type "dict",data:=.dict #[] }:=(Heap.get?_update_ne _ _ _ _ hxs.symm).trans (Heap.get?_push_at rfl rfl)
     have hnd:((h.push { cls:=.type "dict",data:=.dict #[] }).update x fun o=>{ cls:=o.cls,dict:=some h.objs.size,data:=o.data,slots:=o.slots }).Ns h.objs.size (fun _=>none):=⟨_,#[],_,hgd,rfl,fun e he=>absurd he (by simp),fun _=>rfl⟩
     show wpAny _ _ (storeInDict h.objs.size (.str name tk) name v) _ _ _
     unfold storeInDict newKeyGuard
     refine wpAny_bind (wpAny_pure (wpAny_bind (wpAny_nsSet1 (Heap.Ns1.of_empty hnd) fun h' hn' hs=>?_)))
     obtain⟨oD,esD,epD,hoD,hdD,hcD⟩:=hn'.count (Within.cons name v Within.nil)
     refine wpAny_bind (wpAny_lookBehind hoD (by rw[hdD];exact pastItsLine_dict (Nat.le_trans hcD (by rw[List.length_cons,List.length_nil,sizeLine_eq];omega))) ?_)
     wp_walk
     have hx':h'.get? x=some { cls:=o.cls,dict:=some h.objs.size,data:=o.data,slots:=o.slots }:=by
       refine(hs.2 x hxs).trans (Heap.get?_update_self _ hx1 ?_)
       have hfr:=(Heap.get?_some_iff.mp hx).2
       obtain⟨oc,od,odt,osl⟩:=o
       cases odt<;>first | rfl | exact hfr
     refine hq h' _ ⟨_,hx',hc,hnc,.inr ⟨h.objs.size,rfl,hxs.symm,?_⟩⟩ (fun b ob hbx _ hb=>?_) (fun o0 h0=>?_)
     . obtain⟨o',es,ep,e1,e2,e3,eu,e4⟩:=hn'
       exact⟨o',es,ep,e1,e2,e3,eu,fun y=>by rw[e4 y];by_cases hy:y=name<;>simp[hy,hmA]⟩
     . exact(hs.2 b (Nat.ne_of_lt (Heap.lt_size hb))).trans ((Heap.get?_update_ne _ _ _ _ hbx).trans (Heap.get?_push_of_some _ hb))
     . obtain rfl:o=o0:=Option.some.inj (hx.symm.trans h0)
       exact⟨_,hx',rfl,rfl,rfl,fun dx e=>(by rw[hdn] at e;cases e),fun _=>rfl⟩
 . rw[hdx]
   refine wpAny_pure ?_
   show wpAny _ _ (storeInDict dx (.str name tk) name v) _ _ _
   unfold storeInDict newKeyGuard
   refine wpAny_bind (wpAny_pure (wpAny_bind (wpAny_nsSet1 hns fun h' hn' hs=>?_)))
   obtain⟨oD,esD,epD,hoD,hdD,hcD⟩:=hn'.count (Within.cons name v hw)
   refine wpAny_bind (wpAny_lookBehind hoD (by rw[hdD];exact pastItsLine_dict (Nat.le_trans hcD (by rw[List.length_cons];omega))) ?_)
   wp_walk
   refine hq h' _ ⟨o,(hs.2 x hne.symm).trans hx,hc,hnc,.inr ⟨dx,hdx,hne,hn'⟩⟩ (fun b ob _ hbd hb=>(hs.2 b (hbd o dx hx hdx)).trans hb) (fun o0 h0=>?_)
   obtain rfl:o=o0:=Option.some.inj (hx.symm.trans h0)
   exact⟨o,(hs.2 x hne.symm).trans hx,rfl,rfl,rfl,fun _ e=>e,fun e=>(by rw[hdx] at e;cases e)⟩
theorem zW6 (X:K.In h) (m:MroV bm) {Q:Unit->Shared->Prop} {ns:List Str} (hC:h.get? C=some (excClassObj nm q C N bs bm true sn sub ab col dd k0 k1 k2 k3 k5 newId)) (hsa:W.findIn K (.ref C) "__setattr__" = some (some (.builtin "object.__setattr__")))
   (hna:W.findIn K (.ref C) name=some none) (hxC:x≠C) (I:h.Inst x C mA)
   (hq:∀h' tk',h'.Inst x C (fun y=>if y=name then some v else mA y) →
     (∀b o,b≠x->(∀o0 dx,h.get? x=some o0->o0.dict=some dx->b≠dx)->h.get? b=some o->h'.get? b=some o) →
     (∀o0,h.get? x=some o0->∃o1,h'.get? x=some o1/\o1.cls=o0.cls/\o1.data=o0.data/\o1.slots=o0.slots/\(∀dx,o0.dict=some dx->o1.dict=some dx)/\(o0.dict=none->o1.dict=some h.objs.size))->Q () ⟨h',g,d,tk',os⟩) (hw:Within mA ns) (hsz:ns.length<=sizeLine) :
   wpAny (model prog w) A (setAttr (.ref x) name v) Q E ⟨h,g,d,t,os⟩:=by
 obtain⟨o,hx,hc,_⟩:=id I
 have f3:=PySem.F.store_ValueError.slot.bind (.ref x)
 have lk:∀(A:Around) (Q:Option Value->Shared->Prop) (E:Value->Shared->Prop) (t:Nat),Q (some (.builtin "object.__setattr__")) ⟨h,g,d,t,os⟩->wpAny (model prog w) A (typeLookup (.ref C) "__setattr__") Q E ⟨h,g,d,t,os⟩:=fun A Q E t q=>W.looks_findIn X hsa A Q E _ (fun _ _ e=>e) q
 unfold setAttr callSpecial? specialOf
 repeat (any_goals (first | assumption | (with_reducible refine wpAny_loadPart_at hx ?_;rw[hc]) | refine lk _ _ _ _ ?_ | wp_step))
 refine codeAny_call_builtin PySem.F.store_ValueError.slot.plain PySem.F.store_ValueError.entry (xsa_check m hC hx hc (xsa_entry X m hC hna hxC I (fun h' tk' I' hk hsame=>?_) hw hsz))
 repeat (any_goals (first | assumption | wp_step))
 exact hq h' tk' I' hk hsame
end
noncomputable def ExcO (C e:Addr)(od:Option Addr):HO:=.ext fun h=>∃t:Addr,h.get? e=some { cls:=.ref C,dict:=od,data:=.fields #[.ref t,.none,.none,.none,.bool false,.none] }
structure XCls (K:W.Frag)(C:Addr):Prop where
 ob:∃nm q N bs bm sn sub ab col dd k0 k1 k2 k3 k5,K.lookup C=some (excClassObj nm q C N bs bm true sn sub ab col dd k0 k1 k2 k3 k5 "ValueError.__new__")/\MroV bm
 sa:W.findIn K (.ref C) "__setattr__" = some (some (.builtin "object.__setattr__"))
 kp:W.keepIn K (.ref C)=true
section
variable {X:Cx} {pins:List (Addr×Obj)} {σ:St} {H:Hp} {s:Shared} {C x:Addr} {od:Option Addr}
theorem zL4 (I:Inv X pins σ H s)(e:H x=some (ExcO C x od)):∃t:Addr,s.heap.get? x=some { cls:=.ref C,dict:=od,data:=.fields #[.ref t,.none,.none,.none,.bool false,.none] }:=(I.hok x _ e).1
theorem zR9 {P:Program}{w:World}{H:Hp}{h:Heap}{t:Addr}(e:h.get? x=some { cls:=.ref C,dict:=od,data:=.fields #[.ref t,.none,.none,.none,.bool false,.none] }):zg7 P w H h x (ExcO C x od) :=
 ⟨⟨t,e⟩,⟨_,e⟩,fun h1 h2 ⟨t,e1⟩ k=>⟨t,k _ e1⟩⟩
theorem cls_ne (I:Inv X pins σ H s){o:HO}{ob:Obj}(hC:X.K.lookup C=some ob)(e:H x=some o):x≠C:=fun z=>by
 have hb:=I.ok.mod.kin _ _ hC
 have:=(I.bs _ _ hb).2
 rw[z,this] at e;cases e
noncomputable def XPut (D:St->Hp->Prop)(σ:St)(H:Hp)(a C:Addr)(od:Option Addr)(f:Str)(y:V):Prop:=match od with
 | none=>∀dx,H dx=none->dx≠a->D σ (upd (upd H dx (.xd (putF f y []))) a (ExcO C a (some dx)))
 | some dx=>∃fs,H dx=some (.xd fs)/\fs.length<1000/\D σ (upd H dx (.xd (putF f y fs)))
theorem zW7 {P:Program}{w:World}{H:Hp}{h:Heap}{dx:Addr}{mA:Str->Option Value}{f:Str}{y:V}{u:Value}{fs:List (Str×V)}(hl:fs.length<1000)(hn:h.Ns1 dx fun g=>if g=f then some u else mA g)(r:∀g,RelO (fs.lookup g) (mA g))(wi:PySem.Within mA (fs.map (·.1)))(ry:RelV y u) :
   zg7 P w H h dx (.xd (putF f y fs)):=by
 refine⟨by have:=zm2 f y fs;omega,_,hn,fun g=>?_,fun g hg=>?_⟩
 . rw[zb3]
   by_cases q:g=f
   . rw[if_pos q];simp only[q,if_true];exact ry
   . rw[if_neg q];simp only[q,if_false];exact r g
 . by_cases q:g=f
   . rw[q];exact(zp6 f y fs).1
   . refine(zp6 f y fs).2 g (wi g fun z=>hg ?_)
     simp only[q,if_false];exact z
theorem xsetattr_ok {f:Str}{y:V}{u:Value}{D:St->Hp->Prop}{A:Around}{E:Value->Shared->Prop}(I:Inv X pins σ H s)(c:XCls X.K C)(na:zc1 X.K C f)(e:H x=some (ExcO C x od))(ry:RelV y u)(q:XPut D σ H x C od f y) :
   wpAny (model X.prog X.w) A (setAttr (.ref x) f u) (fun _ s'=>∃H',Inv X pins σ H' s'/\D σ H') E s:=by
 obtain⟨nm,qn,N,bs,bm,sn,sub,ab,col,dd,k0,k1,k2,k3,k5,hK,m⟩:=c.ob
 have hC:=I.kIn _ _ hK
 obtain⟨t,hx⟩:=zL4 I e
 have hxC:=cls_ne I hK e
 cases od with
 | none =>
   have hI:s.heap.Inst x C (fun _=>none):=⟨_,hx,rfl,fun c z=>(by cases z),.inl ⟨rfl,fun _=>rfl⟩⟩
   obtain⟨hp,g,d,tk,os⟩:=s
   refine zW6 (ns:=[]) I.kIn m hC c.sa na hxC hI (fun h' tk' I' hk hs=>?_) PySem.Within.nil (Nat.zero_le _)
   obtain⟨o1,e1,e2,e3,e4,_,e5⟩:=hs _ hx
   have ed:=e5 rfl
   have eo:h'.get? x=some { cls:=.ref C,dict:=some hp.objs.size,data:=.fields #[.ref t,.none,.none,.none,.bool false,.none] }:=by
     rw[e1]
     obtain⟨c1,d1,dt1,sl1⟩:=o1
     simp only at e2 e3 e4 ed
     subst e2 e3 e4 ed
     rfl
   have hkk:∀b o,b≠x->hp.get? b=some o->h'.get? b=some o:=fun b o hb ho=>hk b o hb (fun o0 dx h0 hd=>by rw[hx] at h0;cases h0;cases hd) ho
   have fr:H hp.objs.size=none:=I.fresh
   have hxs:hp.objs.size≠x:=fun z=>by rw[<-z,fr] at e;cases e
   obtain⟨oI,hoI,_,_,hdI⟩:=I'
   have hn1:h'.Ns1 hp.objs.size (fun g=>if g=f then some u else none):=by
     rw[eo] at hoI
     cases hoI
     rcases hdI with⟨z,_⟩ | ⟨d',hd',_,hn⟩
     . cases z
     . cases hd';exact hn
   refine⟨_,?_,q _ fr hxs⟩
   refine I.un (t':=tk') (h':=h') ⟨fun b o ho n _ _=>?_,fun b o ho n _ _=>⟨o.slots,?_⟩,fun b o ho n _=>?_,fun b o ho _=>?_,fun b xs z=>?_,fun b o xs z=>?_,fun b ps z=>⟨#[],?_⟩⟩ fun b o z=>?_
   . exact hkk b o (fun z=>by rw[z,e] at n;cases n) ho
   . exact hkk b o (fun z=>by rw[z,e] at n;cases n) ho
   . rw[za7 (fun z=>by rw[z,e] at n;cases n),za7 (Nat.ne_of_lt (Heap.lt_size ho))];exact n
   . by_cases hb:b=x
     . subst hb;exact⟨_,eo⟩
     . exact⟨o,hkk b o hb ho⟩
   . rw[za7 (zv6 z e (by intro w;cases w)),za7 (zb2 z fr)];exact z
   . rw[za7 (zv6 z e (by intro w;cases w)),za7 (zb2 z fr)];exact z
   . rw[za7 (zv6 z e (by intro w;cases w)),za7 (zb2 z fr),z];simp
   . by_cases hb:b=x
     . subst hb
       rw[za5] at z;cases z
       exact zR9 eo
     . rw[za7 hb] at z
       by_cases hb2:b=hp.objs.size
       . subst hb2
         rw[za5] at z;cases z
         exact zW7 (mA:=fun _=>none) (by decide) hn1 (fun g=>True.intro) PySem.Within.nil ry
       . rw[za7 hb2] at z
         refine(I.hok b o z).stay (fun c v hc qv=>hkk c v ?_ qv) (fun c qc=>?_) fun c xs qc=>?_
         . rcases hc with rfl | hc
           . exact hb
           . exact zv6 hc e (by intro w;cases w)
         . rw[za7 (zv6 qc e (by intro w;cases w)),za7 (zb2 qc fr)];exact qc
         . rw[za7 (zv6 qc e (by intro w;cases w)),za7 (zb2 qc fr)];exact qc
 | some dx =>
   obtain⟨fs,hd,hl,q⟩:=q
   obtain⟨hl2,mA,hn,r,wi⟩:=I.hok dx _ hd
   have hdx:dx≠x:=zv6 hd e (by intro w;cases w)
   have hI:s.heap.Inst x C mA:=⟨_,hx,rfl,fun c z=>(by cases z),.inr ⟨dx,rfl,hdx,hn⟩⟩
   have hz:(fs.map (·.1)).length<=sizeLine:=by rw[List.length_map,sizeLine_eq];omega
   obtain⟨hp,g,d,tk,os⟩:=s
   refine zW6 (ns:=fs.map (·.1)) I.kIn m hC c.sa na hxC hI (fun h' tk' I' hk hs=>?_) wi hz
   obtain⟨o1,e1,e2,e3,e4,e5,_⟩:=hs _ hx
   have ed:=e5 dx rfl
   have eo:h'.get? x=some { cls:=.ref C,dict:=some dx,data:=.fields #[.ref t,.none,.none,.none,.bool false,.none] }:=by
     rw[e1]
     obtain⟨c1,d1,dt1,sl1⟩:=o1
     simp only at e2 e3 e4 ed
     subst e2 e3 e4 ed
     rfl
   obtain⟨oI,hoI,_,_,hdI⟩:=I'
   have hn1:h'.Ns1 dx (fun g=>if g=f then some u else mA g):=by
     rw[eo] at hoI
     cases hoI
     rcases hdI with⟨z,_⟩ | ⟨d',hd',_,hn⟩
     . cases z
     . cases hd';exact hn
   refine⟨_,I.write (t':=tk') (h':=h') (x:=dx) (e:=dx) (by rw[hd];exact True.intro) (.inl rfl) (fun b o hb ho=>?_) (let⟨o,_,_,e',_⟩:=hn1;⟨o,e'⟩) (zW7 hl hn1 r wi ry),q⟩
   by_cases hbx:b=x
   . subst hbx
     rw[show hp.get? b=_ from hx] at ho
     cases ho
     exact eo
   . exact hk b o hbx (fun o0 d0 h0 hd0=>by rw[show hp.get? x=_ from hx] at h0;cases h0;cases hd0;exact hb) ho
end
section
variable {X:Cx} {o value:Expr} {f:Str} {pos pos':Pos} {ta tv:TE}
noncomputable def sXFld (K:W.Frag)(ta tv:TE)(f:Str):TS:=fun D σ H=>tv σ H fun y H1=>ta σ H1 fun x H2=>∃a C od,x = .ref a/\H2 a=some (ExcO C a od)/\XCls K C/\zc1 K C f/\XPut D.nx σ H2 a C od f y
theorem zS0 (ha:PE X o ta)(hv:PE X value tv)(hs:swapsWith value (some (.Attribute o f pos')) pos.line X.env=pure false):PS X (.Assign [.Attribute o f pos'] value pos) (sXFld X.K ta tv f):=by
 intro pins s σ H D I h
 refine plainObj_wpAny_Assign_Attribute (thn (hv pins s σ H _ I h) fun u s1 ⟨y,H1,I1,ry,q⟩=>thn (ha pins s1 σ H1 _ I1 q) fun ov s2 ⟨x,H2,I2,rx,a,C,od,ex,ea,c,n,q2⟩=>?_) hs
 subst ex
 obtain rfl:ov=Value.ref a:=rx
 exact thn (xsetattr_ok I2 c n ea ry q2) fun _ s3 ⟨H3,I3,q3⟩=>⟨σ,H3,I3,q3⟩
end
structure zY5 (K:W.Frag)(C:Addr)(m:Str)(f:Addr):Prop where
 ga:W.specialIn K (.ref C) "__getattribute__" = some (some (.builtin "type.__getattribute__"))
 rd:W.readsIn K C (.type "type")=true
 fd:W.findCls K (.ref C) (.type "type") m=some (.val (.ref f))
 kp:W.keepIn K (.ref f)=true
section
variable {X:Cx} {CX:CXT} {k:Nat} {f C:Addr} {fd:FuncData} {ps:List Str} {sp:Sp} {dvs:List V} {ds:List Value} {E:XK} {x m:Str} {p pos apos:Pos} {e:Expr} {es:List Expr} {t:TA}
theorem zh3 {pl:Sem Bool}(M:zY5 X.K C m f)(hg:Gl X x)(hm:X.mg x=some (.ref C))(F:FnOk X.prog X.w X.K X.mg X.base CX k f fd ps sp)(hr:Room k X.A)(hb:zb6 X.K fd ps ds)(hd:Vals dvs ds)(hx:zm5 CX X E)(ha:PA X (e::es) t)
   (hdb:(x == ("__debug__" : Str))=false:=by decide)
   (hst:starEach (e::es) X.env=(false,eval e X.env)::starEach es X.env:=by rfl) (hpl:(backTo pos (starEach es X.env)).any (·.1)=false:=by rfl)
   (ht:eval (.Call (.Attribute (.Name x p) m apos) (e::es) [] pos) X.env=(do
     let ov <-eval (.Name x p) X.env
     standAt apos.atName
     let(f,first) <-holding [ov] (getMethod ov m pl)
     callWith pos f first (backTo pos (starEach (e::es) X.env)) (backToKw pos (keywordEach [] X.env))):=by rfl) :
   PE X (.Call (.Attribute (.Name x p) m apos) (e::es) [] pos) (zY2 sp dvs E t):=by
 intro pins s σ H Q I h
 refine W.methodCall_KW (pl:=pl) (zr1 I hg hm ?_ hdb) ht
 refine W.method_cls I.kIn M.ga (W.cls_value I.kIn M.rd M.fd (by rfl) ?_)
 refine W.callWith_K (first:=[]) (h₀:=X.base) I.ok.mod.kin M.kp (thn (ha pos pins _ σ H _ (I.tok _) h) fun us s2 ⟨vs,H2,I2,r,q2⟩=>⟨I2.kIn,?_⟩) hst hpl
 exact zL1 F hr hb hd hx I2 r q2
end
noncomputable def del (H:Hp)(a:Addr):Hp:=fun b=>if b=a then none else H b
theorem zN3 (H:Hp)(a:Addr):del H a a=none:=if_pos rfl
theorem zt3 {H:Hp}{a b:Addr}(h:b≠a):del H a b=H b:=if_neg h
theorem zg7.got {P:Program}{w:World}{H:Hp}{h:Heap}{a:Addr}{o:HO}(x:zg7 P w H h a o):∃ob,h.get? a=some ob:=by
 cases o with
 | lst xs=>obtain⟨_,_,_,_,e⟩:=x;exact⟨_,e⟩
 | tup xs=>obtain⟨_,_,_,_,e,_⟩:=x;exact⟨_,e⟩
 | dK kvs=>obtain⟨_,_,_,_,o,_,_,e,_⟩:=x;exact⟨_,e⟩
 | dT kvs=>obtain⟨_,_,_,_,o,_,_,e,_⟩:=x;exact⟨_,e⟩
 | set S n=>obtain⟨o,_,_,_,e,_⟩:=x;exact⟨_,e⟩
 | ins C dx fs=>obtain⟨_,_,_,e,_⟩:=x;exact⟨_,e⟩
 | own y=>obtain⟨_,e⟩:=x;exact⟨_,e⟩
 | xd fs=>obtain⟨_,_,⟨_,_,_,e,_⟩,_⟩:=x;exact⟨_,e⟩
 | rng lo hi=>obtain⟨_,_,_,e⟩:=x;exact⟨_,e⟩
 | frz ob u=>obtain⟨e,_⟩:=x;exact⟨_,e⟩
 | tbl ps=>exact⟨_,show h.get? a=some _ from x⟩
 | met f y=>exact⟨_,show h.get? a=some _ from x⟩
 | ext φ=>obtain⟨_,⟨_,e⟩,_⟩:=x;exact⟨_,e⟩
section
variable {X:Cx} {pins:List (Addr×Obj)} {σ:St} {H H':Hp} {s s':Shared} {C x a:Addr} {od:Option Addr} {cls a0:Value}
theorem Inv.del (I:Inv X pins σ H s)(e:H x=some (ExcO C x od)):Inv X pins σ (L2.del H x) s:=by
 have ne:∀b u,H b=some u->(∀φ,u≠.ext φ)->b≠x:=fun b u q n z=>by rw[z,e] at q;cases q;exact n _ rfl
 have:=I.un (t':=s.toks) (h':=s.heap) (H':=L2.del H x) ⟨fun b o ho n _ _=>ho,fun b o ho n _ _=>⟨o.slots,ho⟩,fun b o ho n _=>?_,fun b o ho _=>⟨o,ho⟩,fun b xs z=>?_,fun b o xs z=>?_,fun b ps z=>⟨#[],?_⟩⟩ fun b o z=>?_
 . exact this
 . unfold L2.del;split
   . rfl
   . exact n
 . rw[zt3 (ne b _ z fun φ w=>by cases w)];exact z
 . rw[zt3 (ne b _ z fun φ w=>by cases w)];exact z
 . rw[zt3 (ne b _ z fun φ w=>by cases w),z];simp
 . have hb:b≠x:=fun q=>by rw[q,zN3] at z;cases z
   rw[zt3 hb] at z
   exact(I.hok b o z).stay (fun _ _ _ q=>q) (fun c q=>by rw[zt3 (ne c _ q fun φ w=>by cases w)];exact q) fun c xs q=>by rw[zt3 (ne c _ q fun φ w=>by cases w)];exact q
end
section
variable {P:Program} {w:World} {K:W.Frag} {mg:Str->Option Value} {base:Heap} {N:List Str} {qual:Str} {scope:Scope} {f:Addr} {cd:Value} {A:Around} {outer:List Env} {s:Shared} {H:Hp} {E:XK}
end
section
variable {M:Model} {A:Around} {E:Value->Shared->Prop} {env:Env}
variable {nm q:Str} {C N:Addr} {bs bm:List Value} {hdct:Bool} {sn:List Str} {sub:List Value} {ab:Bool} {col:Option Bool} {dd:Option Addr} {k0 k1 k2 k3 k5:Option Value} {newId:String}
theorem xraise {s:Shared}{x:Sem Value}{Q:Flow->Shared->Prop}(m:MroV bm)(hh:A.handled=none)
   (h:wpAny M A x (fun v s₁=>∃e od t,v = .ref e/\s₁.heap.get? C=some (excClassObj nm q C N bs bm hdct sn sub ab col dd k0 k1 k2 k3 k5 newId)/\s₁.heap.get? e=some { cls:=.ref C,dict:=od,data:=.fields #[.ref t,.none,.none,.none,.bool false,.none] }/\E (.ref e) s₁) E s) :
   wpAny M A (raiseStmt env (some x) none) Q E s:=by
 have hcB:(Value.ref C::bm).contains (.type "BaseException")=true:=m.self C (by decide)
 unfold raiseStmt
 refine wpAny_bind (wpAny_mono h (fun v s₁ h₁=>?_) fun _ _ x=>x)
 obtain⟨e,od,t,rfl,hC,he,hE⟩:=h₁
 obtain⟨hp,g,d,tk,os⟩:=s₁
 repeat (first | with_reducible refine wpAny_loadPart_at he ?_ | with_reducible refine wpAny_loadPart_at hC ?_ | (with_reducible refine wpAny_isSubtype_exc hC ?_;rw[hcB]) | wp_step)
 exact wpAny_raiseNew_none hh hE
end
section
variable {X:Cx} {CX:CXT} {k:Nat} {f C:Addr} {fd:FuncData} {ps:List Str} {sp:Sp} {dvs:List V} {ds:List Value} {E Ei:XK} {x m:Str} {p pos cpos apos:Pos} {e:Expr} {es:List Expr} {t:TA}
theorem run_xmake2 {pins:List (Addr×Obj)} {σ:St} {H:Hp} {s:Shared} {Q:Addr->Hp->Prop} {us:List Value} {vs:List V} (c:XCls X.K C) (hi:W.findIn X.K (.ref C) "__init__" = some (some (.ref f))) (hf:W.isFn X.K (.ref f)=true) (F:FnOk X.prog X.w X.K X.mg X.base CX k f fd ps sp) (hr:Room (k+1) X.A) (hb:zb6 X.K fd ps ds) (hd:Vals dvs ds)
   (hx:zm5 CX X E) (I:Inv X pins σ H s) (r:Vals vs us) (hv:vs.length<=sizeLine)
   (h:∀x,H x=none->sp (.ref x::(vs++dvs)) (upd H x (ExcO C x none)) (fun v H2=>v = .non/\Q x H2) E) :
   wpAny (model X.prog X.w) X.A (call (.ref C) us) (fun v s'=>v = .ref (s.heap.objs.size+1)/\∃H',Inv X pins σ H' s'/\Q (s.heap.objs.size+1) H') X.xe s:=by
 obtain⟨nm,qn,N,bs,bm,sn,sub,ab,col,dd,k0,k1,k2,k3,k5,hK,m⟩:=c.ob
 have hC:=I.kIn _ _ hK
 have hq:=h (s.heap.objs.size+1) (I.hok.fresh (Nat.le_succ _))
 have I1:Inv X pins σ H { s with heap:=s.heap.push { cls:=.type "tuple",data:=.seq us.toArray } }:=I.kept (t':=s.toks) fun b o e=>Heap.get?_push_of_some _ e
 have sz1:(s.heap.push { cls:=.type "tuple",data:=.seq us.toArray }).objs.size=s.heap.objs.size+1:=Heap.size_push ..
 have I2:Inv X pins σ (upd H (s.heap.objs.size+1) (ExcO C (s.heap.objs.size+1) none)) { s with heap:=(s.heap.push { cls:=.type "tuple",data:=.seq us.toArray }).push { cls:=.ref C,data:=.fields #[.ref s.heap.objs.size,.none,.none,.none,.bool false,.none] } }:=by
   refine I1.laid (t':=s.toks) (fun b o e=>Heap.get?_push_of_some _ e) (Nat.le_of_eq sz1) (zR9 (t:=s.heap.objs.size) ?_)
   rw[<-sz1];exact Heap.get?_push_size _ rfl
 have r2:Vals (V.ref (s.heap.objs.size+1)::(vs++dvs)) (Value.ref (s.heap.objs.size+1)::(us++ds)):=.cons rfl (r.append hd)
 have hl:(Value.ref (s.heap.objs.size+1)::us++ds).length=ps.length:=by
   have e:=r2.length
   rw[F.len _ _ _ _ hq] at e
   exact e.symm
 obtain⟨hp,g,d,tk,os⟩:=s
 refine xcall I.kIn m hC hi hf (by rw[<-r.length];exact hv) ?_
 refine wpAny_call (codeAny_mono (F.run _ X.stack _ _ ⟨Value.ref (hp.objs.size+1)::us,[]⟩ (Value.ref (hp.objs.size+1)::(us++ds)) _ _ E (hr.make C us []) (I2.env0.make C us []) (hb _ (Value.ref (hp.objs.size+1)::us) I2.kIn hl) r2 hq) fun r s' hq'=>?_)
 cases r with
 | error e=>exact hx pins σ _ _ e s' I2 hq'
 | ok fl =>
   cases fl with
   | ret u =>
     obtain⟨v,H',I3,rv,ev,q3⟩:=I2.after hq'
     subst ev
     exact⟨rv,rfl,H',I3,q3⟩
   | next=>exact False.elim hq'
   | brk=>exact False.elim hq'
   | cont=>exact False.elim hq'
end
noncomputable def Cx.caught (X:Cx)(e:Value):Cx:={ X with A:=X.A.mark (some e),calm:=false,xe:=fun _ _=>False }
section
variable {X:Cx} {pins pins':List (Addr×Obj)} {σ:St} {H:Hp} {s:Shared} {E:XK} {e:Value} {D:Ends} {f:Flow}
theorem Inv.caught (I:Inv X pins σ H s)(e:Value):Inv (X.caught e) pins σ H s :=
 let ok:=I.ok
 ⟨⟨ok.mod,ok.kind,ok.glob,ok.blt,ok.above,ok.inj,ok.has,ok.cab,(fun z=>nomatch z),ok.frames,ok.stk,ok.exf,ok.bs,ok.bsz,ok.noex,ok.exfs,ok.funs,ok.frf⟩,I.os,I.bare,I.base,I.loc,I.cell,I.free,I.freeC,I.pin,I.hok,I.len⟩
theorem Inv.uncaught (hd:X.calm=true->X.A.handled=none)(I:Inv (X.caught e) pins σ H s):Inv X pins σ H s :=
 let ok:=I.ok
 ⟨⟨ok.mod,ok.kind,ok.glob,ok.blt,ok.above,ok.inj,ok.has,ok.cab,hd,ok.frames,ok.stk,ok.exf,ok.bs,ok.bsz,ok.noex,ok.exfs,ok.funs,ok.frf⟩,I.os,I.bare,I.base,I.loc,I.cell,I.free,I.freeC,I.pin,I.hok,I.len⟩
theorem SP.uncaught (hd:X.calm=true->X.A.handled=none)(h:SP (X.caught e) pins D f s):SP X pins D f s:=by
 cases f with
 | next=>obtain⟨σ',H',I,q⟩:=h;exact⟨σ',H',I.uncaught hd,q⟩
 | brk=>obtain⟨σ',H',I,q⟩:=h;exact⟨σ',H',I.uncaught hd,q⟩
 | cont=>obtain⟨σ',H',I,q⟩:=h;exact⟨σ',H',I.uncaught hd,q⟩
 | ret u=>obtain⟨v,σ',H',I,r,q⟩:=h;exact⟨v,σ',H',I.uncaught hd,r,q⟩
end
section
variable {X:Cx} {C:Addr} {E:XK} {x:Str} {p pos hpos:Pos} {body suite:List Stmt} {b₀:Stmt} {tb th:TS}
end
structure FunD (K:W.Frag)(x qual:Str)(st:Stmt)(f:Addr)(fd:FuncData):Prop where
 ex:∃(oc:Value) (od:Option Addr) (dV kV doc pm:Value) (an:Option Addr) (cdv ct:Value) (osl:Array (Option Value)),
   fd=W.fnOf x qual (zb1 st) (za9 st) (za2 st) dV kV doc pm an cdv ct/\K.lookup f=some ⟨oc,od,.func fd,osl⟩/\W.codeIn K cdv qual=true
 kp:W.keepIn K (.ref f)=true
section
variable {P:Program} {w:World} {K:W.Frag} {mg:Str->Option Value} {base:Heap} {CX:CXT}
theorem Fun.d {x qual:Str}{st:Stmt}{f:Addr}{fd:FuncData}(F:Fun K x qual st f fd):FunD K x qual st f fd:=by
 obtain⟨oc,od,kV,doc,pm,an,cdv,ct,osl,h⟩:=F.ex
 exact⟨⟨oc,od,.none,kV,doc,pm,an,cdv,ct,osl,h⟩,F.kp⟩
theorem FunD.ok {x qual:Str}{st:Stmt}{f:Addr}{fd:FuncData}{N ps:List Str}{k:Nat}{sp:Sp}(F:FunD K x qual st f fd)(S:zb5 N ps (za2 st))(len:∀vs H Q E,sp vs H Q E->vs.length=ps.length)
   (hbody:∀(cdv:Value) (A:Around) (outer:List Env) (s:Shared) (H:Hp) (vs:List V) (Q:VK) (E:XK),Room k (A.deeper (envOfC qual (za2 st) s.heap.objs.size f cdv))->sp vs H Q E →
     ∃t,PSs (cxOf CX0 P w K mg base N qual (za2 st) f cdv A outer s H E).nox (za9 st) t/\t { nx:=fun _ H'=>Q .non H',rt:=Q } (zv7 N vs) H):FnOk P w K mg base CX0 (k+1) f fd ps sp:=by
 obtain⟨oc,od,dV,kV,doc,pm,an,cdv,ct,osl,rfl,lk,hcd⟩:=F.ex
 refine zV9 lk hcd S len fun A outer s H vs Q E hr hsp=>?_
 obtain⟨t,h,q⟩:=hbody cdv A outer s H vs Q E hr hsp
 exact⟨t,h.nox,q⟩
theorem zi0 {x qual:Str}{st:Stmt}{f:Addr}{oc:Value}{od an:Option Addr}{osl:Array (Option Value)}{dV kV doc pm cdv ct:Value}(l:K.lookup f=some ⟨oc,od,.func (W.fnOf x qual (zb1 st) (za9 st) (za2 st) dV kV doc pm an cdv ct),osl⟩)
 (c:W.codeIn K cdv qual=true) (k:W.keepIn K (.ref f)=true):FunD K x qual st f (W.fnOf x qual (zb1 st) (za9 st) (za2 st) dV kV doc pm an cdv ct):=⟨⟨oc,od,dV,kV,doc,pm,an,cdv,ct,osl,rfl,l,c⟩,k⟩
noncomputable abbrev EN:XK:=fun _ _ _=>False
end
noncomputable def zC8 (CX:CXT)(X:Cx)(Ex:St->XK):Prop:=∀(pins:List (Addr×Obj)) (σ:St) (H:Hp) (s:Shared) (e:Value) (s':Shared),Inv X pins σ H s->CX X.stack H s (Ex σ) e s'->X.xe e s'
noncomputable def tCallS (sp:Sp)(dvs:List V)(Ex:St->XK)(t:TA):TE:=fun σ H Q=>t σ H fun vs H1=>sp (vs++dvs) H1 Q (Ex σ)
section
variable {X:Cx} {pins pins':List (Addr×Obj)} {σ:St} {H:Hp} {s:Shared} {Ex:St->XK} {D:Ends} {fl:Flow}
end
section
variable {X:Cx} {CX:CXT} {k:Nat} {f C:Addr} {fd:FuncData} {ps:List Str} {sp:Sp} {dvs:List V} {ds:List Value} {Ex:St->XK} {x m:Str} {p pos apos:Pos} {e o:Expr} {es:List Expr} {ta:TE} {t:TA}
theorem pe_callS (F:FnOk X.prog X.w X.K X.mg X.base CX k f fd ps sp)(hr:Room k X.A)(hg:Gl X x)(hm:X.mg x=some (.ref f))(hk:W.keepIn X.K (.ref f)=true)(hb:zb6 X.K fd ps ds)(hd:Vals dvs ds)(hx:zC8 CX X Ex)
   (ha:PA X (e::es) t) (hdb:(x == ("__debug__" : Str))=false:=by decide) (he:starEach (e::es) X.env=(false,eval e X.env)::starEach es X.env:=by rfl) (hpl:(backTo pos (starEach es X.env)).any (·.1)=false:=by rfl) :
   PE X (.Call (.Name x p) (e::es) [] pos) (tCallS sp dvs Ex t):=by
 intro pins s σ H Q I h
 refine wpAny_Call_Name_kw (zr1 I hg hm ?_ hdb)
 refine W.callWith_K (h₀:=X.base) I.ok.mod.kin hk (thn (ha pos pins s σ H _ I h) fun us s1 ⟨vs,H1,I1,r,q⟩=>⟨I1.kIn,?_⟩) he hpl
 have r2:Vals (vs++dvs) (us++ds):=r.append hd
 have hl:(us++ds).length=ps.length:=by rw[<-r2.length];exact F.len _ _ _ _ q
 refine wpAny_call (codeAny_mono (F.run X.A X.stack s1 H1 ⟨us,[]⟩ (us++ds) (vs++dvs) Q (Ex σ) hr I1.env0 (hb s1 us I1.kIn hl) r2 q) fun r s' hq=>?_)
 cases r with
 | error e=>exact hx pins σ H1 s1 e s' I1 hq
 | ok fl =>
   cases fl with
   | ret u=>exact I1.after hq
   | next=>exact False.elim hq
   | brk=>exact False.elim hq
   | cont=>exact False.elim hq
end
section
variable {X:Cx} {D:Addr} {Ex:St->XK} {x:Str} {p pos hpos:Pos} {body suite:List Stmt} {b₀:Stmt} {tb th:TS}
end
section
variable {X:Cx} {pins:List (Addr×Obj)} {σ:St} {H:Hp} {s:Shared}
theorem zC9 {M:Model}{A:Around}{E:Value->Shared->Prop}{i:Nat}{x:Str}{pos:Pos}{Q:Unit->Shared->Prop}(I:Inv X pins σ H s)(hN:X.N.Nodup)(hi:X.N[i]?=some x)(hk:X.env.scope.names.lookup x=some .local)
   (h:∀s',Inv X pins (σ.set i none) H s'->Q () s'):wpAny M A (do bindName X.env x .none;unbindBehindTheSuite X.env x pos) Q E s:=by
 obtain⟨m,hn,hl⟩:=id I.loc
 have hcls:(X.env.scope.kind == .class || (X.env.scope.kind == .module && X.env.locals != X.env.globals))=false:=by rw[I.ok.kind];rfl
 have hiσ:i<σ.length:=by rw[I.len];exact(List.getElem?_eq_some_iff.mp hi).1
 have cne:=I.cne
 refine wpAny_nameGoes_keeps hk hn hcls fun h' v hn' hs=>?_
 refine h _ ⟨I.ok,I.os,I.bare,⟨fun b o e n hb hx=>?_,fun b o e n hb hx=>?_,I.base.free,fun b o e hx=>?_,I.base.tups,I.base.frzs,I.base.tbls⟩,⟨_,hn',fun j y v' e1 e2 e3=>?_⟩,fun y c e=>?_,I.free,I.freeC,fun p hp=>?_,fun b ob e=>?_,by simpa using I.len⟩
 . exact(hs.2 b (Nat.ne_of_lt (Nat.lt_of_lt_of_le (Heap.lt_size e) I.ok.above))).trans (I.base.keep b o e n hb hx)
 . obtain⟨sl,e1⟩:=I.base.slot b o e n hb hx
   exact⟨sl,(hs.2 b (Nat.ne_of_lt (Nat.lt_of_lt_of_le (Heap.lt_size e) I.ok.above))).trans e1⟩
 . obtain⟨o',e1⟩:=I.base.there b o e hx
   exact⟨o',(hs.2 b (Nat.ne_of_lt (Nat.lt_of_lt_of_le (Heap.lt_size e) I.ok.above))).trans e1⟩
 . by_cases hj:j=i
   . subst hj
     rw[List.getElem?_set_self hiσ] at e2
     cases e2
   . rw[List.getElem?_set_ne (Ne.symm hj)] at e2
     obtain⟨u',r',q⟩:=hl j y v' e1 e2 e3
     refine⟨u',r',?_⟩
     rcases q with⟨k,e⟩ | ⟨k,c,e,z⟩
     . refine .inl ⟨k,?_⟩
       have:y≠x:=fun e=>hj (zD9 hN e1 (e▸hi))
       simp[this,e]
     . exact .inr ⟨k,c,e,z.sameBut hs (cne y c e)⟩
 . obtain⟨w',z⟩:=I.cell y c e
   exact⟨w',z.sameBut hs (cne y c e)⟩
 . obtain⟨e,n,ne,nf,d⟩:=I.pin p hp
   exact⟨(hs.2 p.1 ne).trans e,n,ne,nf,d⟩
 . refine(I.hok b ob e).stay (fun c w' hc q=>(hs.2 c ?_).trans q) (fun _ q=>q) fun _ _ q=>q
   rintro rfl
   rcases hc with rfl | hc
   . rw[I.free] at e;cases e
   . rw[I.free] at hc;cases hc
end
section
variable {X:Cx} {D:Addr} {Ex:St->XK} {x n:Str} {i:Nat} {p pos hpos:Pos} {body suite:List Stmt} {b₀:Stmt} {tb th:TS}
noncomputable def Ends.forget (D:Ends)(i:Nat):Ends:={ nx:=fun σ H=>D.nx (σ.set i none) H,rt:=D.rt,bk:=fun σ H=>D.bk (σ.set i none) H,ct:=fun σ H=>D.ct (σ.set i none) H }
end
theorem zl4 {K:W.Frag} {c:Value} {D:Addr} {b:Bool} (h1:W.subIn K (.ref D) (.type "BaseException")=some true) (h2:(W.clsIn K D).isSome=true) (h3:W.typeIn K (.ref D)=some (.type "type")) (h4:W.subIn K c (.ref D)=some b) :
   W.exmOne K c (.ref D)=some b:=by
 unfold W.exmOne W.kitCls
 simp[h1,h2,h3,h4]
theorem za3 {K:W.Frag} {c:Value} {D:Addr} {b:Bool} (hne:(c == .ref D)=false) (h2:(W.clsIn K D).isSome=true) (h3:W.typeIn K (.ref D)=some (.type "type")) (h4:W.subIn K c (.ref D)=some b) :
   W.kitOne K c (.ref D)=some b:=by
 unfold W.kitOne W.kitCls
 rw[hne]
 simp[h2,h3,h4]
section
variable {X:Cx}
inductive zS1  (x:V)(y:V)(H:Hp)(Q:VK):Prop
 | mk (a b xs ys:_)(h0:x = .ref a)(h1:y = .ref b)(h2:H a=some (.tup xs))(h3:H b=some (.tup ys))(h4:xs.length+ys.length<=sizeLine)(h5:∀p H',Same H H'->H' p=some (.tup (xs++ys))->Q (.ref p) H'):zS1  x y H Q
noncomputable def rCatU:R2:=fun x y H Q=>zS1  x y H Q
theorem zS2:OpR X (binaryOp .Add) rCatU:=by
 intro pins s σ H x y v u Q I rx ry h
 obtain⟨a,b,xs,ys,rfl,rfl,ha,hb,hz,q⟩:=h
 by_cases hx:xs=[]
 . subst hx
   cases rx
   cases ry
   obtain⟨its,r1,p1,_⟩:=I.tuple (SqT.of ha)
   obtain⟨its2,r2,p2,_⟩:=I.tuple (SqT.of hb)
   have e0:its=[]:=r1.nil_iff.mpr rfl
   subst e0
   obtain⟨⟨cls,dd,data,sl⟩,ho,hc,n,hd⟩:=id p1
   obtain⟨⟨cls2,dd2,data2,sl2⟩,ho2,hc2,n2,hd2⟩:=id p2
   simp only at hc hd hc2 hd2
   subst hc hd hc2 hd2
   exact concat_meets ⟨_,ho,rfl⟩ ⟨_,ho2,rfl⟩ noFill_tuple_add seq_tuple_add PySem.F.slot_tuple_add PySem.F.entry_tuple_add (PySem.F.args_tuple_add_2 _ _)
     (tuple_addW0 _ _ _ _ _ _ _ _ _ _ (by simp)) ⟨ho,ho2,.ref b,H,I,rfl,q b H (Same.refl _) hb⟩
 . refine op_catT pins s σ H _ _ v u Q I rx ry ⟨a,b,xs,ys,rfl,rfl,SqT.of ha,SqT.of hb,hx,hz,fun e=>?_,fun _ p hp=>q p _ (Same.upd hp) za5⟩
   subst e
   exact q a H (Same.refl _) (by rw[List.append_nil];exact ha)
end
theorem zN4 {J:It}{H1:Hp}{D:Addr}{n:Nat}{x:Nat->V}{j:Nat}{σc:St}{tif:TT}{telt:TE}{Q:Hp->Prop}(Iv:Nat->Hp->Prop)(h0:Iv 0 (upd H1 D (.lst [])))
   (go:∀i H',i<n->Iv i H'->J.go i H') (st:∀H',Iv n H'->J.stop n H') (yl:∀i v H' H2,i<n->Iv i H'->J.yld i H' v H2->H2=H'/\v=x i)
   (step:∀i H' (N:St->Hp->Prop),i<n->Iv i H'->(∀H2,Iv (i+1) H2->N (σc.set j (some (x i))) H2)->tif (σc.set j (some (x i))) H' fun b H4=>if b=true then zt1 D telt N (σc.set j (some (x i))) H4 else N (σc.set j (some (x i))) H4)
   (q:∀H',Iv n H'->Q H') :
   ∃W:Nat->Nat->St->Hp->Prop,(∃m,W 0 m σc (upd H1 D (.lst []))) ∧
     ∀i m σ' H',W i m σ' H'->(J.stop i H'/\Q H')\/(J.go i H'/\∃N:St->Hp->Prop,(∀σ2 H2,N σ2 H2->∃m',m'<m/\W (i+1) m' σ2 H2) ∧
       ∀v H2,J.yld i H' v H2->zB8 j v σ' H2 fun σ3 H3=>tif σ3 H3 fun b H4=>if b=true then zt1 D telt N σ3 H4 else N σ3 H4):=by
 refine⟨fun i m σ' H'=>m=n-i/\i<=n/\(∀v,σ'.set j (some v)=σc.set j (some v))/\Iv i H',⟨n,by simp,Nat.zero_le _,fun _=>rfl,h0⟩,?_⟩
 rintro i m σ' H' ⟨rfl,hi,hσ,iv⟩
 by_cases hlt:i<n
 . refine .inr ⟨go i _ hlt iv,fun σ2 H2=>(∀v,σ2.set j (some v)=σc.set j (some v))/\Iv (i+1) H2,fun σ2 H2 ⟨h1,h2⟩=>⟨n-(i+1),by omega,rfl,hlt,h1,h2⟩,fun v H2 y=>?_⟩
   obtain⟨rfl,rfl⟩:=yl i v _ H2 hlt iv y
   dsimp only[zB8]
   rw[hσ]
   exact step i _ _ hlt iv fun H2 h2=>⟨fun v=>by simp,h2⟩
 . have e:i=n:=by omega
   subst e
   exact .inl ⟨st _ iv,q _ iv⟩
theorem comp_rangeI {H1:Hp}{D:Addr}{lo:Int}{n:Nat}{j:Nat}{σc:St}{tif:TT}{telt:TE}{Q:Hp->Prop}(Iv:Nat->Hp->Prop)(h0:Iv 0 (upd H1 D (.lst [])))
   (step:∀i H' (N:St->Hp->Prop),i<n->Iv i H'->(∀H2,Iv (i+1) H2->N (σc.set j (some (.int (lo+i)))) H2)->tif (σc.set j (some (.int (lo+i)))) H' fun b H4=>if b=true then zt1 D telt N (σc.set j (some (.int (lo+i)))) H4 else N (σc.set j (some (.int (lo+i)))) H4)
   (q:∀H',Iv n H'->Q H') :
   ∃W:Nat->Nat->St->Hp->Prop,(∃m,W 0 m σc (upd H1 D (.lst []))) ∧
     ∀i m σ' H',W i m σ' H'->((Itr lo n).stop i H'/\Q H')\/((Itr lo n).go i H'/\∃N:St->Hp->Prop,(∀σ2 H2,N σ2 H2->∃m',m'<m/\W (i+1) m' σ2 H2) ∧
       ∀v H2,(Itr lo n).yld i H' v H2->zB8 j v σ' H2 fun σ3 H3=>tif σ3 H3 fun b H4=>if b=true then zt1 D telt N σ3 H4 else N σ3 H4) :=
 zN4 (J:=Itr lo n) (x:=fun i=>.int (lo+i)) Iv h0 (fun i H' hi _=>hi) (fun H' _=>Nat.le_refl _) (fun i v H' H2 hi _ y=>y) step q
theorem zw9 {K:W.Frag}{H1:Hp}{D a:Addr}{xs:List V}{j:Nat}{σc:St}{tif:TT}{telt:TE}{Q:Hp->Prop}(Iv:Nat->Hp->Prop)(h0:Iv 0 (upd H1 D (.lst [])))
   (hs:∀i H',Iv i H'->SqL K H' a xs)
   (step:∀i x H' (N:St->Hp->Prop),xs[i]?=some x->Iv i H'->(∀H2,Iv (i+1) H2->N (σc.set j (some x)) H2)->tif (σc.set j (some x)) H' fun b H4=>if b=true then zt1 D telt N (σc.set j (some x)) H4 else N (σc.set j (some x)) H4)
   (q:∀H',Iv xs.length H'->Q H') :
   ∃W:Nat->Nat->St->Hp->Prop,(∃m,W 0 m σc (upd H1 D (.lst []))) ∧
     ∀i m σ' H',W i m σ' H'->((Itl K a).stop i H'/\Q H')\/((Itl K a).go i H'/\∃N:St->Hp->Prop,(∀σ2 H2,N σ2 H2->∃m',m'<m/\W (i+1) m' σ2 H2) ∧
       ∀v H2,(Itl K a).yld i H' v H2->zB8 j v σ' H2 fun σ3 H3=>tif σ3 H3 fun b H4=>if b=true then zt1 D telt N σ3 H4 else N σ3 H4):=by
 refine zN4 (J:=Itl K a) (n:=xs.length) (x:=fun i=>xs.getD i .non) Iv h0 (fun i H' hi iv=>⟨xs,xs[i],hs _ _ iv,by simp[hi]⟩) (fun H' iv=>⟨xs,hs _ _ iv,Nat.le_refl _⟩) (fun i v H' H2 hi iv y=>?_) (fun i H' N hi iv hN=>?_) q
 . obtain⟨e,y⟩:=y
   have:=y xs (hs _ _ iv)
   exact⟨e,by rw[List.getD_eq_getElem?_getD,this];rfl⟩
 . have e:xs[i]?=some (xs.getD i .non):=by rw[List.getD_eq_getElem?_getD,List.getElem?_eq_getElem hi];rfl
   exact step i _ H' N e iv hN
theorem dict_mapF (g:Array Value->Array Value)(o:Obj):(Obj.mapFields g o).dict=o.dict:=by
 obtain⟨c,d,dt,sl⟩:=o
 cases dt<;>rfl
noncomputable def TrD (h base:Heap)(e:Addr)(cls:Value)(od:Option Addr)(fl:Value):Prop :=
 ∃ob fs T ot tf,h.get? e=some ob/\(ob.cls=cls/\ob.dict=od)/\ob.data = .fields fs/\fs[1]?=some (.ref T)/\base.get? T=none/\T≠e/\h.get? T=some ot/\ot.data = .fields tf/\tf[3]?=some fl
noncomputable def FlD (base:Heap)(l:List Env)(e:Addr)(cls:Value)(od:Option Addr)(fl:Value)(h:Heap):Prop:=base.StaysIn h/\base.get? e=none/\h.FunFrames base l/\TrD h base e cls od fl
theorem FlD.there {base h:Heap}{l:List Env}{e:Addr}{cls fl:Value}{od:Option Addr}(x:FlD base l e cls od fl h):∃ob,h.get? e=some ob/\(ob.cls=cls/\ob.dict=od)/\∃vs,ob.data = .fields vs:=by
 obtain⟨_,_,_,ob,fs,_,_,_,e1,e2,e3,_⟩:=x
 exact⟨ob,e1,e2,fs,e3⟩
section
variable {M:Model} {A:Around} {E:Value->Shared->Prop} {s:Shared} {base:Heap} {env:Env} {outer l:List Env} {L e:Addr} {cls fl:Value} {od:Option Addr} {Q:Unit->Shared->Prop}
theorem zx7 (x:FlD base l e cls od fl s.heap)(k:∀h',FlD base l e cls od .none h'->s.heap.UpToSlots h'->Q () { s with heap:=h' }):wpAny M A (setFlight (.ref e) none) Q E s:=by
 obtain⟨st,ne,ff,ob,fs,T,ot,tf,g1,gc,g2,g3,g4,g5,g6,g7,g8⟩:=x
 have sz3:3<tf.size:=(Array.getElem?_eq_some_iff.mp g8).1
 let U:Heap:=s.heap.update T (Obj.mapFields (·.setIfInBounds 3 ((none:Option Addr).elim Value.none fun f=>rawInt f)))
 have oth:∀b,b≠T->U.get? b=s.heap.get? b:=fun b hb=>Heap.get?_update_other _ _ (Ne.symm hb)
 have noT:∀b o,s.heap.get? b=some o->(∀vs,o.data≠.fields vs)->b≠T:=fun b o hb hn z=>by
   rw[z,g6] at hb
   cases hb
   exact hn tf g7
 unfold setFlight
 refine wpAny_bind (wpAny_field g1 g2 g3 ?_)
 rw[if_pos (show(Value.ref T != Value.none)=true by simp)]
 refine wpAny_setField g6 g7 sz3 (k U ⟨fun b o hb=>(oth b fun z=>by rw[z,g4] at hb;cases hb).trans (st b o hb),ne,ff.of_keeps fun b o hb hn=>⟨o,(oth b (noT b o hb hn)).trans hb,rfl⟩,?_⟩ fun b o hb hn=>⟨o.slots,(oth b (noT b o hb hn)).trans hb⟩)
 exact⟨ob,fs,T,_,_,(oth e (Ne.symm g5)).trans g1,gc,g2,g3,g4,g5,Heap.get?_update_self _ g6 (Obj.isFreed_of_fields (Obj.data_mapFields g7 _)),Obj.data_mapFields g7 _,by simp[sz3]⟩
theorem zN5 {ob:Obj}{fs:Array Value}{head:Value}{nx:Bool}(fr:A.frames=some (env::outer))(ff:s.heap.FunFrames base (env::outer))(lf:env.frame=some L)(g1:s.heap.get? e=some ob)(st:base.StaysIn s.heap)(ne:base.get? e=none)(g2:ob.data = .fields fs)(sz:1<fs.size)
   (k:∀h',FlD base (env::outer) e ob.cls ob.dict (rawInt L) h'->s.heap.UpToSlots h'->Q () { s with heap:=h' }) :
   wpAny M A (do let a <-frameOf env;let pl <-entryPlaceOf L nx;let b <-EntryCells.newEntry head a .none (rawInt L) .none pl;setField (.ref e) 1 b) Q E s:=by
 have nfr:e∉(env::outer).filterMap (·.frame):=fun hm=>by
   obtain⟨_,o,ho,hn⟩:=ff.mem hm
   rw[g1] at ho
   cases ho
   exact hn fs g2
 refine wpAny_bind (wpAny_frameOf_fun fr ff lf fun h1 q1=>?_)
 refine wpAny_bind (wpAny_entryPlaceOf fun pl hpl=>?_)
 unfold EntryCells.newEntry newFields
 refine wpAny_bind (wpAny_newObj_type ?_ (hpl.sizeOk5 _ _ _ _ _))
 have e1:h1.get? e=some ob:=(q1.2.1 e nfr).trans g1
 have st1:base.StaysIn h1:=fun b o hb=>(q1.2.1 b fun hm=>by rw[(ff.mem hm).1] at hb;cases hb).trans (st b o hb)
 generalize htb:(([head,.ref L,.none,rawInt L,.none]++(if pl.isEmpty then List.replicate 6 Value.none else pl)).toArray:Array Value)=tb
 have tb3:tb[3]?=some (rawInt L):=by rw[<-htb];rcases hpl with rfl | ⟨_,_,_,_,_,_,_,rfl⟩<;>simp
 have e2:=Heap.get?_push_of_some (h:=h1) { cls:=.type "traceback",dict:=none,data:=.fields tb } e1
 refine wpAny_setField e2 g2 sz (k _ ?_ ?_)
 all_goals
   have neT:h1.objs.size≠e:=Nat.ne_of_gt (Heap.lt_size e1)
   have keep:∀b o,b≠e->h1.get? b=some o->((h1.push { cls:=.type "traceback",dict:=none,data:=.fields tb }).update e (Obj.mapFields (·.setIfInBounds 1 (Value.ref h1.objs.size)))).get? b=some o:=fun b o hb hg=>by
     rw[Heap.get?_update_other _ _ (Ne.symm hb)]
     exact Heap.get?_push_of_some _ hg
   have noE:∀b o,s.heap.get? b=some o->(∀vs,o.data≠.fields vs)->b≠e:=fun b o hb hn z=>by
     rw[z,g1] at hb
     cases hb
     exact hn fs g2
 . have d3:=Obj.data_mapFields g2 (·.setIfInBounds 1 (Value.ref h1.objs.size))
   have e3:=Heap.get?_update_self (Obj.mapFields (·.setIfInBounds 1 (Value.ref h1.objs.size))) e2 (Obj.isFreed_of_fields d3)
   have t3:=(Heap.get?_update_other (h1.push { cls:=.type "traceback",dict:=none,data:=.fields tb }) (Obj.mapFields (·.setIfInBounds 1 (Value.ref h1.objs.size))) (Ne.symm neT)).trans (Heap.get?_push_size h1 rfl)
   refine⟨fun b o hb=>keep b o (fun z=>by rw[z,ne] at hb;cases hb) (st1 b o hb),ne,ff.of_keeps fun b o hb hn=>?_,?_⟩
   . obtain⟨sl,z⟩:=q1.2.2 b o hb
     exact⟨_,keep b _ (noE b o hb hn) z,rfl⟩
   . exact⟨_,_,h1.objs.size,_,_,e3,⟨Obj.cls_mapFields _ _,dict_mapF _ _⟩,d3,by simp[sz],st1.fresh,neT,t3,rfl,tb3⟩
 . intro b o hb hn
   obtain⟨sl,z⟩:=q1.2.2 b o hb
   exact⟨sl,keep b _ (noE b o hb hn) z⟩
theorem leave_first {ob:Obj}{fs:Array Value}(fr:A.frames=some (env::outer))(ff:s.heap.FunFrames base (env::outer))(lf:env.frame=some L)(g1:s.heap.get? e=some ob)(st:base.StaysIn s.heap)(ne:base.get? e=none)(g2:ob.data = .fields fs)(g3:fs[1]?=some .none)
   (k:∀h',FlD base (env::outer) e ob.cls ob.dict .none h'->s.heap.UpToSlots h'->Q () { s with heap:=h' }):wpAny M A («leaving» env (.ref e)) Q E s:=by
 unfold «leaving» noteFrame
 simp only[lf]
 refine wpAny_bind (wpAny_bind (wpAny_field g1 g2 g3 ?_))
 rw[if_neg (by decide)]
 exact zN5 fr ff lf g1 st ne g2 (Array.getElem?_eq_some_iff.mp g3).1 fun h' x up=>zx7 (s:={ s with heap:=h' }) x fun h2 x2 up2=>k h2 x2 (up.trans up2)
theorem zS3 (fr:A.frames=some (env::outer))(lf:env.frame=some L)(x:FlD base (env::outer) e cls od .none s.heap)
   (k:∀h',FlD base (env::outer) e cls od (rawInt L) h'->s.heap.UpToSlots h'->Q () { s with heap:=h' }):wpAny M A (noteFrame (.ref e) env) Q E s:=by
 obtain⟨st,ne,ff,ob,fs,T,ot,tf,g1,⟨gc,gd⟩,g2,g3,g4,g5,g6,g7,g8⟩:=x
 subst gc gd
 unfold noteFrame
 simp only[lf]
 refine wpAny_bind (wpAny_field g1 g2 g3 ?_)
 rw[if_pos (show(Value.ref T != Value.none)=true by simp)]
 refine wpAny_bind (wpAny_field g6 g7 g8 ?_)
 rw[if_neg (show ¬ ((Value.none == rawInt L)=true) by simp[rawInt])]
 refine wpAny_bind (wpAny_setField g6 g7 (Array.getElem?_eq_some_iff.mp g8).1 ?_)
 have oth:∀b,b≠T->(s.heap.update T (Obj.mapFields (·.setIfInBounds 3 Value.none))).get? b=s.heap.get? b:=fun b hb=>Heap.get?_update_other _ _ (Ne.symm hb)
 have noT:∀b o,s.heap.get? b=some o->(∀vs,o.data≠.fields vs)->b≠T:=fun b o hb hn z=>by
   rw[z,g6] at hb
   cases hb
   exact hn tf g7
 refine zN5 fr (ff.of_keeps fun b o hb hn=>⟨o,(oth b (noT b o hb hn)).trans hb,rfl⟩) lf ((oth e (Ne.symm g5)).trans g1) (fun b o hb=>(oth b fun z=>by rw[z,g4] at hb;cases hb).trans (st b o hb)) ne g2 (Array.getElem?_eq_some_iff.mp g3).1 fun h' x up=>k h' x fun b o hb hn=>up b o ((oth b (noT b o hb hn)).trans hb) hn
theorem leave_on (fr:A.frames=some (env::outer))(lf:env.frame=some L)(x:FlD base (env::outer) e cls od .none s.heap)
   (k:∀h',FlD base outer e cls od .none h'->s.heap.UpToSlots h'->Q () { s with heap:=h' }):wpAny M A («leaving» env (.ref e)) Q E s:=by
 unfold «leaving»
 refine wpAny_bind (zS3 fr lf x fun h1 x1 up1=>zx7 (s:={ s with heap:=h1 }) x1 fun h2 x2 up2=>?_)
 obtain⟨k1,k2,⟨_,_,k3⟩,k4⟩:=x2
 exact k h2 ⟨k1,k2,k3,k4⟩ (up1.trans up2)
end
noncomputable def FlyD (h:Heap)(H:Hp)(h0:Heap)(a:Addr)(cls:Value)(od:Option Addr):Prop :=
 (H a=none/\h0.get? a=none)/\∃T,(H T=none/\h0.get? T=none)/\∃oe vs oT ts,h.get? a=some oe/\(oe.cls=cls/\oe.dict=od)/\oe.data = .fields vs/\vs[1]?=some (.ref T)/\T≠a/\h.get? T=some oT/\oT.data = .fields ts/\ts[3]?=some Value.none
theorem FlyD.from {h:Heap}{H:Hp}{h0 h1:Heap}{a:Addr}{cls:Value}{od:Option Addr}(x:FlyD h H h0 a cls od)(k:∀b o,h1.get? b=some o->∃o',h0.get? b=some o'):FlyD h H h1 a cls od:=by
 have g:∀b,h0.get? b=none->h1.get? b=none:=fun b e=>by
   cases q:h1.get? b with
   | none=>rfl
   | some o=>obtain⟨o',z⟩:=k b o q;rw[e] at z;cases z
 obtain⟨⟨x1,x2⟩,T,⟨x3,x4⟩,r⟩:=x
 exact⟨⟨x1,g _ x2⟩,T,⟨x3,g _ x4⟩,r⟩
theorem FlyD.flying {h:Heap}{H:Hp}{h0 B:Heap}{a:Addr}{cls:Value}{od:Option Addr}{l:List Env}(x:FlyD h H h0 a cls od)(ff:h.FunFrames B l) :
   ∃T,(H T=none/\h0.get? T=none)/\FlD (W.hideAll h (a::([T]++frs l))) l a cls od .none h:=by
 obtain⟨_,T,z,oe,vs,oT,ts,e1,e2,e3,e4,e5,e6,e7,e8⟩:=x
 refine⟨T,z,fun b o e=>W.of_hideAll _ e,W.hideAll_none _ List.mem_cons_self,W.funFrames_hide ff fun env he b hb=>?_,oe,vs,T,oT,ts,e1,e2,e3,e4,W.hideAll_none _ (by simp),e5,e6,e7,e8⟩
 exact List.mem_cons_of_mem _ (List.mem_cons_of_mem _ (List.mem_filterMap.mpr ⟨env,he,hb⟩))
theorem zN6 {P:Program}{w:World}{fs ts:List Addr}{l l':List Env}{H0 H:Hp}{h0 h1 h2 B:Heap}{a:Addr}{cls:Value}{od:Option Addr}(u:Un fs [] H0 H h0 h1)(ok:HOk P w H h1)(ff:h1.FunFrames B l)
   (hl:∀b∈frs l,(b∈fs\/h0.get? b=none)/\H b=none) (ha:H a=none/\h0.get? a=none) (hts:∀T∈ts,H T=none/\h0.get? T=none)
   (x:FlD (W.hideAll h1 (a::(ts++frs l))) l' a cls od .none h2) (up:h1.UpToSlots h2):Un fs [] H0 H h0 h2/\HOk P w H h2/\FlyD h2 H h0 a cls od:=by
 obtain⟨st,_,_,oe,vs,T,oT,tv,e1,e2,e3,e4,e5,e6,e7,e8,e9⟩:=x
 have keep:∀b o,b∉a::(ts++frs l)->h1.get? b=some o->h2.get? b=some o:=fun b o hb e=>st b o (W.hideAll_get _ e hb)
 have out:∀b,b∈a::(ts++frs l)->H b=none/\(b∈frs l\/h0.get? b=none):=fun b hb=>by
   rcases List.mem_cons.mp hb with rfl | hb
   . exact⟨ha.1,.inr ha.2⟩
   . rcases List.mem_append.mp hb with hb | hb
     . exact⟨(hts b hb).1,.inr (hts b hb).2⟩
     . exact⟨(hl b hb).2,.inl hb⟩
 have slot:∀b o,h0.get? b≠none->h1.get? b=some o->∃sl,h2.get? b=some { o with slots:=sl }:=fun b o n e=>by
   by_cases hb:b∈a::(ts++frs l)
   . rcases(out b hb).2 with q | q
     . obtain⟨_,o',ho,hn⟩:=ff.mem q
       rw[e] at ho;cases ho
       exact up b o e hn
     . exact absurd q n
   . exact⟨o.slots,keep b o hb e⟩
 refine⟨⟨fun b o e n hf hx=>?_,fun b o e n hf hx=>?_,u.free,fun b o e hx=>?_,u.tups,u.frzs,u.tbls⟩,fun b o q=>?_,ha,T,?_,oe,vs,oT,tv,e1,e2,e3,e4,e6,e7,e8,e9⟩
 . refine keep b o (fun hb=>?_) (u.keep b o e n hf hx)
   rcases(out b hb).2 with q | q
   . rcases(hl b q).1 with q | q
     . exact hf q
     . rw[e] at q;cases q
   . rw[e] at q;cases q
 . obtain⟨sl,q⟩:=u.slot b o e n hf hx
   obtain⟨sl',q'⟩:=slot b _ (by rw[e];simp) q
   exact⟨sl',q'⟩
 . obtain⟨o',q⟩:=u.there b o e hx
   obtain⟨sl',q'⟩:=slot b _ (by rw[e];simp) q
   exact⟨_,q'⟩
 . refine(ok b o q).stay (fun c v hc qv=>keep c v (fun hm=>?_) qv) (fun _ z=>z) fun _ _ z=>z
   have n:=(out c hm).1
   rcases hc with rfl | hc
   . rw[q] at n;cases n
   . rw[hc] at n;cases n
 . by_cases hm:T∈a::(ts++frs l)
   . rcases List.mem_cons.mp hm with z | hm
     . exact absurd z e6
     . rcases List.mem_append.mp hm with hm | hm
       . exact hts T hm
       . obtain⟨_,o',ho,hn⟩:=ff.mem hm
         obtain⟨sl,z⟩:=up T o' ho hn
         rw[e7] at z;cases z
         exact absurd e8 (hn tv)
   . have n1:h1.get? T=none:=by
       cases q:h1.get? T with
       | none=>rfl
       | some o=>rw[W.hideAll_get _ q hm] at e5;cases e5
     refine⟨?_,?_⟩
     . cases q:H T with
       | none=>rfl
       | some o=>obtain⟨ob,z⟩:=(ok T o q).got;rw[n1] at z;cases z
     . cases q:h0.get? T with
       | none=>rfl
       | some o=>obtain⟨ob,z⟩:=u.there T o q (by simp);rw[n1] at z;cases z
noncomputable def CXD (P:Program)(w:World):CXT:=fun outer H s E e s'=>∃a cls od H',e = .ref a/\s'.os=s.os/\AllBare s'.gens/\Un (frs outer) [] H H' s.heap s'.heap/\HOk P w H' s'.heap/\FlyD s'.heap H' s.heap a cls od/\E cls od H'
noncomputable def zS4 (X:Cx)(E:XK):Prop:=∀(pins:List (Addr×Obj)) (σ:St) (H:Hp) (s:Shared) (x C:Addr) (od:Option Addr),Inv X pins σ H s->H x=some (ExcO C x od)->X.s₀.heap.get? x=none->E (.ref C) od (del H x)->X.xe (.ref x) s
theorem Inv.leftD {X:Cx}{pins:List (Addr×Obj)}{σ:St}{H:Hp}{s:Shared}{a:Addr}{od:Option Addr}{cls:Value}{ts:List Addr}{h2:Heap}{l':List Env}(I:Inv X pins σ H s)(hex:X.ex=[])(ha:H a=none/\X.s₀.heap.get? a=none)(hts:∀T∈ts,H T=none/\X.s₀.heap.get? T=none)
   (x:FlD (W.hideAll s.heap (a::(ts++frs X.stack))) l' a cls od .none h2) (up:s.heap.UpToSlots h2):Un X.fs [] X.H₀ H X.s₀.heap h2/\HOk X.prog X.w H h2/\FlyD h2 H X.s₀.heap a cls od:=by
 have u:=I.base
 rw[hex] at u
 refine zN6 u I.hok I.stack (fun b hb=>⟨?_,I.stkFree b hb⟩) ha hts x up
 rcases List.mem_cons.mp (I.stkSub b hb) with z | z
 . right;rw[z];exact Heap.get?_none_of_le I.ok.above
 . exact .inl z
section
variable {P:Program} {w:World} {K:W.Frag} {mg:Str->Option Value} {base:Heap} {N:List Str} {qual:Str} {scope:Scope} {f:Addr} {cd:Value} {A:Around} {outer:List Env} {s:Shared} {H:Hp} {E:XK}
theorem zd9:zS4 (cxOf (CXD P w) P w K mg base N qual scope f cd A outer s H E) E:=by
 intro pins σ H1 s1 x C od I e n q
 obtain⟨t,hx⟩:=zL4 I e
 have J:=I.del e
 have hd:del H1 x x=none:=zN3 _ _
 refine leave_first (base:=W.hideAll s1.heap (x::([]++frs (cxOf (CXD P w) P w K mg base N qual scope f cd A outer s H E).stack))) (outer:=outer) (L:=s.heap.objs.size) I.ok.frames ?_ rfl hx (fun b o z=>W.of_hideAll _ z) (W.hideAll_none _ List.mem_cons_self) rfl rfl fun h' hL up=>?_
 . exact W.funFrames_hide I.stack fun env he b hb=>List.mem_cons_of_mem _ (List.mem_filterMap.mpr ⟨env,he,hb⟩)
 . obtain⟨u,ok,fl⟩:=J.leftD (ts:=[]) rfl ⟨hd,n⟩ (fun _ z=>nomatch z) hL up
   exact⟨x,.ref C,od,_,rfl,I.os,I.bare,u,ok,fl,q⟩
theorem zc5:zm5 (CXD P w) (cxOf (CXD P w) P w K mg base N qual scope f cd A outer s H E) E:=by
 intro pins σ H1 s1 e s2 I q
 obtain⟨a,cls,od,H',rfl,os,bare,un,ok,fl,q⟩:=q
 have J:=I.call' (ch:=[]) os un ok bare fun b z=>nomatch z
 have fl':FlyD s2.heap H' s.heap a cls od:=fl.from fun b o z=>I.base.there b o z (fun z=>nomatch z)
 obtain⟨T,z,fw⟩:=fl'.flying J.stack
 refine leave_on J.ok.frames rfl fw fun h' fw' up=>?_
 obtain⟨u,ok',f2⟩:=J.leftD (ts:=[T]) rfl fl'.1 (fun b hb=>by rw[List.mem_singleton.mp hb];exact z) fw' up
 exact⟨a,cls,od,H',rfl,J.os,J.bare,u,ok',f2,q⟩
theorem FunD.okD {CX:CXT}{x qual:Str}{st:Stmt}{fd:FuncData}{N ps:List Str}{k:Nat}{sp:Sp}(F:FunD K x qual st f fd)(S:zb5 N ps (za2 st))(len:∀vs H Q E,sp vs H Q E->vs.length=ps.length)
   (hbody:∀(cdv:Value) (A:Around) (outer:List Env) (s:Shared) (H:Hp) (vs:List V) (Q:VK) (E:XK),Room k (A.deeper (envOfC qual (za2 st) s.heap.objs.size f cdv))->sp vs H Q E →
     ∃t,PSs (cxOf (CXD P w) P w K mg base N qual (za2 st) f cdv A outer s H E) (za9 st) t/\t { nx:=fun _ H'=>Q .non H',rt:=Q } (zv7 N vs) H):FnOk P w K mg base (CXD P w) (k+1) f fd ps sp:=by
 obtain⟨oc,od,dV,kV,doc,pm,an,cdv,ct,osl,rfl,lk,hcd⟩:=F.ex
 refine zV9 lk hcd S len fun A outer s H vs Q E hr hsp=>?_
 obtain⟨t,h,q⟩:=hbody cdv A outer s H vs Q E hr hsp
 exact⟨t,h,q⟩
theorem passesND {X:Cx}:zm5 (CXD X.prog X.w) X EN:=fun _ _ _ _ _ _ _ ⟨_,_,_,_,_,_,_,_,_,_,z⟩=>z.elim
end
section
variable {X:Cx} {CX:CXT} {k:Nat} {f C:Addr} {fd:FuncData} {ps:List Str} {sp:Sp} {dvs:List V} {ds:List Value} {E Ei:XK} {x m:Str} {p pos cpos apos:Pos} {e:Expr} {es:List Expr} {t:TA}
noncomputable def tRaiseD (C:Addr)(sp:Sp)(dvs:List V)(Ei E:XK)(t:TA):TS:=fun _ σ H=>t σ H fun vs H1=>vs.length<=sizeLine/\∀x,H1 x=none →
 sp (.ref x::(vs++dvs)) (upd H1 x (ExcO C x none)) (fun v H2=>v = .non/\∃od,H2 x=some (ExcO C x od)/\E (.ref C) od (del H2 x)) Ei
theorem zf4 (R:zS4 X E) (hc:X.calm=true) (c:XCls X.K C) (hi:W.findIn X.K (.ref C) "__init__" = some (some (.ref f))) (hf:W.isFn X.K (.ref f)=true) (F:FnOk X.prog X.w X.K X.mg X.base CX k f fd ps sp) (hr:Room (k+1) X.A) (hg:Gl X x) (hm:X.mg x=some (.ref C)) (hb:zb6 X.K fd ps ds) (hd:Vals dvs ds) (hx:zm5 CX X Ei)
   (ha:PA X (e::es) t) (hdb:(x == ("__debug__" : Str))=false:=by decide) (he:starEach (e::es) X.env=(false,eval e X.env)::starEach es X.env:=by rfl) (hpl:(backTo cpos (starEach es X.env)).any (·.1)=false:=by rfl) :
   PS X (.Raise (some (.Call (.Name x p) (e::es) [] cpos)) none pos) (tRaiseD C sp dvs Ei E t):=by
 intro pins s σ H D I h
 obtain⟨nm,qn,N,bs,bm,sn,sub,ab,col,dd,k0,k1,k2,k3,k5,hK,m⟩:=c.ob
 rw[arm_exec_Raise]
 simp only[evalOpt,Option.map]
 refine wpAny_bind (wpAny_standAt (xraise (C:=C) m (I.ok.hd hc) (hdct:=true) (nm:=nm) (q:=qn) (N:=N) (bs:=bs) (sn:=sn) (sub:=sub) (ab:=ab) (col:=col) (dd:=dd) (k0:=k0) (k1:=k1) (k2:=k2) (k3:=k3) (k5:=k5) (newId:="ValueError.__new__") ?_))
 refine wpAny_bind (wpAny_mono (wpAny_Call_Name_kw (zr1 I hg hm ?_ hdb)) (fun v s3 h3=>wpAny_bind (wpAny_standAt (wpAny_pure h3))) fun _ _ z=>z)
 refine W.callWith_K (h₀:=X.base) I.ok.mod.kin c.kp (thn (ha cpos pins s σ H _ I h) fun us s1 ⟨vs,H1,I1,r,hv,q⟩=>⟨I1.kIn,?_⟩) he hpl
 refine thn (run_xmake2 (Q:=fun x H2=>∃od,H2 x=some (ExcO C x od)/\E (.ref C) od (del H2 x)) c hi hf F hr hb hd hx I1 r hv q) fun v s2 ⟨ev,H2,I2,od,e2,q2⟩=>?_
 obtain⟨t2,hx2⟩:=zL4 I2 e2
 exact⟨_,_,_,ev,I2.kIn _ _ hK,hx2,R pins σ H2 s2 _ C od I2 e2 (Heap.get?_none_of_le (Nat.le_trans I1.sz (Nat.le_succ _))) q2⟩
end
noncomputable def Cx.inTryD (X:Cx)(pins:List (Addr×Obj))(Ex:St->XK):Cx:={ X with pn:=X.pn++pins,xe:=fun e s1=>∃σ H s,Inv X pins σ H s/\CXD X.prog X.w X.stack H s (Ex σ) e s1 }
section
variable {X:Cx} {pins pins':List (Addr×Obj)} {σ:St} {H:Hp} {s:Shared} {Ex:St->XK} {D:Ends} {fl:Flow}
theorem Inv.inTryD (I:Inv X pins σ H s)(Ex:St->XK):Inv (X.inTryD pins Ex) [] σ H s :=
 let ok:=I.ok
 ⟨⟨ok.mod,ok.kind,ok.glob,ok.blt,ok.above,ok.inj,ok.has,ok.cab,ok.hd,ok.frames,ok.stk,ok.exf,ok.bs,ok.bsz,ok.noex,ok.exfs,ok.funs,ok.frf⟩,I.os,I.bare,I.base,I.loc,I.cell,I.free,I.freeC,fun p hp=>I.pin p (by
   rw[List.append_nil] at hp;exact hp),I.hok,I.len⟩
theorem Inv.outTryD (I:Inv (X.inTryD pins Ex) pins' σ H s):Inv X pins σ H s :=
 let ok:=I.ok
 ⟨⟨ok.mod,ok.kind,ok.glob,ok.blt,ok.above,ok.inj,ok.has,ok.cab,ok.hd,ok.frames,ok.stk,ok.exf,ok.bs,ok.bsz,ok.noex,ok.exfs,ok.funs,ok.frf⟩,I.os,I.bare,I.base,I.loc,I.cell,I.free,I.freeC,fun p hp=>I.pin p (List.mem_append_left _ hp),I.hok,I.len⟩
theorem SP.outTryD (h:SP (X.inTryD pins Ex) pins' D fl s):SP X pins D fl s:=by
 cases fl with
 | next=>obtain⟨σ',H',I,q⟩:=h;exact⟨σ',H',I.outTryD,q⟩
 | brk=>obtain⟨σ',H',I,q⟩:=h;exact⟨σ',H',I.outTryD,q⟩
 | cont=>obtain⟨σ',H',I,q⟩:=h;exact⟨σ',H',I.outTryD,q⟩
 | ret u=>obtain⟨v,σ',H',I,r,q⟩:=h;exact⟨v,σ',H',I.outTryD,r,q⟩
theorem zC2:zC8 (CXD X.prog X.w) (X.inTryD pins Ex) Ex:=fun pins' σ H s e s' I q=>⟨σ,H,s,I.outTryD,q⟩
end
noncomputable def zx8 (cls:Value)(a:Addr)(od:Option Addr):HO:=.ext fun h=>∃oe,h.get? a=some oe/\(oe.cls=cls/\oe.dict=od)/\∃vs,oe.data = .fields vs
theorem landD_ok {P:Program}{w:World}{H:Hp}{h:Heap}{a:Addr}{cls:Value}{od:Option Addr}{oe:Obj}(e:h.get? a=some oe)(hc:(oe.cls=cls/\oe.dict=od)/\∃vs,oe.data = .fields vs):zg7 P w H h a (zx8 cls a od):=⟨⟨oe,e,hc⟩,⟨_,e⟩,fun h1 h2 ⟨t,e1,c1⟩ k=>⟨t,k _ e1,c1⟩⟩
section
variable {X:Cx} {D:Addr} {Ex:St->XK} {x n:Str} {i:Nat} {p pos hpos:Pos} {body suite:List Stmt} {b₀:Stmt} {tb th:TS}
noncomputable def tTryD (K:W.Frag)(Ex:St->XK)(D:Addr)(i:Nat)(tb th:TS):TS:=fun D' σ H=>tb D' σ H/\∀σ' cls od H' a,Ex σ' cls od H'->H' a=none->W.exmOne K cls (.ref D)=some true/\th (D'.forget i) (σ'.set i (some (.ref a))) (upd H' a (zx8 cls a od))
theorem ps_tryD (hs:X.stack=X.env::X.outer/\X.env.frame=some X.env.locals)(hg:Gl X x)(hm:X.mg x=some (.ref D))(hN:X.N.Nodup)(hi:X.N[i]?=some n)(hk:X.env.scope.names.lookup n=some .local)(hb:∀pins,PSs (X.inTryD pins Ex) body tb)(hh:∀e,PSs (X.caught e) (b₀::suite) th)
   (hdb:(x == ("__debug__" : Str))=false:=by decide) :
   PS X (.Try body [.ExceptHandler (some (.Name x p)) (some n) (b₀::suite) hpos] [] [] pos) (tTryD X.K Ex D i tb th):=by
 intro pins s σ H D' I h
 obtain⟨h1,h2⟩:=h
 refine wpAny_Try_except (wpAny_mono (hb pins [] s σ H D' (I.inTryD Ex) h1) (fun f s1 q=>?_) fun e s1 q=>?_)
 . cases f with
   | next=>exact wpAny_execs_nil (SP.outTryD (fl:=.next) q)
   | brk=>exact SP.outTryD (fl:=.brk) q
   | cont=>exact SP.outTryD (fl:=.cont) q
   | ret u=>exact SP.outTryD (fl:=.ret u) q
 . obtain⟨σ0,H0,s0,I0,a,cls,od,H',rfl,os,bare,un,ok,fl,q⟩:=q
   obtain⟨ec,qh⟩:=h2 σ0 cls od H' a q fl.1.1
   have J:=I0.call' (ch:=[]) os un ok bare fun b z=>nomatch z
   have ff:=J.stack
   have ha0:=fl.1
   obtain⟨T,z,fw⟩:=fl.flying ff
   have fr:X.A.frames=some (X.env::X.outer):=by rw[<-hs.1];exact J.ok.frames
   rw[hs.1] at fw
   refine zS3 fr hs.2 fw fun h1 held up1=>?_
   refine zx7 held fun h2 fw2 up2=>?_
   have st0:∀(h':Heap),FlD (W.hideAll s1.heap (a::([T]++frs (X.env::X.outer)))) (X.env::X.outer) a cls od .none h'->s1.heap.UpToSlots h'->Un (frs X.stack) [] H0 H' s0.heap h'/\HOk X.prog X.w H' h':=fun h' fw' up'=>by
     obtain⟨u,ok',_⟩:=zN6 (l:=X.env::X.outer) un ok (by rw[<-hs.1];exact ff) (fun b hb=>by rw[<-hs.1] at hb;exact⟨.inl hb,J.stkFree b hb⟩) fl.1 (ts:=[T]) (fun b hb=>by rw[List.mem_singleton.mp hb];exact z) fw' up'
     exact⟨u,ok'⟩
   have J2:Inv X pins σ0 H' { s1 with heap:=h2 }:=I0.call' (ch:=[]) (s':={ s1 with heap:=h2 }) os (st0 h2 fw2 (up1.trans up2)).1 (st0 h2 fw2 (up1.trans up2)).2 bare fun b z=>nomatch z
   refine wpAny_handleBy_cons (codeAny_handlers_test ?_) (by intro q;cases q)
   refine zr1 (X:=X.caught (.ref a)) (J2.caught _) hg hm ?_ hdb
   obtain⟨oe,he,⟨hcls,_⟩,_⟩:=fw2.there
   have LT:W.Looks (model X.prog X.w) h2 (typeOf (.ref a)) cls:=by
     subst hcls
     exact(W.Looks.ld he).andThen .now
   refine(W.exm_one J2.kIn LT ec) _ _ _ _ (fun _ _ e=>e) ?_
   show codeAny _ _ _ _ _
   refine codeAny_handlers_suite_as (zx7 fw2 fun h3 fw3 up3=>?_)
   obtain⟨u3,ok3⟩:=st0 h3 fw3 ((up1.trans up2).trans up3)
   obtain⟨oe3,he3,hc3⟩:=fw3.there
   have nea:∀b u,H' b=some u->b≠a:=fun b u e w=>by rw[w,ha0.1] at e;cases e
   have J3:Inv X pins σ0 (upd H' a (zx8 cls a od)) { s1 with heap:=h3 }:=by
     refine I0.call' (ch:=[]) (s':={ s1 with heap:=h3 }) os ⟨u3.keep,u3.slot,fun b o e n hx=>?_,u3.there,fun b xs e=>?_,fun b o u e=>?_,fun b ps e=>?_⟩ (fun b o e=>?_) bare fun b z=>nomatch z
     . rw[za7 (fun w=>by rw[w,ha0.2] at e;cases e)];exact u3.free b o e n hx
     . rw[za7 (nea b _ (u3.tups b xs e))];exact u3.tups b xs e
     . rw[za7 (nea b _ (u3.frzs b o u e))];exact u3.frzs b o u e
     . obtain⟨more,e1⟩:=u3.tbls b ps e
       exact⟨more,by rw[za7 (nea b _ e1)];exact e1⟩
     . by_cases hb:b=a
       . subst hb
         rw[za5] at e;cases e
         exact landD_ok he3 hc3
       . rw[za7 hb] at e
         exact(ok3 b o e).stay (fun _ _ _ q=>q) (fun c q=>by rw[za7 (nea c _ q)];exact q) fun c xs q=>by rw[za7 (nea c _ q)];exact q
   refine zE0 (X:=X.caught (.ref a)) (v:=.ref a) (J3.caught _) hN hi (.inl hk) rfl (fun s4 J4=>?_) (.inr hk)
   refine wpAny_mono (hh (.ref a) pins s4 _ _ (D'.forget i) J4 qh) (fun f s' r=>?_) fun _ _ z=>False.elim z
   have r:=SP.uncaught I.ok.hd r
   cases f with
   | next=>obtain⟨σ',H'',I',q'⟩:=r;exact zC9 I' hN hi hk fun s5 J5=>⟨_,_,J5,q'⟩
   | brk=>obtain⟨σ',H'',I',q'⟩:=r;exact zC9 I' hN hi hk fun s5 J5=>⟨_,_,J5,q'⟩
   | cont=>obtain⟨σ',H'',I',q'⟩:=r;exact zC9 I' hN hi hk fun s5 J5=>⟨_,_,J5,q'⟩
   | ret u=>obtain⟨v,σ',H'',I',rr,q'⟩:=r;exact zC9 I' hN hi hk fun s5 J5=>⟨v,_,_,J5,rr,q'⟩
end
theorem check_gaX {M:Model}{A:Around}{E:Value->Shared->Prop}{K:W.Frag}{h:Heap}{g:Array GenState}{d:Drawn}{t:Nat}{os:OsState}{x C:Addr}{ox:Obj}{od:Option Obj}{nameV:Value}{Q:Unit->Shared->Prop}
   (X:K.In h) (I:W.InstAt h x ox C od) (hbe:W.mroIn K C (.type "BaseException")=some true) (q:Q () { heap:=h,gens:=g,drawn:=d,toks:=t,os:=os }) :
   wpAny M A (checkBuiltinCall "BaseException.__getattribute__" { pos:=[Value.ref x,nameV] }) Q E { heap:=h,gens:=g,drawn:=d,toks:=t,os:=os }:=by
 have hk:builtinKind "BaseException.__getattribute__" = some Manifest.AttrKind.slot:=by decide +kernel
 have hs:splitId "BaseException.__getattribute__" = some ("BaseException","__getattribute__"):=by decide +kernel
 have ha:=F.args_bexc_ga (Value.ref x) nameV
 have L0:=W.InstAt.type I (M:=M)
 have L4:=W.looks_mroIn (M:=M) X hbe
 unfold checkBuiltinCall
 simp only[hk,hs]
 refine wpAny_bind ?_
 unfold isInstance
 refine wpAny_bind (W.Looks.at L0 (W.Looks.at L4 ?_))
 refine wpAny_ite_false rfl ?_
 exact wpAny_of_eq ha q
theorem kin_classX {prog:Program}{w:World}{A:Around}{E:Value->Shared->Prop}{s:Shared}{K:W.Frag}{x D:Addr}{ox od:Obj}{Q:Option Value->Shared->Prop}
   (hga:W.findIn K (.ref D) "__getattribute__" = some (some (.builtin "BaseException.__getattribute__")))
   (hgt:W.findIn K (.ref D) "__getattr__" = some none)
   (hbe:W.mroIn K D (.type "BaseException")=some true)
   (hdct:W.hasDictIn K D=true) (ha:W.findIn K (.ref D) "__class__" = some (some (.builtin "object.__class__")))
   (hn:W.specialIn K (.builtin "object.__class__") "__get__" = some (some (.builtin "getset_descriptor.__get__")))
   (htk:W.takesIn K (.builtin "object.__class__")=some true) (hm:W.mroIn K D (.type "object")=some true)
   (X:K.In s.heap) (I:W.InstAt s.heap x ox D (some od)) (h:Q (some (.ref D)) { s with toks:=s.toks+1 }) :
   wpAny (model prog w) A (getAttr? (.ref x) "__class__") Q E s:=by
 have hf:W.findObj K D (some od) "__class__" = some (.bind (.builtin "getset_descriptor.__get__") (.builtin "object.__class__")) :=
   W.findObj_data (by obtain⟨cd,hc,_⟩:=W.any_some hdct;rw[hc];rfl) ha hn htk
 obtain⟨hh',g,d,t,os⟩:=s
 have L0:=W.InstAt.type I (M:=model prog w)
 have L1:=W.looks_findIn (M:=model prog w) X hga
 have L2:=W.looks_findIn (M:=model prog w) X hgt
 have L3:=W.looks_find (M:=model prog w) X I hf
 unfold getAttr?
 refine wpAny_bind (wpAny_mkText ?_)
 unfold getAttrBy?
 refine wpAny_bind (wpAny_attempt ?_)
 unfold getAttrBy
 refine wpAny_holding (wpAny_bind (W.Looks.at L0 (wpAny_bind (W.Looks.at L1 ?_))))
 refine wpAny_ite_false rfl ?_
 unfold getAttrByItsOwn
 refine wpAny_bind ?_
 unfold hookBefore
 refine wpAny_ite_true rfl (W.Looks.at L2 ?_)
 refine wpAny_bind (wpAny_attempt (wpAny_holding ?_))
 unfold callGetattribute
 refine wpAny_ite_false rfl ?_
 unfold boundAndCalled
 refine wpAny_bind (wpAny_of_eq (F.attr_ValueError.ga.bind (Value.ref x)) ?_)
 refine wpAny_call (codeAny_call_builtin F.attr_ValueError.ga.plain F.entry_bexc_ga ?_)
 refine check_gaX X I hbe ?_
 unfold Builtin.«object.__getattribute__»
 refine wpAny_bind (wpAny_of_eq (a:=(Value.ref x,[Value.str "__class__" t])) rfl ?_)
 refine wpAny_bind (wpAny_pure (wpAny_bind (W.Looks.at L0 (wpAny_bind (W.Looks.at L3 ?_)))))
 show wpAny _ _ (Builtin.ObjectAttr.bindTo (.builtin "getset_descriptor.__get__") (.builtin "object.__class__") (.ref x) (.ref D)) _ _ _
 unfold Builtin.ObjectAttr.bindTo
 refine wpAny_bind (wpAny_holding (wpAny_call (W.class_get X I hm ?_)))
 refine wpAny_pure ?_
 show wpAny (model prog w) A (handedOut (.ref D)) _ _ _
 refine W.handed_on rfl ?_
 exact wpAny_pure h
theorem kitx_X {K:W.Frag}{x D:Addr}{ox od:Obj}
   (hga:W.findIn K (.ref D) "__getattribute__" = some (some (.builtin "BaseException.__getattribute__")))
   (hgt:W.findIn K (.ref D) "__getattr__" = some none)
   (hbe:W.mroIn K D (.type "BaseException")=some true)
   (hdct:W.hasDictIn K D=true) (ha:W.findIn K (.ref D) "__class__" = some (some (.builtin "object.__class__")))
   (hn:W.specialIn K (.builtin "object.__class__") "__get__" = some (some (.builtin "getset_descriptor.__get__")))
   (htk:W.takesIn K (.builtin "object.__class__")=some true) (hm:W.mroIn K D (.type "object")=some true) :
   W.KitX K (.ref x) (.ref D) fun h=>W.InstAt h x ox D (some od):=by
 have hl:∃c dd cd sl,List.lookup D K=some { cls:=c,dict:=dd,data:=.cls cd,slots:=sl }:=by
   obtain⟨cd,hc,_⟩:=W.any_some hdct
   unfold W.clsIn at hc
   split at hc
   . rename_i c dd cd' sl e
     exact⟨_,_,_,_,e⟩
   . cases hc
 obtain⟨c,dd,cd,sl,hl⟩:=hl
 refine⟨fun _ _ _ I=>W.InstAt.type I,fun M h X _=>?_,fun h tp dd' its n sl' X htp=>?_,fun X I k=>kin_classX hga hgt hbe hdct ha hn htk hm X I k⟩
 . intro A' Q' E' s' k q
   exact wpAny_bind (wpAny_loadPart (k D _ (X D _ hl)) (wpAny_pure q))
 . refine Bool.eq_false_iff.mpr fun q=>?_
   have e:=Value.ref.inj (beq_iff_eq.mp q)
   subst e
   have z:=(X D _ hl).symm.trans htp
   cases z
structure XAsk (K:W.Frag)(C:Addr):Prop where
 ga:W.findIn K (.ref C) "__getattribute__" = some (some (.builtin "BaseException.__getattribute__"))
 gt:W.findIn K (.ref C) "__getattr__" = some none
 be:W.mroIn K C (.type "BaseException")=some true
 hd:W.hasDictIn K C=true
 kc:W.findIn K (.ref C) "__class__" = some (some (.builtin "object.__class__"))
 mo:W.mroIn K C (.type "object")=some true
structure XWay (K:W.Frag):Prop where
 gt:W.specialIn K (.builtin "object.__class__") "__get__" = some (some (.builtin "getset_descriptor.__get__"))
 tk:W.takesIn K (.builtin "object.__class__")=some true
section
variable {X:Cx} {pins:List (Addr×Obj)} {σ:St} {H:Hp} {s:Shared}
theorem land_at {C a dx:Addr}{fs:List (Str×V)}(I:Inv X pins σ H s)(e:H a=some (zx8 (.ref C) a (some dx)))(ed:H dx=some (.xd fs)) :
   ∃ox ob,W.InstAt s.heap a ox C (some ob)/\∃mA:Str->Option Value,(∀n,W.lookIn n ob=some (mA n))/\∀g,RelO (fs.lookup g) (mA g):=by
 obtain⟨ox,g1,⟨g2,g3⟩,vs,g4⟩:=(I.hok a _ e).1
 obtain⟨_,mA,hn,r,_⟩:=I.hok dx _ ed
 obtain⟨ob,h1,h2⟩:=zH8 hn
 refine⟨ox,ob,⟨g1,g2,?_,?_⟩,mA,h2,r⟩
 . unfold W.notCls
   rw[g4]
 . rw[g3];exact h1
noncomputable def rIsX (K:W.Frag):List V->Hp->VK->Prop:=fun xs H Q=>∃a D dx fs cv c b,xs=[.ref a,cv]/\ClsV cv c/\H a=some (zx8 (.ref D) a (some dx))/\H dx=some (.xd fs)/\XAsk K D/\XWay K/\W.kitOne K (.ref D) c=some b/\Q (.bl b) H
theorem call_isX:zp0 X (.builtin "isinstance") (rIsX X.K):=by
 intro pins s σ H xs us Q I r h
 obtain⟨a,D,dx,fs,cv,c,b,rfl,hc,ea,ed,k,w,e,q⟩:=h
 obtain⟨u,w',rfl,ru,rw'⟩:=zY1 r
 have ew:w'=c:=by
   cases hc with
   | ty n=>exact rw'
   | own C=>exact rw'
 subst ew
 cases (show u=Value.ref a from ru)
 obtain⟨ox,ob,J,_⟩:=land_at I ea ed
 exact W.kia_one (kitx_X k.ga k.gt k.be k.hd k.kc w.gt w.tk k.mo) I.kIn J e (fun z=>nomatch z) fun tk=>⟨.bl b,H,I.tok tk,rfl,q⟩
theorem zi8 {K:W.Frag}{C:Addr}{T:String}{b:Bool}(hm:W.kitMeta T=true)(h4:W.subIn K (.ref C) (.type T)=some b):W.kitOne K (.ref C) (.type T)=some b:=by
 unfold W.kitOne W.kitCls
 rw[if_neg (by simp)]
 show(if W.kitMeta T=true then _ else _)=_
 rw[if_pos hm]
 exact h4
theorem zh4 {K:W.Frag}{C:Addr}:W.kitOne K (.ref C) (.ref C)=some true:=by
 unfold W.kitOne
 rw[if_pos (by simp)]
end
theorem boot_VE:bootBuiltins (Str.ofString "ValueError")=some (.type "ValueError"):=by decide +kernel
theorem zf5 {X:Cx} (K:W.Frag) (h:X.K=K):zp0 X (.builtin "isinstance") (rIsX K):=by
 subst h;exact call_isX
section
variable {X:Cx}
theorem zI7:∀(l:List (Str×Tok)),Vals ((l.map (·.1)).map V.str) (strValues l)
 | []=>.nil
 | (y,t)::l=>.cons ⟨t,rfl⟩ (zI7 l)
noncomputable def rSplit:V->List V->Hp->VK->Prop:=fun x vs H Q=>∃(z y:Str),x = .str z/\vs=[.str y]/\(y.length == 0)=false/\z.length<=1000000/\∀l,H l=none->Q (.ref l) (upd H l (.lst ((Txt.split z y).map V.str)))
theorem mt_split:MtR X "str.split" rSplit:=by
 intro pins s σ H x vs v us Q I rx rv h
 obtain⟨x,y,rfl,rfl,hy,hz,q⟩:=h
 obtain⟨t,rfl⟩:=rx
 obtain⟨_,rfl,u,rfl⟩:=rv.one
 have hsl:sizeLine=16777216:=by decide
 have hq:=q _ I.fresh
 have hlen:=split_le x y
 have fin:∀(l:List (Str×Tok)) (k:Nat),l.map (·.1)=Txt.split x y->EP X pins σ Q (.ref s.heap.objs.size) { s with heap:=s.heap.push { cls:=.type "list",data:=.seq (strValues l).toArray },toks:=k }:=fun l k e=>by
   refine⟨.ref s.heap.objs.size,_,?_,rfl,hq⟩
   have hv:=zI7 l
   rw[e] at hv
   exact I.lnew hv (by rw[List.length_map];omega)
 cases h1:(decide (x.length<y.length) || decide (Builtin.Str.strKind x<Builtin.Str.strKind y))
 . cases hf:(Builtin.Str.occurrences x y 0 x.length (x.length+1)).isEmpty
   . have es:Txt.split x y=Builtin.Str.partsBetween x (Builtin.Str.occurrences x y 0 x.length (x.length+1)) y.length:=(if_neg (ne_true_of_eq_false h1)).trans (if_neg (ne_true_of_eq_false hf))
     refine call_meets F.slot_str_split (typeIs_str _ _ _) F.entry_str_split (F.args_str_split_2 _ _) (meets_str_split_sep x y t u h1 hy hf (by omega) (by rw[<-es];omega)) ?_
     show EP X pins σ Q _ { s with toks:=_,heap:=s.heap.push { cls:=.type "list",data:=.seq (strsFrom s.toks (Builtin.Str.partsBetween x (Builtin.Str.occurrences x y 0 x.length (x.length+1)) y.length)).toArray } }
     rw[strsFrom_eq]
     exact fin (numbered s.toks _) _ ((numbered_texts _ _).trans es.symm)
   . exact call_meets F.slot_str_split (typeIs_str _ _ _) F.entry_str_split (F.args_str_split_2 _ _) (meets_str_split_not_found x y t u h1 hy hf)
       (fin [(x,t)] s.toks ((if_neg (ne_true_of_eq_false h1)).trans (if_pos hf)).symm)
 . exact call_meets F.slot_str_split (typeIs_str _ _ _) F.entry_str_split (F.args_str_split_2 _ _) (meets_str_split_cannot_occur x y t u h1)
     (fin [(x,t)] s.toks (if_pos h1).symm)
end
end L2
namespace L2
open PySem PySem.NumText
end L2
namespace L2
open PySem PySem.Spec PyProof.Rows
section
variable {prog:Program} {w:World} {A:Around} {R:Result->Shared->Prop} {s:Shared}
end
section
variable {X:Cx} {scope:Scope} {cl:List (Str×Addr)} {C:Addr} {N':List Str} {s0:Shared} {H0:Hp} {fp:List Addr} {Ex:XK} {pins:List (Addr×Obj)} {σ:St} {H:Hp} {s:Shared}
end
section
variable {X:Cx} {scope:Scope} {N':List Str} {ix:List (Option Nat)} {tg iter elt:Expr} {ifs:List Expr} {pos:Pos} {wi:TI} {g:TG} {tif:TT} {telt:TE}
end
section
variable {M:Model} {A:Around} {E:Value->Shared->Prop} {s:Shared}
end
section
variable {P:Program} {w:World} {K:W.Frag} {mg:Str->Option Value} {base:Heap} {N:List Str} {qual:Str} {scope:Scope} {f:Addr} {cd:Value} {A:Around} {outer:List Env} {s:Shared} {H:Hp} {E:XK}
end
section
variable {P:Program} {w:World} {K:W.Frag} {mg:Str->Option Value} {base:Heap} {N:List Str} {qual:Str} {fsc:Scope} {f:Addr} {cd:Value} {A:Around} {outer:List Env} {ss:Shared} {HH:Hp} {E:XK}
variable {scope:Scope} {N':List Str} {ix:List (Option Nat)} {tg iter elt:Expr} {ifs:List Expr} {pos:Pos} {wi:TI} {g:TG} {tif:TT} {telt:TE}
end
section
variable {X:Cx} {C1 C2:Addr} {E:XK} {x1 x2:Str} {p1 p2 pos hp1 hp2:Pos} {body su1 su2:List Stmt} {b₁ b₂:Stmt} {tb th1 th2:TS}
end
end L2
namespace Sx
open PySem PyProof.Rows
noncomputable abbrev SM (α:Type):=StateT SortSt Sem α
noncomputable def zx9:Bool->Keyed->Array Keyed->Nat->Nat->Nat->SM (Option Nat):=sortPriv% PySem.Builtin.gallop
noncomputable def zN7:Array Keyed->Array Keyed->SM (Array Keyed):=sortPriv% PySem.Builtin.mergeLo
noncomputable def zN8:Array Keyed->Array Keyed->SM (Array Keyed):=sortPriv% PySem.Builtin.mergeHi
noncomputable def zS5:Nat->SM Unit:=sortPriv% PySem.Builtin.setMinGallop
noncomputable def zY6 (left:Bool)(key:Keyed)(arr:Array Keyed)(base i:Nat):SM (Option Bool):=do
 let x <-elem' arr (base+i)
 if left=true then lt' x key else do
   let r <-lt' key x
   pure (r.map fun t=>!t)
noncomputable abbrev GS:=Option (Option Nat)×Nat×Nat
section
variable {M:Model} {A:Around} {E:Value->Shared->Prop} {s:Shared}
theorem zN9 {p:Nat->Bool}{f:Nat->GS->SM (ForInStep GS)}{n lo hi:Nat}{st:SortSt}{Q:GS->SortSt->Prop}(mono:∀i j,i<j->j<n->p j=true->p i=true)
   (hf:∀x l r (R:ForInStep GS->SortSt->Prop),(l≥r->R (.done (none,l,r)) st)->(l<r->p (l+(r-l) / 2)=true->R (.yield (none,l+(r-l) / 2+1,r)) st)->(l<r->p (l+(r-l) / 2)=false->R (.yield (none,l,l+(r-l) / 2)) st) →
     r<=n->wpS M A E s (f x (none,l,r)) R st)
   (h1:lo<=hi) (h2:hi<=n) (h3:∀i,i<lo->p i=true) (h4:∀i,hi<=i->i<n->p i=false)
   (h:∀k,k<=n->(∀i,i<k->p i=true)->(∀i,k<=i->i<n->p i=false)->Q (none,k,k) st):wpS M A E s (forIn [0:n] ((none,lo,hi):GS) f) Q st:=by
 refine wpS_forRange (I:=fun x c st'=>st'=st/\∃l r,c=(none,l,r)/\l<=r/\r<=n/\r-l<=n-x/\(∀i,i<l->p i=true)/\∀i,r<=i->i<n->p i=false)
   ?step ?fin ⟨rfl,lo,hi,rfl,h1,h2,by omega,h3,h4⟩
 case fin =>
   rintro c st' ⟨rfl,l,r,rfl,a1,a2,a3,a4,a5⟩
   obtain rfl:l=r:=by omega
   exact h l a2 a4 a5
 case step =>
   rintro x c st' _ hx ⟨rfl,l,r,rfl,a1,a2,a3,a4,a5⟩
   refine hf x l r _ (fun hge=>?_) (fun hlt e=>⟨rfl,_,_,rfl,by omega,a2,by omega,fun i hi=>?_,a5⟩) (fun hlt e=>⟨rfl,_,_,rfl,by omega,by omega,by omega,a4,fun i hi hn=>?_⟩) a2
   . obtain rfl:l=r:=by omega
     exact h l a2 a4 a5
   . rcases Nat.lt_or_ge i (l+(r-l) / 2) with z | z
     . exact mono i _ z (by omega) e
     . obtain rfl:i=l+(r-l) / 2:=by omega
       exact e
   . cases ei:p i with
     | false=>rfl
     | true =>
       rcases Nat.lt_or_ge (l+(r-l) / 2) i with z | z
       . have:=mono _ i z hn ei
         rw[e] at this;cases this
       . obtain rfl:i=l+(r-l) / 2:=by omega
         rw[e] at ei;cases ei
theorem wp_gallop {left:Bool}{key:Keyed}{arr:Array Keyed}{base:Nat}{p:Nat->Bool}{n hint:Nat}{st:SortSt}{Q:Option Nat->SortSt->Prop}
   (hq:∀i,i<n->∀R:Option Bool->SortSt->Prop,R (some (p i)) st->wpS M A E s (zY6 left key arr base i) R st) (mono:∀i j,i<j->j<n->p j=true->p i=true) (hh:hint<n)
   (h:∀k,k<=n->(∀i,i<k->p i=true)->(∀i,k<=i->i<n->p i=false)->Q (some k) st):wpS M A E s (zx9 left key arr base n hint) Q st:=by
 have dn:∀i j,i<j->j<n->p i=false->p j=false:=fun i j hij hj e=>by
   cases ej:p j with
   | false=>rfl
   | true=>rw[mono i j hij hj ej] at e;cases e
 have up:∀j,j<n->p j=true->∀i,i<=j->p i=true:=fun j hj e i hi=>by
   rcases Nat.lt_or_eq_of_le hi with z | rfl
   . exact mono i j z hj e
   . exact e
 have dn':∀i,p i=false->∀j,i<=j->j<n->p j=false:=fun i e j hi hj=>by
   rcases Nat.lt_or_eq_of_le hi with z | rfl
   . exact dn i j z hj e
   . exact e
 unfold zx9
 refine wpS_bind (hq hint hh _ ?_)
 cases e:p hint with
 | true =>
   dsimp only
   rw[if_pos rfl]
   refine wpS_bind (wpS_mono (wpS_forRange (I:=fun x c st'=>st'=st/\∃l o,c=(none,l,o)/\l<o/\x+1<=o/\hint+l<n/\p (hint+l)=true)
     (Q:=fun c st'=>st'=st/\∃l o,c=(none,l,o)/\l<o/\hint+l<n/\p (hint+l)=true/\(n-hint<=o\/p (hint+o)=false)) ?step ?fin ⟨rfl,0,1,rfl,by omega,by omega,by omega,e⟩) ?post)
   case fin =>
     rintro c st' ⟨rfl,l,o,rfl,a1,a2,a3,a4⟩
     exact⟨rfl,l,o,rfl,a1,a3,a4,.inl (by omega)⟩
   case step =>
     rintro x c st' _ hx ⟨rfl,l,o,rfl,a1,a2,a3,a4⟩
     dsimp only
     by_cases hge:o≥n-hint
     . rw[if_pos hge]
       exact wpS_pure ⟨rfl,l,o,rfl,a1,a3,a4,.inl hge⟩
     . rw[if_neg hge]
       refine wpS_bind (hq _ (by omega) _ ?_)
       cases eo:p (hint+o) with
       | true =>
         dsimp only
         rw[if_neg (by decide)]
         exact wpS_pure ⟨rfl,_,_,rfl,by omega,by omega,by omega,eo⟩
       | false =>
         dsimp only
         rw[if_pos (by decide)]
         exact wpS_pure ⟨rfl,l,o,rfl,a1,a3,a4,.inr eo⟩
   case post =>
     rintro c st' ⟨rfl,l,o,rfl,a1,a2,a3,a4⟩
     dsimp only
     have f1:hint+l+1<=hint+min o (n-hint):=by omega
     have f2:hint+min o (n-hint)<=n:=by omega
     have f3:∀i,i<hint+l+1->p i=true:=fun i hi=>up _ a2 a3 i (by omega)
     have f4:∀i,hint+min o (n-hint)<=i->i<n->p i=false:=fun i h1 h2=>by
       rcases a4 with z | z
       . omega
       . exact dn' _ z _ (by omega) h2
     refine wpS_bind (zN9 mono (fun x l r R g0 g1 g2 hr=>?_) f1 f2 f3 f4 fun k k1 k2 k3=>wpS_pure (h k k1 k2 k3))
     dsimp only
     by_cases hge:l≥r
     . rw[if_pos hge]
       exact wpS_pure (g0 hge)
     . rw[if_neg hge]
       refine wpS_bind (hq _ (by omega) _ ?_)
       cases eo:p (l+(r-l) / 2) with
       | true =>
         dsimp only
         rw[if_pos rfl]
         exact wpS_pure (g1 (by omega) eo)
       | false =>
         dsimp only
         rw[if_neg (by decide)]
         exact wpS_pure (g2 (by omega) eo)
 | false =>
   dsimp only
   rw[if_neg (by decide)]
   refine wpS_bind (wpS_mono (wpS_forRange (I:=fun x c st'=>st'=st/\∃l o,c=(none,l,o)/\l<o/\x+1<=o/\l<=hint/\p (hint-l)=false)
     (Q:=fun c st'=>st'=st/\∃l o,c=(none,l,o)/\l<o/\l<=hint/\p (hint-l)=false/\(hint+1<=o\/(o<=hint/\p (hint-o)=true))) ?step ?fin ⟨rfl,0,1,rfl,by omega,by omega,by omega,e⟩) ?post)
   case fin =>
     rintro c st' ⟨rfl,l,o,rfl,a1,a2,a3,a4⟩
     exact⟨rfl,l,o,rfl,a1,a3,a4,.inl (by omega)⟩
   case step =>
     rintro x c st' _ hx ⟨rfl,l,o,rfl,a1,a2,a3,a4⟩
     dsimp only
     by_cases hge:o≥hint+1
     . rw[if_pos hge]
       exact wpS_pure ⟨rfl,l,o,rfl,a1,a3,a4,.inl hge⟩
     . rw[if_neg hge]
       refine wpS_bind (hq _ (by omega) _ ?_)
       cases eo:p (hint-o) with
       | true =>
         dsimp only
         rw[if_pos rfl]
         exact wpS_pure ⟨rfl,l,o,rfl,a1,a3,a4,.inr ⟨by omega,eo⟩⟩
       | false =>
         dsimp only
         rw[if_neg (by decide)]
         exact wpS_pure ⟨rfl,_,_,rfl,by omega,by omega,by omega,eo⟩
   case post =>
     rintro c st' ⟨rfl,l,o,rfl,a1,a2,a3,a4⟩
     dsimp only
     have f1:hint+1-min o (hint+1)<=hint-l:=by
       rcases a4 with z | ⟨z,z'⟩
       . omega
       . omega
     have f2:hint-l<=n:=by omega
     have f3:∀i,i<hint+1-min o (hint+1)->p i=true:=fun i hi=>by
       rcases a4 with z | ⟨z,z'⟩
       . omega
       . exact up _ (by omega) z' i (by omega)
     have f4:∀i,hint-l<=i->i<n->p i=false:=fun i h1 h2=>dn' _ a3 _ h1 h2
     refine wpS_bind (zN9 mono (fun x l r R g0 g1 g2 hr=>?_) f1 f2 f3 f4 fun k k1 k2 k3=>wpS_pure (h k k1 k2 k3))
     dsimp only
     by_cases hge:l≥r
     . rw[if_pos hge]
       exact wpS_pure (g0 hge)
     . rw[if_neg hge]
       refine wpS_bind (hq _ (by omega) _ ?_)
       cases eo:p (l+(r-l) / 2) with
       | true =>
         dsimp only
         rw[if_pos rfl]
         exact wpS_pure (g1 (by omega) eo)
       | false =>
         dsimp only
         rw[if_neg (by decide)]
         exact wpS_pure (g2 (by omega) eo)
end
section
variable {α:Type} {R:α->α->Prop} {T out A B A1 A2 B1 B2:List α} {z:α}
structure MLo (R:α->α->Prop)(T out A B:List α):Prop where
 perm:(out++(A++B)).Perm T
 so:out.Pairwise R
 sa:A.Pairwise R
 sb:B.Pairwise R
 lo:∀x∈out,∀y∈A++B,R x y
 la:∀z,A.getLast?=some z->∀y∈B,R y z
theorem MLo.takeA (m:MLo R T out (A1++A2) B)(h:∀x∈A1,∀y∈B,R x y):MLo R T (out++A1) A2 B:=by
 have sa:=List.pairwise_append.mp m.sa
 refine⟨by simpa [List.append_assoc] using m.perm,List.pairwise_append.mpr ⟨m.so,sa.1,fun x hx y hy=>m.lo x hx y (by simp[hy])⟩,sa.2.1,m.sb,fun x hx y hy=>?_,fun z hz y hy=>m.la z (by rw[List.getLast?_append,hz];rfl) y hy⟩
 rcases List.mem_append.mp hx with hx | hx
 . exact m.lo x hx y (by rcases List.mem_append.mp hy with q | q<;>simp[q])
 . rcases List.mem_append.mp hy with q | q
   . exact sa.2.2 x hx y q
   . exact h x hx y q
theorem MLo.takeB (m:MLo R T out A (B1++B2))(h:∀y∈B1,∀x∈A,R y x):MLo R T (out++B1) A B2:=by
 have sb:=List.pairwise_append.mp m.sb
 refine⟨.trans ?_ m.perm,List.pairwise_append.mpr ⟨m.so,sb.1,fun x hx y hy=>m.lo x hx y (by simp[hy])⟩,m.sa,sb.2.1,fun x hx y hy=>?_,fun z hz y hy=>m.la z hz y (by simp[hy])⟩
 . rw[List.append_assoc]
   refine List.Perm.append_left out ?_
   rw[<-List.append_assoc,<-List.append_assoc]
   exact List.Perm.append_right B2 List.perm_append_comm
 . rcases List.mem_append.mp hx with hx | hx
   . exact m.lo x hx y (by rcases List.mem_append.mp hy with q | q<;>simp[q])
   . rcases List.mem_append.mp hy with q | q
     . exact h x hx y q
     . exact sb.2.2 x hx y q
theorem MLo.len (m:MLo R T out A B):out.length+(A.length+B.length)=T.length:=by
 have:=m.perm.length_eq
 simpa using this
theorem MLo.dis (m:MLo R T out A B)(d:T.Pairwise fun x y=>R x y\/R y x){x y:α}(hx:x∈A)(hy:y∈B):R x y\/R y x:=by
 have d':=(m.perm.pairwise_iff (R:=fun x y=>R x y\/R y x) (fun h=>h.symm)).mpr d
 exact(List.pairwise_append.mp (List.pairwise_append.mp d').2.1).2.2 x hx y hy
theorem MLo.memA (m:MLo R T out A B){x:α}(hx:x∈A):x∈T:=m.perm.mem_iff.mp (by simp[hx])
theorem MLo.memB (m:MLo R T out A B){x:α}(hx:x∈B):x∈T:=m.perm.mem_iff.mp (by simp[hx])
noncomputable def Mer (R:α->α->Prop)(T m:List α):Prop:=m.Perm T/\m.Pairwise R
theorem MLo.doneA (m:MLo R T out A []):Mer R T (out++A) :=
 ⟨by simpa using m.perm,List.pairwise_append.mpr ⟨m.so,m.sa,fun x hx y hy=>m.lo x hx y (by simp[hy])⟩⟩
theorem MLo.doneB (m:MLo R T out [] B):Mer R T (out++B) :=
 ⟨by simpa using m.perm,List.pairwise_append.mpr ⟨m.so,m.sb,fun x hx y hy=>m.lo x hx y (by simp[hy])⟩⟩
theorem MLo.last (m:MLo R T out [z] B):Mer R T (out++(B++[z])):=by
 refine⟨.trans (List.Perm.append_left out List.perm_append_comm) m.perm,List.pairwise_append.mpr ⟨m.so,List.pairwise_append.mpr ⟨m.sb,List.pairwise_singleton _ _,fun x hx y hy=>?_⟩,fun x hx y hy=>m.lo x hx y ?_⟩⟩
 . obtain rfl:y=z:=by simpa using hy
   exact m.la y rfl x hx
 . rcases List.mem_append.mp hy with q | q
   . simp[q]
   . simp at q;simp[q]
end
section
variable {α:Type} {R:α->α->Prop} {T:List α}
theorem zh1 {a:Array α}{i:Nat}(h:i<a.size):a.toList.drop i=a[i]::a.toList.drop (i+1):=by
 have h':i<a.toList.length:=by simpa using h
 rw[List.drop_eq_getElem_cons h']
 simp
theorem zE8 {a:Array α}{i:Nat}(h:a.size<=i):a.toList.drop i=[]:=List.drop_eq_nil_of_le (by simpa using h)
theorem zy0 (a:Array α)(i:Nat):(a.extract i).toList=a.toList.drop i:=by
 rw[Array.toList_extract,List.extract_eq_drop_take]
 exact List.take_of_length_le (by simp)
theorem zm4 (a:Array α)(i k:Nat):(a.extract i (i+k)).toList=(a.toList.drop i).take k:=by
 rw[Array.toList_extract,List.extract_eq_drop_take]
 congr 1
 omega
theorem zD0 {out a b:Array α}{ia ib:Nat}(m:MLo R T out.toList (a.toList.drop ia) (b.toList.drop ib))(h:b.size<=ib\/a.size<=ia):Mer R T (out++a.extract ia++b.extract ib).toList:=by
 rw[Array.toList_append,Array.toList_append,zy0,zy0]
 rcases h with h | h
 . rw[zE8 h] at m ⊢
   simpa using m.doneA
 . rw[zE8 h] at m ⊢
   simpa using m.doneB
theorem zD1 {out a b:Array α}{ia ib:Nat}(m:MLo R T out.toList (a.toList.drop ia) (b.toList.drop ib))(h:ia+1=a.size):Mer R T (out++b.extract ib++a.extract ia).toList:=by
 rw[Array.toList_append,Array.toList_append,zy0,zy0]
 rw[zh1 (a:=a) (i:=ia) (by omega),zE8 (a:=a) (i:=ia+1) (by omega)] at m ⊢
 simpa using m.last
theorem zO0 {out a b : Array α} {ia ib : Nat} (m : MLo R T out.toList (a.toList.drop ia) (b.toList.drop ib)) (h : ia < a.size) (hb : ∀ y ∈ b.toList.drop ib, R a[ia] y) : MLo R T (out.push a[ia]).toList (a.toList.drop (ia + 1)) (b.toList.drop ib) := by
  rw [zh1 h] at m
  rw [Array.toList_push]
  exact MLo.takeA (A1 := [a[ia]]) m fun x hx y hy => by obtain rfl : x = a[ia] := by simpa using hx
                                                        exact hb y hy
theorem zE9 {out a b : Array α} {ia ib : Nat} (m : MLo R T out.toList (a.toList.drop ia) (b.toList.drop ib)) (h : ib < b.size) (ha : ∀ x ∈ a.toList.drop ia, R b[ib] x) : MLo R T (out.push b[ib]).toList (a.toList.drop ia) (b.toList.drop (ib + 1)) := by
  rw [zh1 h] at m
  rw [Array.toList_push]
  exact MLo.takeB (B1 := [b[ib]]) m fun x hx y hy => by obtain rfl : x = b[ib] := by simpa using hx
                                                        exact ha y hy
theorem lo_runA {out a b:Array α}{ia ib k:Nat}(m:MLo R T out.toList (a.toList.drop ia) (b.toList.drop ib))(h:∀x∈(a.toList.drop ia).take k,∀y∈b.toList.drop ib,R x y):MLo R T (out++a.extract ia (ia+k)).toList (a.toList.drop (ia+k)) (b.toList.drop ib):=by
 rw[Array.toList_append,zm4,<-List.drop_drop]
 rw[<-List.take_append_drop k (a.toList.drop ia)] at m
 exact m.takeA h
theorem lo_runB {out a b:Array α}{ia ib k:Nat}(m:MLo R T out.toList (a.toList.drop ia) (b.toList.drop ib))(h:∀y∈(b.toList.drop ib).take k,∀x∈a.toList.drop ia,R y x):MLo R T (out++b.extract ib (ib+k)).toList (a.toList.drop ia) (b.toList.drop (ib+k)):=by
 rw[Array.toList_append,zm4,<-List.drop_drop]
 rw[<-List.take_append_drop k (b.toList.drop ib)] at m
 exact m.takeB h
end
structure Cmp (M:Model)(A:Around)(s:Shared)(κ:SortKind)(lt:Keyed->Keyed->Bool)(T:List Keyed):Prop where
 ask:∀x∈T,∀y∈T,wpAny M A (keyLt' κ x.1 y.1) (fun b s'=>s'=s/\b=lt x y) (fun _ _=>False) s
 tr:∀x y z,lt x y=true->lt y z=true->lt x z=true
 as:∀x y,lt x y=true->lt y x=false
 di:T.Pairwise fun x y=>lt x y=true\/lt y x=true
noncomputable abbrev LtR (lt:Keyed->Keyed->Bool):Keyed->Keyed->Prop:=fun x y=>lt x y=true
section
variable {M:Model} {A:Around} {E:Value->Shared->Prop} {s:Shared} {κ:SortKind} {lt:Keyed->Keyed->Bool} {T T':List Keyed}
theorem Cmp.sub (c:Cmp M A s κ lt T)(h:T'.Sublist T):Cmp M A s κ lt T':=⟨fun x hx y hy=>c.ask x (h.subset hx) y (h.subset hy),c.tr,c.as,c.di.sublist h⟩
theorem Cmp.perm (c:Cmp M A s κ lt T)(h:T'.Perm T):Cmp M A s κ lt T':=⟨fun x hx y hy=>c.ask x (h.mem_iff.mp hx) y (h.mem_iff.mp hy),c.tr,c.as,(h.pairwise_iff (fun z=>z.symm)).mpr c.di⟩
theorem zO1 {x y:Keyed}{st:SortSt}{Q:Option Bool->SortSt->Prop}(c:Cmp M A s κ lt T)(hx:x∈T)(hy:y∈T)(hk:kindOf st=κ)(h:Q (some (lt x y)) st):wpS M A E s (lt' x y) Q st:=by
 rw[lt'_eq]
 refine wpS_bind (wpS_get ?_)
 rw[hk]
 refine wpS_bind (wpS_lift (wpAny_attempt (wpAny_mono (c.ask x hx y hy) (fun b s' z=>⟨z.1,?_⟩) fun _ _ f=>f.elim)))
 rw[z.2]
 exact wpS_pure h
theorem ze9 {arr:Array Keyed}{i:Nat}{st:SortSt}{Q:Keyed->SortSt->Prop}(hi:i<arr.size)(h:Q arr[i] st):wpS M A E s (elem' arr i) Q st:=by
 rw[elem'_eq,getElem?_pos arr i hi]
 exact wpS_pure h
theorem zD2 {st:SortSt}{g:Nat}{Q:Unit->SortSt->Prop}(h:Q () (SortSt.mk' (kindOf st) (arrOf st) (pendingOf st) g (failedOf st))):wpS M A E s (zS5 g) Q st:=by
 unfold zS5
 exact wpS_modify h
theorem zL5 {left:Bool}{key:Keyed}{arr:Array Keyed}{base hint:Nat}{L:List Keyed}{st:SortSt}{Q:Option Nat->SortSt->Prop}(c:Cmp M A s κ lt T)(hk:kindOf st=κ)(hkey:key∈T)(hT:∀x∈L,x∈T)
   (hL:∀i (h:i<L.length),arr[base+i]?=some L[i]) (hs:L.Pairwise (LtR lt)) (hh:hint<L.length)
   (h:∀k,k<=L.length->(∀x∈L.take k,(if left=true then lt x key else !lt key x)=true)->(∀x∈L.drop k,(if left=true then lt x key else !lt key x)=false)->Q (some k) st) :
   wpS M A E s (zx9 left key arr base L.length hint) Q st:=by
 refine wp_gallop (p:=fun i=>match L[i]? with | some x=>if left=true then lt x key else !lt key x | none=>false) (fun i hi R hR=>?_) (fun i j hij hj e=>?_) hh fun k hk1 h1 h2=>h k hk1 (fun x hx=>?_) fun x hx=>?_
 . unfold zY6
   obtain⟨hb,e⟩:=Array.getElem?_eq_some_iff.mp (hL i hi)
   refine wpS_bind (ze9 hb ?_)
   rw[e]
   have hm:L[i]∈T:=hT _ (List.getElem_mem hi)
   rw[List.getElem?_eq_getElem hi] at hR
   dsimp only at hR
   cases left with
   | true =>
     rw[if_pos rfl]
     exact zO1 c hm hkey hk hR
   | false =>
     rw[if_neg (by decide)]
     exact wpS_bind (zO1 c hkey hm hk (wpS_pure hR))
 . have hi:i<L.length:=by omega
   rw[List.getElem?_eq_getElem hj] at e
   rw[List.getElem?_eq_getElem hi]
   have hR:lt L[i] L[j]=true:=List.pairwise_iff_getElem.mp hs i j hi hj hij
   cases left with
   | true =>
     dsimp only at e ⊢
     rw[if_pos rfl] at e ⊢
     exact c.tr _ _ _ hR e
   | false =>
     dsimp only at e ⊢
     rw[if_neg (by decide)] at e ⊢
     cases z:lt key L[i] with
     | false=>rfl
     | true=>rw[c.tr _ _ _ z hR] at e;cases e
 . obtain⟨i,hi,rfl⟩:=List.mem_iff_getElem.mp hx
   have hi':i<k:=by simp at hi;omega
   have hi2:i<L.length:=by simp at hi;omega
   have:=h1 i hi'
   rw[List.getElem?_eq_getElem hi2] at this
   simpa using this
 . obtain⟨i,hi,rfl⟩:=List.mem_iff_getElem.mp hx
   have hi2:k+i<L.length:=by simp at hi;omega
   have:=h2 (k+i) (by omega) hi2
   rw[List.getElem?_eq_getElem hi2] at this
   simpa using this
theorem zS6 {left:Bool}{key:Keyed}{a:Array Keyed}{i:Nat}{st:SortSt}{Q:Option Nat->SortSt->Prop}(c:Cmp M A s κ lt T)(hk:kindOf st=κ)(hkey:key∈T)(hT:∀x∈a.toList.drop i,x∈T)
   (hs:(a.toList.drop i).Pairwise (LtR lt)) (hi:i<a.size)
   (h:∀k,k<=a.size-i->(∀x∈(a.toList.drop i).take k,(if left=true then lt x key else !lt key x)=true)->(∀x∈a.toList.drop (i+k),(if left=true then lt x key else !lt key x)=false)->Q (some k) st) :
   wpS M A E s (zx9 left key a i (a.size-i) 0) Q st:=by
 have e:(a.toList.drop i).length=a.size-i:=by simp
 have:=zL5 (E:=E) (left:=left) (key:=key) (arr:=a) (base:=i) (hint:=0) (L:=a.toList.drop i) (Q:=Q) c hk hkey hT (fun j hj=>by
   have hj':i+j<a.size:=by rw[e] at hj;omega
   rw[getElem?_pos a (i+j) hj']
   simp) hs (by rw[e];omega) fun k h0 h1 h2=>h k (by rw[e] at h0;exact h0) h1 (fun x hx=>h2 x (by rw[List.drop_drop];exact hx))
 rw[e] at this
 exact this
end
end Sx
namespace Sx
inductive Aa6 (p0 p1 p2 p3 p4 p5:Prop):Prop | mk (h0:p0) (h1:p1) (h2:p2) (h3:p3) (h4:p4) (h5:p5):Aa6 p0 p1 p2 p3 p4 p5
inductive Aa8 (p0 p1 p2 p3 p4 p5 p6 p7:Prop):Prop | mk (h0:p0) (h1:p1) (h2:p2) (h3:p3) (h4:p4) (h5:p5) (h6:p6) (h7:p7):Aa8 p0 p1 p2 p3 p4 p5 p6 p7
inductive Ex4 {α β γ δ:Type}(p:α->β->γ->δ->Prop):Prop | mk (a0:α) (a1:β) (a2:γ) (a3:δ) (h:p a0 a1 a2 a3):Ex4 p
inductive Ex5 {α β γ δ ε:Type}(p:α->β->γ->δ->ε->Prop):Prop | mk (a0:α) (a1:β) (a2:γ) (a3:δ) (a4:ε) (h:p a0 a1 a2 a3 a4):Ex5 p
inductive Ex7 {α β γ δ ε ζ η:Type}(p:α->β->γ->δ->ε->ζ->η->Prop):Prop | mk (a0:α) (a1:β) (a2:γ) (a3:δ) (a4:ε) (a5:ζ) (a6:η) (h:p a0 a1 a2 a3 a4 a5 a6):Ex7 p
open PySem PyProof.Rows
section
variable {M:Model} {A:Around} {E:Value->Shared->Prop} {s:Shared} {κ:SortKind} {lt:Keyed->Keyed->Bool} {T:List Keyed}
theorem zg1 {a b:Nat}(h:a=b):(a == b)=true:=by simpa using h
theorem zf6 {a b:Nat}(h:¬ a=b):¬ (a == b)=true:=by simpa using h
theorem zS7 {R:Nat->Prop}{G:Prop}(main:(∀o,R o)->G)(fin:∀o,R o):G:=main fin
theorem zL6 {R S:Array Keyed->Nat->Prop}{G:Prop}(main:(∀o j,S o j->R o j)->G)(fin:∀o j,S o j->R o j):G:=main fin
inductive Ex1 (p q r s t:Prop):Prop
 | mk (a:p)(b:q)(c:r)(d:s)(e:t)
theorem wp_mergeLo {a b:Array Keyed}{ar:Array Keyed}{pd:Array (Nat×Nat×Nat)}{g:Nat}{Q:Array Keyed->SortSt->Prop}(c:Cmp M A s κ lt T)(hT:(a.toList++b.toList).Perm T)
   (sa:a.toList.Pairwise (LtR lt)) (sb:b.toList.Pairwise (LtR lt)) (ha:0<a.size) (hb:0<b.size) (first:∀x∈a.toList,lt b[0] x=true) (last:∀z,a.toList.getLast?=some z->∀y∈b.toList,lt y z=true)
   (h:∀m g',Mer (LtR lt) T m.toList->Q m (SortSt.mk' κ ar pd g' none)):wpS M A E s (zN7 a b) Q (SortSt.mk' κ ar pd g none):=by
 unfold zN7
 refine wpS_bind (wpS_lift (wpAny_rule ⟨rfl,?_⟩))
 refine wpS_bind (ze9 hb ?_)
 have m0:MLo (LtR lt) T (#[]:Array Keyed).toList (a.toList.drop 0) (b.toList.drop 0):=⟨by simpa using hT,by simp,by simpa using sa,by simpa using sb,by simp,by simpa using last⟩
 have m1:MLo (LtR lt) T (#[b[0]]:Array Keyed).toList (a.toList.drop 0) (b.toList.drop 1):=zE9 m0 hb (by simpa using first)
 dsimp only
 by_cases h1:1=b.size
 . rw[if_pos (zg1 h1)]
   exact wpS_pure (h _ _ (zD0 m1 (.inl (by omega))))
 rw[if_neg (zf6 h1)]
 by_cases h2:0+1=a.size
 . rw[if_pos (zg1 h2)]
   exact wpS_pure (h _ _ (zD1 m1 h2))
 rw[if_neg (zf6 h2)]
 refine wpS_bind (wpS_get ?_)
 have tot:∀ {out:Array Keyed} {ia ib:Nat},MLo (LtR lt) T out.toList (a.toList.drop ia) (b.toList.drop ib)->ib<b.size->out.size<a.size+b.size:=fun {out ia ib} m hib=>by
   have e:=m.len
   have e':=hT.length_eq
   simp at e e'
   omega
 refine wpS_bind (wpS_mono (wpS_forRange
   (I:=fun x v st'=>Ex5 fun out ia ib mg g'=>Aa6 (v=(none,out,ia,ib,mg)) (st'=SortSt.mk' κ ar pd g' none) (MLo (LtR lt) T out.toList (a.toList.drop ia) (b.toList.drop ib)) (ia+1<a.size) (ib<b.size) (x<=out.size))
   (Q:=fun v st'=>∃r g',v.1=some r/\Mer (LtR lt) T r.toList/\st'=SortSt.mk' κ ar pd g' none) ?step ?fin ⟨_,0,1,_,g,rfl,rfl,m1,by omega,by omega,by simp⟩) ?post)
 case post =>
   rintro⟨r0,v⟩ st' ⟨r,g',e,hm,rfl⟩
   obtain rfl:r0=some r:=e
   exact wpS_pure (h r g' hm)
 case fin =>
   rintro v st' ⟨out,ia,ib,mg,g',rfl,rfl,m,hia,hib,hx⟩
   have:=tot m hib
   omega
 case step =>
   rintro x v st' _ hx ⟨out,ia,ib,mg,g',rfl,rfl,m,hia,hib,hxo⟩
   dsimp only
   refine wpS_bind (wpS_mono (wpS_forRange
     (I:=fun y v st'=>Ex5 fun o ja jb ac bc=>Aa6 (v=(none,o,ja,jb,ac,bc)) (st'=SortSt.mk' κ ar pd g' none) (MLo (LtR lt) T o.toList (a.toList.drop ja) (b.toList.drop jb)) (ja+1<a.size) (jb<b.size) (out.size+y<=o.size))
     (Q:=fun v st'=>st'=SortSt.mk' κ ar pd g' none/\((∃r,v.1=some r/\Mer (LtR lt) T r.toList)\/∃o ja jb ac bc,v=(none,o,ja,jb,ac,bc)/\MLo (LtR lt) T o.toList (a.toList.drop ja) (b.toList.drop jb)/\ja+1<a.size/\jb<b.size/\out.size+1<=o.size))
     ?step1 ?fin1 ⟨out,ia,ib,_,_,rfl,rfl,m,hia,hib,by omega⟩) ?post1)
   case fin1 =>
     rintro v st' ⟨o,ja,jb,ac,bc,rfl,rfl,m,h3,h4,h5⟩
     exact⟨rfl,.inr ⟨o,ja,jb,ac,bc,rfl,m,h3,h4,by omega⟩⟩
   case step1 =>
     rintro y v st' _ hy ⟨o,ja,jb,ac,bc,rfl,rfl,m,h3,h4,h5⟩
     dsimp only
     have hja:ja<a.size:=by omega
     have ma:a[ja]∈a.toList.drop ja:=by rw[zh1 hja];exact .head _
     have mb:b[jb]∈b.toList.drop jb:=by rw[zh1 h4];exact .head _
     refine wpS_bind (ze9 h4 (wpS_bind (ze9 hja ?_)))
     refine wpS_bind (zO1 c (m.memB mb) (m.memA ma) rfl ?_)
     cases e:lt b[jb] a[ja] with
     | true =>
       dsimp only
       rw[if_pos rfl]
       refine wpS_bind (ze9 h4 ?_)
       have m':=zE9 m h4 fun x hx=>by
         have q:=m.sa
         rw[zh1 hja] at hx q
         rcases List.mem_cons.mp hx with rfl | hx
         . exact e
         . exact c.tr _ _ _ e ((List.pairwise_cons.mp q).1 x hx)
       try dsimp only
       by_cases h6:jb+1=b.size
       . rw[if_pos (zg1 h6)]
         exact wpS_pure ⟨rfl,.inl ⟨_,rfl,zD0 m' (.inl (by omega))⟩⟩
       rw[if_neg (zf6 h6)]
       split
       . exact wpS_pure ⟨rfl,.inr ⟨_,_,_,_,_,rfl,m',h3,by omega,by simp;omega⟩⟩
       . exact wpS_pure ⟨_,_,_,_,_,rfl,rfl,m',h3,by omega,by simp;omega⟩
     | false =>
       dsimp only
       rw[if_neg (by decide)]
       refine wpS_bind (ze9 hja ?_)
       have e':lt a[ja] b[jb]=true:=(m.dis c.di ma mb).resolve_right (by show ¬ lt _ _=true;rw[e];decide)
       have m':=zO0 m hja fun x hx=>by
         have q:=m.sb
         rw[zh1 h4] at hx q
         rcases List.mem_cons.mp hx with rfl | hx
         . exact e'
         . exact c.tr _ _ _ e' ((List.pairwise_cons.mp q).1 x hx)
       try dsimp only
       by_cases h6:ja+1+1=a.size
       . rw[if_pos (zg1 h6)]
         exact wpS_pure ⟨rfl,.inl ⟨_,rfl,zD1 m' h6⟩⟩
       rw[if_neg (zf6 h6)]
       split
       . exact wpS_pure ⟨rfl,.inr ⟨_,_,_,_,_,rfl,m',by omega,h4,by simp;omega⟩⟩
       . exact wpS_pure ⟨_,_,_,_,_,rfl,rfl,m',by omega,h4,by simp;omega⟩
   case post1 =>
     rintro⟨r0,v⟩ st' ⟨rfl,⟨r,e,hm⟩ | ⟨o,ja,jb,ac,bc,e,m,h3,h4,h5⟩⟩
     . obtain rfl:r0=some r:=e
       exact wpS_pure ⟨r,g',rfl,hm,rfl⟩
     obtain⟨rfl,rfl⟩:=Prod.mk.inj e
     dsimp only
     refine wpS_bind (wpS_lift (wpAny_rule ⟨rfl,?_⟩))
     refine wpS_bind (wpS_mono (wpS_forRange
       (I:=fun y v st'=>Ex7 fun o ja jb mg ac bc g'=>Aa6 (v=(none,o,ja,jb,mg,ac,bc)) (st'=SortSt.mk' κ ar pd g' none) (MLo (LtR lt) T o.toList (a.toList.drop ja) (b.toList.drop jb)) (ja+1<a.size) (jb<b.size) (out.size+1<=o.size))
       (Q:=fun v st'=>∃g',st'=SortSt.mk' κ ar pd g' none/\((∃r,v.1=some r/\Mer (LtR lt) T r.toList)\/∃o ja jb mg ac bc,v=(none,o,ja,jb,mg,ac,bc)/\MLo (LtR lt) T o.toList (a.toList.drop ja) (b.toList.drop jb)/\ja+1<a.size/\jb<b.size/\out.size+1<=o.size))
       ?step2 ?fin2 ⟨o,ja,jb,_,_,_,g',rfl,rfl,m,h3,h4,h5⟩) ?post2)
     case fin2 =>
       rintro v st' ⟨o,ja,jb,mg,ac,bc,g',rfl,rfl,m,h3,h4,h5⟩
       exact⟨g',rfl,.inr ⟨o,ja,jb,mg,ac,bc,rfl,m,h3,h4,h5⟩⟩
     case post2 =>
       rintro⟨r0,v⟩ st' ⟨g',rfl,⟨r,e,hm⟩ | ⟨o,ja,jb,mg,ac,bc,e,m,h3,h4,h5⟩⟩
       . obtain rfl:r0=some r:=e
         exact wpS_pure ⟨r,g',rfl,hm,rfl⟩
       obtain⟨rfl,rfl⟩:=Prod.mk.inj e
       dsimp only
       exact wpS_bind (zD2 (wpS_pure ⟨o,ja,jb,_,_,rfl,rfl,m,h3,h4,by omega⟩))
     case step2 =>
       clear m h3 h4 h5 hxo hia hib
       rintro y v st' _ hy ⟨o,ja,jb,mg,ac,bc,g',rfl,rfl,m,h3,h4,h5⟩
       dsimp only
       have key:∀mg',wpS M A E s (zS5 mg') (fun _ st'=>st'=SortSt.mk' κ ar pd mg' none) (SortSt.mk' κ ar pd g' none):=fun mg'=>zD2 rfl
       refine zS7 (R:=?R0) (fun fin0=>?main0) ?fin0
       case main0 =>
         by_cases hmg:mg>1
         . rw[if_pos hmg]
           generalize mg-1=mg'
           exact fin0 mg'
         . rw[if_neg hmg]
           exact fin0 mg
       case fin0 =>
         intro mg'
         refine wpS_bind (wpS_mono (key _) fun _ st' e=>?_)
         subst e
         clear key
         refine wpS_bind (ze9 h4 ?_)
         have mb:b[jb]∈b.toList.drop jb:=by rw[zh1 h4];exact .head _
         refine wpS_bind (zS6 c rfl (m.memB mb) (fun x hx=>m.memA hx) m.sa (by omega) fun k hk k1 k2=>?_)
         dsimp only
         refine zL6 (R:=?R1) (S:=fun o' ja'=>Ex1 (MLo (LtR lt) T o'.toList (a.toList.drop ja') (b.toList.drop jb)) (out.size+1<=o'.size) (∀x∈a.toList.drop ja',lt b[jb] x=true) (ja'+1<a.size) True) (fun fin1=>?main1) ?fin1
         case main1 =>
           have k1':∀x∈(a.toList.drop ja).take k,∀y∈b.toList.drop jb,lt x y=true:=fun x hx y hy=>by
             have q:=k1 x hx
             rw[if_neg (by decide)] at q
             have e:lt x b[jb]=true:=(m.dis c.di (List.mem_of_mem_take hx) mb).resolve_right (by simpa using q)
             have q':=m.sb
             rw[zh1 h4] at hy q'
             rcases List.mem_cons.mp hy with rfl | hy
             . exact e
             . exact c.tr _ _ _ e ((List.pairwise_cons.mp q').1 y hy)
           have m2:=lo_runA m k1'
           have o2:out.size+1<=(o++a.extract ja (ja+k)).size:=by simp;omega
           have k2':∀x∈a.toList.drop (ja+k),lt b[jb] x=true:=fun x hx=>by
             have q:=k2 x hx
             rw[if_neg (by decide)] at q
             simpa using q
           have hend:¬ ja+k=a.size:=fun z=>by
             obtain⟨w,hw⟩:∃w,(a.toList.drop ja).getLast?=some w:=by
               rw[zh1 (show ja<a.size by omega)]
               exact⟨_,List.getLast?_eq_getLast (by simp)⟩
             have w1:lt _ _=true:=m.la w hw _ mb
             have w2:w∈(a.toList.drop ja).take k:=by
               rw[List.take_of_length_le (by simp;omega)]
               exact List.mem_of_getLast? hw
             rw[c.as _ _ (k1' w w2 _ mb)] at w1
             cases w1
           by_cases hk':k>0
           . rw[if_pos hk']
             by_cases h6:ja+k+1=a.size
             . rw[if_pos (zg1 h6)]
               exact wpS_pure ⟨_,rfl,.inl ⟨_,rfl,zD1 m2 h6⟩⟩
             rw[if_neg (zf6 h6),if_neg (zf6 hend)]
             have h3':ja+k+1<a.size:=by omega
             clear k1' hend h6 hk'
             generalize o++a.extract ja (ja+k)=o' at m2 o2 ⊢
             generalize ja+k=ja' at m2 k2' h3' ⊢
             exact fin1 o' ja' ⟨m2,o2,k2',h3',trivial⟩
           . rw[if_neg hk']
             have ek:ja+k=ja:=by omega
             rw[ek] at k2'
             exact fin1 o ja ⟨m,h5,k2',h3,trivial⟩
         case fin1 =>
           clear k1 k2 hk mb h3 h5 m
           rintro o' ja' ⟨m2,o2,k2',h3',_⟩
           refine wpS_bind (ze9 h4 ?_)
           have m3:=zE9 m2 h4 k2'
           try dsimp only
           by_cases h7:jb+1=b.size
           . rw[if_pos (zg1 h7)]
             exact wpS_pure ⟨_,rfl,.inl ⟨_,rfl,zD0 m3 (.inl (by omega))⟩⟩
           rw[if_neg (zf6 h7)]
           have h8:ja'<a.size:=by omega
           have ma:a[ja']∈a.toList.drop ja':=by rw[zh1 h8];exact .head _
           have o3:out.size+1<=(o'.push b[jb]).size:=by simp;omega
           have h7':jb+1<b.size:=by omega
           clear m2 o2 k2' h7
           generalize o'.push b[jb]=o1 at m3 o3 ⊢
           refine wpS_bind (ze9 h8 ?_)
           refine wpS_bind (zS6 c rfl (m3.memA ma) (fun x hx=>m3.memB hx) m3.sb (by omega) fun n hn n1 n2=>?_)
           dsimp only
           refine zL6 (R:=?R2) (S:=fun o2 jb2=>Ex1 (MLo (LtR lt) T o2.toList (a.toList.drop ja') (b.toList.drop jb2)) (out.size+1<=o2.size) (∀y∈b.toList.drop jb2,lt a[ja'] y=true) (jb2<b.size) True) (fun fin2=>?main2) ?fin2'
           case main2 =>
             have n1':∀y∈(b.toList.drop (jb+1)).take n,∀x∈a.toList.drop ja',lt y x=true:=fun y hy x hx=>by
               have q:=n1 y hy
               rw[if_pos rfl] at q
               have q':=m3.sa
               rw[zh1 h8] at hx q'
               rcases List.mem_cons.mp hx with rfl | hx
               . exact q
               . exact c.tr _ _ _ q ((List.pairwise_cons.mp q').1 x hx)
             have m4:=lo_runB m3 n1'
             have o4:out.size+1<=(o1++b.extract (jb+1) (jb+1+n)).size:=by simp;omega
             have n2':∀y∈b.toList.drop (jb+1+n),lt a[ja'] y=true:=fun y hy=>by
               have q:=n2 y hy
               rw[if_pos rfl] at q
               exact(m4.dis c.di ma hy).resolve_right (by show ¬ lt _ _=true;rw[q];decide)
             by_cases hn':n>0
             . rw[if_pos hn']
               by_cases h9:jb+1+n=b.size
               . rw[if_pos (zg1 h9)]
                 exact wpS_pure ⟨_,rfl,.inl ⟨_,rfl,zD0 m4 (.inl (by omega))⟩⟩
               rw[if_neg (zf6 h9)]
               have h10:jb+1+n<b.size:=by omega
               clear n1' h9 hn'
               generalize o1++b.extract (jb+1) (jb+1+n)=o2 at m4 o4 ⊢
               generalize jb+1+n=jb2 at m4 n2' h10 ⊢
               exact fin2 o2 jb2 ⟨m4,o4,n2',h10,trivial⟩
             . rw[if_neg hn']
               have en:jb+1+n=jb+1:=by omega
               rw[en] at n2'
               exact fin2 o1 (jb+1) ⟨m3,o3,n2',h7',trivial⟩
           case fin2' =>
             clear n1 n2 hn ma m3 o3 h7' h4
             rintro o2 jb2 ⟨m4,o4,n2',h10,_⟩
             refine wpS_bind (ze9 h8 ?_)
             have m5:=zO0 m4 h8 n2'
             try dsimp only
             by_cases h11:ja'+1+1=a.size
             . rw[if_pos (zg1 h11)]
               exact wpS_pure ⟨_,rfl,.inl ⟨_,rfl,zD1 m5 h11⟩⟩
             rw[if_neg (zf6 h11)]
             split
             . exact wpS_pure ⟨_,rfl,.inr ⟨_,_,_,_,_,_,rfl,m5,by omega,h10,by simp;omega⟩⟩
             . exact wpS_pure ⟨_,_,_,_,_,_,_,rfl,rfl,m5,by omega,h10,by simp;omega⟩
end
end Sx
namespace Sx
open PySem PyProof.Rows
section
variable {α:Type} {R:α->α->Prop} {T:List α}
noncomputable abbrev Rv (R:α->α->Prop):α->α->Prop:=fun x y=>R y x
noncomputable abbrev MHi (R:α->α->Prop)(T:List α)(out a b:Array α)(na nb:Nat):Prop:=MLo (Rv R) T out.toList (b.toList.take nb).reverse (a.toList.take na).reverse
theorem Mer.rev {m:List α}(h:Mer (Rv R) T m):Mer R T m.reverse:=⟨(List.reverse_perm m).trans h.1,by rw[List.pairwise_reverse];exact h.2⟩
theorem zn1 {a:Array α}{n:Nat}(h0:0<n)(h:n<=a.size):(a.toList.take n).reverse=a[n-1]::(a.toList.take (n-1)).reverse:=by
 obtain⟨k,rfl⟩:∃k,n=k+1:=⟨n-1,by omega⟩
 have hk:k<a.toList.length:=by simp;omega
 rw[List.take_succ_eq_append_getElem hk,List.reverse_append]
 simp
theorem zt4 (a:Array α)(n:Nat):(a.extract 0 n).toList=a.toList.take n:=by
 have:=zm4 a 0 n
 simpa using this
theorem zy1 {out a b:Array α}{na nb:Nat}(m:MHi R T out a b na nb)(h:na=0\/nb=0):Mer R T (a.extract 0 na++b.extract 0 nb++out.reverse).toList:=by
 rw[Array.toList_append,Array.toList_append,zt4,zt4,Array.toList_reverse]
 unfold MHi at m
 rcases h with rfl | rfl
 . have q:=(MLo.doneA (by simpa using m)).rev
   simpa using q
 . have q:=(MLo.doneB (by simpa using m)).rev
   simpa using q
theorem zy2 {out a b:Array α}{na:Nat}(m:MHi R T out a b na 1)(hb:0<b.size):Mer R T (b.extract 0 1++a.extract 0 na++out.reverse).toList:=by
 rw[Array.toList_append,Array.toList_append,zt4,zt4,Array.toList_reverse]
 unfold MHi at m
 rw[zn1 (by omega) (by omega)] at m
 have q:=(MLo.last (by simpa using m)).rev
 have e:b.toList.take 1=[b[0]]:=by
   have z:=congrArg List.reverse (zn1 (a:=b) (n:=1) (by omega) (by omega))
   simpa using z
 rw[e]
 simpa using q
theorem zF0 {out a b : Array α} {na nb : Nat} (m : MHi R T out a b na nb) (h0 : 0 < na) (h : na ≤ a.size) (hb : ∀ y ∈ b.toList.take nb, R y a[na - 1]) : MHi R T (out.push a[na - 1]) a b (na - 1) nb := by
  unfold MHi at m ⊢
  rw [zn1 h0 h] at m
  rw [Array.toList_push]
  exact MLo.takeB (B1 := [a[na - 1]]) m fun x hx y hy => by obtain rfl : x = a[na - 1] := by simpa using hx
                                                            exact hb y (by simpa using hy)
theorem zO2 {out a b : Array α} {na nb : Nat} (m : MHi R T out a b na nb) (h0 : 0 < nb) (h : nb ≤ b.size) (ha : ∀ x ∈ a.toList.take na, R x b[nb - 1]) : MHi R T (out.push b[nb - 1]) a b na (nb - 1) := by
  unfold MHi at m ⊢
  rw [zn1 h0 h] at m
  rw [Array.toList_push]
  exact MLo.takeA (A1 := [b[nb - 1]]) m fun x hx y hy => by obtain rfl : x = b[nb - 1] := by simpa using hx
                                                            exact ha y (by simpa using hy)
theorem zO3 {a:Array α}{k n:Nat}(h:k<=n):(a.toList.take n).reverse=(a.extract k n).reverse.toList++(a.toList.take k).reverse:=by
 obtain⟨d,rfl⟩:∃d,n=k+d:=⟨n-k,by omega⟩
 rw[Array.toList_reverse,zm4,<-List.reverse_append,<-List.take_add]
theorem hi_runA {out a b:Array α}{na nb k:Nat}(m:MHi R T out a b na nb)(hk:k<=na)(h:∀x∈(a.toList.take na).drop k,∀y∈b.toList.take nb,R y x):MHi R T (out++(a.extract k na).reverse) a b k nb:=by
 unfold MHi at m ⊢
 rw[zO3 hk] at m
 rw[Array.toList_append]
 refine m.takeB fun x hx y hy=>h x ?_ y (by simpa using hy)
 obtain⟨d,rfl⟩:∃d,na=k+d:=⟨na-k,by omega⟩
 rw[Array.toList_reverse,zm4] at hx
 rw[List.drop_take,Nat.add_sub_cancel_left]
 simpa using hx
theorem hi_runB {out a b:Array α}{na nb k:Nat}(m:MHi R T out a b na nb)(hk:k<=nb)(h:∀y∈(b.toList.take nb).drop k,∀x∈a.toList.take na,R x y):MHi R T (out++(b.extract k nb).reverse) a b na k:=by
 unfold MHi at m ⊢
 rw[zO3 hk] at m
 rw[Array.toList_append]
 refine m.takeA fun x hx y hy=>h x ?_ y (by simpa using hy)
 obtain⟨d,rfl⟩:∃d,nb=k+d:=⟨nb-k,by omega⟩
 rw[Array.toList_reverse,zm4] at hx
 rw[List.drop_take,Nat.add_sub_cancel_left]
 simpa using hx
theorem zD3 {L:List α}{R:α->α->Prop}{x y:α}{n:Nat}{a:Array α}(h0:0<n)(h:n<=a.size)(hs:(a.toList.take n).Pairwise R)(hx:x∈a.toList.take n):x=a[n-1]\/R x a[n-1]:=by
 have e:=zn1 h0 h
 have hs':((a.toList.take n).reverse).Pairwise fun p q=>R q p:=List.pairwise_reverse.mpr hs
 rw[e] at hs'
 have hx':x∈(a.toList.take n).reverse:=by simpa using hx
 rw[e] at hx'
 rcases List.mem_cons.mp hx' with q | q
 . exact .inl q
 . exact .inr ((List.pairwise_cons.mp hs').1 x q)
theorem MHi.sa {out a b:Array α}{na nb:Nat}(m:MHi R T out a b na nb):(a.toList.take na).Pairwise R:=List.pairwise_reverse.mp (MLo.sb m)
theorem MHi.sb {out a b:Array α}{na nb:Nat}(m:MHi R T out a b na nb):(b.toList.take nb).Pairwise R:=List.pairwise_reverse.mp (MLo.sa m)
theorem MHi.ma {out a b:Array α}{na nb:Nat}(m:MHi R T out a b na nb){x:α}(h:x∈a.toList.take na):x∈T:=MLo.memB m (by simpa using h)
theorem MHi.mb {out a b:Array α}{na nb:Nat}(m:MHi R T out a b na nb){x:α}(h:x∈b.toList.take nb):x∈T:=MLo.memA m (by simpa using h)
theorem MHi.dis {out a b:Array α}{na nb:Nat}(m:MHi R T out a b na nb)(d:T.Pairwise fun x y=>R x y\/R y x){x y:α}(hx:x∈a.toList.take na)(hy:y∈b.toList.take nb):R x y\/R y x :=
 MLo.dis m (d.imp fun z=>z.symm) (by simpa using hy) (by simpa using hx)
theorem zy3 {a:Array α}{n:Nat}(h0:0<n)(h:n<=a.size):a[n-1]∈a.toList.take n:=by
 have:a[n-1]∈(a.toList.take n).reverse:=by rw[zn1 h0 h];exact .head _
 simpa using this
end
section
variable {M:Model} {A:Around} {E:Value->Shared->Prop} {s:Shared} {κ:SortKind} {lt:Keyed->Keyed->Bool} {T:List Keyed}
theorem zS8 {left:Bool}{key:Keyed}{a:Array Keyed}{n hint:Nat}{st:SortSt}{Q:Option Nat->SortSt->Prop}(c:Cmp M A s κ lt T)(hk:kindOf st=κ)(hkey:key∈T)(hT:∀x∈a.toList.take n,x∈T)
   (hs:(a.toList.take n).Pairwise (LtR lt)) (hn:n<=a.size) (hh:hint<n)
   (h:∀k,k<=n->(∀x∈a.toList.take k,(if left=true then lt x key else !lt key x)=true)->(∀x∈(a.toList.take n).drop k,(if left=true then lt x key else !lt key x)=false)->Q (some k) st) :
   wpS M A E s (zx9 left key a 0 n hint) Q st:=by
 have e:(a.toList.take n).length=n:=by simp;omega
 have:=zL5 (E:=E) (left:=left) (key:=key) (arr:=a) (base:=0) (hint:=hint) (L:=a.toList.take n) (Q:=Q) c hk hkey hT (fun j hj=>by
   have hj':0+j<a.size:=by rw[e] at hj;omega
   rw[getElem?_pos a (0+j) hj']
   simp) hs (by rw[e];omega) fun k h0 h1 h2=>h k (by rw[e] at h0;exact h0) (fun x hx=>h1 x (by rw[List.take_take,Nat.min_eq_left (by rw[e] at h0;exact h0)];exact hx)) h2
 rw[e] at this
 exact this
theorem wp_mergeHi {a b:Array Keyed}{ar:Array Keyed}{pd:Array (Nat×Nat×Nat)}{g:Nat}{Q:Array Keyed->SortSt->Prop}(c:Cmp M A s κ lt T)(hT:(a.toList++b.toList).Perm T)
   (sa:a.toList.Pairwise (LtR lt)) (sb:b.toList.Pairwise (LtR lt)) (ha:0<a.size) (hb:0<b.size) (first:∀x∈a.toList,lt b[0] x=true) (last:∀y∈b.toList,lt y a[a.size-1]=true)
   (h:∀m g',Mer (LtR lt) T m.toList->Q m (SortSt.mk' κ ar pd g' none)):wpS M A E s (zN8 a b) Q (SortSt.mk' κ ar pd g none):=by
 unfold zN8
 refine wpS_bind (wpS_lift (wpAny_rule ⟨rfl,?_⟩))
 have ta:a.toList.take a.size=a.toList:=List.take_of_length_le (by simp)
 have tb:b.toList.take b.size=b.toList:=List.take_of_length_le (by simp)
 have m0:MHi (LtR lt) T #[] a b a.size b.size:=by
   unfold MHi
   rw[ta,tb]
   refine⟨.trans ?_ hT,by simp,List.pairwise_reverse.mpr sb,List.pairwise_reverse.mpr sa,by simp,fun z hz y hy=>?_⟩
   . exact((List.reverse_perm _).append (List.reverse_perm _)).trans List.perm_append_comm
   . have e:z=b[0]:=by
       rw[List.getLast?_reverse,List.head?_eq_getElem?] at hz
       have:b.toList[0]?=some b[0]:=by simp
       rw[this] at hz
       exact(Option.some.inj hz).symm
     subst e
     exact first y (by simpa using hy)
 refine wpS_bind (ze9 (show a.size-1<a.size by omega) ?_)
 have m1:=zF0 m0 ha (Nat.le_refl _) (by rw[tb];exact last)
 rw[show(#[]:Array Keyed).push a[a.size-1] = #[a[a.size-1]] from rfl] at m1
 dsimp only
 by_cases h1:a.size-1=0
 . rw[if_pos (zg1 h1)]
   exact wpS_pure (h _ _ (zy1 m1 (.inl h1)))
 rw[if_neg (zf6 h1)]
 by_cases h2:b.size=1
 . rw[if_pos (zg1 h2)]
   refine wpS_pure (h _ _ ?_)
   rw[h2] at m1 ⊢
   exact zy2 m1 hb
 rw[if_neg (zf6 h2)]
 refine wpS_bind (wpS_get ?_)
 have tot:∀ {out:Array Keyed} {na nb:Nat},MHi (LtR lt) T out a b na nb->0<na->na<=a.size->out.size<a.size+b.size:=fun {out na nb} m h0 h1=>by
   have e:=MLo.len m
   have e':=hT.length_eq
   simp at e e'
   omega
 refine wpS_bind (wpS_mono (wpS_forRange
   (I:=fun x v st'=>Ex5 fun out na nb mg g'=>Aa8 (v=(none,na,nb,out,mg)) (st'=SortSt.mk' κ ar pd g' none) (MHi (LtR lt) T out a b na nb) (0<na) (na<=a.size) (1<nb) (nb<=b.size) (x<=out.size))
   (Q:=fun v st'=>∃r g',v.1=some r/\Mer (LtR lt) T r.toList/\st'=SortSt.mk' κ ar pd g' none) ?step ?fin ⟨_,_,_,_,g,rfl,rfl,m1,by omega,by omega,by omega,by omega,by simp⟩) ?post)
 case post =>
   rintro⟨r0,v⟩ st' ⟨r,g',e,hm,rfl⟩
   obtain rfl:r0=some r:=e
   exact wpS_pure (h r g' hm)
 case fin =>
   rintro v st' ⟨out,na,nb,mg,g',rfl,rfl,m,h3,h4,h5,h6,hx⟩
   have:=tot m h3 h4
   omega
 case step =>
   rintro x v st' _ hx ⟨out,na,nb,mg,g',rfl,rfl,m,h3,h4,h5,h6,hxo⟩
   dsimp only
   refine wpS_bind (wpS_mono (wpS_forRange
     (I:=fun y v st'=>Ex5 fun o ja jb ac bc=>Aa8 (v=(none,ja,jb,o,ac,bc)) (st'=SortSt.mk' κ ar pd g' none) (MHi (LtR lt) T o a b ja jb) (0<ja) (ja<=a.size) (1<jb) (jb<=b.size) (out.size+y<=o.size))
     (Q:=fun v st'=>st'=SortSt.mk' κ ar pd g' none/\((∃r,v.1=some r/\Mer (LtR lt) T r.toList)\/∃o ja jb ac bc,v=(none,ja,jb,o,ac,bc)/\MHi (LtR lt) T o a b ja jb/\0<ja/\ja<=a.size/\1<jb/\jb<=b.size/\out.size+1<=o.size))
     ?step1 ?fin1 ⟨out,na,nb,_,_,rfl,rfl,m,h3,h4,h5,h6,by omega⟩) ?post1)
   case fin1 =>
     rintro v st' ⟨o,ja,jb,ac,bc,rfl,rfl,m,h3,h4,h5,h6,h7⟩
     exact⟨rfl,.inr ⟨o,ja,jb,ac,bc,rfl,m,h3,h4,h5,h6,by omega⟩⟩
   case step1 =>
     clear m h3 h4 h5 h6
     rintro y v st' _ hy ⟨o,ja,jb,ac,bc,rfl,rfl,m,h3,h4,h5,h6,h7⟩
     dsimp only
     have ma:=zy3 h3 h4
     have mb:=zy3 (show 0<jb by omega) h6
     refine wpS_bind (ze9 (show jb-1<b.size by omega) (wpS_bind (ze9 (show ja-1<a.size by omega) ?_)))
     refine wpS_bind (zO1 c (MHi.mb m mb) (MHi.ma m ma) rfl ?_)
     cases e:lt b[jb-1] a[ja-1] with
     | true =>
       dsimp only
       rw[if_pos rfl]
       refine wpS_bind (ze9 (show ja-1<a.size by omega) ?_)
       have m':=zF0 m h3 h4 fun x hx=>by
         rcases zD3 (L:=[]) (x:=x) (y:=x) (by omega) h6 (MHi.sb m) hx with rfl | q
         . exact e
         . exact c.tr _ _ _ q e
       try dsimp only
       by_cases h8:ja-1=0
       . rw[if_pos (zg1 h8)]
         exact wpS_pure ⟨rfl,.inl ⟨_,rfl,zy1 m' (.inl h8)⟩⟩
       rw[if_neg (zf6 h8)]
       split
       . exact wpS_pure ⟨rfl,.inr ⟨_,_,_,_,_,rfl,m',by omega,by omega,h5,h6,by simp;omega⟩⟩
       . exact wpS_pure ⟨_,_,_,_,_,rfl,rfl,m',by omega,by omega,h5,h6,by simp;omega⟩
     | false =>
       dsimp only
       rw[if_neg (by decide)]
       refine wpS_bind (ze9 (show jb-1<b.size by omega) ?_)
       have e':lt a[ja-1] b[jb-1]=true:=(MHi.dis m c.di ma mb).resolve_right (by show ¬ lt _ _=true;rw[e];decide)
       have m':=zO2 m (by omega) h6 fun x hx=>by
         rcases zD3 (L:=[]) (x:=x) (y:=x) h3 h4 (MHi.sa m) hx with rfl | q
         . exact e'
         . exact c.tr _ _ _ q e'
       try dsimp only
       by_cases h8:jb-1=1
       . rw[if_pos (zg1 h8)]
         refine wpS_pure ⟨rfl,.inl ⟨_,rfl,?_⟩⟩
         generalize o.push b[jb-1]=o1 at m' ⊢
         rw[h8] at m' ⊢
         exact zy2 m' hb
       rw[if_neg (zf6 h8)]
       split
       . exact wpS_pure ⟨rfl,.inr ⟨_,_,_,_,_,rfl,m',h3,h4,by omega,by omega,by simp;omega⟩⟩
       . exact wpS_pure ⟨_,_,_,_,_,rfl,rfl,m',h3,h4,by omega,by omega,by simp;omega⟩
   case post1 =>
     clear m h3 h4 h5 h6
     rintro⟨r0,v⟩ st' ⟨rfl,⟨r,e,hm⟩ | ⟨o,ja,jb,ac,bc,e,m,h3,h4,h5,h6,h7⟩⟩
     . obtain rfl:r0=some r:=e
       exact wpS_pure ⟨r,g',rfl,hm,rfl⟩
     obtain⟨rfl,rfl⟩:=Prod.mk.inj e
     dsimp only
     refine wpS_bind (wpS_lift (wpAny_rule ⟨rfl,?_⟩))
     refine wpS_bind (wpS_mono (wpS_forRange
       (I:=fun y v st'=>Ex7 fun o ja jb mg ac bc g'=>Aa8 (v=(none,ja,jb,o,mg,ac,bc)) (st'=SortSt.mk' κ ar pd g' none) (MHi (LtR lt) T o a b ja jb) (0<ja) (ja<=a.size) (1<jb) (jb<=b.size) (out.size+1<=o.size))
       (Q:=fun v st'=>∃g',st'=SortSt.mk' κ ar pd g' none/\((∃r,v.1=some r/\Mer (LtR lt) T r.toList)\/∃o ja jb mg ac bc,v=(none,ja,jb,o,mg,ac,bc)/\MHi (LtR lt) T o a b ja jb/\0<ja/\ja<=a.size/\1<jb/\jb<=b.size/\out.size+1<=o.size))
       ?step2 ?fin2 ⟨o,ja,jb,_,_,_,g',rfl,rfl,m,h3,h4,h5,h6,h7⟩) ?post2)
     case fin2 =>
       rintro v st' ⟨o,ja,jb,mg,ac,bc,g',rfl,rfl,m,h3,h4,h5,h6,h7⟩
       exact⟨g',rfl,.inr ⟨o,ja,jb,mg,ac,bc,rfl,m,h3,h4,h5,h6,h7⟩⟩
     case post2 =>
       clear m h3 h4 h5 h6 h7
       rintro⟨r0,v⟩ st' ⟨g',rfl,⟨r,e,hm⟩ | ⟨o,ja,jb,mg,ac,bc,e,m,h3,h4,h5,h6,h7⟩⟩
       . obtain rfl:r0=some r:=e
         exact wpS_pure ⟨r,g',rfl,hm,rfl⟩
       obtain⟨rfl,rfl⟩:=Prod.mk.inj e
       dsimp only
       exact wpS_bind (zD2 (wpS_pure ⟨o,ja,jb,_,_,rfl,rfl,m,h3,h4,h5,h6,by omega⟩))
     case step2 =>
       clear m h3 h4 h5 h6 h7 hxo
       rintro y v st' _ hy ⟨o,ja,jb,mg,ac,bc,g',rfl,rfl,m,h3,h4,h5,h6,h7⟩
       dsimp only
       have key:∀mg',wpS M A E s (zS5 mg') (fun _ st'=>st'=SortSt.mk' κ ar pd mg' none) (SortSt.mk' κ ar pd g' none):=fun mg'=>zD2 rfl
       refine zS7 (R:=?R0) (fun fin0=>?main0) ?fin0
       case main0 =>
         by_cases hmg:mg>1
         . rw[if_pos hmg]
           generalize mg-1=mg'
           exact fin0 mg'
         . rw[if_neg hmg]
           exact fin0 mg
       case fin0 =>
         intro mg'
         refine wpS_bind (wpS_mono (key _) fun _ st' e=>?_)
         subst e
         have mb:=zy3 (show 0<jb by omega) h6
         refine wpS_bind (ze9 (show jb-1<b.size by omega) ?_)
         refine wpS_bind (zS8 c rfl (MHi.mb m mb) (fun x hx=>MHi.ma m hx) (MHi.sa m) h4 (show ja-1<ja by omega) fun k hk k1 k2=>?_)
         dsimp only
         refine zL6 (R:=?R1) (S:=fun o' ja'=>Ex1 (MHi (LtR lt) T o' a b ja' jb) (out.size+1<=o'.size) (∀x∈a.toList.take ja',lt x b[jb-1]=true) (0<ja') (ja'<=a.size)) (fun fin1=>?main1) ?fin1
         case main1 =>
           have k2':∀x∈(a.toList.take ja).drop k,∀y∈b.toList.take jb,lt y x=true:=fun x hx y hy=>by
             have q:=k2 x hx
             rw[if_neg (by decide)] at q
             have e:lt b[jb-1] x=true:=by simpa using q
             rcases zD3 (L:=[]) (x:=y) (y:=y) (show 0<jb by omega) h6 (MHi.sb m) hy with rfl | q
             . exact e
             . exact c.tr _ _ _ q e
           have m2:=hi_runA m hk k2'
           have o2:out.size+1<=(o++(a.extract k ja).reverse).size:=by simp;omega
           have k1':∀x∈a.toList.take k,lt x b[jb-1]=true:=fun x hx=>by
             have q:=k1 x hx
             rw[if_neg (by decide)] at q
             have hx':x∈a.toList.take ja:=by
               rw[<-Nat.min_eq_left hk,<-List.take_take] at hx
               exact List.mem_of_mem_take hx
             exact(MHi.dis m c.di hx' mb).resolve_right (by show ¬ lt _ _=true;simpa using q)
           by_cases hk':ja-k>0
           . rw[if_pos hk']
             by_cases h8:k=0
             . rw[if_pos (zg1 h8)]
               exact wpS_pure ⟨_,rfl,.inl ⟨_,rfl,zy1 m2 (.inl h8)⟩⟩
             rw[if_neg (zf6 h8)]
             have h4':k<=a.size:=Nat.le_trans hk h4
             have h3':0<k:=Nat.pos_of_ne_zero h8
             clear hk' k2' h8
             generalize o++(a.extract k ja).reverse=o' at m2 o2 ⊢
             generalize k=ja' at m2 k1' h3' h4' ⊢
             exact fin1 o' ja' ⟨m2,o2,k1',h3',h4'⟩
           . rw[if_neg hk']
             have ek:k=ja:=by omega
             rw[ek] at k1' ⊢
             exact fin1 o ja ⟨m,h7,k1',h3,h4⟩
         case fin1 =>
           clear hk k1 k2 mb h3 h4 h7 m
           rintro o' ja' ⟨m2,o2,k1',h3',h4'⟩
           refine wpS_bind (ze9 (show jb-1<b.size by omega) ?_)
           have m3:=zO2 m2 (by omega) h6 k1'
           try dsimp only
           by_cases h9:jb-1=1
           . rw[if_pos (zg1 h9)]
             refine wpS_pure ⟨_,rfl,.inl ⟨_,rfl,?_⟩⟩
             generalize o'.push b[jb-1]=o1 at m3 ⊢
             rw[h9] at m3 ⊢
             exact zy2 m3 hb
           rw[if_neg (zf6 h9)]
           have o3:out.size+1<=(o'.push b[jb-1]).size:=by simp;omega
           have h10:1<jb-1:=by omega
           have h11:jb-1<=b.size:=by omega
           clear m2 o2 k1' h9
           generalize o'.push b[jb-1]=o1 at m3 o3 ⊢
           generalize jb-1=jb' at m3 h10 h11 ⊢
           have ma:=zy3 h3' h4'
           refine wpS_bind (ze9 (show ja'-1<a.size by omega) ?_)
           refine wpS_bind (zS8 c rfl (MHi.ma m3 ma) (fun x hx=>MHi.mb m3 hx) (MHi.sb m3) h11 (show jb'-1<jb' by omega) fun n hn n1 n2=>?_)
           dsimp only
           refine zL6 (R:=?R2) (S:=fun o2 jb2=>Ex1 (MHi (LtR lt) T o2 a b ja' jb2) (out.size+1<=o2.size) (∀y∈b.toList.take jb2,lt y a[ja'-1]=true) (1<jb2) (jb2<=b.size)) (fun fin2=>?main2) ?fin2'
           case main2 =>
             have n2':∀y∈(b.toList.take jb').drop n,∀x∈a.toList.take ja',lt x y=true:=fun y hy x hx=>by
               have q:=n2 y hy
               rw[if_pos rfl] at q
               have e:lt a[ja'-1] y=true:=(MHi.dis m3 c.di ma (List.mem_of_mem_drop hy)).resolve_right (by show ¬ lt _ _=true;rw[q];decide)
               rcases zD3 (L:=[]) (x:=x) (y:=x) h3' h4' (MHi.sa m3) hx with rfl | q
               . exact e
               . exact c.tr _ _ _ q e
             have m4:=hi_runB m3 hn n2'
             have o4:out.size+1<=(o1++(b.extract n jb').reverse).size:=by simp;omega
             have n1':∀y∈b.toList.take n,lt y a[ja'-1]=true:=fun y hy=>by
               have q:=n1 y hy
               rw[if_pos rfl] at q
               exact q
             by_cases hn':jb'-n>0
             . rw[if_pos hn']
               by_cases h12:n=1
               . rw[if_pos (zg1 h12)]
                 refine wpS_pure ⟨_,rfl,.inl ⟨_,rfl,?_⟩⟩
                 generalize o1++(b.extract n jb').reverse=o2 at m4 ⊢
                 rw[h12] at m4 ⊢
                 exact zy2 m4 hb
               rw[if_neg (zf6 h12)]
               by_cases h13:n=0
               . rw[if_pos (zg1 h13)]
                 exact wpS_pure ⟨_,rfl,.inl ⟨_,rfl,zy1 m4 (.inr h13)⟩⟩
               rw[if_neg (zf6 h13)]
               have h14:1<n:=by omega
               have h15:n<=b.size:=Nat.le_trans hn h11
               clear hn' n2' h12 h13
               generalize o1++(b.extract n jb').reverse=o2 at m4 o4 ⊢
               generalize n=jb2 at m4 n1' h14 h15 ⊢
               exact fin2 o2 jb2 ⟨m4,o4,n1',h14,h15⟩
             . rw[if_neg hn']
               have en:n=jb':=by omega
               rw[en] at n1' ⊢
               exact fin2 o1 jb' ⟨m3,o3,n1',h10,h11⟩
           case fin2' =>
             clear hn n1 n2 ma h10 h11 o3 m3
             rintro o2 jb2 ⟨m4,o4,n1',h14,h15⟩
             refine wpS_bind (ze9 (show ja'-1<a.size by omega) ?_)
             have m5:=zF0 m4 h3' h4' n1'
             try dsimp only
             by_cases h16:ja'-1=0
             . rw[if_pos (zg1 h16)]
               exact wpS_pure ⟨_,rfl,.inl ⟨_,rfl,zy1 m5 (.inl h16)⟩⟩
             rw[if_neg (zf6 h16)]
             split
             . exact wpS_pure ⟨_,rfl,.inr ⟨_,_,_,_,_,_,rfl,m5,by omega,by omega,h14,h15,by simp;omega⟩⟩
             . exact wpS_pure ⟨_,_,_,_,_,_,_,rfl,rfl,m5,by omega,by omega,h14,h15,by simp;omega⟩
end
section
variable {α:Type}
theorem zO4 (base:Nat):∀(m:List α) (k:Nat) (ar:Array α),base+k+m.length<=ar.size →
   ((m.zipIdx k).foldl (fun a x=>match x with | (p,j)=>a.setIfInBounds (base+j) p) ar).toList=ar.toList.take (base+k)++(m++ar.toList.drop (base+k+m.length))
 | [],k,ar,_=>by simp
 | x::m,k,ar,h=>by
   simp only[List.length_cons] at h
   rw[List.zipIdx_cons,List.foldl_cons,zO4 base m (k+1) _ (by simp;omega)]
   have h':base+k<ar.toList.length:=by simp;omega
   rw[Array.toList_setIfInBounds]
   have e1:(ar.toList.set (base+k) x).take (base+(k+1))=ar.toList.take (base+k)++[x]:=by
     rw[show base+(k+1)=base+k+1 by omega,List.take_succ_eq_append_getElem (by simpa using h'),List.take_set_of_le (Nat.le_refl _)]
     simp
   have e2:(ar.toList.set (base+k) x).drop (base+(k+1)+m.length)=ar.toList.drop (base+k+(x::m).length):=by
     rw[List.drop_set_of_lt (by omega)]
     congr 1
     simp;omega
   rw[e1,e2]
   simp
end
theorem last_get {α:Type}{X:Array α}{la:α}(h:0<X.size)(z:X.toList.getLast?=some la):X[X.size-1]=la:=by
 obtain⟨L⟩:=X
 have h':0<L.length:=by simpa using h
 simp only[List.getLast?_eq_getElem?] at z
 rw[List.getElem?_eq_getElem (by omega)] at z
 simpa using z
noncomputable def Rn (lt:Keyed->Keyed->Bool):Nat->List (Nat×Nat×Nat)->List (List Keyed)->Prop
 | _,[],[]=>True
 | f,(s,n,_)::pd,l::ls=>s=f/\n=l.length/\l≠[]/\l.Pairwise (LtR lt)/\Rn lt (f+l.length) pd ls
 | _,_,_=>False
section
variable {lt:Keyed->Keyed->Bool}
theorem Rn.len:∀ {f:Nat} {pd:List (Nat×Nat×Nat)} {ls:List (List Keyed)},Rn lt f pd ls->pd.length=ls.length/\ls.length<=ls.flatten.length
 | _,[],[],_=>⟨rfl,Nat.le_refl _⟩
 | _,[],_::_,h=>h.elim
 | _,_::_,[],h=>h.elim
 | f,(s,n,_)::pd,l::ls,h=>by
   obtain⟨_,_,h3,_,h5⟩:=h
   have:=h5.len
   have:0<l.length:=List.length_pos_iff.mpr h3
   simp only[List.length_cons,List.flatten_cons,List.length_append]
   omega
theorem Rn.split:∀ {f:Nat} (pre:List (Nat×Nat×Nat)) {pd:List (Nat×Nat×Nat)} {ls:List (List Keyed)},Rn lt f (pre++pd) ls->∃lp lq,ls=lp++lq/\lp.length=pre.length/\Rn lt f pre lp/\Rn lt (f+lp.flatten.length) pd lq
 | f,[],pd,ls,h=>⟨[],ls,rfl,rfl,trivial,by simpa using h⟩
 | f,_::_,pd,[],h=>h.elim
 | f,(s,n,w)::pre,pd,l::ls,h=>by
   obtain⟨h1,h2,h3,h4,h5⟩:=h
   obtain⟨lp,lq,e,el,r1,r2⟩:=Rn.split pre h5
   refine⟨l::lp,lq,by rw[e];rfl,by simp[el],⟨h1,h2,h3,h4,r1⟩,?_⟩
   simpa [Nat.add_assoc] using r2
theorem Rn.join:∀ {f:Nat} {pre pd:List (Nat×Nat×Nat)} {lp lq:List (List Keyed)},Rn lt f pre lp->Rn lt (f+lp.flatten.length) pd lq->Rn lt f (pre++pd) (lp++lq)
 | f,[],pd,[],lq,_,h=>by simpa using h
 | f,[],pd,_::_,lq,h,_=>h.elim
 | f,_::_,pd,[],lq,h,_=>h.elim
 | f,(s,n,w)::pre,pd,l::lp,lq,h,h'=>by
   obtain⟨h1,h2,h3,h4,h5⟩:=h
   refine⟨h1,h2,h3,h4,Rn.join h5 ?_⟩
   simpa [Nat.add_assoc] using h'
end
section
variable {M:Model} {A:Around} {E:Value->Shared->Prop} {s:Shared} {κ:SortKind} {lt:Keyed->Keyed->Bool} {T:List Keyed}
theorem zI8 {P Aa Bb S:List Keyed}(c:Cmp M A s κ lt (P++(Aa++(Bb++S)))){x y:Keyed}(hx:x∈Aa)(hy:y∈Bb):lt x y=true\/lt y x=true :=
 (List.pairwise_append.mp (List.pairwise_append.mp c.di).2.1).2.2 x hx y (List.mem_append_left _ hy)
theorem zS9 {lt:Keyed->Keyed->Bool}{B:List Keyed}{b y:Keyed}(hs:B.Pairwise (LtR lt))(hb:B[0]?=some b)(hy:y∈B):y=b\/lt b y=true:=by
 cases B with
 | nil=>cases hy
 | cons z B =>
   obtain rfl:z=b:=by simpa using hb
   rcases List.mem_cons.mp hy with q | q
   . exact .inl q
   . exact .inr ((List.pairwise_cons.mp hs).1 y q)
theorem le_last {lt:Keyed->Keyed->Bool}{B:List Keyed}{b y:Keyed}(hs:B.Pairwise (LtR lt))(hb:B.getLast?=some b)(hy:y∈B):y=b\/lt y b=true:=by
 have hs':B.reverse.Pairwise (LtR fun p q=>lt q p):=List.pairwise_reverse.mpr hs
 exact zS9 (lt:=fun p q=>lt q p) hs' (by rw[<-List.head?_eq_getElem?,List.head?_reverse];exact hb) (by simpa using hy)
theorem wp_mergeAt {ar:Array Keyed}{pd:Array (Nat×Nat×Nat)}{g i:Nat}{pre post:List (Nat×Nat×Nat)}{pw pw2:Nat}{P Aa Bb S:List Keyed}{Q:Bool->SortSt->Prop}
   (c:Cmp M A s κ lt (P++(Aa++(Bb++S)))) (hL:ar.toList=P++(Aa++(Bb++S))) (hp:pd.toList=pre++(P.length,Aa.length,pw)::(P.length+Aa.length,Bb.length,pw2)::post) (hi:i=pre.length)
   (hA:Aa≠[]) (hB:Bb≠[]) (sA:Aa.Pairwise (LtR lt)) (sB:Bb.Pairwise (LtR lt))
   (h:∀ar' pd' g' C,pd'.toList=pre++(P.length,Aa.length+Bb.length,pw)::post->ar'.toList=P++(C++S)->C.Perm (Aa++Bb)->C.Pairwise (LtR lt)->Q true (SortSt.mk' κ ar' pd' g' none)) :
   wpS M A E s (mergeAt' i) Q (SortSt.mk' κ ar pd g none):=by
 have nA:0<Aa.length:=List.length_pos_iff.mpr hA
 have nB:0<Bb.length:=List.length_pos_iff.mpr hB
 have sz:ar.size=P.length+(Aa.length+(Bb.length+S.length)):=by
   have:=congrArg List.length hL
   simpa using this
 have p0:pd[i]?=some (P.length,Aa.length,pw):=by
   rw[<-Array.getElem?_toList,hp,hi]
   simp
 have p1:pd[i+1]?=some (P.length+Aa.length,Bb.length,pw2):=by
   rw[<-Array.getElem?_toList,hp,hi]
   simp
 have np:((pd.setIfInBounds i (P.length,Aa.length+Bb.length,pw)).eraseIdxIfInBounds (i+1)).toList=pre++(P.length,Aa.length+Bb.length,pw)::post:=by
   rw[Array.toList_eraseIdxIfInBounds,Array.toList_setIfInBounds,hp,hi,List.set_append_right _ _ (by omega)]
   rw[Nat.sub_self,List.set_cons_zero,List.eraseIdx_append_of_length_le (by omega)]
   simp
 unfold mergeAt'
 refine wpS_bind (wpS_get ?_)
 dsimp only
 rw[p0,p1]
 dsimp only
 refine wpS_bind (m:=set _) (wpS_modify (f:=fun _=>_) ?_)
 have hAi:∀j (hj:j<Aa.length),ar[P.length+j]?=some Aa[j]:=fun j hj=>by
   rw[<-Array.getElem?_toList,hL,List.getElem?_append_right (by omega),Nat.add_sub_cancel_left,List.getElem?_append_left hj,List.getElem?_eq_getElem hj]
 have hBi:∀j (hj:j<Bb.length),ar[P.length+Aa.length+j]?=some Bb[j]:=fun j hj=>by
   rw[<-Array.getElem?_toList,hL,List.getElem?_append_right (by omega),show P.length+Aa.length+j-P.length=Aa.length+j by omega,List.getElem?_append_right (by omega),Nat.add_sub_cancel_left,List.getElem?_append_left hj,List.getElem?_eq_getElem hj]
 obtain⟨b0,hb0⟩:∃b0,Bb[0]?=some b0:=⟨_,List.getElem?_eq_getElem nB⟩
 obtain⟨la,hla⟩:∃la,Aa.getLast?=some la:=⟨_,List.getLast?_eq_getLast hA⟩
 have mB:b0∈Bb:=List.mem_of_getElem? hb0
 have mA:la∈Aa:=List.mem_of_getLast? hla
 have inA:∀x∈Aa,x∈P++(Aa++(Bb++S)):=fun x hx=>by simp[hx]
 have inB:∀x∈Bb,x∈P++(Aa++(Bb++S)):=fun x hx=>by simp[hx]
 have eb:ar[P.length+Aa.length]'(by omega)=b0:=by
   have z:=hBi 0 nB
   rw[Nat.add_zero,getElem?_pos ar _ (by omega)] at z
   rw[List.getElem?_eq_getElem nB] at hb0
   exact(Option.some.inj z).trans (Option.some.inj hb0)
 refine wpS_bind (ze9 (show P.length+Aa.length<ar.size by omega) ?_)
 rw[eb]
 refine wpS_bind (zL5 c rfl (inB _ mB) inA hAi sA nA fun k hk k1 k2=>?_)
 have k1':∀x∈Aa.take k,∀y∈Bb,lt x y=true:=fun x hx y hy=>by
   have q:=k1 x hx
   rw[if_neg (by decide)] at q
   have e:lt x b0=true:=(zI8 c (List.mem_of_mem_take hx) mB).resolve_right (by simpa using q)
   rcases zS9 sB hb0 hy with rfl | z
   . exact e
   . exact c.tr _ _ _ e z
 have k2':∀x∈Aa.drop k,lt b0 x=true:=fun x hx=>by
   have q:=k2 x hx
   rw[if_neg (by decide)] at q
   simpa using q
 have whole:(∀x∈Aa,∀y∈Bb,lt x y=true)->Q true (SortSt.mk' κ ar ((pd.setIfInBounds i (P.length,Aa.length+Bb.length,pw)).eraseIdxIfInBounds (i+1)) g none):=fun z =>
   h _ _ _ (Aa++Bb) np (by rw[hL];simp) (.refl _) (List.pairwise_append.mpr ⟨sA,sB,z⟩)
 dsimp only
 by_cases h1:Aa.length-k=0
 . rw[if_pos (zg1 h1)]
   refine wpS_pure (whole fun x hx y hy=>k1' x ?_ y hy)
   rw[List.take_of_length_le (by omega)]
   exact hx
 rw[if_neg (zf6 h1)]
 have el:ar[P.length+k+(Aa.length-k)-1]'(by omega)=la:=by
   have z:=hAi (Aa.length-1) (by omega)
   have z':ar[P.length+k+(Aa.length-k)-1]?=some Aa[Aa.length-1]:=by rw[<-z];congr 1;omega
   rw[getElem?_pos ar _ (by omega)] at z'
   rw[List.getLast?_eq_getElem?,List.getElem?_eq_getElem (by omega)] at hla
   exact(Option.some.inj z').trans (Option.some.inj hla)
 refine wpS_bind (ze9 (show P.length+k+(Aa.length-k)-1<ar.size by omega) ?_)
 rw[el]
 refine wpS_bind (zL5 c rfl (inA _ mA) inB hBi sB (show Bb.length-1<Bb.length by omega) fun n hn n1 n2=>?_)
 have n1':∀y∈Bb.take n,lt y la=true:=fun y hy=>by
   have q:=n1 y hy
   rw[if_pos rfl] at q
   exact q
 have n2':∀y∈Bb.drop n,∀x∈Aa,lt x y=true:=fun y hy x hx=>by
   have q:=n2 y hy
   rw[if_pos rfl] at q
   have e:lt la y=true:=(zI8 c mA (List.mem_of_mem_drop hy)).resolve_right (by rw[q];decide)
   rcases le_last sA hla hx with rfl | z
   . exact e
   . exact c.tr _ _ _ z e
 dsimp only
 by_cases h2:n=0
 . rw[if_pos (zg1 h2)]
   refine wpS_pure (whole fun x hx y hy=>n2' y ?_ x hx)
   rw[h2]
   exact hy
 rw[if_neg (zf6 h2)]
 have ex:(ar.extract (P.length+k) (P.length+Aa.length)).toList=Aa.drop k:=by
   rw[show P.length+Aa.length=P.length+k+(Aa.length-k) by omega,zm4,hL,List.drop_append]
   rw[List.drop_eq_nil_of_le (by omega),Nat.add_sub_cancel_left,List.nil_append,List.drop_append_of_le_length hk,List.take_append_of_le_length (by simp)]
   exact List.take_of_length_le (by simp)
 have ey:(ar.extract (P.length+Aa.length) (P.length+Aa.length+n)).toList=Bb.take n:=by
   rw[zm4,hL,<-List.append_assoc,List.drop_append,List.drop_eq_nil_of_le (by simp)]
   rw[show P.length+Aa.length-(P++Aa).length=0 by simp,List.nil_append,List.drop_zero,List.take_append_of_le_length hn]
 have c':Cmp M A s κ lt (Aa.drop k++Bb.take n):=c.sub (by
   refine .trans ?_ (List.sublist_append_right P _)
   exact(List.drop_sublist k Aa).append ((List.take_sublist n Bb).trans (List.sublist_append_left Bb S)))
 have after:∀(m:Array Keyed) g',Mer (LtR lt) (Aa.drop k++Bb.take n) m.toList →
     Q true (SortSt.mk' κ (m.toList.zipIdx.foldl (fun a x=>match x with | (p,j)=>a.setIfInBounds (P.length+k+j) p) ar) ((pd.setIfInBounds i (P.length,Aa.length+Bb.length,pw)).eraseIdxIfInBounds (i+1)) g' none):=fun m g' hm=>by
   have ml:m.toList.length=Aa.length-k+n:=by
     have z:=hm.1.length_eq
     rw[List.length_append,List.length_drop,List.length_take,Nat.min_eq_left hn] at z
     exact z
   refine h _ _ _ (Aa.take k++(m.toList++Bb.drop n)) np ?_ ?_ ?_
   . rw[zO4 _ _ 0 _ (by rw[ml];omega),ml,hL]
     rw[Nat.add_zero,List.take_append,List.take_of_length_le (by omega),Nat.add_sub_cancel_left,List.take_append_of_le_length hk]
     have e2:(P++(Aa++(Bb++S))).drop (P.length+k+(Aa.length-k+n))=Bb.drop n++S:=by
       rw[show P.length+k+(Aa.length-k+n)=(P++Aa).length+n by simp;omega,<-List.append_assoc,List.drop_append,List.drop_eq_nil_of_le (by omega),Nat.add_sub_cancel_left,List.nil_append,List.drop_append_of_le_length hn]
     rw[e2]
     simp
   . refine .trans (List.Perm.append_left _ (hm.1.append_right _)) ?_
     rw[List.append_assoc,List.take_append_drop,<-List.append_assoc,List.take_append_drop]
   . refine List.pairwise_append.mpr ⟨sA.sublist (List.take_sublist _ _),List.pairwise_append.mpr ⟨hm.2,sB.sublist (List.drop_sublist _ _),fun x hx y hy=>?_⟩,fun x hx y hy=>?_⟩
     . rcases List.mem_append.mp (hm.1.mem_iff.mp hx) with q | q
       . exact n2' y hy x (List.mem_of_mem_drop q)
       . have z:=sB
         rw[<-List.take_append_drop n Bb] at z
         exact(List.pairwise_append.mp z).2.2 x q y hy
     . rcases List.mem_append.mp hy with q | q
       . rcases List.mem_append.mp (hm.1.mem_iff.mp q) with q | q
         . have z:=sA
           rw[<-List.take_append_drop k Aa] at z
           exact(List.pairwise_append.mp z).2.2 x hx y q
         . exact k1' x hx y (List.mem_of_mem_take q)
       . exact k1' x hx y (List.mem_of_mem_drop q)
 have zx:0<(ar.extract (P.length+k) (P.length+Aa.length)).size:=by
   rw[<-Array.length_toList,ex,List.length_drop];omega
 have zy:0<(ar.extract (P.length+Aa.length) (P.length+Aa.length+n)).size:=by
   rw[<-Array.length_toList,ey,List.length_take];omega
 have fy:(ar.extract (P.length+Aa.length) (P.length+Aa.length+n))[0]=b0:=by
   have z:(ar.extract (P.length+Aa.length) (P.length+Aa.length+n))[0]?=some b0:=by
     rw[<-Array.getElem?_toList,ey,List.getElem?_take_of_lt (by omega)]
     exact hb0
   rw[getElem?_pos _ 0 zy] at z
   exact Option.some.inj z
 have lx:(Aa.drop k).getLast?=some la:=by
   have z:=hla
   rw[<-List.take_append_drop k Aa,List.getLast?_append] at z
   cases e:(Aa.drop k).getLast? with
   | some w=>rw[e] at z;exact z
   | none =>
     have:=congrArg List.length (List.getLast?_eq_none_iff.mp e)
     simp at this
     omega
 by_cases h3:Aa.length-k<=n
 . rw[if_pos h3]
   refine wpS_bind (wp_mergeLo c' (by rw[ex,ey]) (by rw[ex];exact sA.sublist (List.drop_sublist _ _)) (by rw[ey];exact sB.sublist (List.take_sublist _ _)) zx zy (by rw[ex,fy];exact k2') (by
     rw[ex,ey]
     intro z hz y hy
     rw[lx] at hz
     obtain rfl:=Option.some.inj hz
     exact n1' y hy) fun m g' hm=>?_)
   refine wpS_bind (wpS_modify (wpS_bind (wpS_get (wpS_pure ?_))))
   exact after m g' hm
 . rw[if_neg h3]
   refine wpS_bind (wp_mergeHi c' (by rw[ex,ey]) (by rw[ex];exact sA.sublist (List.drop_sublist _ _)) (by rw[ey];exact sB.sublist (List.take_sublist _ _)) zx zy (by rw[ex,fy];exact k2') (by
     rw[ey]
     intro y hy
     have z:(ar.extract (P.length+k) (P.length+Aa.length)).toList.getLast?=some la:=by rw[ex];exact lx
     have e:=last_get zx z
     rw[e]
     exact n1' y hy) fun m g' hm=>?_)
   refine wpS_bind (wpS_modify (wpS_bind (wpS_get (wpS_pure ?_))))
   exact after m g' hm
end
noncomputable def at' (ar:Array Keyed)(i:Nat):Keyed:=ar.getD i (Value.none,Value.none)
noncomputable def Up (lt:Keyed->Keyed->Bool)(ar:Array Keyed)(lo n:Nat):Prop:=∀i j,i<j->j<n->lt (at' ar (lo+i)) (at' ar (lo+j))=true
theorem at'_of {ar:Array Keyed}{i:Nat}{x:Keyed}(h:ar[i]?=some x):at' ar i=x:=by
 unfold at'
 rw[Array.getD_eq_getD_getElem?,h]
 rfl
theorem zr7 {ar:Array Keyed}{i:Nat}(h:i<ar.size):ar[i]=at' ar i:=(at'_of (getElem?_pos ar i h)).symm
theorem zp8 {ar br:Array Keyed}{i j:Nat}(h:ar[i]?=br[j]?):at' ar i=at' br j:=by
 unfold at'
 rw[Array.getD_eq_getD_getElem?,Array.getD_eq_getD_getElem?,h]
theorem zF1 {ar:Array Keyed}{i j:Nat}(hj:j<=ar.size)(k:Nat):at' (mirror ar i j ((j-i) / 2)) k=if i<=k/\k<j then at' ar (i+j-1-k) else at' ar k:=by
 have e:=getElem?_mirror_all (i:=i) hj k
 split
 . rename_i h;rw[if_pos h] at e;exact zp8 e
 . rename_i h;rw[if_neg h] at e;exact zp8 e
theorem zF2 {ar:Array Keyed}{src d:Nat}(hs:src<ar.size)(hd:d<=src)(k:Nat) :
   at' (bubble ar src d) k=if k=src-d then at' ar src else if src-d<k/\k<=src then at' ar (k-1) else at' ar k:=by
 have e:=getElem?_bubble hs d hd k
 split
 . rename_i h;rw[if_pos h] at e;exact zp8 e
 . rename_i h
   rw[if_neg h] at e
   split
   . rename_i h';rw[if_pos h'] at e;exact zp8 e
   . rename_i h';rw[if_neg h'] at e;exact zp8 e
noncomputable def zC3 (lo:Nat)(ar br:Array Keyed):Prop:=∀i,i<lo->br[i]?=ar[i]?
section
variable {M:Model} {A:Around} {E:Value->Shared->Prop} {s:Shared} {κ:SortKind} {lt:Keyed->Keyed->Bool} {T:List Keyed} {ar:Array Keyed} {pd:Array (Nat×Nat×Nat)} {g:Nat}
theorem in_T (hT:ar.toList.Perm T){i:Nat}(h:i<ar.size):at' ar i∈T:=by
 rw[<-zr7 h]
 exact hT.mem_iff.mp (by simp)
theorem zv1 {i j:Nat}{Q:Option Bool->SortSt->Prop}(c:Cmp M A s κ lt T)(hT:ar.toList.Perm T)(hi:i<ar.size)(hj:j<ar.size)
   (h:Q (some (lt (at' ar i) (at' ar j))) (SortSt.mk' κ ar pd g none)):wpS M A E s (ltAt' i j) Q (SortSt.mk' κ ar pd g none):=by
 rw[ltAt'_eq]
 refine wpS_bind (wpS_get (wpS_bind (ze9 hi (wpS_bind (ze9 hj ?_)))))
 rw[zr7 hi,zr7 hj]
 exact zO1 c (in_T hT hi) (in_T hT hj) rfl h
theorem apart (c:Cmp M A s κ lt T)(hT:ar.toList.Perm T){i j:Nat}(hi:i<ar.size)(hj:j<ar.size)(h:i≠j):lt (at' ar i) (at' ar j)=true\/lt (at' ar j) (at' ar i)=true:=by
 have d:=(c.perm hT).di
 rw[<-zr7 hi,<-zr7 hj]
 rcases Nat.lt_or_ge i j with z | z
 . exact List.pairwise_iff_getElem.mp d i j (by simpa using hi) (by simpa using hj) z
 . exact(List.pairwise_iff_getElem.mp d j i (by simpa using hj) (by simpa using hi) (by omega)).symm
noncomputable abbrev AS:=Option (Option Nat)×Nat
theorem zW8 {f:Nat->AS->SM (ForInStep AS)}{lo a nrem:Nat}{st:SortSt}{Q:AS->SortSt->Prop}(c:Cmp M A s κ lt T)(hT:ar.toList.Perm T)
   (hf:∀x n (R:ForInStep AS->SortSt->Prop),1<=n->n<nrem->(lt (at' ar (lo+n)) (at' ar (lo+n-1))=true->R (.done (none,n)) st)->(lt (at' ar (lo+n)) (at' ar (lo+n-1))=false->R (.yield (none,n+1)) st)->wpS M A E s (f x (none,n)) R st)
   (hn:lo+nrem<=ar.size) (h1:1<=a) (h2:a<=nrem) (hu:Up lt ar lo a)
   (h:∀n,a<=n->n<=nrem->Up lt ar lo n->(n=nrem\/lt (at' ar (lo+n)) (at' ar (lo+n-1))=true)->Q (none,n) st):wpS M A E s (forIn [a:nrem] ((none,a):AS) f) Q st:=by
 refine wpS_forRange (I:=fun x v st'=>st'=st/\v=(none,x)/\Up lt ar lo x) ?step ?fin ⟨rfl,rfl,hu⟩
 case fin =>
   rintro v st' ⟨rfl,rfl,hu'⟩
   rw[show max a nrem=nrem by omega] at hu' ⊢
   exact h nrem h2 (Nat.le_refl _) hu' (.inl rfl)
 case step =>
   rintro x v st' hax hxn ⟨rfl,rfl,hu'⟩
   refine hf x x _ (by omega) hxn (fun e=>h x hax (by omega) hu' (.inr e)) fun e=>⟨rfl,rfl,fun i j hij hj=>?_⟩
   rcases Nat.lt_or_ge j x with z | z
   . exact hu' i j hij z
   . obtain rfl:j=x:=by omega
     have e':lt (at' ar (lo+j-1)) (at' ar (lo+j))=true:=(apart c hT (by omega) (by omega) (by omega)).resolve_right (by rw[e];decide)
     rcases Nat.lt_or_ge i (j-1) with q | q
     . have e2:=hu' i (j-1) q (by omega)
       rw[show lo+(j-1)=lo+j-1 by omega] at e2
       exact c.tr _ _ _ e2 e'
     . rw[show lo+i=lo+j-1 by omega]
       exact e'
theorem wp_count {lo nrem:Nat}{Q:Option Nat->SortSt->Prop}(c:Cmp M A s κ lt T)(hT:ar.toList.Perm T)(hn:lo+nrem<=ar.size)(h1:1<=nrem)
   (h:∀m ar',ar'.toList.Perm T->zC3 lo ar ar'->1<=m->m<=nrem->Up lt ar' lo m->Q (some m) (SortSt.mk' κ ar' pd g none)):wpS M A E s (countRun' lo nrem) Q (SortSt.mk' κ ar pd g none):=by
 rw[countRun'_eq]
 refine wpS_bind (zW8 (ar:=ar) (lo:=lo) c hT (fun x n R hn1 hn2 r1 r2=>?_) hn (Nat.le_refl 1) h1 (fun i j hij hj=>by omega) fun n hn1 hn2 hu hor=>?_)
 . dsimp only
   refine wpS_bind (zv1 c hT (by omega) (by omega) ?_)
   cases e:lt (at' ar (lo+n)) (at' ar (lo+n-1)) with
   | true=>dsimp only;rw[if_pos rfl];exact wpS_pure (r1 e)
   | false=>dsimp only;rw[if_neg (by decide)];exact wpS_pure (r2 e)
 dsimp only
 by_cases h2:n=nrem
 . rw[if_pos (zg1 h2)]
   exact wpS_pure (h n ar hT (fun _ _=>rfl) hn1 hn2 hu)
 rw[if_neg (zf6 h2)]
 have hlt:=hor.resolve_left h2
 by_cases h3:n>1
 . rw[if_pos h3]
   refine wpS_bind (zv1 c hT (by omega) (by omega) ?_)
   have e:=hu 0 (n-1) (by omega) (by omega)
   rw[Nat.add_zero,show lo+(n-1)=lo+n-1 by omega] at e
   rw[e]
   dsimp only
   rw[if_pos rfl]
   exact wpS_pure (h n ar hT (fun _ _=>rfl) hn1 hn2 hu)
 rw[if_neg h3]
 obtain rfl:n=1:=by omega
 refine wpS_bind (wpS_lift (wpAny_rule ⟨rfl,?_⟩))
 refine wpS_bind (wpS_mono (wpS_forRange (I:=fun x v st'=>st'=SortSt.mk' κ ar pd g none/\v=(none,x,0)/\∀i j,i<j->j<x->lt (at' ar (lo+j)) (at' ar (lo+i))=true)
   (Q:=fun v st'=>st'=SortSt.mk' κ ar pd g none/\∃x,v=(none,x,0)/\2<=x/\x<=nrem/\∀i j,i<j->j<x->lt (at' ar (lo+j)) (at' ar (lo+i))=true) ?step ?fin ⟨rfl,rfl,?ini⟩) ?post)
 case ini =>
   intro i j hij hj
   obtain rfl:i=0:=by omega
   obtain rfl:j=1:=by omega
   rw[Nat.add_zero]
   exact hlt
 case fin =>
   rintro v st' ⟨rfl,rfl,hu'⟩
   rw[show max (1+1) nrem=nrem by omega] at hu' ⊢
   exact⟨rfl,nrem,rfl,by omega,Nat.le_refl _,hu'⟩
 case step =>
   rintro x v st' hax hxn ⟨rfl,rfl,hu'⟩
   dsimp only
   refine wpS_bind (zv1 c hT (by omega) (by omega) ?_)
   cases e:lt (at' ar (lo+x)) (at' ar (lo+x-1)) with
   | true =>
     dsimp only
     rw[if_pos rfl,if_neg (by decide)]
     refine wpS_pure ⟨rfl,rfl,fun i j hij hj=>?_⟩
     rcases Nat.lt_or_ge j x with z | z
     . exact hu' i j hij z
     . obtain rfl:j=x:=by omega
       rcases Nat.lt_or_ge i (j-1) with q | q
       . have e2:=hu' i (j-1) q (by omega)
         rw[show lo+(j-1)=lo+j-1 by omega] at e2
         exact c.tr _ _ _ e e2
       . rw[show lo+i=lo+j-1 by omega]
         exact e
   | false =>
     dsimp only
     rw[if_neg (by decide)]
     have e':lt (at' ar (lo+x-1)) (at' ar (lo+x))=true:=(apart c hT (by omega) (by omega) (by omega)).resolve_right (by rw[e];decide)
     refine wpS_bind (zv1 c hT (by omega) (by omega) ?_)
     rw[e']
     dsimp only
     rw[if_pos rfl]
     exact wpS_pure ⟨rfl,x,rfl,by omega,by omega,hu'⟩
 case post =>
   rintro v st' ⟨rfl,x,rfl,hx2,hxn,hu'⟩
   dsimp only
   rw[if_neg (by decide),reverseSlice'_eq]
   refine wpS_bind (wpS_modify ?_)
   have hT':(mirror ar lo (lo+x) ((lo+x-lo) / 2)).toList.Perm T:=.trans (Array.perm_iff_toList_perm.mp (mirror_perm _ _ _ _)) hT
   have hb:zC3 lo ar (mirror ar lo (lo+x) ((lo+x-lo) / 2)):=fun i hi=>by
     rw[getElem?_mirror_all (by omega),if_neg (by omega)]
   have hs:(mirror ar lo (lo+x) ((lo+x-lo) / 2)).size=ar.size:=mirror_size _ _ _ _
   have hu2:Up lt (mirror ar lo (lo+x) ((lo+x-lo) / 2)) lo x:=fun i j hij hj=>by
     rw[zF1 (by omega),zF1 (by omega),if_pos (by omega),if_pos (by omega)]
     have:=hu' (x-1-j) (x-1-i) (by omega) (by omega)
     rw[show lo+(lo+x)-1-(lo+i)=lo+(x-1-i) by omega,show lo+(lo+x)-1-(lo+j)=lo+(x-1-j) by omega]
     exact this
   show wpS M A E s _ Q (SortSt.mk' κ (mirror ar lo (lo+x) ((lo+x-lo) / 2)) pd g none)
   generalize mirror ar lo (lo+x) ((lo+x-lo) / 2)=br at hT' hb hs hu2 ⊢
   refine wpS_bind (zW8 (ar:=br) (lo:=lo) c hT' (fun x n R hn1 hn2 r1 r2=>?_) (by omega) (by omega) hxn hu2 fun n hn1 hn2 hu3 _=>?_)
   . dsimp only
     refine wpS_bind (zv1 c hT' (by omega) (by omega) ?_)
     cases e:lt (at' br (lo+n)) (at' br (lo+n-1)) with
     | true=>dsimp only;rw[if_pos rfl];exact wpS_pure (r1 e)
     | false=>dsimp only;rw[if_neg (by decide)];exact wpS_pure (r2 e)
   . exact wpS_pure (h n br hT' hb (by omega) hn2 hu3)
theorem wp_bin {lo n ok:Nat}{Q:Bool->SortSt->Prop}(c:Cmp M A s κ lt T)(hT:ar.toList.Perm T)(hn:lo+n<=ar.size)(hok:ok<=n)(hu:Up lt ar lo ok)
   (h:∀ar',ar'.toList.Perm T->zC3 lo ar ar'->Up lt ar' lo n->Q true (SortSt.mk' κ ar' pd g none)):wpS M A E s (binarySort' lo n ok) Q (SortSt.mk' κ ar pd g none):=by
 rw[binarySort'_eq]
 refine wpS_bind (wpS_mono (wpS_forRange (I:=fun k v st'=>v=(none,())/\∃br,st'=SortSt.mk' κ br pd g none/\br.toList.Perm T/\br.size=ar.size/\zC3 lo ar br/\Up lt br lo (min k n))
   (Q:=fun v st'=>v=(none,())/\∃br,st'=SortSt.mk' κ br pd g none/\br.toList.Perm T/\zC3 lo ar br/\Up lt br lo n) ?step ?fin ⟨rfl,ar,rfl,hT,rfl,fun _ _=>rfl,fun i j hij hj=>hu i j hij (by omega)⟩) ?post)
 case post =>
   rintro v st' ⟨rfl,br,rfl,a1,a2,a3⟩
   exact wpS_pure (h br a1 a2 a3)
 case fin =>
   rintro v st' ⟨rfl,br,rfl,a1,a2,a3,a4⟩
   rw[show min (max (max ok 1) n) n=n by omega] at a4
   exact⟨rfl,br,rfl,a1,a3,a4⟩
 case step =>
   rintro k v st' hak hkn ⟨rfl,br,rfl,hT',hs,hb,hu'⟩
   rw[show min k n=k by omega] at hu'
   refine wpS_bind (wpS_mono (wpS_forRange (I:=fun x v st''=>st''=SortSt.mk' κ br pd g none/\∃l r,v=(none,l,r)/\l<=r/\r<=k/\r-l<=k-x ∧
       (∀i,i<l->lt (at' br (lo+i)) (at' br (lo+k))=true)/\(∀i,r<=i->i<k->lt (at' br (lo+k)) (at' br (lo+i))=true))
     (Q:=fun v st''=>st''=SortSt.mk' κ br pd g none/\∃l r,v=(none,l,r)/\l<=k ∧
       (∀i,i<l->lt (at' br (lo+i)) (at' br (lo+k))=true)/\(∀i,l<=i->i<k->lt (at' br (lo+k)) (at' br (lo+i))=true)) ?istep ?ifin ⟨rfl,0,k,rfl,by omega,by omega,by omega,fun i hi=>by omega,fun i h1 h2=>by omega⟩) ?ipost)
   case ifin =>
     rintro v st'' ⟨rfl,l,r,rfl,b1,b2,b3,b4,b5⟩
     obtain rfl:l=r:=by omega
     exact⟨rfl,l,l,rfl,b2,b4,b5⟩
   case istep =>
     rintro x v st'' _ hxk ⟨rfl,l,r,rfl,b1,b2,b3,b4,b5⟩
     dsimp only
     by_cases hge:l≥r
     . rw[if_pos hge]
       obtain rfl:l=r:=by omega
       exact wpS_pure ⟨rfl,l,l,rfl,b2,b4,b5⟩
     . rw[if_neg hge]
       refine wpS_bind (zv1 c hT' (by omega) (by omega) ?_)
       cases e:lt (at' br (lo+k)) (at' br (lo+(l+r) / 2)) with
       | true =>
         dsimp only
         rw[if_pos rfl]
         refine wpS_pure ⟨rfl,l,(l+r) / 2,rfl,by omega,by omega,by omega,b4,fun i h1 h2=>?_⟩
         rcases Nat.lt_or_ge ((l+r) / 2) i with z | z
         . exact c.tr _ _ _ e (hu' _ i z h2)
         . obtain rfl:i=(l+r) / 2:=by omega
           exact e
       | false =>
         dsimp only
         rw[if_neg (by decide)]
         have e':lt (at' br (lo+(l+r) / 2)) (at' br (lo+k))=true:=(apart c hT' (by omega) (by omega) (by omega)).resolve_right (by rw[e];decide)
         refine wpS_pure ⟨rfl,(l+r) / 2+1,r,rfl,by omega,by omega,by omega,fun i h1=>?_,b5⟩
         rcases Nat.lt_or_ge i ((l+r) / 2) with z | z
         . exact c.tr _ _ _ (hu' i _ z (by omega)) e'
         . obtain rfl:i=(l+r) / 2:=by omega
           exact e'
   case ipost =>
     rintro v st'' ⟨rfl,l,r,rfl,hlk,b4,b5⟩
     show wpS M A E s (do moveDown' (lo+k) (lo+l);pure (ForInStep.yield (none,()))) _ _
     rw[moveDown'_eq]
     refine wpS_bind (wpS_modify (wpS_pure ⟨rfl,bubble br (lo+k) (lo+k-(lo+l)),rfl,.trans (Array.perm_iff_toList_perm.mp (bubble_perm _ _ _)) hT',(bubble_size _ _ _).trans hs,fun i hi=>?_,?_⟩))
     . rw[getElem?_bubble (by omega) _ (by omega),if_neg (by omega),if_neg (by omega)]
       exact hb i hi
     . rw[show min (k+1) n=k+1 by omega]
       intro i j hij hj
       rw[zF2 (by omega) (by omega),zF2 (by omega) (by omega),show lo+k-(lo+k-(lo+l))=lo+l by omega]
       by_cases c1:i<l
       . rw[if_neg (by omega),if_neg (by omega)]
         by_cases c2:j=l
         . subst c2
           rw[if_pos rfl]
           exact b4 i c1
         . rw[if_neg (by omega)]
           by_cases c3:j<l
           . rw[if_neg (by omega)]
             exact hu' i j hij (by omega)
           . rw[if_pos (by omega),show lo+j-1=lo+(j-1) by omega]
             exact hu' i (j-1) (by omega) (by omega)
       . by_cases c2:i=l
         . subst c2
           rw[if_pos rfl,if_neg (by omega),if_pos (by omega),show lo+j-1=lo+(j-1) by omega]
           exact b5 (j-1) (by omega) (by omega)
         . rw[if_neg (by omega),if_pos (by omega),if_neg (by omega),if_pos (by omega),show lo+i-1=lo+(i-1) by omega,show lo+j-1=lo+(j-1) by omega]
           exact hu' (i-1) (j-1) (by omega) (by omega)
end
section
variable {M:Model} {A:Around} {E:Value->Shared->Prop} {s:Shared} {κ:SortKind} {lt:Keyed->Keyed->Bool} {T:List Keyed}
theorem zI9 {br:Array Keyed}{pd:Array (Nat×Nat×Nat)}{g i:Nat}{ls:List (List Keyed)}{rest:List Keyed}{Q:Bool->SortSt->Prop}(c:Cmp M A s κ lt T)(hT:br.toList.Perm T)(hR:Rn lt 0 pd.toList ls)
   (hL:br.toList=ls.flatten++rest) (hi:i+1<pd.size)
   (h:∀br' pd' g' ls',br'.toList.Perm T->Rn lt 0 pd'.toList ls'->br'.toList=ls'.flatten++rest->pd'.size+1=pd.size->ls'.flatten.length=ls.flatten.length->Q true (SortSt.mk' κ br' pd' g' none)) :
   wpS M A E s (mergeAt' i) Q (SortSt.mk' κ br pd g none):=by
 obtain⟨pre,a,b,post,ep,el⟩:∃pre a b post,pd.toList=pre++a::b::post/\pre.length=i:=by
   refine⟨pd.toList.take i,pd.toList[i]'(by simp;omega),pd.toList[i+1]'(by simp;omega),pd.toList.drop (i+2),?_,by simp;omega⟩
   rw[<-List.drop_eq_getElem_cons,<-List.drop_eq_getElem_cons,List.take_append_drop]
 have hR':=hR
 rw[ep] at hR'
 obtain⟨lp,lq,e1,e2,r1,r2⟩:=Rn.split pre hR'
 obtain⟨sa,na,pa⟩:=a
 obtain⟨sb,nb,pb⟩:=b
 match lq,r2 with
 | [],r2=>exact r2.elim
 | [_],r2=>exact r2.2.2.2.2.elim
 | Aa::Bb::lr,r2 =>
   obtain⟨x1,x2,x3,x4,x5,x6,x7,x8,x9⟩:=r2
   rw[Nat.zero_add] at x1 x5 x9
   subst x1 x2 x5 x6 e1
   have hL':br.toList=lp.flatten++(Aa++(Bb++(lr.flatten++rest))):=by rw[hL];simp
   refine wp_mergeAt (pre:=pre) (post:=post) (c.perm (T':=lp.flatten++(Aa++(Bb++(lr.flatten++rest)))) (hL'▸hT)) hL' ep el.symm x3 x7 x4 x8 fun br' pd' g' C y1 y2 y3 y4=>?_
   refine h br' pd' g' (lp++C::lr) ?_ ?_ ?_ ?_ ?_
   . rw[y2]
     refine .trans ?_ (hL'▸hT)
     refine List.Perm.append_left _ ?_
     rw[<-List.append_assoc Aa]
     exact List.Perm.append_right _ y3
   . rw[y1]
     refine Rn.join r1 ⟨by simp,by rw[y3.length_eq];simp,fun z=>?_,y4,?_⟩
     . have:=y3.length_eq
       rw[z] at this
       have z3:=List.length_pos_iff.mpr x3
       simp at this
       omega
     . have e:0+lp.flatten.length+C.length=lp.flatten.length+Aa.length+Bb.length:=by rw[y3.length_eq];simp;omega
       rw[e]
       exact x9
   . rw[y2];simp
   . have z1:=congrArg List.length y1
     have z2:=congrArg List.length ep
     simp at z1 z2
     omega
   . have:=y3.length_eq
     simp at this ⊢
     omega
theorem Rn.power {f:Nat}{pw:Nat}:∀ {pd:List (Nat×Nat×Nat)} {ls:List (List Keyed)} (k:Nat),Rn lt f pd ls->Rn lt f (pd.modify k fun x=>(x.1,x.2.1,pw)) ls
 | [],ls,k,h=>by cases k<;>exact h
 | _::_,[],k,h=>h.elim
 | (s,n,w)::pd,l::ls,0,h=>h
 | (s,n,w)::pd,l::ls,k+1,h=>⟨h.1,h.2.1,h.2.2.1,h.2.2.2.1,Rn.power (f:=f+l.length) k h.2.2.2.2⟩
theorem below_take {lo:Nat}{ar br:Array Keyed}(h:zC3 lo ar br)(hs:br.size=ar.size):br.toList.take lo=ar.toList.take lo:=by
 apply List.ext_getElem?
 intro i
 rcases Nat.lt_or_ge i lo with z | z
 . rw[List.getElem?_take_of_lt z,List.getElem?_take_of_lt z,Array.getElem?_toList,Array.getElem?_toList]
   exact h i z
 . rw[List.getElem?_eq_none (by simp;omega),List.getElem?_eq_none (by simp;omega)]
theorem up_pairwise {ar:Array Keyed}{lo n:Nat}(hu:Up lt ar lo n)(hn:lo+n<=ar.size):((ar.toList.drop lo).take n).Pairwise (LtR lt):=by
 refine List.pairwise_iff_getElem.mpr fun i j hi hj hij=>?_
 have hi':i<n:=by simp at hi;omega
 have hj':j<n:=by simp at hj;omega
 have:=hu i j hij hj'
 rw[<-zr7 (by omega),<-zr7 (by omega)] at this
 show lt _ _=true
 simpa using this
theorem wp_sortRuns {ar:Array Keyed}{Q:Unit->SortSt->Prop}(c:Cmp M A s κ lt ar.toList)
   (h:∀br pd g,br.toList.Perm ar.toList->br.toList.Pairwise (LtR lt)->Q () (SortSt.mk' κ br pd g none)):wpS M A E s sortRuns' Q (SortSt.mk' κ ar #[] 7 none):=by
 rw[sortRuns'_eq]
 refine wpS_bind (wpS_get ?_)
 try dsimp only
 have e0:(arrOf (SortSt.mk' κ ar #[] 7 none)).size=ar.size:=rfl
 simp only[e0]
 generalize minRun' ar.size ar.size 0=mr
 refine wpS_bind (wpS_mono (wpS_forRange
   (I:=fun x v st'=>∃br pd g ls rest,st'=SortSt.mk' κ br pd g none/\v=(none,ls.flatten.length)/\br.toList.Perm ar.toList/\Rn lt 0 pd.toList ls/\br.toList=ls.flatten++rest/\x<=ls.flatten.length)
   (Q:=fun v st'=>∃br pd g ls n,st'=SortSt.mk' κ br pd g none/\v=(none,n)/\br.toList.Perm ar.toList/\Rn lt 0 pd.toList ls/\br.toList=ls.flatten) ?step ?fin ⟨ar,#[],7,[],ar.toList,rfl,rfl,.refl _,trivial,rfl,Nat.le_refl _⟩) ?post)
 case fin =>
   rintro v st' ⟨br,pd,g,ls,rest,rfl,rfl,hT,hR,hL,hx⟩
   refine⟨br,pd,g,ls,_,rfl,rfl,hT,hR,?_⟩
   have z1:=hT.length_eq
   have z2:=congrArg List.length hL
   rw[List.length_append] at z2
   simp only[Array.length_toList] at z1 z2
   have:rest.length=0:=by omega
   rw[List.eq_nil_of_length_eq_zero this,List.append_nil] at hL
   exact hL
 case step =>
   rintro x v st' _ hx ⟨br,pd,g,ls,rest,rfl,rfl,hT,hR,hL,hxl⟩
   have hs:br.size=ar.size:=by simpa using hT.length_eq
   have hl:br.size=ls.flatten.length+rest.length:=by
     have:=congrArg List.length hL
     rw[List.length_append] at this
     simpa using this
   dsimp only
   generalize hlo:ls.flatten.length=lo at hxl hl ⊢
   by_cases h1:lo≥ar.size
   . rw[if_pos h1]
     refine wpS_pure ⟨br,pd,g,ls,_,rfl,rfl,hT,hR,?_⟩
     have:rest.length=0:=by omega
     rw[List.eq_nil_of_length_eq_zero this,List.append_nil] at hL
     exact hL
   rw[if_neg h1]
   refine wpS_bind (wp_count c hT (by omega) (by omega) fun m br1 hT1 hb1 hm1 hm2 hu1=>?_)
   dsimp only
   have hs1:br1.size=br.size:=by have:=hT1.length_eq.trans hT.length_eq.symm;simpa using this
   have tail:∀(n:Nat) (br2:Array Keyed),br2.toList.Perm ar.toList->zC3 lo br br2->br2.size=br.size->1<=n->lo+n<=ar.size->Up lt br2 lo n →
       ∃run rest',run.length=n/\run≠[]/\run.Pairwise (LtR lt)/\br2.toList=ls.flatten++(run++rest'):=fun n br2 hT2 hb2 hs2 hn1 hn2 hu2=>by
     refine⟨(br2.toList.drop lo).take n,(br2.toList.drop lo).drop n,by simp;omega,fun z=>?_,up_pairwise hu2 (by omega),?_⟩
     . have:=congrArg List.length z
       simp at this
       omega
     . rw[List.take_append_drop]
       have e:=below_take hb2 hs2
       have e':br.toList.take lo=ls.flatten:=by rw[hL,<-hlo,List.take_append_of_le_length (Nat.le_refl _),List.take_length]
       rw[<-e',<-e,List.take_append_drop]
   have go:∀(n:Nat) (br2:Array Keyed),br2.toList.Perm ar.toList->zC3 lo br br2->br2.size=br.size->1<=n->lo+n<=ar.size->Up lt br2 lo n →
       ∃run rest',run.length=n/\run≠[]/\run.Pairwise (LtR lt)/\br2.toList=ls.flatten++(run++rest'):=tail
   by_cases h2:m<mr
   case' pos =>
     rw[if_pos h2]
     refine wpS_bind (wpS_lift (wpAny_rule ⟨rfl,?_⟩))
     refine wpS_bind (wp_bin c hT1 (by omega) (by omega) hu1 fun br2 hT2 hb2 hu2=>?_)
     have hs2:br2.size=br.size:=by have:=hT2.length_eq.trans hT.length_eq.symm;simpa using this
     obtain⟨run,rest',g1,g2,g3,g4⟩:=tail (min (ar.size-lo) mr) br2 hT2 (fun i hi=>(hb2 i hi).trans (hb1 i hi)) hs2 (by omega) (by omega) hu2
     rw[if_neg (by decide)]
     rw[<-g1]
   case' neg =>
     rw[if_neg h2]
     obtain⟨run,rest',g1,g2,g3,g4⟩:=tail m br1 hT1 hb1 hs1 hm1 (by omega) hu1
     rw[<-g1]
     have hT2:=hT1
     generalize br1=br2 at hT2 g4 ⊢
   all_goals
     refine wpS_bind (wpS_get ?_)
     try dsimp only
     have fin_:∀(br3:Array Keyed) (pd3:Array (Nat×Nat×Nat)) (g3:Nat) (ls3:List (List Keyed)),br3.toList.Perm ar.toList->Rn lt 0 pd3.toList ls3->br3.toList=ls3.flatten++(run++rest')->ls3.flatten.length=lo →
         ∃br pd g ls rest,SortSt.mk' κ br3 (pd3.push (lo,run.length,0)) g3 none=SortSt.mk' κ br pd g none/\((none,lo+run.length):Option Unit×Nat)=(none,ls.flatten.length)/\br.toList.Perm ar.toList/\Rn lt 0 pd.toList ls/\br.toList=ls.flatten++rest/\x+1<=ls.flatten.length:=fun br3 pd3 g3' ls3 q1 q2 q3 q4=>by
       refine⟨br3,_,g3',ls3++[run],rest',rfl,by simp[<-q4],q1,?_,by rw[q3];simp,?_⟩
       . rw[Array.toList_push]
         refine Rn.join q2 ⟨by rw[q4];omega,rfl,g2,g3,trivial⟩
       . have:0<run.length:=List.length_pos_iff.mpr g2
         rw[List.flatten_append,List.length_append,q4]
         simp
         omega
     cases eb:pd.back? with
     | none =>
       dsimp only
       refine wpS_bind (wpS_modify (wpS_pure ?_))
       exact fin_ br2 pd g ls hT2 hR g4 hlo
     | some last =>
       obtain⟨s1,n1,w1⟩:=last
       dsimp only
       generalize power' ar.size (2*s1+n1) (2*s1+n1+n1+run.length) ar.size=pw
       refine wpS_bind (wpS_mono (wpS_forRange
         (I:=fun y v st'=>∃br3 pd3 g3 ls3,st'=SortSt.mk' κ br3 pd3 g3 none/\v=(none,())/\br3.toList.Perm ar.toList/\Rn lt 0 pd3.toList ls3/\br3.toList=ls3.flatten++(run++rest')/\ls3.flatten.length=lo)
         (Q:=fun v st'=>∃br3 pd3 g3 ls3,st'=SortSt.mk' κ br3 pd3 g3 none/\v=(none,())/\br3.toList.Perm ar.toList/\Rn lt 0 pd3.toList ls3/\br3.toList=ls3.flatten++(run++rest')/\ls3.flatten.length=lo) ?stepM (fun _ _ z=>z) ⟨br2,pd,g,ls,rfl,rfl,hT2,hR,g4,hlo⟩) ?postM)
       case stepM =>
         rintro y v st' _ hy ⟨br3,pd3,g3',ls3,rfl,rfl,q1,q2,q3,q4⟩
         refine wpS_bind (wpS_get ?_)
         try dsimp only
         by_cases h3:pd3.size>1
         . rw[if_pos h3,getElem?_pos pd3 (pd3.size-2) (by omega)]
           dsimp only
           by_cases h4:(pd3[pd3.size-2]'(by omega)).2.2<=pw
           . rw[if_pos h4]
             exact wpS_pure ⟨br3,pd3,g3',ls3,rfl,rfl,q1,q2,q3,q4⟩
           . rw[if_neg h4]
             refine wpS_bind (zI9 c q1 q2 q3 (show pd3.size-2+1<pd3.size by omega) fun br4 pd4 g4' ls4 w1 w2 w3 w4 w5=>?_)
             rw[if_neg (by decide)]
             exact wpS_pure ⟨br4,pd4,g4',ls4,rfl,rfl,w1,w2,w3,w5.trans q4⟩
         . rw[if_neg h3]
           exact wpS_pure ⟨br3,pd3,g3',ls3,rfl,rfl,q1,q2,q3,q4⟩
       case postM =>
         rintro v st' ⟨br3,pd3,g3',ls3,rfl,rfl,q1,q2,q3,q4⟩
         dsimp only
         refine wpS_bind (wpS_modify (wpS_bind (wpS_modify (wpS_pure ?_))))
         exact fin_ br3 (pd3.modify (pd3.size-1) fun x=>(x.1,x.2.1,pw)) g3' ls3 q1 (by rw[Array.toList_modify];exact q2.power _) q3 q4
 case post =>
   rintro v st' ⟨br,pd,g,ls,n,rfl,rfl,hT,hR,hL⟩
   dsimp only
   have hz:pd.size<=ar.size:=by
     have z1:=hR.len
     have z2:=congrArg List.length hL
     have z3:=hT.length_eq
     simp only[Array.length_toList] at z1 z2 z3
     omega
   refine wpS_bind (wpS_mono (wpS_forRange
     (I:=fun y v st'=>∃br3 pd3 g3 ls3,st'=SortSt.mk' κ br3 pd3 g3 none/\v=(none,())/\br3.toList.Perm ar.toList/\Rn lt 0 pd3.toList ls3/\br3.toList=ls3.flatten++[]/\(pd3.size<=1\/pd3.size+y<=ar.size))
     (Q:=fun v st'=>∃br3 pd3 g3 ls3,st'=SortSt.mk' κ br3 pd3 g3 none/\v=(none,())/\br3.toList.Perm ar.toList/\Rn lt 0 pd3.toList ls3/\br3.toList=ls3.flatten++[]/\pd3.size<=1) ?stepE ?finE ⟨br,pd,g,ls,rfl,rfl,hT,hR,by simpa using hL,.inr (by omega)⟩) ?postE)
   case finE =>
     rintro v st' ⟨br3,pd3,g3,ls3,rfl,rfl,q1,q2,q3,q4⟩
     exact⟨br3,pd3,g3,ls3,rfl,rfl,q1,q2,q3,by omega⟩
   case stepE =>
     rintro y v st' _ hy ⟨br3,pd3,g3,ls3,rfl,rfl,q1,q2,q3,q4⟩
     refine wpS_bind (wpS_get ?_)
     try dsimp only
     by_cases h3:pd3.size<=1
     . rw[if_pos h3]
       exact wpS_pure ⟨br3,pd3,g3,ls3,rfl,rfl,q1,q2,q3,h3⟩
     rw[if_neg h3]
     have e1:(pendingOf (SortSt.mk' κ br3 pd3 g3 none)).size=pd3.size:=rfl
     simp only[e1]
     generalize(Option.any _ _:Bool)=tt
     refine wpS_bind (zI9 c q1 q2 q3 (by split<;>omega) fun br4 pd4 g4' ls4 w1 w2 w3 w4 w5=>?_)
     rw[if_neg (by decide)]
     exact wpS_pure ⟨br4,pd4,g4',ls4,rfl,rfl,w1,w2,w3,by omega⟩
   case postE =>
     rintro v st' ⟨br3,pd3,g3,ls3,rfl,rfl,q1,q2,q3,q4⟩
     refine wpS_pure (h br3 pd3 g3 q1 ?_)
     rw[q3]
     have z:=q2.len.1
     match pd3,ls3,q2 with
     | ⟨[]⟩,[],_=>simp
     | ⟨[(_,_,_)]⟩,[l],q2=>simpa using q2.2.2.2.1
     | ⟨_::_::_⟩,_,_=>simp at q4
     | ⟨[_]⟩,_::_::_,_=>simp at z
end
end Sx
namespace Sx
open PySem PySem.W PySem.Calls PyProof.Rows
noncomputable def RawD (h:Heap)(d:Addr)(es:Array DictEntry)(ep:Nat):Prop:=∃o,h.get? d=some o/\o.ExactDict/\o.data = .dict es ep
section
variable {prog:Program} {w:World} {A:Around} {E:Value->Shared->Prop} {s:Shared} {d it:Addr} {es:Array DictEntry} {ep i:Nat}
theorem RawD.typeIs (x:RawD s.heap d es ep):s.TypeIs (.ref d) "dict":=by
 obtain⟨o,ho,hc,_⟩:=x
 exact⟨o,ho,hc.1⟩
theorem RawD.lt {h:Heap}(x:RawD h d es ep):d<h.objs.size:=let⟨_,ho,_⟩:=x;Heap.lt_size ho
theorem RawD.at_ {h h':Heap}(x:RawD h d es ep)(e:∀o,h.get? d=some o->h'.get? d=some o):RawD h' d es ep:=let⟨o,ho,r⟩:=x;⟨o,e o ho,r⟩
theorem raw_iter {Q:Value->Shared->Prop}(hd:(d == sysModules)=false)(hm:RawD s.heap d es ep)
   (hQ:Q (.ref s.heap.objs.size) { s with heap:=s.heap.push { cls:=.type "dict_keyiterator",data:=.fields #[.ref d,.int 0 0,.int es.size 0,.int ep 0] } }):wpAny (model prog w) A (pyIter (.ref d)) Q E s:=by
 obtain⟨o,ho,hc,hdat⟩:=id hm
 have hT:=hm.typeIs
 refine wpAny_pyIter_slot hT F.slot_dict_iter (wpAny_call_entry F.slot_dict_iter hT F.entry_dict_iter ?_ (F.args_dict_iter_1 _))
 unfold Builtin.«dict.__iter__»
 refine wpAny_bind ?_
 unfold Builtin.Dict.dictSlotNone
 refine wpAny_bind (wpAny_notOrdered_dict hT (wpAny_pure ?_))
 show wpAny _ _ (Builtin.Dict.showsAll d >>= _) _ _ s
 unfold Builtin.Dict.showsAll
 rw[if_neg (by rw[hd];exact Bool.false_ne_true)]
 refine wpAny_bind (wpAny_pure (wpAny_bind (wpAny_dictEntries ho hdat (wpAny_bind (wpAny_dictEpoch ho hdat ?_)))))
 exact wpAny_bind (wpAny_newObj_type (wpAny_pure ⟨_,rfl,"dict_keyiterator",_,⟨_,Heap.get?_push_size _ rfl,rfl⟩,F.slot_dict_keyiterator_next.lookup,hQ⟩))
theorem raw_next {Q:Option Value->Shared->Prop}(hit:s.heap.IsKeyIter it d i es.size ep)(hm:RawD s.heap d es ep)(hi:i<es.size)
   (hQ:∀h',h'.IsKeyIter it d (i+1) es.size ep->Heap.SameBut it s.heap h'->Q (some es[i].key) { s with heap:=h' }):wpAny (model prog w) A (pyNext (.ref it)) Q E s:=by
 obtain⟨o,ho,hc,hd⟩:=id hit
 obtain⟨od,hod,hcd,hdd⟩:=id hm
 have hT:=hit.typeIs
 unfold pyNext
 refine wpAny_bind (wpAny_attempt (wpAny_callSpecial?_slot (name:=Str.ofString "__next__") hT F.slot_dict_keyiterator_next
   (wpAny_call_entry F.slot_dict_keyiterator_next hT F.entry_dict_keyiterator_next ?_ (F.args_dict_keyiterator_next_1 _))))
 refine wpAny_bind (wpAny_pure (wpAny_bind (wpAny_bind ?_)))
 first | refine wpAny_bind (wpAny_typeNameOfWhole_keyiter hT (wpAny_pure ?_)) | refine wpAny_bind (wpAny_typeNameOf_keyiter hT (wpAny_pure ?_))
 refine wpAny_bind (wpAny_fieldsOf ho hd ?_)
 simp only[show Builtin.Dict_items.ownsTuple "dict_keyiterator" = false by decide,Bool.false_eq_true,if_false]
 show wpAny _ _ (if (Value.ref d == Value.none)=true then _ else _) _ _ s
 rw[if_neg (show ¬ ((Value.ref d == Value.none)=true) from Bool.false_ne_true)]
 refine wpAny_bind (wpAny_pure (wpAny_bind (wpAny_dictEntries hod hdd ?_)))
 rw[if_neg (by simp)]
 refine wpAny_bind (wpAny_pure (wpAny_bind (wpAny_dictEpoch hod hdd ?_)))
 rw[if_neg (by simp)]
 refine wpAny_pure ?_
 simp only[show ¬ ((i:Int)<0) from by omega,if_false,Int.toNat_natCast,Array.getElem?_eq_getElem hi]
 refine wpAny_bind ?_
 first | refine wpAny_bind (wpAny_typeNameOfWhole_keyiter hT (wpAny_pure ?_)) | refine wpAny_bind (wpAny_typeNameOf_keyiter hT (wpAny_pure ?_))
 refine wpAny_bind (wpAny_isOneOf_keyiter hT ?_)
 show wpAny _ _ (setField (.ref it) 1 (rawInt ((i:Int)+1)) >>= _) _ _ s
 refine wpAny_bind (wpAny_setField ho hd (by simp) ?_)
 have hit':(s.heap.update it (Obj.mapFields (·.setIfInBounds 1 (rawInt ((i:Int)+1))))).IsKeyIter it d (i+1) es.size ep :=
   ⟨_,Heap.get?_update_self _ ho (Obj.isFreed_of_fields (Obj.data_mapFields hd _)),(Obj.cls_mapFields ..).trans hc,by rw[Obj.data_mapFields hd];simp[rawInt]⟩
 refine wpAny_bind (wpAny_holding (wpAny_bind (wpAny_isOneOf_keyiter (s:={ s with heap:=s.heap.update it (Obj.mapFields (·.setIfInBounds 1 (rawInt ((i:Int)+1)))) }) hit'.typeIs ?_)))
 show wpAny _ _ (pure es[i].key) _ _ _
 exact wpAny_pure (wpAny_pure ⟨_,rfl,wpAny_pure (hQ _ hit' (Heap.SameBut.update ..))⟩)
theorem raw_end {Q:Option Value->Shared->Prop}(hh:A.handled=none)(hit:s.heap.IsKeyIter it d es.size es.size ep)(hm:RawD s.heap d es ep)
   (hQ:∀h',Heap.ExtBut it s.heap h'->Q none { s with heap:=h' }):wpAny (model prog w) A (pyNext (.ref it)) Q E s:=by
 obtain⟨o,ho,hc,hd⟩:=id hit
 obtain⟨od,hod,hcd,hdd⟩:=id hm
 have hT:=hit.typeIs
 unfold pyNext
 refine wpAny_bind (wpAny_attempt (wpAny_callSpecial?_slot (name:=Str.ofString "__next__") hT F.slot_dict_keyiterator_next
   (wpAny_call_entry F.slot_dict_keyiterator_next hT F.entry_dict_keyiterator_next ?_ (F.args_dict_keyiterator_next_1 _))))
 refine wpAny_bind (wpAny_pure (wpAny_bind (wpAny_bind ?_)))
 first | refine wpAny_bind (wpAny_typeNameOfWhole_keyiter hT (wpAny_pure ?_)) | refine wpAny_bind (wpAny_typeNameOf_keyiter hT (wpAny_pure ?_))
 refine wpAny_bind (wpAny_fieldsOf ho hd ?_)
 simp only[show Builtin.Dict_items.ownsTuple "dict_keyiterator" = false by decide,Bool.false_eq_true,if_false]
 show wpAny _ _ (if (Value.ref d == Value.none)=true then _ else _) _ _ s
 rw[if_neg (show ¬ ((Value.ref d == Value.none)=true) from Bool.false_ne_true)]
 refine wpAny_bind (wpAny_pure (wpAny_bind (wpAny_dictEntries hod hdd ?_)))
 rw[if_neg (by simp)]
 refine wpAny_bind (wpAny_pure (wpAny_bind (wpAny_dictEpoch hod hdd ?_)))
 rw[if_neg (by simp)]
 refine wpAny_pure ?_
 simp only[show ¬ ((es.size:Int)<0) from by omega,if_false,Int.toNat_natCast,Array.getElem?_eq_none (Nat.le_refl es.size)]
 refine wpAny_bind ?_
 first | refine wpAny_bind (wpAny_typeNameOfWhole_keyiter hT (wpAny_pure ?_)) | refine wpAny_bind (wpAny_typeNameOf_keyiter hT (wpAny_pure ?_))
 show wpAny _ _ (setField (.ref it) 0 .none >>= _) _ _ s
 refine wpAny_bind (wpAny_setField ho hd (by simp) ?_)
 show wpAny _ _ (newExc (.type "StopIteration") [] >>= _) _ _ _
 refine wpAny_bind ?_
 simp only[newExc,newTuple]
 refine wpAny_bind (wpAny_newObj_type ?_ (by size_fits))
 refine wpAny_bind (m:=firstArgMember _ _) (wpAny_of_eq (a:=Value.none) (by first | rfl | (simp only[firstArgMember];rfl)) ?_)
 refine wpAny_newObj_type ?_ (by size_fits)
 simp only[raiseNew]
 refine wpAny_bind (wpAny_handled ?_)
 rw[show A.in1.handled=none from hh]
 refine wpAny_bind (wpAny_pure (wpAny_throw ?_))
 refine wpAny_bind (wpAny_isInstance (T:="StopIteration") (b:=true) ⟨_,Heap.get?_push_size _ rfl,rfl⟩ isSubtype_stop ?_)
 exact wpAny_pure (hQ _ (((Heap.SameBut.update ..).extBut.push _).push _))
theorem raw_walks (hh:A.handled=none)(I d:Addr)(hne:d≠I)(es:Array DictEntry)(ep:Nat) :
   Walks prog w A I [I,d] [I] es.size (fun i v=>∃h:i<es.size,v=es[i].key) (fun i h=>h.IsKeyIter I d i es.size ep/\RawD h d es ep) where
 sub:=fun b hb=>by simp at hb;simp[hb]
 frame:=fun _ _ _ st hk=>⟨let⟨o,ho,r⟩:=st.1;⟨o,hk I (by simp) o ho,r⟩,st.2.at_ fun o e=>hk d (by simp) o e⟩
 item:=fun i s Q E hi st hQ=>raw_next st.1 st.2 hi fun h' hit' hs'=>hQ _ h' s.toks ⟨hi,rfl⟩ ⟨hit',st.2.at_ fun o e=>hs'.extBut d o hne e⟩ fun b o hb e=>hs'.extBut b o (fun h=>hb (by simp[h])) e
 done:=fun s Q E st hQ=>raw_end hh st.1 st.2 fun h' he'=>hQ h' s.toks fun b o hb e=>he' b o (fun h=>hb (by simp[h])) e
 self:=fun _ _ _ _ st hQ=>wpAny_pyIter_keyiter st.1 hQ
theorem raw_src (lo:(d == sysModules)=false):KdlSrc prog w "dict" d d es.size (fun i v=>∃h:i<es.size,v=es[i].key) (fun h=>RawD h d es ep) where
 type:=fun _ hm=>hm.typeIs
 there:=fun _ hm=>⟨hm.lt,hm.lt⟩
 keep:=fun _ _ hm hk=>hm.at_ fun o e=>hk d (.inl rfl) o e
 notList:=by decide
 notTuple:=by decide
 hint:=fun _ _ _ _ hm hq=>kdl_hint_dict hm.typeIs hq
 iter:=fun _ _ hh hm=>⟨_,_,(fun _ _ hq=>raw_iter lo hm hq),raw_walks hh _ d (Nat.ne_of_lt hm.lt) es ep,⟨⟨_,Heap.get?_push_size _ rfl,rfl,rfl⟩,hm.at_ fun o e=>Heap.get?_push_of_some _ e⟩⟩
theorem raw_collect {R:List Value->Shared->Prop}(lo:(d == sysModules)=false)(hh:A.handled=none)(hm:RawD s.heap d es ep)(hn:es.size<=sizeLine)
   (h:∀(h':Heap) (tk:Nat),(∀b o,s.heap.get? b=some o->h'.get? b=some o)->R (es.toList.map (·.key)) { s with heap:=h',toks:=tk }):wpAny (model prog w) A (collect (.ref d)) R E s :=
 kdu_collect (raw_src (ep:=ep) (es:=es) lo) hh hm hn fun h' tk acc hk hacc=>by
   have e:acc.toList=es.toList.map (·.key):=by
     apply List.ext_getElem?
     intro j
     rcases Nat.lt_or_ge j es.size with z | z
     . have hj:j<acc.size:=by rw[hacc.1];exact z
       obtain⟨_,q⟩:=hacc.2 j acc[j] (getElem?_pos acc j hj)
       rw[Array.getElem?_toList,getElem?_pos acc j hj,List.getElem?_map,Array.getElem?_toList,getElem?_pos es j z,q]
       rfl
     . rw[List.getElem?_eq_none (by rw[Array.length_toList,hacc.1];exact z),List.getElem?_eq_none (by simpa using z)]
   rw[e]
   exact h h' tk hk
end
noncomputable def lexB:List Int->List Int->Bool
 | [],[]=>false
 | [],_::_=>true
 | _::_,[]=>false
 | a::l,b::m=>if a=b then lexB l m else decide (a<b)
theorem zT0:∀ {x y z:List Int},lexB x y=true->lexB y z=true->lexB x z=true
 | [],[],_,h,_=>nomatch h
 | [],_::_,[],_,h=>nomatch h
 | [],_::_,_::_,_,_=>rfl
 | _::_,[],_,h,_=>nomatch h
 | _::_,_::_,[],_,h=>nomatch h
 | a::x,b::y,c::z,h,h'=>by
   unfold lexB at h h' ⊢
   by_cases e:a=b
   . subst e
     rw[if_pos rfl] at h
     by_cases e':a=c
     . subst e'
       rw[if_pos rfl] at h' ⊢
       exact zT0 h h'
     . rw[if_neg e'] at h' ⊢
       exact h'
   . rw[if_neg e] at h
     have h1:a<b:=by simpa using h
     by_cases e':b=c
     . subst e'
       rw[if_neg e]
       exact h
     . rw[if_neg e'] at h'
       have h2:b<c:=by simpa using h'
       rw[if_neg (by omega)]
       simp
       omega
theorem zT1:∀ {x y:List Int},lexB x y=true->lexB y x=false
 | [],[],h=>nomatch h
 | [],_::_,_=>rfl
 | _::_,[],h=>nomatch h
 | a::x,b::y,h=>by
   unfold lexB at h ⊢
   by_cases e:a=b
   . subst e
     rw[if_pos rfl] at h ⊢
     exact zT1 h
   . rw[if_neg e] at h
     have h1:a<b:=by simpa using h
     rw[if_neg (by omega)]
     simp
     omega
theorem zT2:∀ {x y:List Int},x≠y->lexB x y=true\/lexB y x=true
 | [],[],h=>absurd rfl h
 | [],_::_,_=>.inl rfl
 | _::_,[],_=>.inr rfl
 | a::x,b::y,h=>by
   unfold lexB
   by_cases e:a=b
   . subst e
     rw[if_pos rfl,if_pos rfl]
     exact zT2 fun z=>h (by rw[z])
   . rw[if_neg e,if_neg (Ne.symm e)]
     simp
     omega
theorem L2P {α β:Type}{F G:α->β->Prop}{l:List α}{m:List β}(r:Paired F l m)(f:∀a b,F a b->G a b):Paired G l m:=by
 induction r with
 | nil=>exact .nil
 | cons x _ ih=>exact .cons (f _ _ x) ih
noncomputable def rowOf (h:Heap):Value->List Int
 | .ref a=>match h.get? a with
   | some o=>match o.data with
     | .seq xs _=>xs.toList.map numOf
     | _=>[]
   | none=>[]
 | _=>[]
noncomputable def RowIs (h:Heap) (v:Value) (k:List Int):Prop:=∃a o xs n,v = .ref a/\h.get? a=some o/\o.cls = .type "tuple"/\o.data = .seq xs n/\IntsAre xs.toList k
theorem ints_nums {vs:List Value}{ns:List Int}(h:IntsAre vs ns):vs.map numOf=ns:=by
 induction h with
 | nil=>rfl
 | cons _ _ _ ih=>rw[List.map_cons,ih];rfl
theorem RowIs.row {h:Heap}{v:Value}{k:List Int}(x:RowIs h v k):rowOf h v=k:=by
 obtain⟨a,o,xs,n,rfl,ho,hc,hd,hi⟩:=x
 unfold rowOf
 dsimp only
 rw[ho]
 dsimp only
 rw[hd]
 exact ints_nums hi
theorem RowIs.keep {h h':Heap} {v:Value} {k:List Int} (x:RowIs h v k) (kp:∀b o,h.get? b=some o->o.cls = .type "tuple"->h'.get? b=some o):RowIs h' v k:=by
 obtain⟨a,o,xs,n,rfl,ho,hc,hd,hi⟩:=x
 exact⟨a,o,xs,n,rfl,kp a o ho hc,hc,hd,hi⟩
section
variable {prog:Program} {w:World} {A:Around} {E:Value->Shared->Prop} {s:Shared}
theorem lex_int {b:Bool}{p q:Int}{t u:Tok}{i:Nat}{Q:Bool->Shared->Prop}(h:Q (decide (p<q)) s):wpAny (model prog w) A (oneLt' (b && i == 0) (.int p t) (.int q u)) Q E s:=by
 cases (b && i == 0) with
 | true=>exact oneLt_int h
 | false=>exact kat_one _ _ (PyProof.Rows.lt_int h)
theorem zW9 {b:Bool}{Q:Bool->Shared->Prop}:∀(xs ys:List Value) (k l:List Int) (i:Nat),IntsAre xs k->IntsAre ys l->Q (lexB k l) s->KatLex prog w A b (decide (k.length<l.length)) Q (xs.zip ys) i s
 | [],[],[],[],i,_,_,h=>by
   refine kat_nil ?_
   exact h
 | [],y::ys,[],m::l,i,_,_,h=>by
   refine kat_nil ?_
   have e:decide (([]:List Int).length<(m::l).length)=true:=by simp
   rw[e]
   exact h
 | x::xs,[],m::k,[],i,_,_,h=>by
   refine kat_nil ?_
   have e:decide ((m::k).length<([]:List Int).length)=false:=by simp
   rw[e]
   exact h
 | x::xs,y::ys,m::k,n::l,i,hx,hy,h=>by
   obtain⟨t,rfl,hx'⟩:∃t,x = .int m t/\IntsAre xs k:=by cases hx;exact⟨_,rfl,by assumption⟩
   obtain⟨u,rfl,hy'⟩:∃t,y = .int n t/\IntsAre ys l:=by cases hy;exact⟨_,rfl,by assumption⟩
   show KatLex prog w A b _ Q ((Value.int m t,Value.int n u)::xs.zip ys) i s
   refine kat_cons (wpAny_eqBool_int ?_)
   unfold lexB at h
   by_cases e:m=n
   . subst e
     rw[if_pos rfl] at h
     rw[show(m == m)=true by simp]
     refine kat_yes ?_
     have e2:decide ((m::k).length<(m::l).length)=decide (k.length<l.length):=by simp
     rw[e2]
     exact zW9 xs ys k l (i+1) hx' hy' h
   . rw[if_neg e] at h
     rw[show(m == n)=false by simpa using e]
     exact kat_no (lex_int h)
 | [],_,_::_,_,_,h,_,_=>nomatch h
 | _::_,_,[],_,_,h,_,_=>nomatch h
 | _,[],_,_::_,_,_,h,_=>nomatch h
 | _,_::_,_,[],_,_,h,_=>nomatch h
theorem rows_lt {b:Bool}{x y:Value}{k l:List Int}{Q:Bool->Shared->Prop}(hx:RowIs s.heap x k)(hy:RowIs s.heap y l)(h:Q (lexB k l) s):wpAny (model prog w) A (keyLt' (tuples' b) x y) Q E s:=by
 obtain⟨a,o,xs,n,rfl,ho,hc,hd,hi⟩:=hx
 obtain⟨a',o',ys,n',rfl,ho',hc',hd',hi'⟩:=hy
 refine kat_lt ho hd ho' hd' ?_
 have e:decide (xs.size<ys.size)=decide (k.length<l.length):=by
   rw[<-hi.length,<-hi'.length,Array.length_toList,Array.length_toList]
 rw[e]
 exact zW9 _ _ _ _ 0 hi hi' h
theorem zy4:∀(vs:List Value),vs.zip vs=vs.map fun v=>(v,v)
 | []=>rfl
 | v::vs=>by rw[List.zip_cons_cons,zy4 vs];rfl
theorem rows_map {h:Heap}{vs:List Value}{ks:List (List Int)}(r:Paired (RowIs h) vs ks):vs.map (rowOf h)=ks:=by
 induction r with
 | nil=>rfl
 | cons x _ ih=>rw[List.map_cons,x.row,ih]
theorem zy5 {h:Heap}{vs:List Value}{ks:List (List Int)}(r:Paired (RowIs h) vs ks):∀v∈vs,∃k∈ks,RowIs h v k:=by
 induction r with
 | nil=>intro v hv;cases hv
 | cons x _ ih =>
   intro v hv
   rcases List.mem_cons.mp hv with rfl | hv
   . exact⟨_,.head _,x⟩
   . obtain⟨k,hk,y⟩:=ih v hv
     exact⟨k,.tail _ hk,y⟩
theorem rows_tups {h:Heap}{vs:List Value}{ks:List (List Int)}(r:Paired (RowIs h) vs ks)(hne:∀k∈ks,k≠[]):∃fs,KatTups h vs fs/\fs.length=vs.length/\∀f∈fs,∃m t,f = .int m t:=by
 induction r with
 | nil=>exact⟨[],KatTups.nil,rfl,fun f hf=>by cases hf⟩
 | @cons v k vs ks x _ ih =>
   obtain⟨fs,e,l,q⟩:=ih fun k hk=>hne k (.tail _ hk)
   obtain⟨a,o,xs,n,rfl,ho,hc,hd,hi⟩:=x
   have z:=hne k (.head _)
   obtain⟨m,t,hx⟩:∃m t,xs[0]?=some (.int m t):=by
     rw[<-Array.getElem?_toList]
     cases hi':xs.toList with
     | nil=>rw[hi'] at hi;cases hi;exact absurd rfl z
     | cons y ys=>rw[hi'] at hi;cases hi;exact⟨_,_,rfl⟩
   refine⟨.int m t::fs,KatTups.cons ho hc hd hx e,by simp[l],fun f hf=>?_⟩
   rcases List.mem_cons.mp hf with rfl | hf
   . exact⟨m,t,rfl⟩
   . exact q f hf
theorem zO5 (vs:List Value):(vs.map fun v=>((v,v):Keyed)).map (·.2)=vs:=by
 rw[List.map_map]
 exact List.map_id vs
theorem sort_rows {a:Addr} {vs:List Value} {ks:List (List Int)} {n:Nat} {P:PySem.Fin->Shared->Prop} (ho:s.heap.get? a=some (seqObj "list" vs.toArray n)) (hz:vs.length<=sizeLine)
   (hk:Paired (RowIs s.heap) vs ks) (hne:2<=vs.length->∀k∈ks,k≠[]) (hd:ks.Nodup)
   (h:∀h' out c,(∀b o,b≠a->s.heap.get? b=some o->h'.get? b=some o)->h'.get? a=some (seqObj "list" (List.toArray out) c)->out.Perm vs->out.Pairwise (fun x y=>lexB (rowOf s.heap x) (rowOf s.heap y)=true)->P (.done (.ret .none)) { s with heap:=h' }) :
   wpAny (model prog w) A (Builtin.«list.sort» ⟨[.ref a],[]⟩) P E s:=by
 have ha:a<s.heap.objs.size:=Heap.lt_size ho
 rw[list_sort_plain]
 refine wpAny_bind (listItems_at ho rfl ?_)
 refine wpAny_bind (listUpdate_at ho rfl ?_ (by rw[List.size_toArray];exact hz) (Nat.zero_le _))
 obtain⟨e1,ho1⟩:∃e1,(s.heap.update a (Obj.mapSeq fun _=>(#[]:Array Value))).get? a=some (seqObj "list" #[] e1):=⟨_,get?_update_seq ho fun _=>#[]⟩
 have k1:∀b o,b≠a->s.heap.get? b=some o->(s.heap.update a (Obj.mapSeq fun _=>(#[]:Array Value))).get? b=some o:=fun b o hb e=>(Heap.get?_update_other _ _ (Ne.symm hb)).trans e
 refine wpAny_bind (seqEpoch_at ho1 rfl ?_)
 refine wpAny_bind (wpAny_newTuple ?_ (by show vs.length<=_;exact hz))
 refine wpAny_bind (wpAny_newList ?_ (Nat.zero_le _))
 refine wpAny_holding ?_
 have ho2:(((s.heap.update a (Obj.mapSeq fun _=>(#[]:Array Value))).push (seqObj "tuple" vs.toArray 0)).push (seqObj "list" #[] 0)).get? a=some (seqObj "list" #[] e1):=Heap.get?_push_of_some _ (Heap.get?_push_of_some _ ho1)
 have k2:∀b o,b≠a->s.heap.get? b=some o->(((s.heap.update a (Obj.mapSeq fun _=>(#[]:Array Value))).push (seqObj "tuple" vs.toArray 0)).push (seqObj "list" #[] 0)).get? b=some o:=fun b o hb e =>
   Heap.get?_push_of_some _ (Heap.get?_push_of_some _ (k1 b o hb e))
 show wpAny (model prog w) A _ P E { s with heap:=((s.heap.update a (Obj.mapSeq fun _=>(#[]:Array Value))).push (seqObj "tuple" vs.toArray 0)).push (seqObj "list" #[] 0) }
 generalize((s.heap.update a (Obj.mapSeq fun _=>(#[]:Array Value))).push (seqObj "tuple" vs.toArray 0)).push (seqObj "list" #[] 0)=h3 at ho2 k2 ⊢
 have kt:∀b o,s.heap.get? b=some o->o.cls = .type "tuple"->h3.get? b=some o:=fun b o e hc=>k2 b o (fun z=>by
   rw[z,ho] at e
   cases e
   exact absurd (show Value.type "list" = Value.type "tuple" from hc) (by simp)) e
 have tail:∀(st:SortSt) (out:List Value),(arrOf st).map (·.2)=out.toArray->failedOf st=none->out.Perm vs->out.Pairwise (fun x y=>lexB (rowOf s.heap x) (rowOf s.heap y)=true) →
     wpAny (model prog w) A (do
       let sorted:=(arrOf st).map (·.2)
       let touched:=(<-seqEpoch a) != e1
       Builtin.List.listUpdate (.ref a) fun _=>sorted
       if let some e:=failedOf st then rule "list.sort.comparison-raised";throw e
       if touched then rule "list.sort.modified";raiseError "ValueError" "list modified during sort"
       ret .none) P E { s with heap:=h3 }:=fun st out h1 h2 h3' h4=>by
   dsimp only
   rw[h1]
   refine wpAny_bind (seqEpoch_at ho2 rfl ?_)
   refine wpAny_bind (listUpdate_at ho2 rfl ?_ (Nat.zero_le _) (by show out.toArray.size<=_;rw[List.size_toArray,h3'.length_eq];omega))
   rw[h2]
   simp only[bne_self_eq_false,Bool.false_eq_true,if_false]
   refine wpAny_pure ?_
   obtain⟨c,hc⟩:∃c,(h3.update a (Obj.mapSeq fun _=>out.toArray)).get? a=some (seqObj "list" out.toArray c):=⟨_,get?_update_seq ho2 fun _=>out.toArray⟩
   exact h _ out c (fun b o hb e=>(Heap.get?_update_other _ _ (Ne.symm hb)).trans (k2 b o hb e)) hc h3' h4
 dsimp only
 by_cases h2:vs.toArray.size<2
 . rw[if_pos h2,if_pos h2]
   refine wpAny_bind (wpAny_pure ?_)
   rw[StateT.run_pure]
   refine wpAny_bind (wpAny_pure ?_)
   refine tail _ vs ?_ rfl (.refl _) ?_
   . show(vs.toArray.zip vs.toArray).map (·.2)=vs.toArray
     apply Array.toList_inj.mp
     rw[Array.toList_map,show(vs.toArray.zip vs.toArray).toList=vs.zip vs by simp,zy4,zO5]
   . rw[List.size_toArray] at h2
     match vs,h2 with
     | [],_=>exact .nil
     | [_],_=>exact List.pairwise_singleton _ _
     | _::_::_,h2=>exact absurd h2 (by simp)
 . rw[if_neg h2,if_neg h2]
   rw[List.size_toArray] at h2
   have hk3:Paired (RowIs h3) vs ks:=L2P hk fun v k x=>x.keep kt
   obtain⟨fs,f1,f2,f3⟩:=rows_tups hk3 (hne (by omega))
   refine wpAny_bind (kat_kind (s:={ s with heap:=h3 }) (T:=.type "int") f1 (by omega) (fun v hv=>by obtain⟨m,t,rfl⟩:=f3 v hv;exact Looks.now) (by decide) ?_)
   have c:Cmp (model prog w) A { s with heap:=h3 } (tuples' (Value.type "int" != Value.type "tuple")) (fun x y=>lexB (rowOf s.heap x.1) (rowOf s.heap y.1)) (vs.toArray.zip vs.toArray).toList:=by
     rw[show(vs.toArray.zip vs.toArray).toList=vs.zip vs by simp,zy4]
     refine⟨fun x hx y hy=>?_,fun x y z=>zT0,fun x y=>zT1,?_⟩
     . obtain⟨x,hx',rfl⟩:=List.mem_map.mp hx
       obtain⟨y,hy',rfl⟩:=List.mem_map.mp hy
       obtain⟨kx,_,rx⟩:=zy5 hk x hx'
       obtain⟨ky,_,ry⟩:=zy5 hk y hy'
       refine rows_lt (s:={ s with heap:=h3 }) (rx.keep kt) (ry.keep kt) ⟨rfl,?_⟩
       rw[rx.row,ry.row]
     . rw[List.pairwise_map]
       have e:=rows_map hk
       rw[<-e] at hd
       have hd':vs.Pairwise fun x y=>rowOf s.heap x≠rowOf s.heap y:=List.pairwise_map.mp hd
       exact hd'.imp fun z=>zT2 z
   refine wpAny_bind (wpAny_mono (wp_sortRuns (E:=E) (Q:=fun _ st=>∃br pd g,st=SortSt.mk' (tuples' (Value.type "int" != Value.type "tuple")) br pd g none/\br.toList.Perm (vs.toArray.zip vs.toArray).toList/\br.toList.Pairwise (LtR fun x y=>lexB (rowOf s.heap x.1) (rowOf s.heap y.1))) c fun br pd g q1 q2=>⟨br,pd,g,rfl,q1,q2⟩) ?_ fun _ _ e=>e)
   rintro⟨⟨⟩,st⟩ s' ⟨rfl,br,pd,g,rfl,q1,q2⟩
   rw[show(vs.toArray.zip vs.toArray).toList=vs.zip vs by simp,zy4] at q1
   refine tail _ (br.toList.map (·.2)) ?_ rfl ?_ ?_
   . apply Array.toList_inj.mp
     simp
   . have:=q1.map (·.2)
     rw[zO5] at this
     exact this
   . rw[List.pairwise_map]
     refine q2.imp_of_mem fun {x y} hx hy z=>?_
     obtain⟨v,_,rfl⟩:=List.mem_map.mp (q1.mem_iff.mp hx)
     obtain⟨u,_,rfl⟩:=List.mem_map.mp (q1.mem_iff.mp hy)
     exact z
theorem sorted_rows {x:Value}{vs:List Value}{ks:List (List Int)}{Q:Value->Shared->Prop}(hz:vs.length<=sizeLine)(hk:Paired (RowIs s.heap) vs ks)(hne:2<=vs.length->∀k∈ks,k≠[])(hd:ks.Nodup)
   (hc:∀(R:List Value->Shared->Prop) (E:Value->Shared->Prop),(∀(h':Heap) (tk:Nat),(∀b o,s.heap.get? b=some o->h'.get? b=some o)->R vs { s with heap:=h',toks:=tk })->wpAny (model prog w) A.in1 (collect x) R E s)
   (h:∀(h1:Heap) (tk:Nat),(∀b o,s.heap.get? b=some o->h1.get? b=some o)->∀(h':Heap) (out:List Value) (c:Nat),(∀b o,h1.get? b=some o->h'.get? b=some o)->h'.get? h1.objs.size=some (seqObj "list" (List.toArray out) c)->out.Perm vs →
     out.Pairwise (fun x y=>lexB (rowOf s.heap x) (rowOf s.heap y)=true)->Q (.ref h1.objs.size) { s with heap:=h',toks:=tk }) :
   wpAny (model prog w) A (call (.builtin "sorted") [x]) Q E s:=by
 refine Calls.call_function_entry kind_sorted plain_sorted entry_sorted (args_sorted1 _) ?_
 unfold Builtin.«sorted»
 refine wpAny_bind (m:=checkCount "sorted" 1 1 _) (wpAny_pure ?_)
 refine wpAny_bind (hc _ _ fun h1 tk k1=>?_)
 refine wpAny_bind (wpAny_newList ?_ hz)
 have k2:∀b o,s.heap.get? b=some o->(h1.push (seqObj "list" vs.toArray 0)).get? b=some o:=fun b o e=>Heap.get?_push_of_some _ (k1 b o e)
 have ho:(h1.push (seqObj "list" vs.toArray 0)).get? h1.objs.size=some (seqObj "list" vs.toArray 0):=Heap.get?_push_size _ rfl
 show wpAny _ _ _ _ _ { s with heap:=h1.push (seqObj "list" vs.toArray 0),toks:=tk }
 have hk2:Paired (RowIs (h1.push (seqObj "list" vs.toArray 0))) vs ks:=L2P hk fun v k x=>x.keep fun b o e _=>k2 b o e
 have re:∀x y,x∈vs->y∈vs->lexB (rowOf (h1.push (seqObj "list" vs.toArray 0)) x) (rowOf (h1.push (seqObj "list" vs.toArray 0)) y)=true->lexB (rowOf s.heap x) (rowOf s.heap y)=true:=fun x y hx hy z=>by
   obtain⟨kx,_,rx⟩:=zy5 hk x hx
   obtain⟨ky,_,ry⟩:=zy5 hk y hy
   rw[(rx.keep fun b o e _=>k2 b o e).row,(ry.keep fun b o e _=>k2 b o e).row] at z
   rw[rx.row,ry.row]
   exact z
 refine wpAny_bind (wpAny_holding (wpAny_call_entry slot_list_sort ⟨_,ho,rfl⟩ entry_list_sort (sort_rows (s:={ s with heap:=h1.push (seqObj "list" vs.toArray 0),toks:=tk }) ho hz hk2 hne hd fun h' out c k3 ho' hp hs=>⟨_,rfl,?_⟩) (args_list_sort _)))
 refine wpAny_pure ⟨_,rfl,h h1 tk k1 h' out c (fun b o e=>k3 b o (Nat.ne_of_lt (Heap.lt_size e)) (Heap.get?_push_of_some _ e)) ho' hp ?_⟩
 exact hs.imp_of_mem fun {x y} hx hy z=>re x y (hp.mem_iff.mp hx) (hp.mem_iff.mp hy) z
end
end Sx
namespace L2
open PySem PySem.Spec PyProof.Rows
section
variable {κ:Type} [DecidableEq κ]
noncomputable def valV (kvs:List (κ×V))(k:κ):Option V:=(kvs.find? fun kv=>decide (kv.1=k)).map (·.2)
noncomputable def putK (kvs:List (κ×V))(k:κ)(v:V):List (κ×V) :=
 if (kvs.any fun kv=>decide (kv.1=k))=true then kvs.map (fun kv=>if kv.1=k then(kv.1,v) else kv) else kvs++[(k,v)]
theorem zy6 {p:κ×V}{r:List (κ×V)}{k:κ}(e:p.1=k):valV (p::r) k=some p.2:=by simp[valV,List.find?_cons,e]
theorem zt5 {p:κ×V}{r:List (κ×V)}{k:κ}(e:¬ p.1=k):valV (p::r) k=valV r k:=by simp[valV,List.find?_cons,e]
theorem zF3 (k:κ):∀kvs:List (κ×V),(kvs.any fun kv=>decide (kv.1=k))=(valV kvs k).isSome
 | []=>rfl
 | p::r=>by
   rw[List.any_cons]
   by_cases e:p.1=k
   . simp only[zy6 e,decide_eq_true e,Bool.true_or,Option.isSome_some]
   . rw[zt5 e,decide_eq_false e,Bool.false_or];exact zF3 k r
theorem zC4 (kvs:List (κ×V))(k:κ)(v:V):(putK kvs k v).length<=kvs.length+1:=by
 unfold putK
 split
 . rw[List.length_map];omega
 . rw[List.length_append,List.length_cons,List.length_nil];omega
theorem putK_new {kvs:List (κ×V)}{k:κ}(v:V)(h:valV kvs k=none):putK kvs k v=kvs++[(k,v)]:=by
 unfold putK
 rw[zF3,h]
 exact if_neg (by decide)
theorem RelO.isSome_eq {o:Option V}{u:Option Value}(r:RelO o u):o.isSome=u.isSome:=by
 cases o with
 | none=>cases u with
   | none=>rfl
   | some _=>exact(show False from r).elim
 | some _=>cases u with
   | none=>exact(show False from r).elim
   | some _=>rfl
theorem KV.val {kvs:List (κ×V)}{vs:List (κ×Value)}(r:KV kvs vs)(k:κ):RelO (valV kvs k) (valueAt vs k):=by
 unfold KV at r
 induction r with
 | nil=>exact True.intro
 | @cons p q ps qs h t ih =>
   obtain⟨h1,h2⟩:=h
   by_cases e:p.1=k
   . have e':q.1=k:=h1.symm.trans e
     have b:valueAt (q::qs) k=some q.2:=by simp[valueAt,List.find?_cons,e']
     rw[zy6 e,b];exact h2
   . have e':¬ q.1=k:=fun z=>e (h1.trans z)
     have b:valueAt (q::qs) k=valueAt qs k:=by simp[valueAt,List.find?_cons,e']
     rw[zt5 e,b];exact ih
theorem KV.any {kvs:List (κ×V)}{vs:List (κ×Value)}(r:KV kvs vs)(k:κ):(kvs.any fun kv=>decide (kv.1=k))=vs.any fun kv=>decide (kv.1=k):=by
 unfold KV at r
 induction r with
 | nil=>rfl
 | cons h t ih=>rw[List.any_cons,List.any_cons,ih,h.1]
theorem KV.repl {kvs:List (κ×V)}{vs:List (κ×Value)}(r:KV kvs vs)(k:κ){y:V}{u:Value}(ry:RelV y u) :
   KV (kvs.map fun kv=>if kv.1=k then(kv.1,y) else kv) (vs.map fun kv=>if kv.1=k then(kv.1,u) else kv):=by
 unfold KV at r ⊢
 induction r with
 | nil=>exact .nil
 | @cons p q ps qs h t ih =>
   rw[List.map_cons,List.map_cons]
   refine .cons ?_ ih
   obtain⟨h1,h2⟩:=h
   by_cases e:p.1=k
   . rw[if_pos e,if_pos (h1.symm.trans e)];exact⟨h1,ry⟩
   . rw[if_neg e,if_neg (fun z=>e (h1.trans z))];exact⟨h1,h2⟩
theorem KV.put {kvs:List (κ×V)}{vs:List (κ×Value)}(r:KV kvs vs)(k:κ){y:V}{u:Value}(ry:RelV y u):KV (putK kvs k y) (stored vs k u):=by
 unfold putK stored
 rw[r.any k]
 by_cases e:(vs.any fun kv=>decide (kv.1=k))=true
 . rw[if_pos e,if_pos e];exact r.repl k ry
 . rw[if_neg e,if_neg e];exact Paired.snoc r ⟨rfl,ry⟩
theorem KV.length {kvs:List (κ×V)}{vs:List (κ×Value)}(r:KV kvs vs):kvs.length=vs.length:=Paired.length r
end
theorem zT3 {P:Program}{w:World}{k:Key}{u:Value}(r:RelV (kV k) u):(zh5 P w).is k u=true:=by
 cases k with
 | inl i=>obtain⟨t,e⟩:=(show ∃t,u=Value.int i t from r);subst e;exact mixKind_int P w i t
 | inr x=>obtain⟨t,e⟩:=(show ∃t,u=Value.str x t from r);subst e;exact mixKind_str P w x t
theorem zJ0 {P:Program}{w:World}:∀ {ks:List Key} {us:List Value},Vals (ks.map kV) us->ItemsAre (zh5 P w) ks us
 | [],_,r=>by rw[List.map_nil] at r;cases r;exact .nil
 | k::ks,_,r=>by
   rw[List.map_cons] at r
   cases r with
   | cons h t=>exact .cons (zT3 h) (zJ0 t)
noncomputable abbrev KT (H:Hp):List (List Key×V)->List (List Key×Addr×Value)->Prop:=Paired fun p q=>p.1=q.1/\H q.2.1=some (.tup (p.1.map kV))/\RelV p.2 q.2.2
theorem KT.val {H:Hp}{kvs:List (List Key×V)}{xs:List (List Key×Addr×Value)}(r:KT H kvs xs)(k:List Key):RelO (valV kvs k) ((atKey xs k).map (·.2)):=by
 induction r with
 | nil=>exact True.intro
 | @cons p q ps qs h t ih =>
   obtain⟨h1,_,h2⟩:=h
   by_cases e:p.1=k
   . have e':q.1=k:=h1.symm.trans e
     have b:atKey (q::qs) k=some q.2:=by simp[atKey,List.find?_cons,e']
     rw[zy6 e,b];exact h2
   . have e':¬ q.1=k:=fun z=>e (h1.trans z)
     have b:atKey (q::qs) k=atKey qs k:=by simp[atKey,List.find?_cons,e']
     rw[zt5 e,b];exact ih
theorem KT.repl {H:Hp}{kvs:List (List Key×V)}{xs:List (List Key×Addr×Value)}(r:KT H kvs xs)(k:List Key){y:V}{u:Value}(ry:RelV y u) :
   KT H (kvs.map fun kv=>if kv.1=k then(kv.1,y) else kv) (xs.map (putAt k u)):=by
 induction r with
 | nil=>exact .nil
 | @cons p q ps qs h t ih =>
   rw[List.map_cons,List.map_cons]
   refine .cons ?_ ih
   obtain⟨h1,h2,h3⟩:=h
   unfold putAt
   by_cases e:p.1=k
   . rw[if_pos e,if_pos (h1.symm.trans e)];exact⟨h1,h2,ry⟩
   . rw[if_neg e,if_neg (fun z=>e (h1.trans z))];exact⟨h1,h2,h3⟩
theorem KT.put {H:Hp}{kvs:List (List Key×V)}{xs:List (List Key×Addr×Value)}(r:KT H kvs xs)(k:List Key){b:Addr}{y:V}{u:Value}(hb:H b=some (.tup (k.map kV)))(ry:RelV y u) :
   KT H (putK kvs k y) (storedH xs k b u):=by
 have e:(kvs.any fun kv=>decide (kv.1=k))=(atKey xs k).isSome:=by
   rw[zF3,(r.val k).isSome_eq,Option.isSome_map]
 unfold putK storedH
 rw[e]
 by_cases q:(atKey xs k).isSome=true
 . rw[if_pos q,if_pos q];exact r.repl k ry
 . rw[if_neg q,if_neg q];exact Paired.snoc r ⟨rfl,hb,ry⟩
theorem KT.keeps {H H':Hp}{kvs:List (List Key×V)}{xs:List (List Key×Addr×Value)}(r:KT H kvs xs)(ht:∀b ys,H b=some (.tup ys)->H' b=some (.tup ys)):KT H' kvs xs :=
 Paired.mapP r fun _ _ z=>⟨z.1,ht _ _ z.2.1,z.2.2⟩
section
variable {P:Program} {w:World} {H:Hp} {h:Heap} {a:Addr}
theorem zY7 {u:HO}(ok:HOk P w H h)(e:Rd H a u):zg7 P w H h a u:=e.ok ok
theorem zT4 {kvs:List (Key×V)}(ok:HOk P w H h)(e:Rd H a (.dK kvs)):kvs.length<=sizeLine/\(a == sysModules)=false/\∃vs,KV kvs vs/\h.DictOf (zh5 P w) a vs :=
 show zg7 P w H h a (.dK kvs) from zY7 ok e
theorem dk_of {kvs:List (Key×V)}(ok:HOk P w H h)(e:H a=some (.dK kvs)):kvs.length<=sizeLine/\(a == sysModules)=false/\∃vs,KV kvs vs/\h.DictOf (zh5 P w) a vs:=zT4 ok (.inl e)
theorem zF4 {ks:List Key}(ok:HOk P w H h)(e:H a=some (.tup (ks.map kV))):(tupleKind (zh5 P w)).is h ks a:=by
 obtain⟨_,its,r,o,h1,h2,_,n,h3⟩:=(show zg7 P w H h a (.tup (ks.map kV)) from ok a _ e)
 exact⟨o,its.toArray,n,h1,h2,h3,by simpa using zJ0 r⟩
theorem zT5 {kvs:List (List Key×V)}(ok:HOk P w H h)(e:Rd H a (.dT kvs)):kvs.length<=sizeLine/\(a == sysModules)=false ∧
   ∃xs,KT H kvs xs/\h.DictOfH (tupleKind (zh5 P w)) a xs:=by
 obtain⟨z,y,xs,r,o,es,ep,h1,h2,h3,h4,h5⟩:=(show zg7 P w H h a (.dT kvs) from zY7 ok e)
 refine⟨z,y,xs,r,o,es,ep,h1,h2,h3,h4,fun x hx=>?_,h5⟩
 have all:∀ {l:List (List Key×V)} {m:List (List Key×Addr×Value)},KT H l m->∀x∈m,(tupleKind (zh5 P w)).is h x.1 x.2.1:=by
   intro l m q
   induction q with
   | nil=>intro x hx;exact nomatch hx
   | @cons p q ps qs hq t ih =>
     intro x hx
     rcases List.mem_cons.mp hx with e | hx
     . subst e
       exact zF4 ok (by rw[<-hq.1];exact hq.2.1)
     . exact ih x hx
 exact all r x hx
theorem zY8 {kvs:List (List Key×V)}(ok:HOk P w H h)(e:H a=some (.dT kvs)):kvs.length<=sizeLine/\(a == sysModules)=false ∧
 ∃xs,KT H kvs xs/\h.DictOfH (tupleKind (zh5 P w)) a xs:=zT5 ok (.inl e)
end
noncomputable def DGet (H:Hp)(a:Addr)(y:V)(r:Option V):Prop :=
 (∃kvs k,Rd H a (.dK kvs)/\y=kV k/\r=valV kvs k)\/∃kvs k b,Rd H a (.dT kvs)/\y = .ref b/\H b=some (.tup (k.map kV))/\r=valV kvs k
noncomputable def DPut (H:Hp)(a:Addr)(y v:V)(H':Hp):Prop :=
 (∃kvs k,H a=some (.dK kvs)/\y=kV k/\kvs.length<sizeLine/\H'=upd H a (.dK (putK kvs k v))) ∨
 ∃kvs k b,H a=some (.dT kvs)/\y = .ref b/\H b=some (.tup (k.map kV))/\kvs.length<sizeLine/\H'=upd H a (.dT (putK kvs k v))
theorem DGet.t {H:Hp}{a b:Addr}{kvs:List (List Key×V)}{k:List Key}(e:H a=some (.dT kvs))(eb:H b=some (.tup (k.map kV))):DGet H a (.ref b) (valV kvs k):=.inr ⟨kvs,k,b,.inl e,rfl,eb,rfl⟩
theorem DPut.t {H:Hp}{a b:Addr}{kvs:List (List Key×V)}{k:List Key}{v:V}(e:H a=some (.dT kvs))(eb:H b=some (.tup (k.map kV)))(hl:kvs.length<sizeLine) :
 DPut H a (.ref b) v (upd H a (.dT (putK kvs k v))):=.inr ⟨kvs,k,b,e,rfl,eb,hl,rfl⟩
section
variable {X:Cx} {pins:List (Addr×Obj)} {σ:St} {H:Hp} {s:Shared} {a:Addr} {y v:V} {u r:Value} {o:Option V} {A:Around} {E:Value->Shared->Prop}
theorem Inv.big (I:Inv X pins σ H s):sysModules<s.heap.objs.size:=by
 have h:mainGlobals<s.heap.objs.size:=(I.mod.glob.keeps I.bk).lt
 exact Nat.lt_trans (by decide) h
theorem d_getItem {Q:Value->Shared->Prop}(hu:A.units+1<cLine)(I:Inv X pins σ H s)(g:DGet H a y (some v))(ry:RelV y u)(h:∀w' s',Inv X pins σ H s'->RelV v w'->Q w' s') :
   wpAny (model X.prog X.w) A (getItem (.ref a) u) Q E s:=by
 rcases g with⟨kvs,k,e,ey,l⟩ | ⟨kvs,k,b,e,ey,eb,l⟩
 . subst ey
   obtain⟨z,hd,vs,rel,dd⟩:=zT4 I.hok e
   obtain⟨w',hw,rw'⟩:=RelO.some_of (v:=v) (o:=valueAt vs k) (by rw[l];exact rel.val k)
   exact wpAny_getItem_of (zT3 ry) dd.mapOf hw (h w' _ (I.tok _) rw')
 . subst ey
   cases (show u=Value.ref b from ry)
   obtain⟨z,hd,xs,rel,dd⟩:=zT5 I.hok e
   obtain⟨w',hw,rw'⟩:=RelO.some_of (v:=v) (o:=(atKey xs k).map (·.2)) (by rw[l];exact rel.val k)
   obtain⟨p,hp,hp2⟩:=Option.map_eq_some_iff.mp hw
   refine wpAny_getItem_heap (tupleKind_room_in1 hu) (zF4 I.hok eb) dd hp ?_
   rw[hp2]
   exact h w' _ (I.tok _) rw'
theorem d_notIn {Q:Value->Shared->Prop}(hu:A.units+1<cLine)(I:Inv X pins σ H s)(g:DGet H a y o)(ry:RelV y u)(h:∀s',Inv X pins σ H s'->Q (.bool (!o.isSome)) s') :
   wpAny (model X.prog X.w) A (compareOp .NotIn u (.ref a)) Q E s:=by
 rcases g with⟨kvs,k,e,ey,l⟩ | ⟨kvs,k,b,e,ey,eb,l⟩
 . subst ey
   obtain⟨z,hd,vs,rel,dd⟩:=zT4 I.hok e
   refine wpAny_notIn_of (zT3 ry) hd dd.mapOf ?_
   rw[<-(rel.val k).isSome_eq,<-l]
   exact h _ (I.tok _)
 . subst ey
   cases (show u=Value.ref b from ry)
   obtain⟨z,hd,xs,rel,dd⟩:=zT5 I.hok e
   refine wpAny_notIn_heap (tupleKind_room_in1 hu) (zF4 I.hok eb) hd dd ?_
   have q:=(rel.val k).isSome_eq
   rw[Option.isSome_map] at q
   rw[<-q,<-l]
   exact h _ (I.tok _)
theorem zL7 {h':Heap}{t':Nat}{ob:HO}(I:Inv X pins σ H s)(mu:Mut (H a))(hs:Heap.SameBut a s.heap h')(he:∃q,h'.get? a=some q)(new:zg7 X.prog X.w (upd H a ob) h' a ob) :
   Inv X pins σ (upd H a ob) { s with heap:=h',toks:=t' } :=
 I.write (x:=a) (e:=a) mu (.inl rfl) (fun b q hb z=>(hs.2 b hb).trans z) he new
theorem dk_new {P:Program}{w:World}{H':Hp}{h':Heap}{kvs:List (Key×V)}{vs:List (Key×Value)}(z:kvs.length<=sizeLine)(hd:(a == sysModules)=false)(rel:KV kvs vs)(dd:h'.DictOf (zh5 P w) a vs) :
 zg7 P w H' h' a (.dK kvs):=⟨z,hd,vs,rel,dd⟩
theorem d_setItem {H':Hp}{Q:Unit->Shared->Prop}(hu:A.units+1<cLine)(I:Inv X pins σ H s)(g:DPut H a y v H')(ry:RelV y u)(rv:RelV v r)(h:∀s',Inv X pins σ H' s'->Q () s') :
   wpAny (model X.prog X.w) A (setItem (.ref a) u r) Q E s:=by
 rcases g with⟨kvs,k,e,ey,l,eH⟩ | ⟨kvs,k,b,e,ey,eb,l,eH⟩
 . subst ey eH
   obtain⟨z,hd,vs,rel,dd⟩:=dk_of I.hok e
   have hz:vs.length<=sizeLine:=by rw[<-rel.length];exact z
   have hl:(putK kvs k v).length<=sizeLine:=by have:=zC4 kvs k v;omega
   refine wpAny_setItem_pairs (hsz:=hz) (zT3 ry) dd fun h' dd' hs=>h _ ?_
   have he:∃q,h'.get? a=some q:=let⟨q,_,_,hq,_⟩:=dd';⟨q,hq⟩
   exact zL7 I (by rw[e];exact True.intro) hs he (dk_new hl hd (rel.put k rv) dd')
 . subst ey eH
   cases (show u=Value.ref b from ry)
   obtain⟨z,hd,xs,rel,dd⟩:=zY8 I.hok e
   have hz:xs.length<=sizeLine:=by rw[<-Paired.length rel];exact z
   have hl:(putK kvs k v).length<=sizeLine:=by have:=zC4 kvs k v;omega
   refine wpAny_setItem_heap (hsz:=hz) (tupleKind_room_in1 hu) (zF4 I.hok eb) dd fun h' dd' hs=>h _ ?_
   obtain⟨q,es,ep,hq,h2,h3,h4,_,h5⟩:=dd'
   refine zL7 I (by rw[e];exact True.intro) hs ⟨q,hq⟩ ⟨hl,hd,_,(rel.put k eb rv).keeps fun c ys ec=>?_,q,es,ep,hq,h2,h3,h4,h5⟩
   rw[za7 (zv6 ec e (fun z=>nomatch z))]
   exact ec
end
noncomputable def NoSl (i:Expr):Prop:=∀ov iv,subscripted i false ov iv=operate [ov,iv] (getItem ov iv)
theorem subD_of {prog:Program}{w:World}{A:Around}{E:Value->Shared->Prop}{s:Shared}{env:Env}{value slice:Expr}{pos:Pos}{T id:String}{Q:Value->Shared->Prop}
   (hl:typeLookup (.type T) "__getitem__" = pure (some (.builtin id))) (hs:NoSl slice)
   (h:wpAny (model prog w) A (eval value env) (fun o s₁=>wpAny (model prog w) A (eval slice env) (fun i s₂=>s₂.TypeIs o T/\wpAny (model prog w) A (getItem o i) Q E s₂) E s₁) E s) :
   wpAny (model prog w) A (eval (.Subscript value slice pos) env) Q E s:=by
 refine Subscript_ (wpAny_mono h (fun o s₁ h₁=>wpAny_mono h₁ (fun i s₂ h₂=>?_) fun _ _ x=>x) fun _ _ x=>x)
 obtain⟨hT,h₂⟩:=h₂
 unfold subscriptTail
 refine wpAny_bind ?_
 rw[getitemInPython_of_ne hT.not_modules]
 refine wpAny_bind (wpAny_specialOf hT hl ?_)
 have fin:wpAny (model prog w) A (subscripted slice false o i) (fun r s₃=>wpAny (model prog w) A (letTemporaryGo value o r >>= fun _=>pure r) Q E s₃) E s₂:=by
   rw[hs o i]
   exact wpAny_operating (wpAny_mono h₂ (fun r s₃ h₃=>wpAny_bind (wpAny_letTemporaryGo (wpAny_pure h₃))) fun _ _ x=>x)
 first
   | exact wpAny_pure (wpAny_bind fin)
   | exact wpAny_bind (wpAny_pure (wpAny_bind fin))
   | exact wpAny_bind fin
theorem dict_typeIs {X:Cx} {pins:List (Addr×Obj)} {σ:St} {H:Hp} {s:Shared} {a:Addr} {y:V} {o:Option V} (I:Inv X pins σ H s) (g:DGet H a y o):s.TypeIs (.ref a) "dict":=by
 rcases g with⟨kvs,k,e,_,_⟩ | ⟨kvs,k,b,e,_,_,_⟩
 . obtain⟨_,_,vs,_,dd⟩:=zT4 I.hok e
   exact dd.typeIs
 . obtain⟨_,_,xs,_,dd⟩:=zT5 I.hok e
   exact dd.typeIs
noncomputable def tDGet (td ty:TE):TE:=fun σ H Q=>td σ H fun x H1=>ty σ H1 fun y H2=>∃a v,x = .ref a/\DGet H2 a y (some v)/\Q v H2
noncomputable def tDNotIn (ty td:TE):TE:=fun σ H Q=>ty σ H fun y H1=>td σ H1 fun x H2=>∃a o,x = .ref a/\DGet H2 a y o/\Q (.bl (!o.isSome)) H2
noncomputable def sDPut (td ty tv:TE):TS:=fun D σ H=>tv σ H fun v H1=>td σ H1 fun x H2=>ty σ H2 fun y H3=>∃a H4,x = .ref a/\DPut H3 a y v H4/\D.nx σ H4
section
variable {X:Cx} {o i e value:Expr} {pos pos' tpos:Pos} {td ty tv:TE}
theorem zL8 (hu:X.A.units+1<cLine)(ho:PE X o td)(hi:PE X i ty)(hs:NoSl i):PE X (.Subscript o i pos) (tDGet td ty):=by
 intro pins s σ H Q I h
 refine subD_of PySem.F.slot_dict_getitem.lookup hs (thn (ho pins s σ H _ I h) fun u s1 ⟨x,H1,I1,rx,q1⟩=>thn (hi pins s1 σ H1 _ I1 q1) fun iv s2 ⟨y,H2,I2,ry,a,v,ex,g,q2⟩=>?_)
 subst ex
 obtain rfl:u=Value.ref a:=rx
 exact⟨dict_typeIs I2 g,d_getItem hu I2 g ry fun w' s3 I3 rw'=>⟨v,H2,I3,rw',q2⟩⟩
theorem zJ1 (hu:X.A.units+1<cLine)(hi:PE X i ty)(ho:PE X o td):PC X .NotIn i o (tDNotIn ty td):=by
 intro pins s σ H Q I h
 refine thn (hi pins s σ H _ I h) fun iv s1 ⟨y,H1,I1,ry,q1⟩=>thn (ho pins s1 σ H1 _ I1 q1) fun u s2 ⟨x,H2,I2,rx,a,ov,ex,g,q2⟩=>?_
 subst ex
 obtain rfl:u=Value.ref a:=rx
 exact d_notIn hu I2 g ry fun s3 I3=>⟨.bl (!ov.isSome),H2,I3,rfl,q2⟩
theorem ps_dput (hu:X.A.units+1<cLine)(ho:PE X o td)(hi:PE X i ty)(hv:PE X value tv)(hs:swapsWith value (some (.Subscript o i pos')) pos.line X.env=pure false) :
   PS X (.Assign [.Subscript o i pos'] value pos) (sDPut td ty tv):=by
 intro pins s σ H D I h
 refine wpAny_Assign_Subscript (thn (hv pins s σ H _ I h) fun r s1 ⟨v,H1,I1,rv,q1⟩=>thn (ho pins s1 σ H1 _ I1 q1) fun u s2 ⟨x,H2,I2,rx,q2⟩=>thn (hi pins s2 σ H2 _ I2 q2) fun iv s3 ⟨y,H3,I3,ry,a,H4,ex,g,q3⟩=>?_) hs
 subst ex
 obtain rfl:u=Value.ref a:=rx
 exact d_setItem hu I3 g ry rv fun s4 I4=>⟨σ,H4,I4,q3⟩
end
theorem dt_empty {P:Program} {w:World} {H:Hp} (h:Heap) (hb:sysModules<h.objs.size):zg7 P w H (h.push { cls:=.type "dict",data:=.dict #[] }) h.objs.size (.dT []) :=
 ⟨Nat.zero_le _,beq_eq_false_iff_ne.mpr (Ne.symm (Nat.ne_of_lt hb)),[],.nil,_,#[],0,Heap.get?_push_size _ rfl,⟨rfl,rfl,rfl⟩,rfl,rfl,List.nodup_nil⟩
noncomputable abbrev ik (k:List Int):List Key:=k.map Sum.inl
theorem zT6 (k:List Int):(ik k).map kV=k.map V.int:=by
 unfold ik
 rw[List.map_map]
 rfl
noncomputable def tDisp1 (tk tv:TE):TE:=fun σ H Q=>∀p,H p=none->tk σ (upd H p (.dT [])) fun x H1=>tv σ H1 fun y H2=>H2 p=some (.dT [])/\∃b k,x = .ref b/\H2 b=some (.tup (k.map V.int))/\Q (.ref p) (upd H2 p (.dT [(ik k,y)]))
theorem pe_disp1 {X:Cx}{pos:Pos}{ke ve:Expr}{tk tv:TE}(hu:X.A.units+1<cLine)(hk:PE X ke tk)(hv:PE X ve tv):PE X (.Dict [some ke] [ve] pos) (tDisp1 tk tv):=by
 intro pins s σ H Q I q
 have hn:=I.hok.fresh (Nat.le_refl s.heap.objs.size)
 have I1:=I.laid (a:=s.heap.objs.size) (o:=.dT []) (h':=s.heap.push { cls:=.type "dict",data:=.dict #[] }) (t':=s.toks) (fun _ _ q=>Heap.get?_push_of_some _ q) (Nat.le_refl _) (dt_empty s.heap I.big)
 rw[arm_eval_Dict,zip_pairTrees [some ke] [ve] X.env pos rfl rfl,dictDisplay_pairs _ (by intro z;cases z) (by show(1:Nat)<17;decide)]
 refine wpAny_bind (wpAny_standAt (wpAny_bind ?_))
 unfold subDict
 refine wpAny_bind (wpAny_alloc (wpAny_bind (wpAny_holding ?_)))
 rw[if_pos (by show(1:Nat)<=15;decide)]
 refine wpAny_bind (pairTrees_cons_walk (thn (hk pins _ σ _ _ I1 (q _ hn)) fun u s1 ⟨x,H1,I2,rx,q1⟩=>thn (hv pins s1 σ H1 _ I2 q1) fun r s2 ⟨y,H2,I3,ry,e,b,k,ex,eb,q2⟩=>pairTrees_nil_walk ?_))
 subst ex
 obtain rfl:u=Value.ref b:=rx
 refine wpAny_holding ?_
 rw[List.forIn_cons]
 obtain⟨z,hd,xs,rel,dd⟩:=zY8 I3.hok e
 cases rel
 have eb':H2 b=some (.tup ((ik k).map kV)):=by rw[zT6];exact eb
 refine wpAny_bind (wpAny_bind (wpAny_bind (wpAny_dictSet_heap (hsz:=Nat.zero_le _) (show(tupleKind (zh5 X.prog X.w)).room X.A from Nat.lt_of_succ_lt hu) (zF4 I3.hok eb') dd fun h' dd' hs=>wpAny_pure ?_)))
 dsimp only
 rw[List.forIn_nil]
 refine wpAny_pure (wpAny_pure (wpAny_pure (wpAny_pure ⟨.ref s.heap.objs.size,_,?_,rfl,q2⟩)))
 have g:DPut H2 s.heap.objs.size (.ref b) y _:=DPut.t e eb' (by show 0<sizeLine;rw[sizeLine_eq];decide)
 obtain⟨qo,es,ep,hq,h2,h3,h4,_,h5⟩:=dd'
 refine zL7 I3 (by rw[e];exact True.intro) hs ⟨qo,hq⟩ ⟨by show 1<=sizeLine;rw[sizeLine_eq];decide,hd,_,((KT.put (H:=H2) .nil (ik k) eb' ry)).keeps fun c ys ec=>?_,qo,es,ep,hq,h2,h3,h4,h5⟩
 rw[za7 (zv6 ec e (fun z=>nomatch z))]
 exact ec
noncomputable abbrev Tups (H:Hp)(ys:List V)(ks:List (List Int)):Prop:=Paired (fun y k=>∃b,y = .ref b/\H b=some (.tup (k.map V.int))) ys ks
theorem zX0 {P:Program}{w:World}{H:Hp}{h:Heap}{b:Addr}{k:List Int}(ok:HOk P w H h)(e:H b=some (.tup (k.map V.int))):Sx.RowIs h (.ref b) k:=by
 obtain⟨_,its,r,o,h1,h2,_,n,h3⟩:=(show zg7 P w H h b (.tup (k.map V.int)) from ok b _ e)
 exact⟨b,o,its.toArray,n,rfl,h1,h2,h3,by simpa using zn7 r⟩
theorem zO6 {P:Program}{w:World}{H:Hp}{h:Heap}(ok:HOk P w H h):∀ {ys:List V} {ks:List (List Int)} {us:List Value},Tups H ys ks->Vals ys us->Paired (Sx.RowIs h) us ks
 | _,_,_,.nil,.nil=>.nil
 | _,_,_,.cons ⟨b,e,hb⟩ t,.cons r rs=>by
   subst e
   cases r
   exact .cons (zX0 ok hb) (zO6 ok t rs)
noncomputable def refV:Value->V
 | .ref b=>.ref b
 | _=>.non
theorem Tups.mem {H:Hp}:∀ {ys:List V} {ks:List (List Int)},Tups H ys ks->∀y∈ys,∃b k,y = .ref b/\k∈ks/\H b=some (.tup (k.map V.int))
 | _,_,.nil,y,hy=>nomatch hy
 | _,_,.cons ⟨b,e,hb⟩ t,y,hy=>by
   rcases List.mem_cons.mp hy with rfl | hy
   . exact⟨b,_,e,.head _,hb⟩
   . obtain⟨b',k',e',hk,hb'⟩:=Tups.mem t y hy
     exact⟨b',k',e',.tail _ hk,hb'⟩
theorem zO7:∀ {ys:List V} {us:List Value},Vals ys us->∀u∈us,∃y∈ys,RelV y u
 | _,_,.nil,u,hu=>nomatch hu
 | _,_,.cons r t,u,hu=>by
   rcases List.mem_cons.mp hu with rfl | hu
   . exact⟨_,.head _,r⟩
   . obtain⟨y,hy,ry⟩:=zO7 t u hu
     exact⟨y,.tail _ hy,ry⟩
theorem zT7 {P:Program}{w:World}{H:Hp}{h:Heap}(ok:HOk P w H h):∀(out:List Value),(∀u∈out,∃b k,u = .ref b/\H b=some (.tup (List.map V.int k)))->Tups H (out.map refV) (out.map (Sx.rowOf h))/\Vals (out.map refV) out
 | [],_=>⟨.nil,.nil⟩
 | u::out,hu=>by
   obtain⟨b,k,rfl,hb⟩:=hu u (.head _)
   obtain⟨t,v⟩:=zT7 ok out fun u hu'=>hu u (.tail _ hu')
   rw[List.map_cons,List.map_cons]
   refine⟨.cons ⟨b,rfl,?_⟩ t,.cons rfl v⟩
   rw[(zX0 ok hb).row]
   exact hb
noncomputable def zX1 (H:Hp)(ks:List (List Int))(Q:VK):Prop:=∀l zs js,H l=none->Tups H zs js->js.Perm ks->js.Pairwise (fun x y=>Sx.lexB x y=true)->Q (.ref l) (upd H l (.lst zs))
section
variable {X:Cx}
theorem zJ2 {pins:List (Addr×Obj)}{s:Shared}{σ:St}{H:Hp}{Q:VK}{x:Value}{ys:List V}{ks:List (List Int)}{us:List Value}(I:Inv X pins σ H s)(hz:ys.length<=sizeLine)(ht:Tups H ys ks)(hv:Vals ys us)(hd:ks.Nodup)(hne:2<=ys.length->∀k∈ks,k≠[])
   (hc:∀(R:List Value->Shared->Prop) (E:Value->Shared->Prop),(∀(h':Heap) (tk:Nat),(∀b o,s.heap.get? b=some o->h'.get? b=some o)->R us { s with heap:=h',toks:=tk })->wpAny (model X.prog X.w) X.A.in1 (collect x) R E s)
   (q:zX1 H ks Q):wpAny (model X.prog X.w) X.A (call (.builtin "sorted") [x]) (EP X pins σ Q) X.xe s:=by
 have hl:=hv.length
 have hr:=zO6 I.hok ht hv
 refine Sx.sorted_rows (by omega) hr (fun z=>hne (by omega)) hd hc fun h1 tk k1 h' out c k2 ho hp hs=>?_
 have mem:∀u∈out,∃b k,u = .ref b/\H b=some (.tup (List.map V.int k)):=fun u hu=>by
   obtain⟨y,hy,ry⟩:=zO7 hv u (hp.mem_iff.mp hu)
   obtain⟨b,k,rfl,_,hb⟩:=ht.mem y hy
   exact⟨b,k,ry,hb⟩
 obtain⟨t1,t2⟩:=zT7 I.hok out mem
 have I1:Inv X pins σ H { s with heap:=h1,toks:=tk }:=I.kept k1
 have e1:=hp.map (Sx.rowOf s.heap)
 rw[Sx.rows_map hr] at e1
 refine⟨.ref h1.objs.size,_,I1.laid (s:={ s with heap:=h1,toks:=tk }) (t':=tk) (o:=.lst (out.map refV)) k2 (Nat.le_refl _) (show zg7 X.prog X.w _ h' _ (.lst _) from⟨?_,out,c,t2,ho⟩),rfl,q h1.objs.size _ _ (I1.hok.fresh (Nat.le_refl _)) t1 e1 (List.pairwise_map.mpr hs)⟩
 rw[List.length_map,hp.length_eq]
 omega
theorem call_sortL:zp0 X (.builtin "sorted") (fun xs H Q=>∃p ys ks,xs=[.ref p]/\SqL X.K H p ys/\Tups H ys ks/\ks.Nodup/\(2<=ys.length->∀k∈ks,k≠[])/\zX1 H ks Q):=by
 intro pins s σ H xs us Q I r h
 obtain⟨p,ys,ks,rfl,hq,ht,hd,hne,q⟩:=h
 obtain⟨u,rfl,ru⟩:=zC0 r
 cases ru
 obtain⟨its,rv,pl,hz⟩:=I.list hq
 refine zJ2 I hz ht rv hd hne (fun R E hR=>?_) q
 have hl:=rv.length
 have e:(s.heap.push (seqObj "list" #[] 0)).objs.size=s.heap.objs.size+1:=size_push' _ _
 refine collect_list pl.isList (hR _ s.toks fun b o z=>?_) (by omega)
 rw[Heap.get?_update_ne _ _ _ _ (Nat.ne_of_lt (Heap.lt_size z))]
 exact Heap.get?_push_of_some _ z
theorem zJ3 {P:Program}{w:World}:∀ {H:Hp} {kvs:List (List Key×V)} {xs:List (List Key×Addr×Value)},KT H kvs xs->∀ {ks:List (List Int)},kvs.map (·.1)=ks.map ik →
   Tups H (xs.map fun x=>V.ref x.2.1) ks/\Vals (xs.map fun x=>V.ref x.2.1) (xs.map fun x=>(entryOfKey (tupleKind (zh5 P w)) x).key)
 | H,_,_,.nil,[],_=>⟨.nil,.nil⟩
 | H,_,_,.nil,_::_,h=>nomatch h
 | H,_,_,.cons _ _,[],h=>nomatch h
 | H,_,_,.cons (a:=p) (b:=x) hr t,k::ks,h=>by
   rw[List.map_cons,List.map_cons] at h
   injection h with h1 h2
   obtain⟨t1,t2⟩:=zJ3 (P:=P) (w:=w) t h2
   rw[List.map_cons,List.map_cons]
   refine⟨.cons ⟨_,rfl,?_⟩ t1,.cons rfl t2⟩
   rw[hr.2.1,h1,zT6]
theorem call_sortD (hc:X.calm=true):zp0 X (.builtin "sorted") (fun xs H Q=>∃p kvs ks,xs=[.ref p]/\H p=some (.dT kvs)/\kvs.map (·.1)=ks.map ik/\ks.Nodup/\(2<=kvs.length->∀k∈ks,k≠[])/\zX1 H ks Q):=by
 intro pins s σ H xs us Q I r h
 obtain⟨p,kvs,ks,rfl,hp,hk,hd,hne,q⟩:=h
 obtain⟨u,rfl,ru⟩:=zC0 r
 cases ru
 obtain⟨z,y,xs,rk,o,es,ep,h1,h2,h3,h4,h5⟩:=(show zg7 X.prog X.w H s.heap p (.dT kvs) from I.hok p _ hp)
 obtain⟨t1,t2⟩:=zJ3 (P:=X.prog) (w:=X.w) rk hk
 have hl:kvs.length=xs.length:=Paired.length rk
 have he:es.toList.map (·.key)=xs.map fun x=>(entryOfKey (tupleKind (zh5 X.prog X.w)) x).key:=by rw[h4,List.map_map];rfl
 have hes:es.size=xs.length:=by rw[<-Array.length_toList,h4,List.length_map]
 rw[<-he] at t2
 refine zJ2 I (by rw[List.length_map];omega) t1 t2 hd (fun w=>hne (by rw[List.length_map] at w;omega)) (fun R E hR=>?_) q
 exact Sx.raw_collect y (show X.A.in1.handled=none from I.ok.hd hc) ⟨o,h1,h2,h3⟩ (by omega) hR
end
end L2
namespace Sx
open PySem PySem.W PySem.Calls PyProof.Rows
theorem below_go (xs:Array Nat)(j:Nat)(hs:xs.toList.Pairwise (· < ·)):∀(fuel lo hi:Nat),lo<=hi->hi<=xs.size->hi-lo<=fuel->(∀k,k<lo->xs.getD k j<j)->(∀k,hi<=k->k<xs.size->j<=xs.getD k j) →
   (∀k,k<SetTable.below.go xs j fuel lo hi->xs.getD k j<j)/\(∀k,SetTable.below.go xs j fuel lo hi<=k->k<xs.size->j<=xs.getD k j)/\SetTable.below.go xs j fuel lo hi<=xs.size:=by
 have mono:∀a b,a<b->b<xs.size->xs.getD a j<xs.getD b j:=fun a b hab hb=>by
   have:=List.pairwise_iff_getElem.mp hs a b (by simp;omega) (by simpa using hb) hab
   simpa [Array.getD,hb,show a<xs.size by omega] using this
 intro fuel
 induction fuel with
 | zero =>
   intro lo hi h1 h2 h3 h4 h5
   obtain rfl:lo=hi:=by omega
   exact⟨h4,h5,h2⟩
 | succ fuel ih =>
   intro lo hi h1 h2 h3 h4 h5
   unfold SetTable.below.go
   by_cases h:lo<hi
   . rw[if_pos h]
     dsimp only
     by_cases hm:xs.getD ((lo+hi) / 2) j<j
     . rw[if_pos hm]
       refine ih _ _ (by omega) h2 (by omega) (fun k hk=>?_) h5
       rcases Nat.lt_or_ge k ((lo+hi) / 2) with z | z
       . exact Nat.lt_trans (mono k _ z (by omega)) hm
       . obtain rfl:k=(lo+hi) / 2:=by omega
         exact hm
     . rw[if_neg hm]
       refine ih _ _ (by omega) (by omega) (by omega) h4 (fun k hk hks=>?_)
       rcases Nat.lt_or_ge ((lo+hi) / 2) k with z | z
       . exact Nat.le_of_lt (Nat.lt_of_le_of_lt (Nat.not_lt.mp hm) (mono _ k z hks))
       . obtain rfl:k=(lo+hi) / 2:=by omega
         exact Nat.not_lt.mp hm
   . rw[if_neg h]
     obtain rfl:lo=hi:=by omega
     exact⟨h4,h5,h2⟩
theorem zF5 (xs:Array Nat)(j:Nat)(hs:xs.toList.Pairwise (· < ·)):(∀k,k<SetTable.below xs j->xs.getD k j<j)/\(∀k,SetTable.below xs j<=k->k<xs.size->j<=xs.getD k j)/\SetTable.below xs j<=xs.size :=
 below_go xs j hs xs.size 0 xs.size (Nat.zero_le _) (Nat.le_refl _) (by omega) (fun k h=>by omega) (fun k h h'=>by omega)
theorem zm0 {α:Type}(xs:Array α)(p:Nat)(x:α):(SetTable.insertAt xs p x).toList=xs.toList.take p++x::xs.toList.drop p:=by
 unfold SetTable.insertAt
 have e2:(xs.extract p xs.size).toList=xs.toList.drop p:=zy0 xs p
 rw[Array.toList_append,Array.toList_push,zt4,e2]
 simp
noncomputable abbrev ElsAre (es:List (Int×Value))(ns:List Int):Prop:=Paired (fun e n=>e.1=n/\∃tk,e.2 = .int n tk) es ns
theorem ElsAre.take {es:List (Int×Value)}{ns:List Int}(r:ElsAre es ns):∀i,ElsAre (es.take i) (ns.take i):=by
 induction r with
 | nil=>intro i;simp;exact .nil
 | cons x t ih =>
   intro i
   cases i with
   | zero=>exact .nil
   | succ i=>exact .cons x (ih i)
theorem ElsAre.drop {es:List (Int×Value)}{ns:List Int}(r:ElsAre es ns):∀i,ElsAre (es.drop i) (ns.drop i):=by
 induction r with
 | nil=>intro i;simp;exact .nil
 | cons x t ih =>
   intro i
   cases i with
   | zero=>exact .cons x t
   | succ i=>exact ih i
theorem ElsAre.app {es es':List (Int×Value)}{ns ns':List Int}(r:ElsAre es ns)(r':ElsAre es' ns'):ElsAre (es++es') (ns++ns'):=by
 induction r with
 | nil=>exact r'
 | cons x t ih=>exact .cons x ih
theorem ElsAre.len {es:List (Int×Value)}{ns:List Int}(r:ElsAre es ns):es.length=ns.length:=by
 induction r with
 | nil=>rfl
 | cons x t ih=>simp[ih]
theorem ElsAre.fst {es:List (Int×Value)}{ns:List Int}(r:ElsAre es ns):es.map (·.1)=ns:=by
 induction r with
 | nil=>rfl
 | cons x t ih=>rw[List.map_cons,ih,x.1]
structure SetS (byT:Bool)(h:Heap)(a:Addr)(ns:List Int)(ep:Nat):Prop where
 st:∃o es t,h.get? a=some o/\o.ExactSet/\o.data = .set es ep t/\ElsAre es.toList ns/\t.place.toList=ns.map Int.toNat/\t.dummies = #[]/\t.mask=(if ns.length<5 then 7 else 31)/\t.plain=true/\(byT=false->t.led=true)
 up:ns.Pairwise (· < ·)
 lo:∀n∈ns,1<=n/\n<=5
theorem five {ns:List Int}(up:ns.Pairwise (· < ·))(lo:∀n∈ns,1<=n/\n<=5):ns.length<=5/\(ns.length=5->ns=[1,2,3,4,5]):=by
 match ns,up,lo with
 | [],_,_=>exact⟨by decide,by intro h;cases h⟩
 | [_],_,_=>exact⟨by simp,by intro h;cases h⟩
 | [_,_],_,_=>exact⟨by simp,by intro h;cases h⟩
 | [_,_,_],_,_=>exact⟨by simp,by intro h;cases h⟩
 | [_,_,_,_],_,_=>exact⟨by simp,by intro h;cases h⟩
 | [a,b,c,d,e],up,lo =>
   simp only[List.pairwise_cons,List.mem_cons,List.not_mem_nil,or_false,forall_eq_or_imp,forall_eq] at up lo
   obtain⟨rfl,rfl,rfl,rfl,rfl⟩:a=1/\b=2/\c=3/\d=4/\e=5:=by omega
   exact⟨by decide,fun _=>rfl⟩
 | a::b::c::d::e::f::r,up,lo =>
   simp only[List.pairwise_cons,List.mem_cons,forall_eq_or_imp] at up lo
   omega
theorem nat_up {ns:List Int}(up:ns.Pairwise (· < ·))(lo:∀n∈ns,1<=n/\n<=5):(ns.map Int.toNat).Pairwise (· < ·) :=
 List.pairwise_map.mpr (up.imp_of_mem fun {a b} ha hb z=>by have:=lo a ha;have:=lo b hb;omega)
theorem zF6 {n:Int}(h1:1<=n)(h2:n<=5):hashInt n=n:=by
 have:n=1\/n=2\/n=3\/n=4\/n=5:=by omega
 rcases this with rfl | rfl | rfl | rfl | rfl<;>decide
theorem free_at {t:SetTable}{n:Int}(h1:1<=n)(h2:n<=5)(hm:t.mask=7)(hd:t.dummies = #[])(hp:t.place.toList.Pairwise (· < ·))(hn:n.toNat∉t.place.toList):t.freeSlot n=some (n.toNat,false):=by
 have hsl:t.slot n.toNat = .empty:=by
   unfold SetTable.slot
   dsimp only
   have e:¬ (t.place[SetTable.below t.place n.toNat]? == some n.toNat)=true:=fun z=>by
     have z':t.place[SetTable.below t.place n.toNat]?=some n.toNat:=by simpa using z
     exact hn (by have:=Array.mem_of_getElem? z';simpa using this)
   have e2:¬ SetTable.has t.dummies n.toNat=true:=by
     rw[hd]
     unfold SetTable.has
     simp
   rw[if_neg e,if_neg e2]
 have hb:SetTable.bits n % (t.mask+1)=n.toNat:=by
   rw[hm]
   have:n=1\/n=2\/n=3\/n=4\/n=5:=by omega
   rcases this with rfl | rfl | rfl | rfl | rfl<;>decide
 unfold SetTable.freeSlot SetTable.probe
 have hf:∃f,10*SetTable.turns t.mask=f+1:=⟨10*SetTable.turns t.mask-1,by unfold SetTable.turns;omega⟩
 obtain⟨f,hf⟩:=hf
 rw[hf]
 unfold SetTable.probe.go
 have hj:(t.probeStart n).j=n.toNat:=hb
 rw[hj,hsl]
 rfl
section
variable {prog:Program} {w:World} {A:Around} {E:Value->Shared->Prop} {s:Shared} {byT:Bool} {a:Addr} {ns:List Int} {ep:Nat}
theorem els_of {es:List (Int×Value)}(r:ElsAre es ns)(lo:∀n∈ns,1<=n/\n<=5):ElemsOf (intKind prog w) es:=by
 induction r with
 | nil=>intro e he;cases he
 | @cons e n es ns x t ih =>
   intro e' he
   rcases List.mem_cons.mp he with rfl | he
   . obtain⟨h1,tk,h2⟩:=x
     have l:=lo n (.head _)
     refine⟨⟨n,by rw[h2];exact intKind_is _ _ _ _,?_⟩,by rw[h2];rfl⟩
     rw[h1]
     exact(zF6 l.1 l.2).symm
   . exact ih (fun m hm=>lo m (.tail _ hm)) e' he
theorem zT8 {es:List (Int×Value)}(r:ElsAre es ns)(n:Int):(es.findIdx? fun e=>(intKind prog w).is n e.2)=none↔n∉ns:=by
 rw[List.findIdx?_eq_none_iff]
 induction r with
 | nil=>simp
 | @cons e m es ns x t ih =>
   obtain⟨h1,tk,h2⟩:=x
   rw[List.forall_mem_cons,ih]
   have e3:((intKind prog w).is n e.2=false)↔n≠m:=by
     rw[h2,KeyKind.is_eq_decide (knd:=intKind prog w) (intKind_is _ _ m tk) n]
     simp
   rw[e3]
   simp[not_or]
theorem fits_of {t:SetTable}{k:Nat}(hp:t.place.size=k)(hd:t.dummies = #[])(hm:k<=t.mask):t.fits k=true:=by
 unfold SetTable.fits SetTable.fill
 rw[hp,hd]
 simpa using hm
theorem pick5 {α:Type}(es:Array α)(e2:es.size=5):(#[0,1,2,3,4]:Array Nat).filterMap (es[·]?)=es:=by
 obtain⟨L⟩:=es
 match L,e2 with
 | [_,_,_,_,_],_=>rfl
theorem set_add {n:Int}{tk:Tok}{Q:Bool->Shared->Prop}(S:SetS byT s.heap a ns ep)(h1:1<=n)(h2:n<=5)
   (h:∀h' ns' ep' b,Heap.SameBut a s.heap h'->SetS byT h' a ns' ep'->(∀k,k∈ns'↔k∈ns\/k=n)->Q b { s with heap:=h',toks:=s.toks+1 }):wpAny (model prog w) A (setAdd a (.int n tk)) Q E s:=by
 obtain⟨⟨o,es,t,ho,hex,hd,hel,hpl,hdu,hma,hpn,hle⟩,up,lo⟩:=S
 have h5:=five up lo
 have hl:=hel.len
 have hls:t.place.size=es.size:=by rw[<-Array.length_toList,hpl,List.length_map,<-hl,Array.length_toList]
 have hl':es.size=ns.length:=by rw[<-hl,Array.length_toList]
 have hf:t.fits es.size=true:=fits_of hls hdu (by rw[hma];split<;>omega)
 unfold setAdd
 refine wpAny_holding (wpAny_bind ((intKind prog w).pyHash (k:=n) (intKind_is _ _ _ _) ?_))
 unfold setAddHashed setAddHashedIn
 refine wpAny_holding (wpAny_bind (wpAny_setState_of (s:={ s with toks:=s.toks+1 }) ho hd hf ?_))
 dsimp only
 have hels:ElemsOf (intKind prog w) es.toList:=els_of hel lo
 rw[byScan_of (knd:=intKind prog w) rfl (show es.size<scanBound by unfold scanBound;omega) hels]
 simp only[↓reduceIte]
 unfold setAddByScan
 refine wpAny_bind (wpAny_bind (wpAny_rule (wpAny_bind (wpAny_setScan_of (knd:=intKind prog w) (k:=n) (s:={ s with toks:=s.toks+1 }) (intKind_is _ _ _ _) ho hd hf hels ?_))))
 by_cases hn:n∈ns
 . cases hr:List.findIdx? (fun e=>(intKind prog w).is n e.2) es.toList with
   | none=>exact absurd hn ((zT8 hel n).mp hr)
   | some j =>
     dsimp only
     refine wpAny_pure (wpAny_pure (h s.heap ns ep false (Heap.SameBut.refl a s.heap) ⟨⟨o,es,t,ho,hex,hd,hel,hpl,hdu,hma,hpn,hle⟩,up,lo⟩ fun k=>?_))
     exact⟨.inl,fun z=>z.elim id fun z=>by rw[z];exact hn⟩
 . rw[(zT8 hel n).mpr hn]
   dsimp only
   have hlt:ns.length<5:=by
     rcases Nat.lt_or_ge ns.length 5 with z | z
     . exact z
     . exfalso
       apply hn
       rw[h5.2 (by omega)]
       have:n=1\/n=2\/n=3\/n=4\/n=5:=by omega
       simpa using this
   have hma':t.mask=7:=by rw[hma,if_pos hlt]
   have hpu:t.place.toList.Pairwise (· < ·):=by rw[hpl];exact nat_up up lo
   have hnp:n.toNat∉t.place.toList:=by
     rw[hpl]
     intro z
     obtain⟨m,hm,e⟩:=List.mem_map.mp z
     have:=lo m hm
     exact hn (by rw[show n=m by omega];exact hm)
   obtain⟨b1,b2,b3⟩:=zF5 t.place n.toNat hpu
   generalize hi:SetTable.below t.place n.toNat=i at b1 b2 b3
   have g:∀k (hk:k<ns.length),t.place.getD k n.toNat=ns[k].toNat:=fun k hk=>by
     have hk':k<t.place.size:=by omega
     have:t.place.toList[k]?=(ns.map Int.toNat)[k]?:=by rw[hpl]
     rw[Array.getElem?_toList,getElem?_pos t.place k hk',List.getElem?_map,List.getElem?_eq_getElem hk] at this
     have:=Option.some.inj this
     simp[Array.getD,hk',this]
   have c1:∀x∈ns.take i,x<n:=fun x hx=>by
     obtain⟨k,hk,rfl⟩:=List.mem_iff_getElem.mp hx
     have hk1:k<i:=by simp at hk;omega
     have hk2:k<ns.length:=by simp at hk;omega
     have:=b1 k hk1
     rw[g k hk2] at this
     have:=lo ns[k] (List.getElem_mem hk2)
     simp
     omega
   have c2:∀x∈ns.drop i,n<x:=fun x hx=>by
     obtain⟨k,hk,rfl⟩:=List.mem_iff_getElem.mp hx
     have hk2:i+k<ns.length:=by simp at hk;omega
     have:=b2 (i+k) (by omega) (by omega)
     rw[g (i+k) hk2] at this
     have l:=lo ns[i+k] (List.getElem_mem hk2)
     have ne:n≠ns[i+k]:=fun z=>hn (by rw[z];exact List.getElem_mem hk2)
     simp
     omega
   have eN:SetTable.insertAt t.place i n.toNat=((ns.take i++n::ns.drop i).map Int.toNat).toArray:=by
     apply Array.toList_inj.mp
     rw[zm0,hpl]
     simp[List.map_take,List.map_drop]
   have lay:layNew t es n (.int n tk)=(SetTable.insertAt es i (n,.int n tk),{ t with place:=SetTable.insertAt t.place i n.toNat },false,false):=by
     unfold layNew
     rw[free_at h1 h2 hma' hdu hpu hnp]
     dsimp only
     unfold SetTable.put
     dsimp only
     rw[hi]
     have e2:SetTable.has t.dummies n.toNat=false:=by rw[hdu];unfold SetTable.has;simp
     rw[e2]
     simp only[Bool.false_eq_true,if_false]
     have hz:(SetTable.insertAt es i (n,Value.int n tk)).size=(SetTable.insertAt t.place i n.toNat).size:=by
       rw[<-Array.length_toList,<-Array.length_toList,zm0,zm0]
       simp
       omega
     have hft:({ t with place:=SetTable.insertAt t.place i n.toNat }:SetTable).fits (SetTable.insertAt es i (n,Value.int n tk)).size=true:=by
       refine fits_of hz.symm hdu ?_
       rw[hz,eN]
       show _<=t.mask
       rw[hma']
       simp
       omega
     unfold SetTable.orStandIn
     rw[hft]
     simp
   have hh:(intKind prog w).hash n=n:=zF6 h1 h2
   rw[hh,lay]
   dsimp only
   refine wpAny_bind (wpAny_pure ?_)
   rw[if_pos hpn]
   refine wpAny_bind ?_
   rw[hashByValue_scannable 8 (show(Value.int n tk).scannable=true from rfl)]
   refine wpAny_pure ?_
   rw[if_pos (show plainKind (Value.int n tk)=true from rfl)]
   have mem:∀k,k∈ns.take i++n::ns.drop i↔k∈ns\/k=n:=fun k=>by
     rw[List.mem_append,List.mem_cons]
     conv=>rhs;rw[<-List.take_append_drop i ns,List.mem_append]
     constructor
     . rintro(z | z | z)
       . exact .inl (.inl z)
       . exact .inr z
       . exact .inl (.inr z)
     . rintro((z | z) | z)
       . exact .inl z
       . exact .inr (.inr z)
       . exact .inr (.inl z)
   have up':(ns.take i++n::ns.drop i).Pairwise (· < ·):=by
     refine List.pairwise_append.mpr ⟨up.sublist (List.take_sublist _ _),List.pairwise_cons.mpr ⟨c2,up.sublist (List.drop_sublist _ _)⟩,fun x hx y hy=>?_⟩
     have:=c1 x hx
     rcases List.mem_cons.mp hy with rfl | hy
     . exact this
     . have:=c2 y hy;omega
   have lo':∀m∈ns.take i++n::ns.drop i,1<=m/\m<=5:=fun m hm=>by
     rcases(mem m).mp hm with z | z
     . exact lo m z
     . omega
   have els':ElsAre (SetTable.insertAt es i (n,.int n tk)).toList (ns.take i++n::ns.drop i):=by
     rw[zm0]
     exact(hel.take i).app (.cons ⟨rfl,tk,rfl⟩ (hel.drop i))
   have len':(ns.take i++n::ns.drop i).length=ns.length+1:=by simp;omega
   have sz':(SetTable.insertAt es i (n,Value.int n tk)).size=ns.length+1:=by rw[<-Array.length_toList,els'.len,len']
   have ps':(SetTable.insertAt t.place i n.toNat).size=ns.length+1:=by rw[eN];simp;omega
   generalize ns.take i++n::ns.drop i=ms at mem up' lo' els' len' eN
   generalize SetTable.insertAt es i (n,Value.int n tk)=es1 at els' sz' ⊢
   have hz1:es1.size<=sizeLine:=by rw[sz',sizeLine_eq];omega
   refine wpAny_bind (wpAny_storeSet_of (s:={ s with toks:=s.toks+1 }) ho hd ?_ hz1)
   have sb1:=Heap.SameBut.update s.heap a (Obj.putSet es1 { t with place:=SetTable.insertAt t.place i n.toNat })
   have g1:(s.heap.update a (Obj.putSet es1 { t with place:=SetTable.insertAt t.place i n.toNat })).get? a=some { o with data:=.set es1 (ep+1) { t with place:=SetTable.insertAt t.place i n.toNat } }:=by
     have:=Heap.get?_update_self (Obj.putSet es1 { t with place:=SetTable.insertAt t.place i n.toNat }) ho (by rw[putSet_of _ _ hd];rfl)
     rw[putSet_of _ _ hd] at this
     exact this
   have full:({ t with place:=SetTable.insertAt t.place i n.toNat }:SetTable).tooFull=decide (ns.length+1≥5):=by
     unfold SetTable.tooFull SetTable.fill
     dsimp only
     rw[ps',hdu,hma']
     show decide ((ns.length+1+0)*5≥7*3)=_
     by_cases z:ns.length+1≥5
     . rw[decide_eq_true z,decide_eq_true (by omega)]
     . rw[decide_eq_false z,decide_eq_false (by omega)]
   rw[full]
   by_cases h6:ns.length+1≥5
   . rw[if_pos (by simpa using h6)]
     have h5':=(five up' lo').2 (by omega)
     subst h5'
     have rel:relayAll { t with place:=SetTable.insertAt t.place i n.toNat } es1 (SetTable.grown es1.size)=(es1,{ mask:=31,place:=#[1,2,3,4,5],dummies:=#[],finger:=t.finger,led:=t.led,moves:=({ t with place:=SetTable.insertAt t.place i n.toNat }:SetTable).movedTo 31,plain:=t.plain },false):=by
       unfold relayAll
       have e1:es1.map (·.1) = #[1,2,3,4,5]:=by
         apply Array.toList_inj.mp
         rw[Array.toList_map,els'.fst]
       have e2:es1.size=5:=by omega
       rw[e1,e2]
       have e3:SetTable.relaid { t with place:=SetTable.insertAt t.place i n.toNat } #[1,2,3,4,5] (SetTable.grown 5)=some ({ mask:=31,place:=#[1,2,3,4,5],dummies:=#[],finger:=t.finger,led:=t.led,moves:=({ t with place:=SetTable.insertAt t.place i n.toNat }:SetTable).movedTo 31,plain:=t.plain },#[0,1,2,3,4]):=by
         unfold SetTable.relaid SetTable.laid
         have e4:SetTable.layClean (SetTable.sizeAbove (SetTable.grown 5)-1) #[1,2,3,4,5]=some #[none,some 0,some 1,some 2,some 3,some 4,none,none,none,none,none,none,none,none,none,none,none,none,none,none,none,none,none,none,none,none,none,none,none,none,none,none]:=by decide +kernel
         rw[e4]
         rfl
       rw[e3]
       dsimp only
       have e5:(#[0,1,2,3,4]:Array Nat).filterMap (es1[·]?)=es1:=pick5 es1 e2
       rw[e5,e2]
       rfl
     rw[rel]
     dsimp only
     refine wpAny_bind (wpAny_pure (wpAny_bind (wpAny_storeSet_of (s:={ s with heap:=s.heap.update a (Obj.putSet es1 { t with place:=SetTable.insertAt t.place i n.toNat }),toks:=s.toks+1 }) g1 rfl ?_ hz1)))
     have g2:=Heap.get?_update_self (Obj.putSet es1 { mask:=31,place:=#[1,2,3,4,5],dummies:=#[],finger:=t.finger,led:=t.led,moves:=({ t with place:=SetTable.insertAt t.place i n.toNat }:SetTable).movedTo 31,plain:=t.plain }) g1 (by rw[putSet_of (es:=es1) (ep:=ep+1) _ _ rfl];rfl)
     rw[putSet_of (es:=es1) (ep:=ep+1) _ _ rfl] at g2
     exact wpAny_pure (wpAny_pure (h _ [1,2,3,4,5] (ep+1+1) true (sb1.trans (Heap.SameBut.update _ a _)) ⟨⟨_,es1,_,g2,hex,rfl,els',rfl,rfl,rfl,hpn,hle⟩,up',lo'⟩ mem))
   . rw[if_neg (by simpa using h6)]
     refine wpAny_pure (wpAny_pure (h _ ms (ep+1) true sb1 ⟨⟨_,es1,_,g1,hex,rfl,els',?_,hdu,?_,hpn,hle⟩,up',lo'⟩ mem))
     . rw[eN]
     . show t.mask=_
       rw[hma',len',if_pos (by omega)]
end
noncomputable def byT (w:World):Bool:=w.params.followText "set-order"
section
variable {prog:Program} {w:World} {A:Around} {E:Value->Shared->Prop} {s:Shared}
theorem SetS.other {b:Bool}{h h':Heap}{a:Addr}{ns:List Int}{ep:Nat}(S:SetS b h a ns ep)(k:∀o,h.get? a=some o->h'.get? a=some o):SetS b h' a ns ep:=by
 obtain⟨⟨o,es,t,ho,r⟩,up,lo⟩:=S
 exact⟨⟨o,es,t,k o ho,r⟩,up,lo⟩
theorem set_fresh (h:Heap):SetS (byT w) (h.push { cls:=.type "set",dict:=none,data:=.set #[] 0 (.fresh 0 0 (!byT w)) }) h.objs.size [] 0 :=
 ⟨⟨_,#[],_,Heap.get?_push_size _ rfl,⟨rfl,rfl,rfl⟩,rfl,.nil,rfl,rfl,rfl,rfl,fun e=>by show(!byT w)=true;rw[e];rfl⟩,.nil,fun n hn=>by cases hn⟩
theorem set_loop {I:Addr}{fp wr:List Addr}{G:Array GenState->Array GenState->Prop}{n:Nat}{P:Nat->Value->Prop}{St:Nat->Shared->Prop}{R:Result->Shared->Prop}{b:Bool}(W:WalksS prog w A.in1 I fp wr G n P St)(S:Addr)(hSf:S∉fp)
   (val:Nat->Int) (hval:∀i v,P i v->(∃t,v = .int (val i) t)/\1<=val i/\val i<=5) :
   ∀(k i:Nat) (s:Shared) (ns:List Int) (ep:Nat),n-i=k->i<=n->St i s->SetS b s.heap S ns ep->(∀x,x∈ns↔∃j,j<i/\x=val j) →
     (∀s' ns' ep',Moved (S::wr) G s s'->SetS b s'.heap S ns' ep'->(∀x,x∈ns'↔∃j,j<n/\x=val j)->R (.ok (.ret .none)) s') →
     codeAny (model prog w) A (.builtin "set.update.loop" ⟨[.ref S,.ref I],[]⟩) R s:=by
 have hSw:S∉wr:=fun h=>hSf (W.sub _ h)
 have hsub:∀b∈wr,b∈S::wr:=fun b hb=>List.mem_cons_of_mem _ hb
 intro k
 induction k with
 | zero =>
   intro i s ns ep hk hi hst hS hm hR
   obtain rfl:i=n:=by omega
   refine codeAny_builtin F.entry_set_update_loop ?_
   rw[Around.under_plainId F.plain_set_update_loop _]
   show wpAny _ A.in1 (pyNext (.ref I) >>= _) _ _ s
   refine wpAny_bind (W.done s _ _ hst fun s' hv=>?_)
   show wpAny _ A.in1 (ret Value.none) _ _ s'
   exact wpAny_pure (hR s' ns ep (hv.mono hsub) (hS.other fun o ho=>hv.heap S _ hSw ho) hm)
 | succ k ih =>
   intro i s ns ep hk hi hst hS hm hR
   have hlt:i<n:=by omega
   refine codeAny_builtin F.entry_set_update_loop ?_
   rw[Around.under_plainId F.plain_set_update_loop _]
   show wpAny _ A.in1 (pyNext (.ref I) >>= _) _ _ s
   refine wpAny_bind (W.item i s _ _ hlt hst fun v s' hP hst' hv=>?_)
   obtain⟨⟨t,rfl⟩,v1,v2⟩:=hval i v hP
   show wpAny _ A.in1 (holding [Value.int (val i) t] (setAdd S (.int (val i) t)) >>= _) _ _ s'
   refine wpAny_bind (wpAny_holding (set_add (hS.other fun o ho=>hv.heap S _ hSw ho) v1 v2 fun h' ns' ep' b' hsb hS2 hm2=>?_))
   refine wpAny_pure ⟨plainId_quiet F.plain_set_update_loop _,ih (i+1) _ ns' ep' (by omega) hlt (W.frame _ s' _ _ hst' (Nat.le_succ _) fun b hb o e=>?_) hS2 (fun x=>?_) fun s'' ns'' ep'' hm'' hS'' hx=>?_⟩
   . rw[hsb.2 b (fun h:b=S=>hSf (by rw[<-h];exact hb))];exact e
   . rw[hm2,hm]
     constructor
     . rintro(⟨j,hj,e⟩ | e)
       . exact⟨j,by omega,e⟩
       . exact⟨i,by omega,e⟩
     . rintro⟨j,hj,e⟩
       rcases Nat.lt_or_ge j i with z | z
       . exact .inl ⟨j,z,e⟩
       . obtain rfl:j=i:=by omega
         exact .inr e
   . refine hR s'' ns'' ep'' (Moved.trans W.gtrans ((hv.mono hsub).then_heap (Nat.le_succ _) fun b o hb e=>?_) hm'') hS'' hx
     rw[hsb.2 b (fun h:b=S=>hb (by rw[h];exact List.mem_cons_self))];exact e
theorem code_set_newS (a:Value){Q₁:Value->Shared->Prop}
   (h:Q₁ (.ref s.heap.objs.size) { s with heap:=s.heap.push { cls:=.type "set",dict:=none,data:=.set #[] 0 (.fresh 0 0 (!byT w)) } }) :
   codeAny (model prog w) A (.call (.builtin "set.__new__") ⟨[.type "set",a],[]⟩) (wants Q₁ E) s:=by
 refine codeAny_of_tree ?_
 show wpAny _ A.in1 (do checkBuiltinCall "set.__new__" ⟨[.type "set",a],[]⟩;again (.builtin "set.__new__" ⟨[.type "set",a],[]⟩)) _ _ s
 refine wpAny_bind (wpAny_of_eq (PySem.F.newCall_set_1 a) (wpAny_pure ⟨plainId_quiet PySem.F.plain_set_new _,codeAny_builtin PySem.F.entry_set_new ?_⟩))
 rw[Around.under_plainId PySem.F.plain_set_new _]
 unfold Builtin.«set.__new__» Builtin.Frozenset.newClass
 have hsub:=PySem.sub_set_self
 obtain⟨hp,g,d,tk,os⟩:=s
 dsimp only
 wp_walk
 refine wpAny_askSetting (wpAny_pure ?_)
 dsimp only
 simp only[newObj]
 refine wpAny_bind (wpAny_alloc (wpAny_pure ?_))
 exact wpAny_pure h
end
section
variable {prog:Program} {w:World} {A:Around} {E:Value->Shared->Prop} {s:Shared}
theorem call_setS {l:Addr}{items:Array Value}{ns:List Int}{Q:Value->Shared->Prop}(hh:A.handled=none)(hl:s.heap.IsList l items)(hi:IntsAre items.toList ns)(hlo:∀n∈ns,1<=n/\n<=5)
   (h:∀(h':Heap) (tk:Nat) (ms:List Int) (ep:Nat),SetS (byT w) h' s.heap.objs.size ms ep->(∀x,x∈ms↔x∈ns)->(∀b o,s.heap.get? b=some o->h'.get? b=some o)->Q (.ref s.heap.objs.size) { s with heap:=h',toks:=tk }) :
   wpAny (model prog w) A (call (.type "set") [.ref l]) Q E s:=by
 obtain⟨c,tl,hmro⟩:=PySem.F.called_set.mro
 have hmade:=PySem.F.called_set.made
 have hsub:=PySem.F.called_set.sub
 refine wpAny_call (codeAny_of_tree ?_)
 show wpAny _ _ (callAny (.type "set") _) _ _ _
 refine wpAny_pure ⟨Code.quiet_builtin _ (by decide +kernel),codeAny_builtin PySem.F.entry_type_call ?_⟩
 rw[Around.under_plain (weight_type_call_type "set" [.ref l] []) rfl]
 have h1:=PySem.F.called_set.notType
 have h2:=PySem.F.called_set.canCreate
 have hct:=PySem.F.typeCall_set_1 (.ref l)
 repeat (any_goals (first | assumption | wp_step))
 refine codeAny_mono (code_set_newS (.ref l) (E:=E) (Q₁:=fun obj s₁=>obj = .ref s.heap.objs.size/\s₁ = { s with heap:=s.heap.push { cls:=.type "set",dict:=none,data:=.set #[] 0 (.fresh 0 0 (!byT w)) } }) ⟨rfl,rfl⟩) fun r s₁ hr=>?_
 cases r with
 | error e=>exact hr
 | ok fl =>
   cases fl with
   | ret obj =>
     obtain⟨rfl,rfl⟩:=hr
     have hS:(s.heap.push { cls:=.type "set",dict:=none,data:=.set #[] 0 (.fresh 0 0 (!byT w)) }).get? s.heap.objs.size=some { cls:=.type "set",dict:=none,data:=.set #[] 0 (.fresh 0 0 (!byT w)) }:=Heap.get?_push_size _ rfl
     have hT:Shared.TypeIs { s with heap:=s.heap.push { cls:=.type "set",dict:=none,data:=.set #[] 0 (.fresh 0 0 (!byT w)) } } (.ref s.heap.objs.size) "set":=⟨_,hS,rfl⟩
     have hli:=PySem.F.called_set.init.lookup
     have hbi:=PySem.F.called_set.init.bind (.ref s.heap.objs.size)
     repeat (any_goals (first | assumption | wp_step))
     refine codeAny_mono (codeAny_call_builtin (R:=wants (fun r s₂=>r = .none/\∃h' tk ms ep,s₂ = { s with heap:=h',toks:=tk }/\SetS (byT w) h' s.heap.objs.size ms ep/\(∀x,x∈ms↔x∈ns) ∧
         (∀b o,s.heap.get? b=some o->h'.get? b=some o)) E) PySem.F.called_set.init.plain PySem.F.entry_set_init (PySem.check_set_init_1 hT ?_)) fun r₂ s₂ hr₂=>?_
     . obtain⟨ol,hol,hcl,nl,hdl⟩:=hl
       obtain⟨ocls,odict,odata,oslots⟩:=ol
       simp only at hcl hdl
       subst hcl;subst hdl
       have hol':(s.heap.push { cls:=.type "set",dict:=none,data:=.set #[] 0 (.fresh 0 0 (!byT w)) }).get? l=some { cls:=.type "list",dict:=odict,data:=.seq items nl,slots:=oslots }:=Heap.get?_push_of_some _ hol
       have hsls:=PySem.F.sub_list_set
       have hslf:=PySem.F.sub_list_frozenset
       have hne:(Value.type "list" == Value.type "dict")=false:=by decide
       have hl1:(s.heap.push { cls:=.type "set",dict:=none,data:=.set #[] 0 (.fresh 0 0 (!byT w)) }).IsList l items:=⟨_,hol',rfl,nl,rfl⟩
       unfold Builtin.«set.__init__» noKeywords Builtin.Frozenset.updateFrom
       generalize hPI:pyIter=PI
       wp_walk
       subst hPI
       refine wpAny_pyIter_list hl1 ?_
       refine wpAny_bind (wpAny_runValue ?_)
       have hlS:l<s.heap.objs.size:=Heap.lt_size hol
       have hh3:A.in1.in1.in1.handled=none:=by simp[hh]
       have hneI:l≠(s.heap.push { cls:=.type "set",dict:=none,data:=.set #[] 0 (.fresh 0 0 (!byT w)) }).objs.size:=by
         rw[Heap.size_push];exact Nat.ne_of_lt (Nat.lt_succ_of_lt hlS)
       have hSf:s.heap.objs.size∉[(s.heap.push { cls:=.type "set",dict:=none,data:=.set #[] 0 (.fresh 0 0 (!byT w)) }).objs.size,l]:=by
         rw[Heap.size_push];simp only[List.mem_cons,List.mem_singleton,List.not_mem_nil,or_false,not_or]
         exact⟨Nat.ne_of_lt (Nat.lt_succ_self _),Nat.ne_of_gt hlS⟩
       have hlen:items.size=ns.length:=by rw[<-Array.length_toList];exact IntsAre.length hi
       have hval:∀(i:Nat) (v:Value),items[i]?=some v->(∃t,v = .int ((fun i=>ns.getD i 0) i) t)/\1<=ns.getD i 0/\ns.getD i 0<=5:=fun i v hv=>by
         refine⟨PyProof.Rows.IntsAre.int_at hi i v (by rw[Array.getElem?_toList];exact hv),?_⟩
         have hi':i<ns.length:=by
           have:=(Array.getElem?_eq_some_iff.mp hv).1
           omega
         have:ns.getD i 0=ns[i]:=by simp[hi']
         rw[this]
         exact hlo _ (List.getElem_mem hi')
       refine set_loop (b:=byT w) ((Walks.list hh3 _ l hneI items).toS) s.heap.objs.size hSf (fun i=>ns.getD i 0) hval (items.size-0) 0 _ [] 0 (by omega) (Nat.zero_le _)
         ⟨⟨_,Heap.get?_push_size _ rfl,rfl,rfl⟩,(hl1.push _)⟩ ?hS0 (fun x=>⟨(fun z=>nomatch z),fun⟨j,hj,_⟩=>absurd hj (Nat.not_lt_zero _)⟩) ?hR
       case hS0 =>
         exact(set_fresh (w:=w) s.heap).other fun o ho=>Heap.get?_push_of_some _ ho
       case hR =>
         intro s' ms ep hm hS' hx
         obtain⟨h',g',d',tk',os'⟩:=s'
         have eg:g'=s.gens:=hm.gens
         have ed:d'=s.drawn:=hm.drawn
         have eo:os'=s.os:=hm.os
         subst eg;subst ed;subst eo
         show wpAny _ _ _ _ _ _
         refine wpAny_pure ?_
         show wpAny _ _ (ret Value.none) _ _ _
         refine wpAny_pure ⟨rfl,h',tk',ms,ep,rfl,hS',fun x=>?_,fun b o e=>?_⟩
         . rw[hx x,List.mem_iff_getElem]
           constructor
           . rintro⟨j,hj,e⟩
             exact⟨j,by omega,by rw[e];simp[show j<ns.length by omega]⟩
           . rintro⟨j,hj,e⟩
             exact⟨j,by omega,by rw[<-e];simp[hj]⟩
         . have hb:=Heap.lt_size e
           have hb1:b≠s.heap.objs.size:=Nat.ne_of_lt hb
           have hb2:b≠(s.heap.push { cls:=.type "set",dict:=none,data:=.set #[] 0 (.fresh 0 0 (!byT w)) }).objs.size:=by
             rw[Heap.size_push];exact Nat.ne_of_lt (Nat.lt_succ_of_lt hb)
           exact hm.heap b o (by simp only[List.mem_cons,List.mem_singleton,List.not_mem_nil,or_false,not_or];exact⟨hb1,hb2⟩) (Heap.get?_push_of_some _ (Heap.get?_push_of_some _ e))
     . cases r₂ with
       | error e=>exact hr₂
       | ok fl₂ =>
         cases fl₂ with
         | ret r =>
           obtain⟨rfl,h',tk,ms,ep,rfl,hS',hx,hk'⟩:=hr₂
           repeat (any_goals (first | assumption | wp_step))
           exact h _ _ _ _ hS' hx hk'
         | _=>exact hr₂.elim
   | _=>exact hr.elim
end
theorem zT9 {α:Type}(next:Nat->Nat):∀(fuel k:Nat) (left:List α) (out:Array α),left.length<=fuel->(pickOrder.go next fuel k left out).toList.Perm (out.toList++left)
 | 0,k,left,out,h=>by
   obtain rfl:left=[]:=List.eq_nil_of_length_eq_zero (by omega)
   unfold pickOrder.go
   simp
 | fuel+1,k,left,out,h=>by
   unfold pickOrder.go
   by_cases hl:left=[]
   . subst hl
     simp
   . have hp:0<left.length:=List.length_pos_iff.mpr hl
     have hi:next k % left.length<left.length:=Nat.mod_lt _ hp
     rw[List.getElem?_eq_getElem hi]
     dsimp only
     refine(zT9 next fuel (k+1) _ _ (by rw[List.length_eraseIdx_of_lt hi];omega)).trans ?_
     rw[Array.toList_push,List.append_assoc]
     refine List.Perm.append_left _ ?_
     have e:left=left.take (next k % left.length)++left[next k % left.length]::left.drop (next k % left.length+1):=by rw[<-List.drop_eq_getElem_cons hi,List.take_append_drop]
     rw[List.eraseIdx_eq_take_drop_succ]
     conv=>rhs;rw[e]
     rw[List.singleton_append]
     exact List.perm_middle.symm
theorem zJ4 {α:Type}(next:Nat->Nat)(xs:Array α):(pickOrder next xs).toList.Perm xs.toList:=by
 have:=zT9 next xs.size 0 xs.toList #[] (by simp)
 unfold pickOrder
 simpa using this
theorem zj3:PySem.Slot "set_iterator" "__next__" "set_iterator.__next__" :=
 .of (owner:="set_iterator") (n:="__next__") (by rw[typeLookup_type,builtinLookup_eq_fast];kernel_rfl) (by decide +kernel) (by decide +kernel) (by decide +kernel)
   (by first | exact .inl (by decide +kernel) | exact .inr (by decide +kernel)) (by rw[isSubtype_type];kernel_rfl)
theorem zv9:entryFor table "set_iterator.__next__" = some Builtin.«set_iterator.__next__»:=entryFor_of_tree (by kernel_rfl)
theorem zO8:Manifest.owners.lookup (String.ofList ['r','o','t','a','r','e','t','i','_','t','e','s'].reverse)=some Manifest.sig_set_iterator:=by kernel_rfl
theorem zy7 (a:Value):argsOk "set_iterator.__next__" ⟨[a],[]⟩:=by
 unfold argsOk;rw[signature?_of (id:="set_iterator.__next__") (n:=['_','_','t','x','e','n','_','_']) (o:=['r','o','t','a','r','e','t','i','_','t','e','s']) (by kernel_rfl) zO8];kernel_rfl
theorem zy8:PySem.Slot "set_iterator" "__iter__" "set_iterator.__iter__" :=
 .of (owner:="set_iterator") (n:="__iter__") (by rw[typeLookup_type,builtinLookup_eq_fast];kernel_rfl) (by decide +kernel) (by decide +kernel) (by decide +kernel)
   (by first | exact .inl (by decide +kernel) | exact .inr (by decide +kernel)) (by rw[isSubtype_type];kernel_rfl)
theorem entry_si_iter:entryFor table "set_iterator.__iter__" = some Builtin.«dict_keyiterator.__iter__» :=
 entryFor_alias (id':="dict_keyiterator.__iter__") (by kernel_rfl) rfl (by decide +kernel) (by kernel_rfl)
theorem args_si_iter (a:Value):argsOk "set_iterator.__iter__" ⟨[a],[]⟩:=by
 unfold argsOk;rw[signature?_of (id:="set_iterator.__iter__") (n:=['_','_','r','e','t','i','_','_']) (o:=['r','o','t','a','r','e','t','i','_','t','e','s']) (by kernel_rfl) zO8];kernel_rfl
theorem entry_s_iter:entryFor table "set.__iter__" = some Builtin.«frozenset.__iter__» :=
 entryFor_alias (id':="frozenset.__iter__") (by kernel_rfl) rfl (by decide +kernel) (by kernel_rfl)
noncomputable def zn2 (h:Heap) (it a:Addr) (slot i n ep:Nat):Prop:=∃o,h.get? it=some o/\o.cls = .type "set_iterator"/\o.data = .fields #[.int slot 0,.int i 0,.ref a,.int n 0,.int ep 0]
noncomputable def zo7 (h:Heap)(a:Addr)(es:Array (Int×Value))(ep:Nat)(t:SetTable):Prop:=∃o,h.get? a=some o/\o.ExactSet/\o.data = .set es ep t
noncomputable def ordOf (w:World)(a:Addr)(ep:Nat)(es:Array (Int×Value)):Array (Int×Value):=if byT w=true then pickOrder (w.params.setOrder a ep) es else es
noncomputable def zi1 (w:World)(t:SetTable):Nat->Nat
 | 0=>0
 | i+1=>if byT w=true then 0 else t.place.getD i 0+1
structure SetGood (w:World)(es:Array (Int×Value))(t:SetTable):Prop where
 fits:t.fits es.size=true
 size:t.place.size=es.size
 plain:t.plain=true
 led:byT w=false->t.led=true
 up:t.place.toList.Pairwise (· < ·)
theorem ord_size (w:World)(a:Addr)(ep:Nat)(es:Array (Int×Value)):(ordOf w a ep es).size=es.size:=by
 unfold ordOf
 split
 . rw[<-Array.length_toList,(zJ4 _ _).length_eq,Array.length_toList]
 . rfl
theorem ord_perm (w:World)(a:Addr)(ep:Nat)(es:Array (Int×Value)):(ordOf w a ep es).toList.Perm es.toList:=by
 unfold ordOf
 split
 . exact zJ4 _ _
 . exact .refl _
section
variable {prog:Program} {w:World} {A:Around} {E:Value->Shared->Prop} {s:Shared} {a it:Addr} {es:Array (Int×Value)} {ep:Nat} {t:SetTable}
theorem zo7.typeIs (x:zo7 s.heap a es ep t):s.TypeIs (.ref a) "set":=let⟨o,ho,hc,_⟩:=x;⟨o,ho,hc.1⟩
theorem zo7.at_ {h h':Heap}(x:zo7 h a es ep t)(k:∀o,h.get? a=some o->h'.get? a=some o):zo7 h' a es ep t:=let⟨o,ho,r⟩:=x;⟨o,k o ho,r⟩
theorem zn2.typeIs {slot i n:Nat} (x:zn2 s.heap it a slot i n ep):s.TypeIs (.ref it) "set_iterator":=let⟨o,ho,hc,_⟩:=x;⟨o,ho,hc⟩
theorem sl {j:Nat}(hb:byT w=false):zi1 w t (j+1)=t.place.getD j 0+1:=by
 show(if byT w=true then 0 else _)=_
 rw[if_neg (by rw[hb];decide)]
theorem si_next {i:Nat}{Q:Option Value->Shared->Prop}(g:SetGood w es t)(hit:zn2 s.heap it a (zi1 w t i) i es.size ep)(hm:zo7 s.heap a es ep t)(hne:a≠it)(hi:i<es.size)
   (hQ:∀h',zn2 h' it a (zi1 w t (i+1)) (i+1) es.size ep->Heap.SameBut it s.heap h'->Q (some ((ordOf w a ep es)[i]'(by rw[ord_size];exact hi)).2) { s with heap:=h' }):wpAny (model prog w) A (pyNext (.ref it)) Q E s:=by
 have hT:=hit.typeIs
 obtain⟨o,ho,hc,hd⟩:=id hit
 obtain⟨os,hos,hex,hds⟩:=id hm
 unfold pyNext
 refine wpAny_bind (wpAny_attempt (wpAny_callSpecial?_slot (name:=Str.ofString "__next__") hT zj3 (wpAny_call_entry zj3 hT zv9 ?_ (zy7 _))))
 unfold Builtin.«set_iterator.__next__»
 refine wpAny_bind (m:=slotArgs _ _ _) (wpAny_pure (wpAny_bind (wpAny_fieldsOf ho hd ?_)))
 dsimp only
 refine wpAny_bind (wpAny_setEntries_of hos hds g.fits ?_)
 rw[if_neg (by simp)]
 refine wpAny_bind ?_
 have nx:∀(R:Option (Value×Nat)->Shared->Prop) (E':Value->Shared->Prop),R (some (((ordOf w a ep es)[i]'(by rw[ord_size];exact hi)).2,zi1 w t (i+1))) s->wpAny (model prog w) A.in1 (setNext a (zi1 w t i) i ep) R E' s:=fun R E' hR=>by
   unfold setNext
   refine wpAny_bind (wpAny_setState_of hos hds g.fits ?_)
   dsimp only
   unfold setsByText
   refine wpAny_bind (wpAny_bind (wpAny_askSetting (wpAny_pure ?_)))
   cases hb:byT w with
   | true =>
     have hb':((model prog w).w.params.followText "set-order")=true:=hb
     have e1:ordOf w a ep es=pickOrder (w.params.setOrder a ep) es:=by unfold ordOf;rw[if_pos hb]
     have e2:∀j,zi1 w t j=0:=fun j=>by cases j with
       | zero=>rfl
       | succ j=>show(if byT w=true then 0 else _)=0;rw[if_pos hb]
     dsimp only
     rw[if_pos hb',if_neg (by simp)]
     refine wpAny_bind ?_
     unfold setWalk
     refine wpAny_bind (wpAny_setState_of hos hds g.fits ?_)
     dsimp only
     unfold setsByText
     refine wpAny_bind (wpAny_bind (wpAny_askSetting (wpAny_pure ?_)))
     dsimp only
     rw[if_pos hb']
     refine wpAny_bind (wpAny_askSetting (wpAny_pure (wpAny_pure ?_)))
     dsimp only
     have hi':i<(pickOrder (w.params.setOrder a ep) es).size:=by rw[<-e1,ord_size];exact hi
     rw[getElem?_pos _ i hi',e2 i]
     rw[e2 (i+1)] at hR
     have e3:((ordOf w a ep es)[i]'(by rw[ord_size];exact hi))=(pickOrder (w.params.setOrder a ep) es)[i]:=by congr 1
     rw[e3] at hR
     exact hR
   | false =>
     have hb':¬ ((model prog w).w.params.followText "set-order")=true:=by rw[show(model prog w).w.params.followText "set-order" = false from hb];decide
     have e1:ordOf w a ep es=es:=by unfold ordOf;rw[if_neg (by rw[hb];decide)]
     have hp:=g.plain
     have hl:=g.led hb
     have hu:=g.up
     have hz:=g.size
     dsimp only
     rw[if_neg hb']
     have e4:SetTable.below t.place (zi1 w t i)=i:=by
       obtain⟨b1,b2,b3⟩:=zF5 t.place (zi1 w t i) hu
       have mono:∀x y,x<y->y<t.place.size->t.place.getD x 0<t.place.getD y 0:=fun x y hxy hy=>by
         have:=List.pairwise_iff_getElem.mp hu x y (by simp;omega) (by simpa using hy) hxy
         simpa [Array.getD,hy,show x<t.place.size by omega] using this
       have gd:∀x d,x<t.place.size->t.place.getD x d=t.place.getD x 0:=fun x d hx=>by simp[Array.getD,hx]
       generalize hB:SetTable.below t.place (zi1 w t i)=B at b1 b2 b3
       rcases Nat.lt_trichotomy B i with z | z | z
       . exfalso
         obtain⟨j,rfl⟩:∃j,i=j+1:=⟨i-1,by omega⟩
         have q:=b2 B (Nat.le_refl _) (by omega)
         rw[sl (by exact hb),gd B (t.place.getD j 0+1) (by omega)] at q
         rcases Nat.lt_or_ge B j with y | y
         . have:=mono B j y (by omega);omega
         . obtain rfl:B=j:=by omega
           omega
       . exact z
       . exfalso
         have q:=b1 i z
         rw[gd _ _ (by omega)] at q
         cases i with
         | zero=>exact absurd q (Nat.not_lt_zero _)
         | succ j =>
           rw[sl hb] at q
           have:=mono j (j+1) (by omega) (by omega)
           omega
     have e5:zi1 w t (i+1)=t.place[i]'(by omega)+1:=by
       rw[sl hb]
       simp[Array.getD,show i<t.place.size by omega]
     have e3:((ordOf w a ep es)[i]'(by rw[ord_size];exact hi))=es[i]:=by congr 1
     rw[e3,e5] at hR
     have hps:i<t.place.size:=by omega
     obtain⟨mask,place,dummies,finger,led,moves,plain⟩:=t
     dsimp only at hp hl
     subst hp hl
     rw[if_neg (by intro z;exact Bool.noConfusion (show false=true from z))]
     refine wpAny_bind (wpAny_pure ?_)
     dsimp only at e4 hps hR ⊢
     rw[e4]
     rw[getElem?_pos es i hi,getElem?_pos place i hps]
     exact wpAny_pure hR
 refine nx _ _ ?_
 dsimp only
 refine wpAny_bind (wpAny_setField ho hd (by simp) ?_)
 have g1:=Heap.get?_update_self (Obj.mapFields (·.setIfInBounds 0 (rawInt (zi1 w t (i+1):Int)))) ho (Obj.isFreed_of_fields (Obj.data_mapFields hd _))
 have d1:=Obj.data_mapFields hd (·.setIfInBounds 0 (rawInt (zi1 w t (i+1):Int)))
 refine wpAny_bind (wpAny_setField (s:={ s with heap:=_ }) g1 d1 (by simp) ?_)
 have g2:=Heap.get?_update_self (Obj.mapFields (·.setIfInBounds 1 (rawInt ((i:Int)+1)))) g1 (Obj.isFreed_of_fields (Obj.data_mapFields d1 _))
 have d2:=Obj.data_mapFields d1 (·.setIfInBounds 1 (rawInt ((i:Int)+1)))
 refine wpAny_pure ⟨_,rfl,wpAny_pure (hQ _ ⟨_,g2,?_,?_⟩ ((Heap.SameBut.update s.heap it _).trans (Heap.SameBut.update _ it _)))⟩
 . rw[Obj.cls_mapFields,Obj.cls_mapFields]
   exact hc
 . rw[d2]
   simp[rawInt]
theorem si_end {Q:Option Value->Shared->Prop}(hh:A.handled=none)(g:SetGood w es t)(hit:zn2 s.heap it a (zi1 w t es.size) es.size es.size ep)(hm:zo7 s.heap a es ep t)(hne:a≠it)
   (hQ:∀h',Heap.ExtBut it s.heap h'->Q none { s with heap:=h' }):wpAny (model prog w) A (pyNext (.ref it)) Q E s:=by
 have hT:=hit.typeIs
 obtain⟨o,ho,hc,hd⟩:=id hit
 obtain⟨os,hos,hex,hds⟩:=id hm
 unfold pyNext
 refine wpAny_bind (wpAny_attempt (wpAny_callSpecial?_slot (name:=Str.ofString "__next__") hT zj3 (wpAny_call_entry zj3 hT zv9 ?_ (zy7 _))))
 unfold Builtin.«set_iterator.__next__»
 refine wpAny_bind (m:=slotArgs _ _ _) (wpAny_pure (wpAny_bind (wpAny_fieldsOf ho hd ?_)))
 dsimp only
 refine wpAny_bind (wpAny_setEntries_of hos hds g.fits ?_)
 rw[if_neg (by simp)]
 refine wpAny_bind ?_
 have nx:∀(R:Option (Value×Nat)->Shared->Prop) (E':Value->Shared->Prop),R none s->wpAny (model prog w) A.in1 (setNext a (zi1 w t es.size) es.size ep) R E' s:=fun R E' hR=>by
   unfold setNext
   refine wpAny_bind (wpAny_setState_of hos hds g.fits ?_)
   dsimp only
   unfold setsByText
   refine wpAny_bind (wpAny_bind (wpAny_askSetting (wpAny_pure ?_)))
   cases hb:byT w with
   | true =>
     have hb':((model prog w).w.params.followText "set-order")=true:=hb
     have e1:ordOf w a ep es=pickOrder (w.params.setOrder a ep) es:=by unfold ordOf;rw[if_pos hb]
     dsimp only
     rw[if_pos hb',if_neg (by simp)]
     refine wpAny_bind ?_
     unfold setWalk
     refine wpAny_bind (wpAny_setState_of hos hds g.fits ?_)
     dsimp only
     unfold setsByText
     refine wpAny_bind (wpAny_bind (wpAny_askSetting (wpAny_pure ?_)))
     dsimp only
     rw[if_pos hb']
     refine wpAny_bind (wpAny_askSetting (wpAny_pure (wpAny_pure ?_)))
     dsimp only
     have e2:(pickOrder (w.params.setOrder a ep) es)[es.size]?=none:=by
       rw[<-e1]
       exact Array.getElem?_eq_none (by rw[ord_size];exact Nat.le_refl _)
     have e3:(pickOrder ((model prog w).w.params.setOrder a ep) es)[es.size]?=none:=e2
     rw[e3]
     exact hR
   | false =>
     have hb':¬ ((model prog w).w.params.followText "set-order")=true:=by rw[show(model prog w).w.params.followText "set-order" = false from hb];decide
     have hp:=g.plain
     have hl:=g.led hb
     have hu:=g.up
     have hz:=g.size
     dsimp only
     rw[if_neg hb']
     have e4:es.size<=SetTable.below t.place (zi1 w t es.size):=by
       obtain⟨b1,b2,b3⟩:=zF5 t.place (zi1 w t es.size) hu
       rcases Nat.lt_or_ge (SetTable.below t.place (zi1 w t es.size)) es.size with z | z
       . exfalso
         have mono:∀x y,x<y->y<t.place.size->t.place.getD x 0<t.place.getD y 0:=fun x y hxy hy=>by
           have:=List.pairwise_iff_getElem.mp hu x y (by simp;omega) (by simpa using hy) hxy
           simpa [Array.getD,hy,show x<t.place.size by omega] using this
         have q:=b2 _ (Nat.le_refl _) (by omega)
         generalize SetTable.below t.place (zi1 w t es.size)=B at q z
         obtain⟨j,hj⟩:∃j,es.size=j+1:=⟨es.size-1,by omega⟩
         rw[hj,sl hb] at q
         have gd:t.place.getD B (t.place.getD j 0+1)=t.place.getD B 0:=by simp[Array.getD,show B<t.place.size by omega]
         rw[gd] at q
         rcases Nat.lt_or_ge B j with y | y
         . have:=mono B j y (by omega);omega
         . obtain rfl:B=j:=by omega
           omega
       . exact z
     obtain⟨mask,place,dummies,finger,led,moves,plain⟩:=t
     dsimp only at hp hl
     subst hp hl
     rw[if_neg (by intro z;exact Bool.noConfusion (show false=true from z))]
     refine wpAny_bind (wpAny_pure ?_)
     dsimp only at e4 ⊢
     rw[Array.getElem?_eq_none e4]
     exact wpAny_pure hR
 refine nx _ _ ?_
 dsimp only
 refine wpAny_bind (wpAny_setField ho hd (by simp) ?_)
 refine wpAny_bind ?_
 simp only[newExc,newTuple]
 refine wpAny_bind (wpAny_newObj_type ?_ (by size_fits))
 refine wpAny_bind (m:=firstArgMember _ _) (wpAny_of_eq (a:=Value.none) (by first | rfl | (simp only[firstArgMember];rfl)) ?_)
 refine wpAny_newObj_type ?_ (by size_fits)
 simp only[raiseNew]
 refine wpAny_bind (wpAny_handled ?_)
 rw[show A.in1.handled=none from hh]
 refine wpAny_bind (wpAny_pure (wpAny_throw ?_))
 refine wpAny_bind (wpAny_isInstance (T:="StopIteration") (b:=true) ⟨_,Heap.get?_push_size _ rfl,rfl⟩ isSubtype_stop ?_)
 exact wpAny_pure (hQ _ (((Heap.SameBut.update ..).extBut.push _).push _))
theorem s_iter {Q:Value->Shared->Prop}(g:SetGood w es t)(hm:zo7 s.heap a es ep t)
   (hQ:Q (.ref s.heap.objs.size) { s with heap:=s.heap.push { cls:=.type "set_iterator",data:=.fields #[.int 0 0,.int 0 0,.ref a,.int es.size 0,.int ep 0] } }):wpAny (model prog w) A (pyIter (.ref a)) Q E s:=by
 have hT:=hm.typeIs
 obtain⟨os,hos,hex,hds⟩:=id hm
 refine wpAny_pyIter_slot hT PySem.F.slot_set_iter (wpAny_call_entry PySem.F.slot_set_iter hT entry_s_iter ?_ (PySem.F.args_set_iter_1 _))
 unfold Builtin.«frozenset.__iter__» Builtin.Frozenset.slot0
 refine wpAny_bind (wpAny_bind (m:=slotArgs _ _ _) (wpAny_pure (wpAny_pure ?_)))
 unfold Builtin.Frozenset.sizeOf
 refine wpAny_bind (wpAny_bind (wpAny_setEntries_of hos hds g.fits (wpAny_pure ?_)))
 unfold setDrawn
 refine wpAny_bind (wpAny_bind (wpAny_setState_of hos hds g.fits ?_))
 dsimp only
 unfold setsByText
 refine wpAny_bind (wpAny_bind (wpAny_askSetting (wpAny_pure (wpAny_pure ?_))))
 dsimp only
 have hp:=g.plain
 obtain⟨mask,place,dummies,finger,led,moves,plain⟩:=t
 dsimp only at hp
 subst hp
 rw[if_neg (by
   intro z
   have z':(!((model prog w).w.params.followText "set-order") && false)=true:=z
   rw[Bool.and_false] at z'
   exact Bool.noConfusion z')]
 refine wpAny_bind (wpAny_pure (wpAny_bind ?_))
 unfold setEpoch
 refine wpAny_bind (wpAny_setState_of hos hds g.fits (wpAny_pure ?_))
 exact wpAny_bind (wpAny_newObj_type (wpAny_pure ⟨_,rfl,"set_iterator",_,⟨_,Heap.get?_push_size _ rfl,rfl⟩,zj3.lookup,hQ⟩))
theorem s_hint {Q:Bool->Shared->Prop} (hT:s.TypeIs (.ref a) "set") (h:Q false s):wpAny (model prog w) A (Builtin.List.listLengthHint (.ref a)) Q E s:=by
 unfold Builtin.List.listLengthHint
 refine wpAny_bind (wpAny_specialOf hT PySem.F.slot_set_len.lookup ?_)
 generalize hid:("set.__len__" : String)=id0
 wp_delta
 rw[show splitId id0=some ("set","__len__") from by subst hid;decide +kernel]
 subst hid
 refine wpAny_bind (wpAny_isInstance (T:="set") (b:=true) hT (by rw[isSubtype_type];kernel_rfl) ?_)
 refine wpAny_ite_split (fun hab=>absurd hab (by decide)) (fun _=>?_)
 refine wpAny_ite_split (fun _=>?_) (fun hab=>absurd (by decide +kernel) hab)
 refine wpAny_bind (wpAny_typeOf hT ?_)
 exact wpAny_pure h
theorem s_walks (hh:A.handled=none)(I a:Addr)(hne:a≠I)(g:SetGood w es t)(ep:Nat) :
   Walks prog w A I [I,a] [I] es.size (fun i v=>∃h:i<es.size,v=((ordOf w a ep es)[i]'(by rw[ord_size];exact h)).2) (fun i h=>zn2 h I a (zi1 w t i) i es.size ep/\zo7 h a es ep t) where
 sub:=fun b hb=>by simp at hb;simp[hb]
 frame:=fun _ _ _ st hk=>⟨let⟨o,ho,r⟩:=st.1;⟨o,hk I (by simp) o ho,r⟩,st.2.at_ fun o e=>hk a (by simp) o e⟩
 item:=fun i s Q E hi st hQ=>si_next g st.1 st.2 hne hi fun h' hit' hs'=>hQ _ h' s.toks ⟨hi,rfl⟩ ⟨hit',st.2.at_ fun o e=>hs'.extBut a o hne e⟩ fun b o hb e=>hs'.extBut b o (fun h=>hb (by simp[h])) e
 done:=fun s Q E st hQ=>si_end hh g st.1 st.2 hne fun h' he'=>hQ h' s.toks fun b o hb e=>he' b o (fun h=>hb (by simp[h])) e
 self:=fun s Q E i st hQ=>by
   have hT:=st.1.typeIs
   refine wpAny_pyIter_slot hT zy8 (wpAny_call_entry zy8 hT entry_si_iter ?_ (args_si_iter _))
   show wpAny _ _ (ret (.ref I)) _ _ _
   exact wpAny_pure ⟨_,rfl,"set_iterator",_,hT,zj3.lookup,hQ⟩
theorem s_src (g:SetGood w es t):KdlSrc prog w "set" a a es.size (fun i v=>∃h:i<es.size,v=((ordOf w a ep es)[i]'(by rw[ord_size];exact h)).2) (fun h=>zo7 h a es ep t) where
 type:=fun _ hm=>hm.typeIs
 there:=fun _ hm=>⟨let⟨_,ho,_⟩:=hm;Heap.lt_size ho,let⟨_,ho,_⟩:=hm;Heap.lt_size ho⟩
 keep:=fun _ _ hm hk=>hm.at_ fun o e=>hk a (.inl rfl) o e
 notList:=by decide
 notTuple:=by decide
 hint:=fun _ _ _ _ hm hq=>s_hint hm.typeIs hq
 iter:=fun _ _ hh hm=>⟨_,_,(fun _ _ hq=>s_iter g hm hq),s_walks hh _ a (Nat.ne_of_lt (let⟨_,ho,_⟩:=hm;Heap.lt_size ho)) g ep,⟨⟨_,Heap.get?_push_size _ rfl,rfl,rfl⟩,hm.at_ fun o e=>Heap.get?_push_of_some _ e⟩⟩
end
end Sx
namespace L2
open PySem PySem.Spec PyProof.Rows
noncomputable def SetV (w:World)(p:Addr)(ms:List Int):HO:=.ext fun h=>∃ep,Sx.SetS (Sx.byT w) h p ms ep
section
variable {X:Cx}
theorem call_setI (hc:X.calm=true):zp0 X (.type "set") (fun xs H Q=>∃(l:Addr) (ns:List Int),xs=[.ref l]/\SqL X.K H l (ns.map V.int)/\(∀n∈ns,1<=n/\n<=5)/\∀p ms,H p=none->(∀x,x∈ms↔x∈ns)->ms.Pairwise (· < ·)->Q (.ref p) (upd H p (SetV X.w p ms))):=by
 intro pins s σ H xs us Q I r h
 obtain⟨l,ns,rfl,hS,hlo,q⟩:=h
 obtain⟨u,rfl,ru⟩:=zC0 r
 cases ru
 obtain⟨its,rv,p,hz⟩:=I.list hS
 refine Sx.call_setS (I.ok.hd hc) p.isList (by simpa using zn7 rv) hlo fun h' tk ms ep S hx k=>?_
 refine⟨.ref s.heap.objs.size,_,I.laid (t':=tk) (o:=SetV X.w s.heap.objs.size ms) k (Nat.le_refl _) ?_,rfl,q _ ms (I.hok.fresh (Nat.le_refl _)) hx S.up⟩
 refine⟨⟨ep,S⟩,?_,fun h1 h2 ⟨ep',S'⟩ kk=>⟨ep',S'.other kk⟩⟩
 obtain⟨o,es,t,ho,_⟩:=S.st
 exact⟨o,ho⟩
theorem sorted_eq {a b:List Int}(p:a.Perm b)(ha:a.Pairwise (·<=·))(hb:b.Pairwise (· < ·)):a=b:=W.ksm_same p ha (hb.imp fun z=>Int.le_of_lt z)
theorem zO9:∀ {es:List (Int×Value)} {ns:List Int},Sx.ElsAre es ns->IntsAre (es.map (·.2)) ns
 | _,_,.nil=>.nil
 | _,_,.cons ⟨_,tk,h⟩ t=>by
   rw[List.map_cons,h]
   exact .cons _ _ (zO9 t)
theorem ints_perm {vs us:List Value}{ns:List Int}(p:vs.Perm us)(h:IntsAre us ns):∃ms,IntsAre vs ms/\ms.Perm ns:=by
 induction p generalizing ns with
 | nil=>cases h;exact⟨[],.nil,.nil⟩
 | cons x _ ih =>
   cases h with
   | cons n t h=>obtain⟨ms,h1,h2⟩:=ih h;exact⟨n::ms,.cons n t h1,h2.cons n⟩
 | swap x y l =>
   cases h with
   | cons n t h=>cases h with
     | cons m u h=>exact⟨m::n::_,.cons m u (.cons n t h),.swap _ _ _⟩
 | trans _ _ ih1 ih2 =>
   obtain⟨ms,h1,h2⟩:=ih2 h
   obtain⟨ks,h3,h4⟩:=ih1 h1
   exact⟨ks,h3,h4.trans h2⟩
theorem call_sortS (hc:X.calm=true):zp0 X (.builtin "sorted") (fun xs H Q=>∃(p:Addr) (ms:List Int),xs=[.ref p]/\H p=some (SetV X.w p ms)/\∀l,H l=none->Q (.ref l) (upd H l (.lst (ms.map V.int)))):=by
 intro pins s σ H xs us Q I r h
 obtain⟨p,ms,rfl,hp,q⟩:=h
 obtain⟨u,rfl,ru⟩:=zC0 r
 cases ru
 obtain⟨⟨ep,S⟩,_,_⟩:=(show zg7 X.prog X.w H s.heap p (SetV X.w p ms) from I.hok p _ hp)
 obtain⟨⟨o,es,t,ho,hex,hd,hel,hpl,hdu,hma,hpn,hle⟩,up,lo⟩:=S
 have h5:=(Sx.five up lo).1
 have hl:=hel.len
 have hls:t.place.size=es.size:=by rw[<-Array.length_toList,hpl,List.length_map,<-hl,Array.length_toList]
 have hl':es.size=ms.length:=by rw[<-hl,Array.length_toList]
 have g:Sx.SetGood X.w es t:=⟨Sx.fits_of hls hdu (by rw[hma];split<;>omega),hls,hpn,hle,by rw[hpl];exact Sx.nat_up up lo⟩
 refine Calls.call_function_entry kind_sorted plain_sorted entry_sorted (args_sorted1 _) ?_
 unfold Builtin.«sorted»
 refine wpAny_bind (m:=checkCount "sorted" 1 1 _) (wpAny_pure ?_)
 refine wpAny_bind (W.kdu_collect (Sx.s_src (ep:=ep) g) (show X.A.in1.handled=none from I.ok.hd hc) ⟨o,ho,hex,hd⟩ (by rw[sizeLine_eq];omega) fun h1 tk acc k1 hacc=>?_)
 have e:acc.toList=(Sx.ordOf X.w p ep es).toList.map (·.2):=by
   apply List.ext_getElem?
   intro j
   rcases Nat.lt_or_ge j es.size with z | z
   . have hj:j<acc.size:=by rw[hacc.1];exact z
     obtain⟨_,q⟩:=hacc.2 j acc[j] (getElem?_pos acc j hj)
     have hj2:j<(Sx.ordOf X.w p ep es).size:=by rw[Sx.ord_size];exact z
     rw[Array.getElem?_toList,getElem?_pos acc j hj,List.getElem?_map,Array.getElem?_toList,getElem?_pos _ j hj2,q]
     rfl
   . rw[List.getElem?_eq_none (by rw[Array.length_toList,hacc.1];exact z),List.getElem?_eq_none (by rw[List.length_map,Array.length_toList,Sx.ord_size];exact z)]
 obtain⟨ns,hi,hpm⟩:=ints_perm (vs:=acc.toList) (us:=es.toList.map (·.2)) (ns:=ms) (by rw[e];exact(Sx.ord_perm X.w p ep es).map _) (zO9 hel)
 have hal:acc.toList.length=ms.length:=by rw[Array.length_toList,hacc.1,hl']
 refine wpAny_bind (wpAny_newList ?_ (by rw[hal,sizeLine_eq];omega))
 have hoL:(h1.push (seqObj "list" acc.toList.toArray 0)).get? h1.objs.size=some (seqObj "list" acc.toList.toArray 0):=Heap.get?_push_size _ rfl
 show wpAny _ _ _ _ _ { s with heap:=h1.push (seqObj "list" acc.toList.toArray 0),toks:=tk }
 refine wpAny_bind (wpAny_holding (wpAny_call_entry slot_list_sort ⟨_,hoL,rfl⟩ entry_list_sort (list_sort_tree (s:={ s with heap:=h1.push (seqObj "list" acc.toList.toArray 0),toks:=tk }) hoL hi (by omega) fun out ns' a1 a2 a3=>⟨_,rfl,?_⟩) (args_list_sort _)))
 have I1:Inv X pins σ H { s with heap:=h1,toks:=tk }:=I.kept k1
 have en:ns'=ms:=sorted_eq (a2.trans hpm) a3 up
 subst en
 have ke:∀b u,h1.get? b=some u->(sortedHeap (h1.push (seqObj "list" acc.toList.toArray 0)) h1.objs.size acc.toList out).get? b=some u:=fun b u z=>by
   have hb:b≠h1.objs.size:=Nat.ne_of_lt (Heap.lt_size z)
   unfold sortedHeap
   rw[Heap.get?_update_ne _ _ _ _ hb]
   refine Heap.get?_push_of_some _ (Heap.get?_push_of_some _ ?_)
   rw[Heap.get?_update_ne _ _ _ _ hb]
   exact Heap.get?_push_of_some _ z
 have ob:∃c,(sortedHeap (h1.push (seqObj "list" acc.toList.toArray 0)) h1.objs.size acc.toList out).get? h1.objs.size=some (seqObj "list" out.toList.toArray c):=by
   obtain⟨e1,g1⟩:∃e1,((h1.push (seqObj "list" acc.toList.toArray 0)).update h1.objs.size (Obj.mapSeq fun _=>(#[]:Array Value))).get? h1.objs.size=some (seqObj "list" #[] e1):=⟨_,get?_update_seq hoL fun _=>#[]⟩
   have g2:=Heap.get?_push_of_some (seqObj "list" #[] 0) (Heap.get?_push_of_some (seqObj "tuple" acc.toList.toArray 0) g1)
   rw[Array.toArray_toList]
   exact⟨_,get?_update_seq g2 fun _=>out⟩
 obtain⟨c,ob⟩:=ob
 refine wpAny_pure ⟨_,rfl,⟨.ref h1.objs.size,_,I1.laid (s:={ s with heap:=h1,toks:=tk }) (t':=tk) (o:=.lst (ns'.map V.int)) ke (Nat.le_refl _) (show zg7 X.prog X.w _ _ _ (.lst _) from⟨?_,out.toList,c,?_,ob⟩),rfl,q _ (I1.hok.fresh (Nat.le_refl _))⟩⟩
 . rw[List.length_map,sizeLine_eq];omega
 . exact zA8 a1
end
end L2
namespace L2
open PySem
theorem Same.tups {H H':Hp}(s:Same H H'){ys:List V}{ks:List (List Int)}(h:Tups H ys ks):Tups H' ys ks:=Paired.mapP h fun y k ⟨b,e,hb⟩=>⟨b,e,s _ _ hb⟩
theorem zJ5 {H:Hp}{ys:List V}{ks:List (List Int)}(h:Tups H ys ks){b:Addr}{k:List Int}(hb:H b=some (.tup (k.map V.int))):Tups H (ys++[.ref b]) (ks++[k]):=Paired.snoc h ⟨b,rfl,hb⟩
theorem zU0 {H:Hp}:∀ {ys:List V} {ks:List (List Int)},Tups H ys ks->∀ {i:Nat} {y:V},ys[i]?=some y->∃b k,y = .ref b/\ks[i]?=some k/\H b=some (.tup (k.map V.int))
 | _,_,.nil,i,y,h=>by simp at h
 | _,_,.cons ⟨b,e,hb⟩ _,0,y,h=>by
   have h':some _=some y:=h
   obtain rfl:=Option.some.inj h'
   exact⟨b,_,e,rfl,hb⟩
 | _,_,.cons _ t,i+1,y,h=>by
   obtain⟨b,k,e,hk,hb⟩:=zU0 t (i:=i) (y:=y) (by simpa using h)
   exact⟨b,k,e,by simpa using hk,hb⟩
theorem zF7 {H:Hp}{ys:List V}{ks:List (List Int)}(h:Tups H ys ks):ys.length=ks.length:=Paired.length h
theorem ze5.same {H H1 H2:Hp}{l:Addr}(s:Same H H1)(hl:H l=none)(x:ze5 l H1 H2):Same H H2:=fun b o e=>x b o (s b o e) (zb2 e hl)
theorem Same.x {H H1:Hp}{l:Addr}(s:Same H H1):ze5 l H H1:=fun b o e _=>s b o e
theorem ze5.trans {H H1 H2:Hp}{l:Addr}(s:ze5 l H H1)(s':ze5 l H1 H2):ze5 l H H2:=fun b o e hb=>s' b o (s b o e hb) hb
theorem ze5.updX {H H1:Hp}{l:Addr}{o:HO}(s:ze5 l H H1):ze5 l H (L2.upd H1 l o):=fun b u e hb=>by rw[za7 hb];exact s b u e hb
theorem ze5.put {H H1:Hp}{l a:Addr}{o:HO}(s:ze5 l H H1)(h:H a=none):ze5 l H (L2.upd H1 a o):=fun b u e hb=>by rw[za7 (zb2 e h)];exact s b u e hb
theorem ze5.free {H H1:Hp}{l a:Addr}(s:ze5 l H H1)(h:H1 a=none)(hl:H1 l≠none):H a=none:=by
 cases e:H a with
 | none=>rfl
 | some o =>
   by_cases z:a=l
   . rw[z] at h;exact absurd h hl
   . rw[s a o e z] at h;cases h
theorem pe_bmK {X:Cx} {o e:Expr} {es:List Expr} {to:TE} {t:TA} {name:Str} {apos cpos:Pos} {T id:String} {r:V->List V->Hp->VK->Prop} (K:W.Frag) (h:X.K=K) (pa:PlainAttrs T) (slot:Slot T name id) (hty:typeOf (.builtin id)=pure (.type "method_descriptor")) (hm:MtR X id r) (ho:PE X o to) (ha:PA X (e::es) t)
 (hbase:attributeBase o name X.env (eval o X.env)=eval o X.env:=by rfl)
 (hfew:((backTo cpos (starEach (e::es) X.env)).all (fun x=>!x.1) && (backToKw cpos (keywordEach [] X.env)).all (fun x=>x.1.isSome)
   && decide ((e::es).length+([]:List Keyword).length+(if ([]:List Keyword).isEmpty then 0 else 1)<30))=true:=by rfl)
 (hline:(apos.endLine == cpos.line)=true:=by rfl) (hs:starEach (e::es) X.env=(false,eval e X.env)::starEach es X.env:=by rfl) (hplain:(backTo cpos (starEach es X.env)).any (·.1)=false:=by rfl) :
 PE X (.Call (.Attribute o name apos) (e::es) [] cpos) (tBM K T r to t):=h▸zE4 pa slot hty hm ho ha hbase hfew hline hs hplain
end L2
namespace L2
open PySem PySem.Spec PyProof.Rows
section
variable {X:Cx}
end
end L2
open PySem
namespace L2
section
variable {X:Cx}
end
end L2
namespace L2
open PySem PySem.Spec PyProof.Rows
open Classical in
open Classical in
section
variable {X:Cx}
end
section
variable {X:Cx}
end
section
variable {X:Cx}
end
end L2
namespace L2
open PySem PySem.W PySem.Calls PyProof.Rows
section
variable {prog:Program} {w:World} {A:Around} {E:Value->Shared->Prop} {s:Shared}
end
section
variable {prog:Program} {w:World} {A:Around} {E:Value->Shared->Prop} {s:Shared}
end
end L2
namespace L2
open PySem PySem.Spec PyProof.Rows
section
variable {X:Cx}
end
section
variable {X:Cx}
end
section
variable {X:Cx} {e k:Expr} {te:TE} {tk:TO} {pos p2:Pos}
end
section
variable {X:Cx}
end
section
variable {X:Cx}
end
section
variable {X:Cx} {tg l:Expr} {tl:TE}
end
section
variable {prog:Program} {w:World} {A:Around} {E:Value->Shared->Prop} {s:Shared}
end
section
variable {X:Cx} {es:List Expr} {k0:Nat} {tp:Pos}
end
noncomputable def tMethS (C:Addr)(m:Str)(sp:Sp)(dvs:List V)(Ex:St->XK)(ta:TE)(t:TA):TE:=fun σ H Q=>ta σ H fun x H1=>∃a dx fs,x = .ref a/\H1 a=some (.ins C dx fs)/\fs.lookup m=none ∧
 t σ H1 fun vs H2=>sp (x::(vs++dvs)) H2 Q (Ex σ)
section
variable {X:Cx} {CX:CXT} {k:Nat} {f C:Addr} {fd:FuncData} {ps:List Str} {sp:Sp} {dvs:List V} {ds:List Value} {Ex:St->XK} {x m:Str} {p pos apos:Pos} {e o:Expr} {es:List Expr} {ta:TE} {t:TA}
theorem run_fnS {pins:List (Addr×Obj)}{σ:St}{H:Hp}{s:Shared}{Q:VK}{us:List Value}{vs:List V}(F:FnOk X.prog X.w X.K X.mg X.base CX k f fd ps sp)(hr:Room k X.A)(hb:zb6 X.K fd ps ds)(hd:Vals dvs ds)(hx:zC8 CX X Ex)
   (I:Inv X pins σ H s) (r:Vals vs us) (h:sp (vs++dvs) H Q (Ex σ)):wpAny (model X.prog X.w) X.A (call (.ref f) us) (EP X pins σ Q) X.xe s:=by
 have r2:Vals (vs++dvs) (us++ds):=r.append hd
 have hl:(us++ds).length=ps.length:=by rw[<-r2.length];exact F.len _ _ _ _ h
 refine wpAny_call (codeAny_mono (F.run X.A X.stack s H ⟨us,[]⟩ (us++ds) (vs++dvs) Q (Ex σ) hr I.env0 (hb s us I.kIn hl) r2 h) fun r s' hq=>?_)
 cases r with
 | error e=>exact hx pins σ H s e s' I hq
 | ok fl =>
   cases fl with
   | ret u=>exact I.after hq
   | next=>exact False.elim hq
   | brk=>exact False.elim hq
   | cont=>exact False.elim hq
theorem pe_methS {pl:Sem Bool}(he:PE X o ta)(c:Cls X.K C)(hm:Meth X.K C m f)(F:FnOk X.prog X.w X.K X.mg X.base CX k f fd ps sp)(hr:Room k X.A)(hb:zb6 X.K fd ps ds)(hd:Vals dvs ds)(hx:zC8 CX X Ex)(ha:PA X (e::es) t)
   (hst:starEach (e::es) X.env=(false,eval e X.env)::starEach es X.env:=by rfl) (hpl:(backTo pos (starEach es X.env)).any (·.1)=false:=by rfl)
   (ht:eval (.Call (.Attribute o m apos) (e::es) [] pos) X.env=(do
     let ov <-eval o X.env
     standAt apos.atName
     let(f,first) <-holding [ov] (getMethod ov m pl)
     callWith pos f first (backTo pos (starEach (e::es) X.env)) (backToKw pos (keywordEach [] X.env))):=by rfl) :
   PE X (.Call (.Attribute o m apos) (e::es) [] pos) (tMethS C m sp dvs Ex ta t):=by
 intro pins s σ H Q I h
 refine W.methodCall_KW (pl:=pl) (thn (he pins s σ H _ I h) fun u s1 ⟨x,H1,I1,rx,a,dx,fs,ex,ea,l,q⟩=>?_) ht
 subst ex
 obtain rfl:u=Value.ref a:=rx
 refine zw8 I1 ea c hm l ?_
 refine W.callWith_K (first:=[.ref a]) (h₀:=X.base) I.ok.mod.kin hm.kp (thn (ha pos pins s1 σ H1 _ I1 q) fun us s2 ⟨vs,H2,I2,r,q2⟩=>⟨I2.kIn,?_⟩) hst hpl
 exact run_fnS (us:=.ref a::us) (vs:=.ref a::vs) F hr hb hd hx I2 (.cons rfl r) q2
end
noncomputable abbrev Nw (H:Hp)(o:HO)(Q:VK):Prop:=∀l H',Same H H'->H l=none->H' l=some o->Q (.ref l) H'
theorem Nw.go {H:Hp}{o:HO}{Q:VK}(q:Nw H o Q):∀p,H p=none->Q (.ref p) (upd H p o):=fun p hp=>q p _ (Same.upd hp) hp za5
section
variable {X:Cx} {es:List Expr} {t:TA} {pos:Pos}
noncomputable def tLstS (t:TA):TE:=fun σ H Q=>t σ H fun xs H1=>xs.length<=sizeLine/\Nw H1 (.lst xs) Q
theorem zc4 (h:PA X es t):PE X (.List es pos) (tLstS t):=by
 intro pins s σ H Q I hq
 refine wpAny_List_spliced (thn (h pos pins s σ H _ I hq) fun us s1 ⟨xs,H1,I1,r,z,q⟩=>⟨by rw[<-r.length];exact z,?_⟩)
 have hf:H1 s1.heap.objs.size=none:=I1.hok.fresh (Nat.le_refl _)
 refine⟨.ref s1.heap.objs.size,upd H1 s1.heap.objs.size (.lst xs),I1.laid (t':=s1.toks) (fun b u e=>Heap.get?_push_of_some _ e) (Nat.le_refl _) ?_,rfl,q.go _ hf⟩
 exact⟨z,us,0,r,Heap.get?_push_size _ rfl⟩
inductive zU1  (x:V)(y:V)(H:Hp)(Q:VK):Prop
 | mk (l b xs zs:_)(h0:x = .ref l)(h1:y = .ref b)(h2:H l=some (.lst xs))(h3:H b=some (.lst zs))(h4:xs.length+zs.length<=sizeLine)(h5:Nw H (.lst (xs++zs)) Q):zU1  x y H Q
noncomputable def rCatS:R2:=fun x y H Q=>zU1  x y H Q
theorem zD4:OpR X (binaryOp .Add) rCatS:=fun pins s σ H x y v u Q I rx ry ⟨l,b,xs,zs,e1,e2,h1,h2,z,q⟩=>op_cat pins s σ H x y v u Q I rx ry ⟨l,b,xs,zs,e1,e2,h1,h2,z,q.go⟩
noncomputable def rSplitS:V->List V->Hp->VK->Prop:=fun x vs H Q=>∃(z y:Str),x = .str z/\vs=[.str y]/\(y.length == 0)=false/\z.length<=1000000/\Nw H (.lst ((Txt.split z y).map V.str)) Q
theorem mt_splitS:MtR X "str.split" rSplitS:=fun pins s σ H x vs v us Q I rx rv ⟨z,y,e1,e2,h1,h2,q⟩=>mt_split pins s σ H x vs v us Q I rx rv ⟨z,y,e1,e2,h1,h2,q.go⟩
end
section
variable {X:Cx} {Ex:St->XK} {pos:Pos} {body:List Stmt} {tb:TS} {h0:ExceptHandler} {l:List ExceptHandler} {L:List (Addr×TS)}
end
section
variable {X:Cx} {E:XK} {pos:Pos} {body:List Stmt} {tb:TS} {h0:ExceptHandler} {l:List ExceptHandler} {L:List (Addr×TS)}
end
section
variable {X:Cx}
end
open Builtin.Str StrLaws
section
variable {X:Cx}
end
end L2
namespace Sx
open PySem PySem.W PySem.Calls PyProof.Rows
section
variable {prog:Program} {w:World} {A:Around} {E:Value->Shared->Prop} {s:Shared} {d it v:Addr} {es:Array DictEntry} {ep i:Nat}
end
end Sx
namespace L2
open PySem PySem.Spec PyProof.Rows
section
variable {X:Cx}
end
section
variable {M:Model} {A:Around} {E:Value->Shared->Prop}
end
section
variable {X:Cx} {pins:List (Addr×Obj)} {σ:St} {H:Hp} {s:Shared}
end
section
variable {X:Cx} {scope:Scope} {N':List Str} {ix:List (Option Nat)} {tg iter elt:Expr} {ifs:List Expr} {pos:Pos} {wi:TI} {g:TG} {tif:TT} {telt:TE}
end
end L2
namespace Bt
open PySem L2
noncomputable def top (i:Nat):Stmt:=PySem.Challenge.pw_beamtender_k12_error_classes.main.body.getD i (.Pass ⟨0,0,0,0⟩)
noncomputable abbrev zd6:Stmt:=zg0 (top 2) 0
noncomputable abbrev ze2:Stmt:=zg0 (top 6) 0
noncomputable abbrev zf0:Stmt:=zg0 (top 7) 0
noncomputable abbrev zd7:Stmt:=zg0 (top 8) 0
noncomputable abbrev zf7:Stmt:=zg0 (top 9) 0
noncomputable abbrev zd3:Stmt:=zg0 (top 10) 0
noncomputable abbrev zd4:Stmt:=zg0 (top 11) 0
noncomputable abbrev zg4:Stmt:=zg0 (top 14) 0
noncomputable abbrev zc9:Stmt:=zg0 (top 15) 0
noncomputable abbrev zf1:Stmt:=zg0 (top 3) 0
noncomputable abbrev zf2:Stmt:=zg0 (top 4) 0
noncomputable abbrev zd0:Stmt:=zg0 (top 5) 0
noncomputable abbrev zd8:Stmt:=zg0 (top 12) 0
noncomputable abbrev ze3:Stmt:=zg0 (top 13) 0
noncomputable abbrev ze4:Stmt:=zg0 (top 16) 0
noncomputable abbrev zk6:Stmt:=zg0 (top 24) 0
noncomputable abbrev zn3:Stmt:=top 25
noncomputable abbrev zh7:Stmt:=top 26
noncomputable abbrev zi5:Stmt:=top 27
noncomputable abbrev zg2:Stmt:=top 28
noncomputable abbrev zi6:Stmt:=top 29
noncomputable abbrev zt6:Stmt:=top 31
noncomputable abbrev zA9:Stmt:=top 32
noncomputable abbrev zv2:Stmt:=top 33
noncomputable abbrev zn4:Stmt:=top 34
noncomputable abbrev zv3:Stmt:=top 36
noncomputable abbrev zo2:Stmt:=top 37
noncomputable abbrev zp9:Stmt:=top 38
noncomputable abbrev zq0:Stmt:=top 39
noncomputable abbrev zB0:Stmt:=top 40
noncomputable abbrev zj4:Stmt:=top 41
noncomputable abbrev zh8:Stmt:=top 42
noncomputable abbrev zk7:Stmt:=top 43
noncomputable abbrev zi7:Stmt:=top 44
noncomputable abbrev zt7:Stmt:=top 45
noncomputable abbrev zl7:Stmt:=zg0 (top 47) 0
noncomputable abbrev zq1:Stmt:=top 48
noncomputable abbrev zk8:Stmt:=top 49
noncomputable abbrev zq2:Stmt:=top 50
noncomputable abbrev zj5:Stmt:=top 51
noncomputable abbrev zq3:Stmt:=top 52
noncomputable abbrev ze7:Stmt:=top 53
noncomputable abbrev zk9:Stmt:=zg0 (top 56) 0
noncomputable abbrev zl0:Stmt:=zg0 (top 56) 1
noncomputable abbrev zl1:Stmt:=zg0 (top 56) 2
noncomputable abbrev zl2:Stmt:=top 60
noncomputable abbrev zB1:Stmt:=top 65
noncomputable abbrev zn5:Stmt:=top 66
noncomputable abbrev zl8:Stmt:=top 67
noncomputable abbrev zn6:Stmt:=top 68
noncomputable abbrev zJ6:Stmt:=top 69
theorem sc_BeamError_init:zb5 ["self","reason","word"] ["self","reason","word"] (za2 zd6):={}
theorem sc_NoWeight_init:zb5 ["self","reason"] ["self","reason"] (za2 ze2):={}
theorem sc_NoPlace_init:zb5 ["self","reason"] ["self","reason"] (za2 zf0):={}
theorem sc_SamePlace_init:zb5 ["self","reason"] ["self","reason"] (za2 zd7):={}
theorem sc_NoRoom_init:zb5 ["self","reason"] ["self","reason"] (za2 zf7):={}
theorem sc_TipsInHand_init:zb5 ["self","reason"] ["self","reason"] (za2 zd3):={}
theorem sc_TipsBehind_init:zb5 ["self","reason"] ["self","reason"] (za2 zd4):={}
theorem sc_NoWay_init:zb5 ["self","reason"] ["self","reason"] (za2 zg4):={}
theorem sc_NothingBack_init:zb5 ["self","reason"] ["self","reason"] (za2 zc9):={}
theorem sc_BadText_init:zb5 ["self","reason"] ["self","reason"] (za2 zf1):={}
theorem sc_BadBeam_init:zb5 ["self","reason"] ["self","reason"] (za2 zf2):={}
theorem sc_BadStanding_init:zb5 ["self","reason"] ["self","reason"] (za2 zd0):={}
theorem sc_StartPast_init:zb5 ["self","reason"] ["self","reason"] (za2 zd8):={}
theorem sc_GoalPast_init:zb5 ["self","reason"] ["self","reason"] (za2 ze3):={}
theorem sc_PlayFull_init:zb5 ["self","reason"] ["self","reason"] (za2 ze4):={}
theorem zy9:zb5 ["self","notches","room","hefts","limit"] ["self","notches","room","hefts","limit"] (za2 zk6):={}
theorem sc_outside:zb5 ["number","low","high"] ["number","low","high"] (za2 zn3):={}
theorem zs0:zb5 ["notches","room","limit"] ["notches","room","limit"] (za2 zh7):={}
theorem zt8:zb5 ["hefts","heft"] ["hefts"] (za2 zi5):={}
theorem zi2:zb5 ["notches","weights","many","weight"] ["notches","weights"] (za2 zg2):={}
theorem zi9:zb5 ["beam","standing","places","place"] ["beam","standing"] (za2 zi6):={}
theorem zD5:zb5 ["beam","standing","places"] ["beam","standing"] (za2 zt6):={}
theorem zB2:zi4 ["beam","standing","places"] (za2 zt6) (zx6 (zR6 (stE (stAt (za9 zt6) 1)) 0)) ["heft","place"] [none,none]:=⟨rfl,by decide +kernel,by decide +kernel,by decide +kernel,rfl,by decide +kernel,by decide +kernel⟩
theorem sc_past:zb5 ["beam","tipped"] ["beam","tipped"] (za2 zA9):={}
theorem sc_keeps:zb5 ["beam","standing"] ["beam","standing"] (za2 zv2):={}
theorem zF8:zb5 ["beam","standing","weight","places"] ["beam","standing","weight"] (za2 zn4):={}
theorem zP0:zb5 ["beam","standing","move","places"] ["beam","standing","move"] (za2 zv3):={}
theorem zz0:zb5 ["beam","standing","places","told","weight"] ["beam","standing"] (za2 zo2):={}
theorem zF9:zi4 ["beam","standing","places","told","weight"] (za2 zo2) (zx6 (zR6 (stE (stAt (stBody (stAt (za9 zo2) 2)) 0)) 0)) ["put","weight","places"] [none,some 4,some 2]:=⟨rfl,by decide +kernel,by decide +kernel,by decide +kernel,rfl,by decide +kernel,by decide +kernel⟩
theorem sc_turned:zb5 ["move"] ["move"] (za2 zp9):={}
theorem sc_behind:zb5 ["places","move"] ["places","move"] (za2 zq0):={}
theorem sc_full:zb5 ["beam","places","place"] ["beam","places","place"] (za2 zB0):={}
theorem sc_check_move:zb5 ["beam","places","weight","taken","put"] ["beam","places","weight","taken","put"] (za2 zj4):={}
theorem sc_check_weight:zb5 ["places","weight","taken"] ["places","weight","taken"] (za2 zh8):={}
theorem sc_check_put:zb5 ["beam","places","taken","put"] ["beam","places","taken","put"] (za2 zk7):={}
theorem sc_check_tilts:zb5 ["beam","held","added"] ["beam","held","added"] (za2 zi7):={}
theorem zD6:zb5 ["beam","places","weight","held","lies","heft"] ["beam","places","weight"] (za2 zt7):={}
theorem zJ7:zi4 ["beam","places","weight","held","lies","heft"] (za2 zt7) (zx6 (stE (stAt (za9 zt7) 4))) ["put","lies","beam","places","held","heft"] [none,some 4,some 0,some 1,some 3,some 5]:=⟨rfl,by decide +kernel,by decide +kernel,by decide +kernel,rfl,by decide +kernel,by decide +kernel⟩
theorem sc_Way_init:zb5 ["self","reached","many","row","layers","again","shut"] ["self","reached","many","row","layers","again","shut"] (za2 zl7):={}
theorem zj6:zb5 ["beam","start","goal","first","last"] ["beam","start","goal"] (za2 zq1):={}
theorem zn0:zb5 ["beam","start","goal","way"] ["beam","start","goal"] (za2 zk8):={}
theorem zq4:zb5 ["beam","start","goal","layers","led","layer","row"] ["beam","start","goal"] (za2 zq2):={}
theorem zk1:zb5 ["beam","layer","led","found","standing","move","reached"] ["beam","layer","led"] (za2 zj5):={}
theorem zv4:zb5 ["goal","led","row","standing"] ["goal","led"] (za2 zq3):={}
theorem zt9:zb5 ["row","weights"] ["row"] (za2 ze7):={}
theorem zq5:zi4 ["row","weights"] (za2 ze7) (zx6 (stE (stAt (za9 ze7) 0))) ["move"] [none]:=⟨rfl,by decide +kernel,by decide +kernel,by decide +kernel,rfl,by decide +kernel,by decide +kernel⟩
theorem zq6:zi4 ["row","weights"] (za2 ze7) (zx6 (zR6 (zR6 (stE (stAt (za9 ze7) 1)) 0) 0)) ["weight","weights"] [none,some 1]:=⟨rfl,by decide +kernel,by decide +kernel,by decide +kernel,rfl,by decide +kernel,by decide +kernel⟩
theorem zz1:zb5 ["self","beam","start","first"] ["self","beam","start"] (za2 zk9):={}
theorem zz2:zb5 ["self","move"] ["self","move"] (za2 zl0):={}
theorem sc_Play_back:zb5 ["self","last"] ["self"] (za2 zl1):={}
theorem zz3:zb5 ["text","words"] ["text"] (za2 zl2):={}
theorem sc_w_at:zb5 ["_law_script","_law_k"] ["_law_script","_law_k"] (za2 zB1):={}
theorem sc_w_bring:zb5 ["_law_which","_law_stiff","_law_loose","_law_notch"] ["_law_which","_law_stiff","_law_loose","_law_notch"] (za2 zn5):={}
theorem zu0:zb5 ["_law_loose","_law_notch","_law_play","_law_k"] ["_law_loose","_law_notch"] (za2 zl8):={}
theorem zj0:zb5 ["_law_which","_law_stiff","_law_loose","_law_play","_law_notch","_law_flags_here","e"] ["_law_which","_law_stiff","_law_loose","_law_play","_law_notch"] (za2 zn6):={}
theorem zo8:zb5 ["_law_script","_law_notches","_law_heft","_law_notch","_law_stiff","_law_loose","_law_play","_law_which","_law_flags_here","_law_k"] ["_law_script"] (za2 zJ6):={}
set_option genInjectivity false in
set_option genSizeOf false in
structure Adr where
 ao:Addr
 ap:FuncData
 aE:Addr
 bb:FuncData
 aJ:Addr
 bg:FuncData
 aD:Addr
 a9:FuncData
 aO:Addr
 br:FuncData
 az:Addr
 aZ:FuncData
 aA:Addr
 a0:FuncData
 aS:Addr
 bz:FuncData
 ax:Addr
 aT:FuncData
 aK:Addr
 bh:FuncData
 aL:Addr
 bi:FuncData
 ay:Addr
 aU:FuncData
 aw:Addr
 aN:FuncData
 aF:Addr
 bc:FuncData
 aG:Addr
 bd:FuncData
 aP:Addr
 a2:FuncData
 aB:Addr
 aH:FuncData
 aC:Addr
 aM:FuncData
 a6:Addr
 bs:FuncData
 aI:Addr
 a1:FuncData
 au:Addr
 av:FuncData
 bA:Addr
 bK:FuncData
 bL:Addr
 bS:FuncData
 bj:Addr
 bx:FuncData
 bq:Addr
 bE:FuncData
 bM:Addr
 bW:FuncData
 bX:Addr
 b4:FuncData
 bN:Addr
 bY:FuncData
 bk:Addr
 bB:FuncData
 bT:Addr
 b1:FuncData
 be:Addr
 bC:FuncData
 aX:Addr
 bl:FuncData
 bm:Addr
 bH:FuncData
 a7:Addr
 bt:FuncData
 b2:Addr
 b5:FuncData
 bv:Addr
 bO:FuncData
 aV:Addr
 ba:FuncData
 aQ:Addr
 a3:FuncData
 bP:Addr
 bZ:FuncData
 bf:Addr
 bD:FuncData
 bQ:Addr
 b0:FuncData
 a8:Addr
 bu:FuncData
 a4:Addr
 bn:FuncData
 aR:Addr
 a5:FuncData
 bo:Addr
 bI:FuncData
 bp:Addr
 bJ:FuncData
 b3:Addr
 b6:FuncData
 bF:Addr
 bU:FuncData
 bw:Addr
 bR:FuncData
 bG:Addr
 bV:FuncData
 b7:Addr
 b9:FuncData
 aW:Addr
 aY:Addr
 ar:Addr
 ag:Addr
 aj:Addr
 ae:Addr
 am:Addr
 ac:Addr
 ad:Addr
 an:Addr
 ab:Addr
 al:Addr
 ak:Addr
 aa:Addr
 af:Addr
 ah:Addr
 ai:Addr
 aq:Addr
 ca:Tok
 ce:Tok
 cc:Tok
 cb:Tok
 cf:Tok
 b8:Tok
 cd:Tok
structure Txt (K:W.Frag)(mg:Str->Option Value)(t:Adr):Prop where
 fN:FunD K "__init__" "BeamError.__init__" zd6 t.ao t.ap
 aa:zb6 K t.ap ["self","reason","word"] []
 iN:W.keepIn K (.ref t.ao)=true
 f5:FunD K "__init__" "NoWeight.__init__" ze2 t.aE t.bb
 aJ:zb6 K t.bb ["self","reason"] []
 iO:W.keepIn K (.ref t.aE)=true
 gg:FunD K "__init__" "NoPlace.__init__" zf0 t.aJ t.bg
 gh:zb6 K t.bg ["self","reason"] []
 iP:W.keepIn K (.ref t.aJ)=true
 fO:FunD K "__init__" "SamePlace.__init__" zd7 t.aD t.a9
 fP:zb6 K t.a9 ["self","reason"] []
 iQ:W.keepIn K (.ref t.aD)=true
 gA:FunD K "__init__" "NoRoom.__init__" zf7 t.aO t.br
 gB:zb6 K t.br ["self","reason"] []
 iR:W.keepIn K (.ref t.aO)=true
 fo:FunD K "__init__" "TipsInHand.__init__" zd3 t.az t.aZ
 fp:zb6 K t.aZ ["self","reason"] []
 iS:W.keepIn K (.ref t.az)=true
 fq:FunD K "__init__" "TipsBehind.__init__" zd4 t.aA t.a0
 fr:zb6 K t.a0 ["self","reason"] []
 iT:W.keepIn K (.ref t.aA)=true
 gX:FunD K "__init__" "NoWay.__init__" zg4 t.aS t.bz
 gY:zb6 K t.bz ["self","reason"] []
 iU:W.keepIn K (.ref t.aS)=true
 eI:FunD K "__init__" "NothingBack.__init__" zc9 t.ax t.aT
 eJ:zb6 K t.aT ["self","reason"] []
 iV:W.keepIn K (.ref t.ax)=true
 gi:FunD K "__init__" "BadText.__init__" zf1 t.aK t.bh
 gj:zb6 K t.bh ["self","reason"] []
 iW:W.keepIn K (.ref t.aK)=true
 gk:FunD K "__init__" "BadBeam.__init__" zf2 t.aL t.bi
 gl:zb6 K t.bi ["self","reason"] []
 iX:W.keepIn K (.ref t.aL)=true
 eK:FunD K "__init__" "BadStanding.__init__" zd0 t.ay t.aU
 eL:zb6 K t.aU ["self","reason"] []
 iY:W.keepIn K (.ref t.ay)=true
 fQ:FunD K "__init__" "StartPast.__init__" zd8 t.aw t.aN
 aI:zb6 K t.aN ["self","reason"] []
 iZ:W.keepIn K (.ref t.aw)=true
 f6:FunD K "__init__" "GoalPast.__init__" ze3 t.aF t.bc
 f7:zb6 K t.bc ["self","reason"] []
 i0:W.keepIn K (.ref t.aF)=true
 f8:FunD K "__init__" "PlayFull.__init__" ze4 t.aG t.bd
 f9:zb6 K t.bd ["self","reason"] []
 i1:W.keepIn K (.ref t.aG)=true
 cd:Fun K "__init__" "Beam.__init__" zk6 t.aP t.a2
 aE:zb6 K t.a2 ["self","notches","room","hefts","limit"] []
 i2:W.keepIn K (.ref t.aP)=true
 hW:Fun K "outside" "outside" zn3 t.aB t.aH
 am:zb6 K t.aH ["number","low","high"] []
 an:mg "outside" = some (.ref t.aB)
 ao:W.keepIn K (.ref t.aB)=true
 aQ:Fun K "check_bounds" "check_bounds" zh7 t.aC t.aM
 aR:zb6 K t.aM ["notches","room","limit"] []
 aS:mg "check_bounds" = some (.ref t.aC)
 aT:W.keepIn K (.ref t.aC)=true
 gC:Fun K "check_hefts" "check_hefts" zi5 t.a6 t.bs
 gD:zb6 K t.bs ["hefts"] []
 gE:mg "check_hefts" = some (.ref t.a6)
 gF:W.keepIn K (.ref t.a6)=true
 fs:Fun K "check_standings" "check_standings" zg2 t.aI t.a1
 ft:zb6 K t.a1 ["notches","weights"] []
 fu:mg "check_standings" = some (.ref t.aI)
 fv:W.keepIn K (.ref t.aI)=true
 aX:Fun K "as_standing" "as_standing" zi6 t.au t.av
 af:zb6 K t.av ["beam","standing"] []
 ag:mg "as_standing" = some (.ref t.au)
 ah:W.keepIn K (.ref t.au)=true
 gZ:Fun K "tilt" "tilt" zt6 t.bA t.bK
 eM:zb6 K t.bK ["beam","standing"] []
 eN:mg "tilt" = some (.ref t.bA)
 eO:W.keepIn K (.ref t.bA)=true
 iB:Fun K "past" "past" zA9 t.bL t.bS
 aK:zb6 K t.bS ["beam","tipped"] []
 aL:mg "past" = some (.ref t.bL)
 aM:W.keepIn K (.ref t.bL)=true
 iu:Fun K "keeps" "keeps" zv2 t.bj t.bx
 ax:zb6 K t.bx ["beam","standing"] []
 ay:mg "keeps" = some (.ref t.bj)
 az:W.keepIn K (.ref t.bj)=true
 hX:Fun K "in_hand" "in_hand" zn4 t.bq t.bE
 eP:zb6 K t.bE ["beam","standing","weight"] []
 eQ:mg "in_hand" = some (.ref t.bq)
 eR:W.keepIn K (.ref t.bq)=true
 iv:Fun K "moved" "moved" zv3 t.bM t.bW
 ar:zb6 K t.bW ["beam","standing","move"] []
 au:mg "moved" = some (.ref t.bM)
 av:W.keepIn K (.ref t.bM)=true
 iw:Fun K "moves" "moves" zo2 t.bX t.b4
 ix:zb6 K t.b4 ["beam","standing"] []
 iy:mg "moves" = some (.ref t.bX)
 iz:W.keepIn K (.ref t.bX)=true
 ib:Fun K "turned" "turned" zp9 t.bN t.bY
 ic:zb6 K t.bY ["move"] []
 id:mg "turned" = some (.ref t.bN)
 ie:W.keepIn K (.ref t.bN)=true
 ig:Fun K "behind" "behind" zq0 t.bk t.bB
 bg:zb6 K t.bB ["places","move"] []
 bh:mg "behind" = some (.ref t.bk)
 bi:W.keepIn K (.ref t.bk)=true
 iC:Fun K "full" "full" zB0 t.bT t.b1
 g0:zb6 K t.b1 ["beam","places","place"] []
 g1:mg "full" = some (.ref t.bT)
 g2:W.keepIn K (.ref t.bT)=true
 g3:Fun K "check_move" "check_move" zj4 t.be t.bC
 g4:zb6 K t.bC ["beam","places","weight","taken","put"] []
 g5:mg "check_move" = some (.ref t.be)
 g6:W.keepIn K (.ref t.be)=true
 gm:Fun K "check_weight" "check_weight" zh8 t.aX t.bl
 gn:zb6 K t.bl ["places","weight","taken"] []
 go:mg "check_weight" = some (.ref t.aX)
 gp:W.keepIn K (.ref t.aX)=true
 hm:Fun K "check_put" "check_put" zk7 t.bm t.bH
 hn:zb6 K t.bH ["beam","places","taken","put"] []
 ho:mg "check_put" = some (.ref t.bm)
 hp:W.keepIn K (.ref t.bm)=true
 gG:Fun K "check_tilts" "check_tilts" zi7 t.a7 t.bt
 gH:zb6 K t.bt ["beam","held","added"] []
 gI:mg "check_tilts" = some (.ref t.a7)
 gJ:W.keepIn K (.ref t.a7)=true
 iD:Fun K "puts" "puts" zt7 t.b2 t.b5
 iE:zb6 K t.b5 ["beam","places","weight"] []
 iF:mg "puts" = some (.ref t.b2)
 iG:W.keepIn K (.ref t.b2)=true
 hH:Fun K "__init__" "Way.__init__" zl7 t.bv t.bO
 dx:zb6 K t.bO ["self","reached","many","row","layers","again","shut"] []
 i3:W.keepIn K (.ref t.bv)=true
 bj:Fun K "fewest" "fewest" zq1 t.aV t.ba
 bk:zb6 K t.ba ["beam","start","goal"] []
 bl:mg "fewest" = some (.ref t.aV)
 bm:W.keepIn K (.ref t.aV)=true
 ce:Fun K "next_move" "next_move" zk8 t.aQ t.a3
 cf:zb6 K t.a3 ["beam","start","goal"] []
 cg:mg "next_move" = some (.ref t.aQ)
 ch:W.keepIn K (.ref t.aQ)=true
 ih:Fun K "search" "search" zq2 t.bP t.bZ
 ii:zb6 K t.bZ ["beam","start","goal"] []
 ij:mg "search" = some (.ref t.bP)
 ik:W.keepIn K (.ref t.bP)=true
 g7:Fun K "next_layer" "next_layer" zj5 t.bf t.bD
 g8:zb6 K t.bD ["beam","layer","led"] []
 g9:mg "next_layer" = some (.ref t.bf)
 ha:W.keepIn K (.ref t.bf)=true
 il:Fun K "row_to" "row_to" zq3 t.bQ t.b0
 im:zb6 K t.b0 ["goal","led"] []
 io:mg "row_to" = some (.ref t.bQ)
 ip:W.keepIn K (.ref t.bQ)=true
 gK:Fun K "moved_again" "moved_again" ze7 t.a8 t.bu
 gL:zb6 K t.bu ["row"] []
 gM:mg "moved_again" = some (.ref t.a8)
 gN:W.keepIn K (.ref t.a8)=true
 hq:Fun K "__init__" "Play.__init__" zk9 t.a4 t.bn
 ci:zb6 K t.bn ["self","beam","start"] []
 i4:W.keepIn K (.ref t.a4)=true
 cj:Fun K "move" "Play.move" zl0 t.aR t.a5
 aF:zb6 K t.a5 ["self","move"] []
 i5:W.keepIn K (.ref t.aR)=true
 hr:Fun K "back" "Play.back" zl1 t.bo t.bI
 hs:zb6 K t.bI ["self"] []
 i6:W.keepIn K (.ref t.bo)=true
 ht:Fun K "read_move" "read_move" zl2 t.bp t.bJ
 hu:zb6 K t.bJ ["text"] []
 hv:mg "read_move" = some (.ref t.bp)
 hw:W.keepIn K (.ref t.bp)=true
 iH:Fun K "_law_at" "_law_at" zB1 t.b3 t.b6
 bn:zb6 K t.b6 ["_law_script","_law_k"] []
 bo:mg "_law_at" = some (.ref t.b3)
 bp:W.keepIn K (.ref t.b3)=true
 hY:Fun K "_law_bring" "_law_bring" zn5 t.bF t.bU
 hZ:zb6 K t.bU ["_law_which","_law_stiff","_law_loose","_law_notch"] []
 h0:mg "_law_bring" = some (.ref t.bF)
 h1:W.keepIn K (.ref t.bF)=true
 hI:Fun K "_law_played" "_law_played" zl8 t.bw t.bR
 hJ:zb6 K t.bR ["_law_loose","_law_notch"] []
 hK:mg "_law_played" = some (.ref t.bw)
 hL:W.keepIn K (.ref t.bw)=true
 h2:Fun K "_law_flags" "_law_flags" zn6 t.bG t.bV
 h3:zb6 K t.bV ["_law_which","_law_stiff","_law_loose","_law_play","_law_notch"] []
 h4:mg "_law_flags" = some (.ref t.bG)
 h5:W.keepIn K (.ref t.bG)=true
 iI:Fun K "law" "law" zJ6 t.b7 t.b9
 i7:zb6 K t.b9 ["_law_script"] []
 i8:mg "law" = some (.ref t.b7)
 i9:W.keepIn K (.ref t.b7)=true
 ac:Cls K t.aW
 eS:mg "Beam" = some (.ref t.aW)
 cV:Mk K t.aW t.aP
 ai:zc1 K t.aW "notches"
 aw:zc1 K t.aW "room"
 aj:zc1 K t.aW "hefts"
 aC:zc1 K t.aW "limit"
 aA:Cls K t.aY
 hM:mg "Way" = some (.ref t.aY)
 hb:Mk K t.aY t.bv
 aU:zc1 K t.aY "reached"
 hx:zc1 K t.aY "many"
 hN:zc1 K t.aY "row"
 gO:zc1 K t.aY "layers"
 hc:zc1 K t.aY "again"
 hy:zc1 K t.aY "shut"
 ak:Cls K t.ar
 hd:mg "Play" = some (.ref t.ar)
 gq:Mk K t.ar t.a4
 bq:zc1 K t.ar "beam"
 gP:zc1 K t.ar "start"
 ap:zc1 K t.ar "standing"
 aq:zc1 K t.ar "made"
 aD:Meth K t.ar "move" t.aR
 he:Meth K t.ar "back" t.bo
 aN:mg "NoWeight" = some (.ref t.ag)
 eT:mg "NoPlace" = some (.ref t.aj)
 ck:mg "SamePlace" = some (.ref t.ae)
 fR:mg "NoRoom" = some (.ref t.am)
 br:mg "TipsInHand" = some (.ref t.ac)
 bs:mg "TipsBehind" = some (.ref t.ad)
 gr:mg "NoWay" = some (.ref t.an)
 aY:mg "NothingBack" = some (.ref t.ab)
 eU:mg "BadText" = some (.ref t.al)
 eV:mg "BadBeam" = some (.ref t.ak)
 aZ:mg "BadStanding" = some (.ref t.aa)
 aG:mg "StartPast" = some (.ref t.af)
 dy:mg "GoalPast" = some (.ref t.ah)
 dz:mg "PlayFull" = some (.ref t.ai)
 ae:mg "BeamError" = some (.ref t.aq)
 aO:XCls K t.ag
 eW:XCls K t.aj
 cl:XCls K t.ae
 fS:XCls K t.am
 bt:XCls K t.ac
 bu:XCls K t.ad
 gs:XCls K t.an
 a0:XCls K t.ab
 eX:XCls K t.al
 eY:XCls K t.ak
 a1:XCls K t.aa
 aH:XCls K t.af
 dA:XCls K t.ah
 dB:XCls K t.ai
 dC:W.findIn K (.ref t.ag) "__init__" = some (some (.ref t.aE))
 cm:W.isFn K (.ref t.aE)=true
 eZ:zc1 K t.ag "reason"
 fT:zc1 K t.ag "word"
 h6:W.findIn K (.ref t.aj) "__init__" = some (some (.ref t.aJ))
 hO:W.isFn K (.ref t.aJ)=true
 fw:zc1 K t.aj "reason"
 ga:zc1 K t.aj "word"
 hz:W.findIn K (.ref t.ae) "__init__" = some (some (.ref t.aD))
 hf:W.isFn K (.ref t.aD)=true
 ec:zc1 K t.ae "reason"
 fx:zc1 K t.ae "word"
 iq:W.findIn K (.ref t.am) "__init__" = some (some (.ref t.aO))
 h7:W.isFn K (.ref t.aO)=true
 fU:zc1 K t.am "reason"
 gt:zc1 K t.am "word"
 hg:W.findIn K (.ref t.ac) "__init__" = some (some (.ref t.az))
 gQ:W.isFn K (.ref t.az)=true
 dD:zc1 K t.ac "reason"
 e0:zc1 K t.ac "word"
 hh:W.findIn K (.ref t.ad) "__init__" = some (some (.ref t.aA))
 gR:W.isFn K (.ref t.aA)=true
 dE:zc1 K t.ad "reason"
 e1:zc1 K t.ad "word"
 iA:W.findIn K (.ref t.an) "__init__" = some (some (.ref t.aS))
 ir:W.isFn K (.ref t.aS)=true
 gb:zc1 K t.an "reason"
 gS:zc1 K t.an "word"
 gT:W.findIn K (.ref t.ab) "__init__" = some (some (.ref t.ax))
 gu:W.isFn K (.ref t.ax)=true
 cW:zc1 K t.ab "reason"
 ed:zc1 K t.ab "word"
 h8:W.findIn K (.ref t.al) "__init__" = some (some (.ref t.aK))
 hP:W.isFn K (.ref t.aK)=true
 fy:zc1 K t.al "reason"
 gc:zc1 K t.al "word"
 h9:W.findIn K (.ref t.ak) "__init__" = some (some (.ref t.aL))
 hQ:W.isFn K (.ref t.aL)=true
 fz:zc1 K t.ak "reason"
 gd:zc1 K t.ak "word"
 gU:W.findIn K (.ref t.aa) "__init__" = some (some (.ref t.ay))
 gv:W.isFn K (.ref t.ay)=true
 cX:zc1 K t.aa "reason"
 ee:zc1 K t.aa "word"
 cn:W.findIn K (.ref t.af) "__init__" = some (some (.ref t.aw))
 bv:W.isFn K (.ref t.aw)=true
 ef:zc1 K t.af "reason"
 fA:zc1 K t.af "word"
 hR:W.findIn K (.ref t.ah) "__init__" = some (some (.ref t.aF))
 hA:W.isFn K (.ref t.aF)=true
 e2:zc1 K t.ah "reason"
 fV:zc1 K t.ah "word"
 hS:W.findIn K (.ref t.ai) "__init__" = some (some (.ref t.aG))
 hB:W.isFn K (.ref t.aG)=true
 e3:zc1 K t.ai "reason"
 fW:zc1 K t.ai "word"
 aP:XWay K
 hC:XAsk K t.ag
 cY:W.exmOne K (.ref t.ag) (.ref t.aq)=some true
 eg:W.kitOne K (.ref t.ag) (.ref t.al)=some false
 eh:W.kitOne K (.ref t.ag) (.ref t.ak)=some false
 bP:W.kitOne K (.ref t.ag) (.ref t.aa)=some false
 dF:W.kitOne K (.ref t.ag) (.ref t.ag)=some true
 ei:W.kitOne K (.ref t.ag) (.ref t.aj)=some false
 cZ:W.kitOne K (.ref t.ag) (.ref t.ae)=some false
 e4:W.kitOne K (.ref t.ag) (.ref t.am)=some false
 co:W.kitOne K (.ref t.ag) (.ref t.ac)=some false
 cp:W.kitOne K (.ref t.ag) (.ref t.ad)=some false
 c0:W.kitOne K (.ref t.ag) (.ref t.af)=some false
 dG:W.kitOne K (.ref t.ag) (.ref t.ah)=some false
 fB:W.kitOne K (.ref t.ag) (.ref t.an)=some false
 bQ:W.kitOne K (.ref t.ag) (.ref t.ab)=some false
 dH:W.kitOne K (.ref t.ag) (.ref t.ai)=some false
 cq:W.kitOne K (.ref t.ag) (.type "ValueError")=some true
 hT:XAsk K t.aj
 dI:W.exmOne K (.ref t.aj) (.ref t.aq)=some true
 e5:W.kitOne K (.ref t.aj) (.ref t.al)=some false
 e6:W.kitOne K (.ref t.aj) (.ref t.ak)=some false
 cr:W.kitOne K (.ref t.aj) (.ref t.aa)=some false
 ej:W.kitOne K (.ref t.aj) (.ref t.ag)=some false
 e7:W.kitOne K (.ref t.aj) (.ref t.aj)=some true
 dJ:W.kitOne K (.ref t.aj) (.ref t.ae)=some false
 fC:W.kitOne K (.ref t.aj) (.ref t.am)=some false
 c1:W.kitOne K (.ref t.aj) (.ref t.ac)=some false
 c2:W.kitOne K (.ref t.aj) (.ref t.ad)=some false
 dK:W.kitOne K (.ref t.aj) (.ref t.af)=some false
 ek:W.kitOne K (.ref t.aj) (.ref t.ah)=some false
 fX:W.kitOne K (.ref t.aj) (.ref t.an)=some false
 cs:W.kitOne K (.ref t.aj) (.ref t.ab)=some false
 el:W.kitOne K (.ref t.aj) (.ref t.ai)=some false
 c3:W.kitOne K (.ref t.aj) (.type "ValueError")=some true
 hi:XAsk K t.ae
 ct:W.exmOne K (.ref t.ae) (.ref t.aq)=some true
 dL:W.kitOne K (.ref t.ae) (.ref t.al)=some false
 dM:W.kitOne K (.ref t.ae) (.ref t.ak)=some false
 bw:W.kitOne K (.ref t.ae) (.ref t.aa)=some false
 c4:W.kitOne K (.ref t.ae) (.ref t.ag)=some false
 dN:W.kitOne K (.ref t.ae) (.ref t.aj)=some false
 cu:W.kitOne K (.ref t.ae) (.ref t.ae)=some true
 em:W.kitOne K (.ref t.ae) (.ref t.am)=some false
 bR:W.kitOne K (.ref t.ae) (.ref t.ac)=some false
 bS:W.kitOne K (.ref t.ae) (.ref t.ad)=some false
 cv:W.kitOne K (.ref t.ae) (.ref t.af)=some false
 c5:W.kitOne K (.ref t.ae) (.ref t.ah)=some false
 e8:W.kitOne K (.ref t.ae) (.ref t.an)=some false
 bx:W.kitOne K (.ref t.ae) (.ref t.ab)=some false
 c6:W.kitOne K (.ref t.ae) (.ref t.ai)=some false
 bT:W.kitOne K (.ref t.ae) (.type "ValueError")=some true
 ia:XAsk K t.am
 en:W.exmOne K (.ref t.am) (.ref t.aq)=some true
 fD:W.kitOne K (.ref t.am) (.ref t.al)=some false
 fE:W.kitOne K (.ref t.am) (.ref t.ak)=some false
 c7:W.kitOne K (.ref t.am) (.ref t.aa)=some false
 e9:W.kitOne K (.ref t.am) (.ref t.ag)=some false
 fF:W.kitOne K (.ref t.am) (.ref t.aj)=some false
 eo:W.kitOne K (.ref t.am) (.ref t.ae)=some false
 fY:W.kitOne K (.ref t.am) (.ref t.am)=some true
 dO:W.kitOne K (.ref t.am) (.ref t.ac)=some false
 dP:W.kitOne K (.ref t.am) (.ref t.ad)=some false
 ep:W.kitOne K (.ref t.am) (.ref t.af)=some false
 fa:W.kitOne K (.ref t.am) (.ref t.ah)=some false
 ge:W.kitOne K (.ref t.am) (.ref t.an)=some false
 c8:W.kitOne K (.ref t.am) (.ref t.ab)=some false
 fb:W.kitOne K (.ref t.am) (.ref t.ai)=some false
 dQ:W.kitOne K (.ref t.am) (.type "ValueError")=some true
 gV:XAsk K t.ac
 bU:W.exmOne K (.ref t.ac) (.ref t.aq)=some true
 c9:W.kitOne K (.ref t.ac) (.ref t.al)=some false
 da:W.kitOne K (.ref t.ac) (.ref t.ak)=some false
 a6:W.kitOne K (.ref t.ac) (.ref t.aa)=some false
 cw:W.kitOne K (.ref t.ac) (.ref t.ag)=some false
 db:W.kitOne K (.ref t.ac) (.ref t.aj)=some false
 bV:W.kitOne K (.ref t.ac) (.ref t.ae)=some false
 dR:W.kitOne K (.ref t.ac) (.ref t.am)=some false
 bz:W.kitOne K (.ref t.ac) (.ref t.ac)=some true
 bA:W.kitOne K (.ref t.ac) (.ref t.ad)=some false
 bW:W.kitOne K (.ref t.ac) (.ref t.af)=some false
 cx:W.kitOne K (.ref t.ac) (.ref t.ah)=some false
 eq:W.kitOne K (.ref t.ac) (.ref t.an)=some false
 a7:W.kitOne K (.ref t.ac) (.ref t.ab)=some false
 cy:W.kitOne K (.ref t.ac) (.ref t.ai)=some false
 bB:W.kitOne K (.ref t.ac) (.type "ValueError")=some true
 gW:XAsk K t.ad
 bX:W.exmOne K (.ref t.ad) (.ref t.aq)=some true
 dc:W.kitOne K (.ref t.ad) (.ref t.al)=some false
 dd:W.kitOne K (.ref t.ad) (.ref t.ak)=some false
 a8:W.kitOne K (.ref t.ad) (.ref t.aa)=some false
 cz:W.kitOne K (.ref t.ad) (.ref t.ag)=some false
 de:W.kitOne K (.ref t.ad) (.ref t.aj)=some false
 bY:W.kitOne K (.ref t.ad) (.ref t.ae)=some false
 dS:W.kitOne K (.ref t.ad) (.ref t.am)=some false
 bC:W.kitOne K (.ref t.ad) (.ref t.ac)=some false
 bD:W.kitOne K (.ref t.ad) (.ref t.ad)=some true
 bZ:W.kitOne K (.ref t.ad) (.ref t.af)=some false
 cA:W.kitOne K (.ref t.ad) (.ref t.ah)=some false
 er:W.kitOne K (.ref t.ad) (.ref t.an)=some false
 a9:W.kitOne K (.ref t.ad) (.ref t.ab)=some false
 cB:W.kitOne K (.ref t.ad) (.ref t.ai)=some false
 bE:W.kitOne K (.ref t.ad) (.type "ValueError")=some true
 it:XAsk K t.an
 fc:W.exmOne K (.ref t.an) (.ref t.aq)=some true
 fZ:W.kitOne K (.ref t.an) (.ref t.al)=some false
 f0:W.kitOne K (.ref t.an) (.ref t.ak)=some false
 dT:W.kitOne K (.ref t.an) (.ref t.aa)=some false
 fG:W.kitOne K (.ref t.an) (.ref t.ag)=some false
 f1:W.kitOne K (.ref t.an) (.ref t.aj)=some false
 fd:W.kitOne K (.ref t.an) (.ref t.ae)=some false
 gf:W.kitOne K (.ref t.an) (.ref t.am)=some false
 es:W.kitOne K (.ref t.an) (.ref t.ac)=some false
 et:W.kitOne K (.ref t.an) (.ref t.ad)=some false
 fe:W.kitOne K (.ref t.an) (.ref t.af)=some false
 fH:W.kitOne K (.ref t.an) (.ref t.ah)=some false
 gw:W.kitOne K (.ref t.an) (.ref t.an)=some true
 dU:W.kitOne K (.ref t.an) (.ref t.ab)=some false
 fI:W.kitOne K (.ref t.an) (.ref t.ai)=some false
 eu:W.kitOne K (.ref t.an) (.type "ValueError")=some true
 gx:XAsk K t.ab
 bF:W.exmOne K (.ref t.ab) (.ref t.aq)=some true
 cC:W.kitOne K (.ref t.ab) (.ref t.al)=some false
 cD:W.kitOne K (.ref t.ab) (.ref t.ak)=some false
 a2:W.kitOne K (.ref t.ab) (.ref t.aa)=some false
 b0:W.kitOne K (.ref t.ab) (.ref t.ag)=some false
 cE:W.kitOne K (.ref t.ab) (.ref t.aj)=some false
 bG:W.kitOne K (.ref t.ab) (.ref t.ae)=some false
 df:W.kitOne K (.ref t.ab) (.ref t.am)=some false
 ba:W.kitOne K (.ref t.ab) (.ref t.ac)=some false
 bb:W.kitOne K (.ref t.ab) (.ref t.ad)=some false
 bH:W.kitOne K (.ref t.ab) (.ref t.af)=some false
 b1:W.kitOne K (.ref t.ab) (.ref t.ah)=some false
 dV:W.kitOne K (.ref t.ab) (.ref t.an)=some false
 a3:W.kitOne K (.ref t.ab) (.ref t.ab)=some true
 b2:W.kitOne K (.ref t.ab) (.ref t.ai)=some false
 bc:W.kitOne K (.ref t.ab) (.type "ValueError")=some true
 hU:XAsk K t.al
 dW:W.exmOne K (.ref t.al) (.ref t.aq)=some true
 ff:W.kitOne K (.ref t.al) (.ref t.al)=some true
 fg:W.kitOne K (.ref t.al) (.ref t.ak)=some false
 cF:W.kitOne K (.ref t.al) (.ref t.aa)=some false
 ev:W.kitOne K (.ref t.al) (.ref t.ag)=some false
 fh:W.kitOne K (.ref t.al) (.ref t.aj)=some false
 dX:W.kitOne K (.ref t.al) (.ref t.ae)=some false
 fJ:W.kitOne K (.ref t.al) (.ref t.am)=some false
 dg:W.kitOne K (.ref t.al) (.ref t.ac)=some false
 dh:W.kitOne K (.ref t.al) (.ref t.ad)=some false
 dY:W.kitOne K (.ref t.al) (.ref t.af)=some false
 ew:W.kitOne K (.ref t.al) (.ref t.ah)=some false
 f2:W.kitOne K (.ref t.al) (.ref t.an)=some false
 cG:W.kitOne K (.ref t.al) (.ref t.ab)=some false
 ex:W.kitOne K (.ref t.al) (.ref t.ai)=some false
 di:W.kitOne K (.ref t.al) (.type "ValueError")=some true
 hV:XAsk K t.ak
 dZ:W.exmOne K (.ref t.ak) (.ref t.aq)=some true
 fi:W.kitOne K (.ref t.ak) (.ref t.al)=some false
 fj:W.kitOne K (.ref t.ak) (.ref t.ak)=some true
 cH:W.kitOne K (.ref t.ak) (.ref t.aa)=some false
 ey:W.kitOne K (.ref t.ak) (.ref t.ag)=some false
 fk:W.kitOne K (.ref t.ak) (.ref t.aj)=some false
 d0:W.kitOne K (.ref t.ak) (.ref t.ae)=some false
 fK:W.kitOne K (.ref t.ak) (.ref t.am)=some false
 dj:W.kitOne K (.ref t.ak) (.ref t.ac)=some false
 dk:W.kitOne K (.ref t.ak) (.ref t.ad)=some false
 d1:W.kitOne K (.ref t.ak) (.ref t.af)=some false
 ez:W.kitOne K (.ref t.ak) (.ref t.ah)=some false
 f3:W.kitOne K (.ref t.ak) (.ref t.an)=some false
 cI:W.kitOne K (.ref t.ak) (.ref t.ab)=some false
 eA:W.kitOne K (.ref t.ak) (.ref t.ai)=some false
 dl:W.kitOne K (.ref t.ak) (.type "ValueError")=some true
 gy:XAsk K t.aa
 bI:W.exmOne K (.ref t.aa) (.ref t.aq)=some true
 cJ:W.kitOne K (.ref t.aa) (.ref t.al)=some false
 cK:W.kitOne K (.ref t.aa) (.ref t.ak)=some false
 a4:W.kitOne K (.ref t.aa) (.ref t.aa)=some true
 b3:W.kitOne K (.ref t.aa) (.ref t.ag)=some false
 cL:W.kitOne K (.ref t.aa) (.ref t.aj)=some false
 bJ:W.kitOne K (.ref t.aa) (.ref t.ae)=some false
 dm:W.kitOne K (.ref t.aa) (.ref t.am)=some false
 bd:W.kitOne K (.ref t.aa) (.ref t.ac)=some false
 be:W.kitOne K (.ref t.aa) (.ref t.ad)=some false
 bK:W.kitOne K (.ref t.aa) (.ref t.af)=some false
 b4:W.kitOne K (.ref t.aa) (.ref t.ah)=some false
 d2:W.kitOne K (.ref t.aa) (.ref t.an)=some false
 a5:W.kitOne K (.ref t.aa) (.ref t.ab)=some false
 b5:W.kitOne K (.ref t.aa) (.ref t.ai)=some false
 bf:W.kitOne K (.ref t.aa) (.type "ValueError")=some true
 hj:XAsk K t.af
 cM:W.exmOne K (.ref t.af) (.ref t.aq)=some true
 d3:W.kitOne K (.ref t.af) (.ref t.al)=some false
 d4:W.kitOne K (.ref t.af) (.ref t.ak)=some false
 bL:W.kitOne K (.ref t.af) (.ref t.aa)=some false
 dn:W.kitOne K (.ref t.af) (.ref t.ag)=some false
 d5:W.kitOne K (.ref t.af) (.ref t.aj)=some false
 cN:W.kitOne K (.ref t.af) (.ref t.ae)=some false
 eB:W.kitOne K (.ref t.af) (.ref t.am)=some false
 b6:W.kitOne K (.ref t.af) (.ref t.ac)=some false
 b7:W.kitOne K (.ref t.af) (.ref t.ad)=some false
 cO:W.kitOne K (.ref t.af) (.ref t.af)=some true
 dp:W.kitOne K (.ref t.af) (.ref t.ah)=some false
 fl:W.kitOne K (.ref t.af) (.ref t.an)=some false
 bM:W.kitOne K (.ref t.af) (.ref t.ab)=some false
 dq:W.kitOne K (.ref t.af) (.ref t.ai)=some false
 b8:W.kitOne K (.ref t.af) (.type "ValueError")=some true
 hD:XAsk K t.ah
 dr:W.exmOne K (.ref t.ah) (.ref t.aq)=some true
 eC:W.kitOne K (.ref t.ah) (.ref t.al)=some false
 eD:W.kitOne K (.ref t.ah) (.ref t.ak)=some false
 b9:W.kitOne K (.ref t.ah) (.ref t.aa)=some false
 d6:W.kitOne K (.ref t.ah) (.ref t.ag)=some false
 eE:W.kitOne K (.ref t.ah) (.ref t.aj)=some false
 ds:W.kitOne K (.ref t.ah) (.ref t.ae)=some false
 fm:W.kitOne K (.ref t.ah) (.ref t.am)=some false
 cP:W.kitOne K (.ref t.ah) (.ref t.ac)=some false
 cQ:W.kitOne K (.ref t.ah) (.ref t.ad)=some false
 dt:W.kitOne K (.ref t.ah) (.ref t.af)=some false
 d7:W.kitOne K (.ref t.ah) (.ref t.ah)=some true
 fL:W.kitOne K (.ref t.ah) (.ref t.an)=some false
 ca:W.kitOne K (.ref t.ah) (.ref t.ab)=some false
 d8:W.kitOne K (.ref t.ah) (.ref t.ai)=some false
 cR:W.kitOne K (.ref t.ah) (.type "ValueError")=some true
 hE:XAsk K t.ai
 du:W.exmOne K (.ref t.ai) (.ref t.aq)=some true
 eF:W.kitOne K (.ref t.ai) (.ref t.al)=some false
 eG:W.kitOne K (.ref t.ai) (.ref t.ak)=some false
 cb:W.kitOne K (.ref t.ai) (.ref t.aa)=some false
 d9:W.kitOne K (.ref t.ai) (.ref t.ag)=some false
 eH:W.kitOne K (.ref t.ai) (.ref t.aj)=some false
 dv:W.kitOne K (.ref t.ai) (.ref t.ae)=some false
 fn:W.kitOne K (.ref t.ai) (.ref t.am)=some false
 cS:W.kitOne K (.ref t.ai) (.ref t.ac)=some false
 cT:W.kitOne K (.ref t.ai) (.ref t.ad)=some false
 dw:W.kitOne K (.ref t.ai) (.ref t.af)=some false
 ea:W.kitOne K (.ref t.ai) (.ref t.ah)=some false
 fM:W.kitOne K (.ref t.ai) (.ref t.an)=some false
 cc:W.kitOne K (.ref t.ai) (.ref t.ab)=some false
 eb:W.kitOne K (.ref t.ai) (.ref t.ai)=some true
 cU:W.kitOne K (.ref t.ai) (.type "ValueError")=some true
 ad:zY5 K t.aq "__init__" t.ao
 aV:mg "tuple" = none
 al:mg "len" = none
 aB:mg "range" = none
 iJ:mg "sum" = none
 iK:mg "zip" = none
 iL:mg "abs" = none
 bN:mg "sorted" = none
 iM:mg "set" = none
 ab:mg "isinstance" = none
 hk:mg "ValueError" = none
 aW:mg "MOST_NOTCHES" = some (.int 4 t.ca)
 hF:mg "MOST_ROOM" = some (.int 3 t.ce)
 hl:mg "MOST_LIMIT" = some (.int 400 t.cc)
 gz:mg "MOST_WEIGHTS" = some (.int 5 t.cb)
 hG:mg "MOST_HEFT" = some (.int 20 t.cf)
 f4:mg "MOST_STANDINGS" = some (.int 1000 t.b8)
 bO:mg "MOST_MOVES" = some (.int 300 t.cd)
structure zG0 (n r:Int)(hs:List Int)(lim:Int):Prop where
 n1:1<=n
 n2:n<=4
 r1:1<=r
 r2:r<=3
 l1:0<=lim
 l2:lim<=400
 w:hs.length<=5
 h:∀x∈hs,1<=x/\x<=20
 most:(2*n+1) ^ hs.length<=1000
structure zg3 (n r:Int)(w:Nat)(xs:List Int):Prop where
 len:xs.length=w
 on:∀x∈xs,-n<=x/\x<=n
 room:∀x∈xs,x≠0->(xs.count x:Int)<=r
noncomputable def zz4 (n r:Int) (h:Addr) (lim:Int):List (Str×V):=putF "limit" (.int lim) (putF "hefts" (.ref h) (putF "room" (.int r) (putF "notches" (.int n) [])))
theorem zl3 (n r:Int) (h:Addr) (lim:Int):(zz4 n r h lim).lookup ("notches" : Str)=some (V.int n):=by
 unfold zz4
 rw[zb3,if_neg (by decide +kernel),zb3,if_neg (by decide +kernel),zb3,if_neg (by decide +kernel),zb3,if_pos rfl]
theorem zQ3 (n r:Int) (h:Addr) (lim:Int):(zz4 n r h lim).lookup ("room" : Str)=some (V.int r):=by
 unfold zz4
 rw[zb3,if_neg (by decide +kernel),zb3,if_neg (by decide +kernel),zb3,if_pos rfl]
theorem zr8 (n r:Int) (h:Addr) (lim:Int):(zz4 n r h lim).lookup ("hefts" : Str)=some (V.ref h):=by
 unfold zz4
 rw[zb3,if_neg (by decide +kernel),zb3,if_pos rfl]
theorem b_limit (n r:Int) (h:Addr) (lim:Int):(zz4 n r h lim).lookup ("limit" : Str)=some (V.int lim):=by
 unfold zz4
 rw[zb3,if_pos rfl]
noncomputable def ze0 (t:Adr)(H:Hp)(b:Addr)(n r:Int)(hs:List Int)(lim:Int):Prop :=
 zG0 n r hs lim/\∃dx h,H b=some (.ins t.aW dx (zz4 n r h lim))/\H h=some (.tup (hs.map V.int))
theorem ze0.same {t:Adr}{H H':Hp}{b:Addr}{n r:Int}{hs:List Int}{lim:Int}(B:ze0 t H b n r hs lim)(s:Same H H'):ze0 t H' b n r hs lim:=by
 obtain⟨ok,dx,h,e1,e2⟩:=B
 exact⟨ok,dx,h,s _ _ e1,s _ _ e2⟩
noncomputable def zj1 (K:W.Frag)(t:Adr):Sp:=fun vs H Q _=>∃a lo hi:Int,vs=[.int a,.int lo,.int hi]/\Q (.bl (decide (a<lo) || decide (hi<a))) H
noncomputable def zs1 (K:W.Frag)(t:Adr):Sp:=fun vs H Q _=>∃n r l:Int,vs=[.int n,.int r,.int l]/\(1<=n/\n<=4/\1<=r/\r<=3/\0<=l/\l<=400)/\Q .non H
noncomputable def zu1 (K:W.Frag)(t:Adr):Sp:=fun vs H Q _=>∃(a:Addr) (hs:List Int),vs=[.ref a]/\(SqL K H a (hs.map V.int)\/SqT K H a (hs.map V.int))/\(hs.length<=5/\∀x∈hs,1<=x/\x<=20)/\Q .non H
noncomputable def zn9 (K:W.Frag)(t:Adr):Sp:=fun vs H Q _=>∃(n:Int) (w:Nat),vs=[.int n,.int w]/\(1<=n/\n<=4/\w<=5/\(2*n+1) ^ w<=1000)/\Q .non H
noncomputable def zz5 (K:W.Frag)(t:Adr):Sp:=fun vs H Q _=>∃(p dx a:Addr) (n r lim:Int) (hs:List Int),vs=[.ref p,.int n,.int r,.ref a,.int lim]/\H p=some (.ins t.aW dx []) ∧
 (SqL K H a (hs.map V.int)\/H a=some (.tup (hs.map V.int)))/\zG0 n r hs lim/\∀H',ze0 t H' p n r hs lim->ze5 p H H'->Q .non H'
noncomputable def zf3 (K:W.Frag)(t:Adr):Sp:=fun vs H Q _=>∃(b a:Addr) (n r lim:Int) (hs xs:List Int),vs=[.ref b,.ref a]/\ze0 t H b n r hs lim/\zg3 n r hs.length xs ∧
 (SqL K H a (xs.map V.int)\/H a=some (.tup (xs.map V.int)))/\∀l H',Same H H'->H' l=some (.tup (xs.map V.int))->Q (.ref l) H'
noncomputable def zU2 (K:W.Frag)(t:Adr):Sp:=fun vs H Q _=>∃(a:Addr) (ns:List Int) (k:Nat),vs=[.ref a,.int k]/\SqL K H a (ns.map V.int)/\Q (.int (ns.getD k 0)) H
noncomputable def zP1 (K:W.Frag):Sp:=fun vs H Q _=>∃(a:Addr) (ns:List Int),vs=[.ref a]/\SqL K H a (ns.map V.int)/\ns.length<=63/\∀H',Q (.bl true) H'
noncomputable def sp_law (K:W.Frag)(t:Adr):Sp:=zP1 K
section
variable {P:Program} {w:World} {K:W.Frag} {mg:Str->Option Value} {base:Heap} {t:Adr}
theorem zk4 (T:Txt K mg t):FnOk P w K mg base CX0 1 t.aB t.aH ["number","low","high"] (zj1 K t):=by
 refine T.hW.ok sc_outside (fun vs H Q E h=>?_) (fun cdv A outer s H vs Q E hr h=>?_)
 . obtain⟨a,lo,hi,rfl,q⟩:=h
   rfl
 . obtain⟨a,lo,hi,rfl,q⟩:=h
   refine⟨_,(za6 (zc8 (pe_or (zu8 zY0 (pv 0) (pv 1) (zd1 _)) (zU9 (zu8 zH7 (pv 0) (pv 2) (zd1 _)))))),?_⟩
   refine⟨_,rfl,_,rfl,_,_,rfl,rfl,_,rfl,?_⟩
   refine ite2 (fun h1=>?_) (fun h1=>?_)
   . rw[h1] at q
     exact q
   . rw[Bool.eq_false_iff.mpr h1] at q
     exact⟨_,rfl,_,rfl,_,_,rfl,rfl,q⟩
theorem ok_check_bounds (T:Txt K mg t):FnOk P w K mg base CX0 2 t.aC t.aM ["notches","room","limit"] (zs1 K t):=by
 have Gaa:FnOk P w K mg base CX0 1 t.aB t.aH ["number","low","high"] (zj1 K t):=zk4 T
 refine T.aQ.ok zs0 (fun vs H Q E h=>?_) (fun cdv A outer s H vs Q E hr h=>?_)
 . obtain⟨n,r,l,rfl,⟨h1,h2,h3,h4,h5,h6⟩,q⟩:=h
   rfl
 . obtain⟨n,r,l,rfl,⟨h1,h2,h3,h4,h5,h6⟩,q⟩:=h
   have haa:Room 1 _:=hr.mono (by decide)
   refine⟨_,(za4 (zd2 (zg8 (zb0 Gaa haa rfl T.an T.ao T.am .nil zb4 (za0 (pv 0) (za0 za8 (za0 (ze8 (v:=.int 4) rfl T.aW ⟨_,rfl⟩) za1))))) (za6 zh6) zb7)
     (za4 (zd2 (zg8 (zb0 Gaa haa rfl T.an T.ao T.am .nil zb4 (za0 (pv 1) (za0 za8 (za0 (ze8 (v:=.int 3) rfl T.hF ⟨_,rfl⟩) za1))))) (za6 zh6) zb7)
     (za6 (zd2 (zg8 (zb0 Gaa haa rfl T.an T.ao T.am .nil zb4 (za0 (pv 2) (za0 za8 (za0 (ze8 (v:=.int 400) rfl T.hl ⟨_,rfl⟩) za1))))) (za6 zh6) zb7)))),?_⟩
   refine cut3 ?_
   intro rr3 rr2
   refine⟨_,rfl,_,_,_,rfl,_,rfl,iteB (zt2 h1 h2) ?_⟩
   refine⟨_,rfl,_,_,_,rfl,_,rfl,iteB (zt2 h3 h4) ?_⟩
   exact⟨_,rfl,_,_,_,rfl,_,rfl,iteB (zt2 h5 h6) q⟩
theorem ok_check_hefts (T:Txt K mg t):FnOk P w K mg base CX0 2 t.a6 t.bs ["hefts"] (zu1 K t):=by
 have Gaa:FnOk P w K mg base CX0 1 t.aB t.aH ["number","low","high"] (zj1 K t):=zk4 T
 refine T.gC.ok zt8 (fun vs H Q E h=>?_) (fun cdv A outer s H vs Q E hr h=>?_)
 . obtain⟨a,hs,rfl,hS,⟨hl,hh⟩,q⟩:=h
   rfl
 . obtain⟨a,hs,rfl,hS,⟨hl,hh⟩,q⟩:=h
   have haa:Room 1 _:=hr.mono (by decide)
   refine⟨_,(za4 (zd2 (zc7 zH7 (zb9 zc3 rfl T.al PySem.boot_len (za0 (pv 0) za1)) (ze8 (v:=.int 5) rfl T.gz ⟨_,rfl⟩) (zd1 _)) (za6 zh6) zb7)
     (za6 (zr3 PassesOwn.never rfl (pi_seq (pv 0)) (zh9 (i:=1) zt8.nd rfl (Or.inl rfl)) (za6 (zd2 (zg8 (zb0 Gaa haa rfl T.an T.ao T.am .nil zb4 (za0 (pv 1) (za0 za8 (za0 (ze8 (v:=.int 20) rfl T.hG ⟨_,rfl⟩) za1))))) (za6 zh6) zb7))))),?_⟩
   refine⟨_,rfl,a,hs.map V.int,rfl,hS,_,_,rfl,rfl,_,rfl,iteB (zL3 (by rw[List.length_map];omega)) ?_⟩
   refine⟨_,rfl,a,rfl,?_⟩
   have turn:∀(i:Nat) x,(hs.map V.int)[i]?=some x->∃z,x = .int z/\1<=z/\z<=20:=fun i x e=>by
     obtain⟨z,rfl,hz⟩:=int_at e
     exact⟨z,rfl,hh z (List.mem_of_getElem? hz)⟩
   rcases hS with hS | hS
   . refine .inl ⟨⟨_,hS⟩,zE2 (K:=K) (a:=a) (xs:=hs.map V.int) (fun i σ H'=>∃v,σ=[some (.ref a),v]/\H'=H) ⟨_,rfl,rfl⟩ (fun i σ H' _ ⟨_,_,e⟩=>e▸hS) ?_ ?_⟩
     . rintro i x σ H' hi ⟨v,rfl,rfl⟩
       obtain⟨z,rfl,h1,h2⟩:=turn i x hi
       exact⟨_,rfl,_,_,_,rfl,_,rfl,iteB (zt2 h1 h2) ⟨_,rfl,rfl⟩⟩
     . rintro σ H' ⟨v,rfl,rfl⟩
       exact q
   . refine .inr ⟨⟨_,hS⟩,zK7 (K:=K) (a:=a) (xs:=hs.map V.int) (fun i σ H'=>∃v,σ=[some (.ref a),v]/\H'=H) ⟨_,rfl,rfl⟩ (fun i σ H' _ ⟨_,_,e⟩=>e▸hS) ?_ ?_⟩
     . rintro i x σ H' hi ⟨v,rfl,rfl⟩
       obtain⟨z,rfl,h1,h2⟩:=turn i x hi
       exact⟨_,rfl,_,_,_,rfl,_,rfl,iteB (zt2 h1 h2) ⟨_,rfl,rfl⟩⟩
     . rintro σ H' ⟨v,rfl,rfl⟩
       exact q
theorem ok_check_standings (T:Txt K mg t):FnOk P w K mg base CX0 1 t.aI t.a1 ["notches","weights"] (zn9 K t):=by
 refine T.fs.ok zi2 (fun vs H Q E h=>?_) (fun cdv A outer s H vs Q E hr h=>?_)
 . obtain⟨n,w,rfl,⟨h1,h2,h3,h4⟩,q⟩:=h
   rfl
 . obtain⟨n,w,rfl,⟨h1,h2,h3,h4⟩,q⟩:=h
   refine⟨_,(za4 (zc2 (i:=2) zi2.nd rfl (Or.inl rfl) za8)
     (za4 (zr3 PassesOwn.never rfl (zu7 rfl T.aB (za0 (pv 1) za1)) (zh9 (i:=3) zi2.nd rfl (Or.inl rfl)) (za6 (zc2 (i:=2) zi2.nd rfl (Or.inl rfl) (zf9 zw7 (pv 2) (zf9 zs8 (zf9 zw7 za8 (pv 0)) za8)))))
     (za6 (zd2 (zc7 zH7 (pv 2) (ze8 (v:=.int 1000) rfl T.f4 ⟨_,rfl⟩) (zd1 _)) (za6 zh6) zb7)))),?_⟩
   refine cut3 ?_
   intro rr3 rr2
   refine⟨_,rfl,_,rfl,by omega,by omega,zo9 (n:=(w:Int).toNat) (fun i σ H'=>∃v,σ=[some (.int n),some (.int w),some (.int ((2*n+1) ^ i)),v]/\H'=H) ⟨none,by rw[Int.pow_zero];rfl,rfl⟩ ?_ ?_⟩
   . rintro i σ H' hi ⟨v,rfl,rfl⟩
     exact⟨_,rfl,_,rfl,_,_,rfl,rfl,.inl ⟨by decide,by decide⟩,_,_,rfl,rfl,_,_,rfl,rfl,.inr ⟨by omega,by omega⟩,_,by rw[Int.pow_succ];rfl,rfl⟩
   . rintro σ H' ⟨v,rfl,rfl⟩
     exact⟨_,rfl,_,_,rfl,rfl,_,rfl,iteB (zL3 (by rw[Int.toNat_natCast];exact h4)) q⟩
theorem ok_Beam_init (T:Txt K mg t):FnOk P w K mg base CX0 3 t.aP t.a2 ["self","notches","room","hefts","limit"] (zz5 K t):=by
 have Gac:FnOk P w K mg base CX0 2 t.aC t.aM ["notches","room","limit"] (zs1 K t):=ok_check_bounds T
 have Gad:FnOk P w K mg base CX0 2 t.a6 t.bs ["hefts"] (zu1 K t):=ok_check_hefts T
 have Gae:FnOk P w K mg base CX0 1 t.aI t.a1 ["notches","weights"] (zn9 K t):=ok_check_standings T
 refine T.cd.ok zy9 (fun vs H Q E h=>?_) (fun cdv A outer s H vs Q E hr h=>?_)
 . obtain⟨p,dx,a,n,r,lim,hs,rfl,hp,hS,B,q⟩:=h
   rfl
 . obtain⟨p,dx,a,n,r,lim,hs,rfl,hp,hS,B,q⟩:=h
   have hac:Room 2 _:=hr.mono (by decide)
   have had:Room 2 _:=hr.mono (by decide)
   have hae:Room 1 _:=hr.mono (by decide)
   refine⟨_,(za4 (zc6 (zb0 Gac hac rfl T.aS T.aT T.aR .nil zb4 (za0 (pv 1) (za0 (pv 2) (za0 (pv 4) za1)))))
     (za4 (zc6 (zb0 Gad had rfl T.gE T.gF T.gD .nil zb4 (za0 (pv 3) za1)))
     (za4 (zc6 (zb0 Gae hae rfl T.fu T.fv T.ft .nil zb4 (za0 (pv 1) (za0 (zb9 zc3 rfl T.al PySem.boot_len (za0 (pv 3) za1)) za1))))
     (za4 (zk3 (pv 0) (pv 1) rfl)
     (za4 (zk3 (pv 0) (pv 2) rfl)
     (za4 (zk3 (pv 0) (zp7 zl9 rfl T.aV PyProof.Rows.boot_tuple (za0 (pv 3) za1)) rfl)
     (za6 (zk3 (pv 0) (pv 4) rfl)))))))),?_⟩
   refine cut7 ?_
   intro rr7 rr6 rr5 rr4 rr3 rr2
   have hS':SqL K H a (hs.map V.int)\/SqT K H a (hs.map V.int):=hS.imp id SqT.of
   refine⟨_,rfl,_,rfl,_,rfl,n,r,lim,rfl,⟨B.n1,B.n2,B.r1,B.r2,B.l1,B.l2⟩,?_⟩
   refine⟨_,rfl,a,hs,rfl,hS',⟨B.w,B.h⟩,?_⟩
   refine⟨_,rfl,_,rfl,a,_,rfl,hS',n,hs.length,by rw[List.length_map];rfl,⟨B.n1,B.n2,B.w,B.most⟩,?_⟩
   refine⟨_,rfl,_,rfl,p,_,dx,_,rfl,hp,T.ac,T.ai,by decide,?_⟩
   refine⟨_,rfl,_,rfl,p,_,dx,_,rfl,za5,T.ac,T.aw,zl6 fl0,?_⟩
   have hne:∀ {b:Addr} {o:HO},H b=some o->o≠.ins t.aW dx []->b≠p:=fun e ne=>zv6 e hp ne
   refine⟨_,rfl,a,hs.map V.int,rfl,?_⟩
   rcases hS with hS | hS
   . have nap:∀o,SqL K (upd (upd H p o) p o) a (hs.map V.int)->True:=fun _ _=>trivial
     refine .inl ⟨?_,fun l hl=>?_⟩
     . rcases hS with(hS | ⟨ob,hS⟩) | hS
       . exact .inl (.inl (by rw[za7 (hne hS (by intro z;cases z)),za7 (hne hS (by intro z;cases z))];exact hS))
       . exact .inl (.inr ⟨ob,by rw[za7 (hne hS (by intro z;cases z)),za7 (hne hS (by intro z;cases z))];exact hS⟩)
       . exact .inr hS
     . have hlp:l≠p:=fun z=>by rw[z,za5] at hl;cases hl
       have hl0:H l=none:=by rw[za7 hlp,za7 hlp] at hl;exact hl
       refine⟨_,rfl,p,_,dx,_,rfl,(by rw[za7 hlp.symm];exact za5),T.ac,T.aj,zl6 (flS fl0),?_⟩
       refine⟨_,rfl,_,rfl,p,_,dx,_,rfl,za5,T.ac,T.aC,zl6 (flS (flS fl0)),?_⟩
       refine q _ ⟨B,dx,l,za5,by rw[za7 hlp,za7 hlp,za5]⟩ fun b o e hb=>?_
       rw[za7 hb,za7 hb,za7 (zb2 e hl0),za7 hb,za7 hb]
       exact e
   . have hap:a≠p:=hne hS (by intro z;cases z)
     refine .inr ⟨SqT.of (by rw[za7 hap,za7 hap];exact hS),?_⟩
     refine⟨_,rfl,p,_,dx,_,rfl,za5,T.ac,T.aj,zl6 (flS fl0),?_⟩
     refine⟨_,rfl,_,rfl,p,_,dx,_,rfl,za5,T.ac,T.aC,zl6 (flS (flS fl0)),?_⟩
     refine q _ ⟨B,dx,a,za5,by rw[za7 hap,za7 hap,za7 hap,za7 hap];exact hS⟩ fun b o e hb=>?_
     rw[za7 hb,za7 hb,za7 hb,za7 hb]
     exact e
theorem zf8 (T:Txt K mg t):FnOk P w K mg base CX0 2 t.au t.av ["beam","standing"] (zf3 K t):=by
 have Gaa:FnOk P w K mg base CX0 1 t.aB t.aH ["number","low","high"] (zj1 K t):=zk4 T
 refine T.aX.ok zi9 (fun vs H Q E h=>?_) (fun cdv A outer s H vs Q E hr h=>?_)
 . obtain⟨b,a,n,r,lim,hs,xs,rfl,B,V0,hS,q⟩:=h
   rfl
 . obtain⟨b,a,n,r,lim,hs,xs,rfl,B,V0,hS,q⟩:=h
   have haa:Room 1 _:=hr.mono (by decide)
   refine⟨_,(za4 (zc2 (i:=2) zi9.nd rfl (Or.inl rfl) (zp7 zl9 rfl T.aV PyProof.Rows.boot_tuple (za0 (pv 1) za1)))
     (za4 (zd2 (zc7 zx2 (zb9 zc3 rfl T.al PySem.boot_len (za0 (pv 2) za1)) (zb9 zc3 rfl T.al PySem.boot_len (za0 (zg9 (pv 0) rfl) za1)) (zd1 _)) (za6 zh6) zb7)
     (za4 (zr3 PassesOwn.never rfl (pi_tup (pv 2)) (zh9 (i:=3) zi9.nd rfl (Or.inl rfl)) (za4 (zd2 (zg8 (zb0 Gaa haa rfl T.an T.ao T.am .nil zb4 (za0 (pv 3) (za0 (zB9 zs9 (zg9 (pv 0) rfl)) (za0 (zg9 (pv 0) rfl) za1))))) (za6 zh6) zb7)
     (za6 (zd2 (PW.pt (zQ0 (zc7 zx2 (pv 3) za8 (zd1 _)) (zQ5 (zc7 zH7 (zY4 PySem.F.slot_tuple_count PySem.F.type_tuple_count zI6 (pv 2) (za0 (pv 3) za1)) (zg9 (pv 0) rfl) (zd1 _))))) (za6 zh6) zb7))))
     (za6 (zc8 (pv 2)))))),?_⟩
   refine cut4 ?_
   intro rr4 rr3 rr2
   refine⟨_,rfl,a,xs.map V.int,rfl,?_⟩
   rcases hS with hS | hT
   . refine .inl ⟨hS,fun l hl=>?_⟩
     replace q:=q l _ (Same.upd hl) za5
     have hT:(upd H l (.tup (xs.map V.int))) l=some (.tup (xs.map V.int)):=za5
     replace B:=B.same (Same.upd (o:=.tup (xs.map V.int)) hl)
     revert q hT B
     generalize upd H l (.tup (xs.map V.int))=H1
     intro q hT B
     obtain⟨ok,dx,h,hb,hh⟩:=B
     refine⟨_,rfl,_,_,rfl,.inr (SqT.of hT),_,rfl,b,_,dx,_,_,rfl,hb,T.ac,T.aj,zr8 _ _ _ _,h,_,rfl,.inr (SqT.of hh),rfl,_,rfl,?_⟩
     refine iteB (by rw[List.length_map,List.length_map,V0.len];simp) ?_
     refine⟨_,rfl,_,rfl,⟨_,SqT.of hT⟩,zK7 (K:=K) (xs:=xs.map V.int) (fun i σ H'=>∃v,σ=[some (.ref b),some (.ref a),some (.ref l),v]/\H'=H1) ⟨none,rfl,rfl⟩ (fun i σ H' _ ⟨_,_,e⟩=>e▸SqT.of hT) ?_ ?_⟩
     . rintro i x σ H' hi ⟨v,rfl,rfl⟩
       obtain⟨z,rfl,hz⟩:=int_at hi
       have hm:=List.mem_of_getElem? hz
       obtain⟨z1,z2⟩:=V0.on z hm
       refine⟨_,rfl,_,rfl,b,_,dx,_,_,rfl,hb,T.ac,T.ai,zl3 _ _ _ _,_,rfl,_,rfl,b,_,dx,_,_,rfl,hb,T.ac,T.ai,zl3 _ _ _ _,z,-n,n,rfl,_,rfl,iteB (zt2 z1 z2) ?_⟩
       refine⟨_,rfl,rfl,_,rfl,?_⟩
       refine ite2 (fun h1=>?_) (fun h1=>?_)
       . have hz0:z≠0:=by
           intro e
           subst e
           simp at h1
         exact⟨_,rfl,⟨_,_,rfl,hT⟩,_,rfl,_,xs,z,rfl,rfl,SqT.of hT,_,rfl,b,_,dx,_,_,rfl,hb,T.ac,T.aw,zQ3 _ _ _ _,_,_,rfl,rfl,_,rfl,iteB (zL3 (V0.room z hm hz0)) ⟨_,rfl,rfl⟩⟩
       . exact iteF ⟨_,rfl,rfl⟩
     . rintro σ H' ⟨v,rfl,rfl⟩
       exact⟨_,rfl,q⟩
   . refine .inr ⟨SqT.of hT,?_⟩
     replace q:=q a _ (Same.refl _) hT
     obtain⟨ok,dx,h,hb,hh⟩:=B
     refine⟨_,rfl,_,_,rfl,.inr (SqT.of hT),_,rfl,b,_,dx,_,_,rfl,hb,T.ac,T.aj,zr8 _ _ _ _,h,_,rfl,.inr (SqT.of hh),rfl,_,rfl,?_⟩
     refine iteB (by rw[List.length_map,List.length_map,V0.len];simp) ?_
     refine⟨_,rfl,_,rfl,⟨_,SqT.of hT⟩,zK7 (K:=K) (xs:=xs.map V.int) (fun i σ H'=>∃v,σ=[some (.ref b),some (.ref a),some (.ref a),v]/\H'=H) ⟨none,rfl,rfl⟩ (fun i σ H' _ ⟨_,_,e⟩=>e▸SqT.of hT) ?_ ?_⟩
     . rintro i x σ H' hi ⟨v,rfl,rfl⟩
       obtain⟨z,rfl,hz⟩:=int_at hi
       have hm:=List.mem_of_getElem? hz
       obtain⟨z1,z2⟩:=V0.on z hm
       refine⟨_,rfl,_,rfl,b,_,dx,_,_,rfl,hb,T.ac,T.ai,zl3 _ _ _ _,_,rfl,_,rfl,b,_,dx,_,_,rfl,hb,T.ac,T.ai,zl3 _ _ _ _,z,-n,n,rfl,_,rfl,iteB (zt2 z1 z2) ?_⟩
       refine⟨_,rfl,rfl,_,rfl,?_⟩
       refine ite2 (fun h1=>?_) (fun h1=>?_)
       . have hz0:z≠0:=by
           intro e
           subst e
           simp at h1
         exact⟨_,rfl,⟨_,_,rfl,hT⟩,_,rfl,_,xs,z,rfl,rfl,SqT.of hT,_,rfl,b,_,dx,_,_,rfl,hb,T.ac,T.aw,zQ3 _ _ _ _,_,_,rfl,rfl,_,rfl,iteB (zL3 (V0.room z hm hz0)) ⟨_,rfl,rfl⟩⟩
       . exact iteF ⟨_,rfl,rfl⟩
     . rintro σ H' ⟨v,rfl,rfl⟩
       exact⟨_,rfl,q⟩
noncomputable def zg5 (hs xs:List Int):Int:=(List.zipWith (fun h x=>h*x) hs xs).sum
noncomputable def absI (i:Int):Int:=if i<0 then -i else i
noncomputable def mulV (x y:V):V:=match x,y with
 | .int a,.int b=>.int (a*b)
 | _,_=>.non
theorem zP2:∀(hs xs:List Int),List.zipWith mulV (hs.map V.int) (xs.map V.int)=(List.zipWith (fun h x=>h*x) hs xs).map V.int
 | [],_=>rfl
 | _::_,[]=>rfl
 | h::hs,x::xs=>by
   show V.int (h*x)::List.zipWith mulV (hs.map V.int) (xs.map V.int)=_
   rw[zP2 hs xs]
   rfl
theorem zJ8:∀ {hs xs:List Int} {B:Int},(∀h∈hs,1<=h/\h<=20)->(∀x∈xs,-B<=x/\x<=B)->0<=B->∀z∈List.zipWith (fun h x=>h*x) hs xs,-(20*B)<=z/\z<=20*B
 | [],_,_,_,_,_=>(fun z hz=>by simp at hz)
 | _::_,[],_,_,_,_=>(fun z hz=>by simp at hz)
 | h::hs,x::xs,B,h1,h2,hB=>fun z hz=>by
   rw[List.zipWith_cons_cons] at hz
   rcases List.mem_cons.mp hz with rfl | hz
   . obtain⟨a1,a2⟩:=h1 h List.mem_cons_self
     obtain⟨b1,b2⟩:=h2 x List.mem_cons_self
     have c1:h*x<=h*B:=Int.mul_le_mul_of_nonneg_left b2 (by omega)
     have c2:h*B<=20*B:=Int.mul_le_mul_of_nonneg_right a2 hB
     have c3:h * -B<=h*x:=Int.mul_le_mul_of_nonneg_left b1 (by omega)
     have c4:h * -B = -(h*B):=Int.mul_neg h B
     omega
   . exact zJ8 (fun y hy=>h1 y (List.mem_cons_of_mem _ hy)) (fun y hy=>h2 y (List.mem_cons_of_mem _ hy)) hB z hz
theorem tilt_fits {n r lim:Int}{hs xs:List Int}(ok:zG0 n r hs lim)(V0:zg3 n r hs.length xs):PySem.SumFits (List.zipWith (fun h x=>h*x) hs xs):=by
 refine PyProof.Rows.sumFits_of_bound (B:=80) (n:=5) (by decide) (fun z hz=>?_) ?_ (by decide)
 . have:=zJ8 (B:=4) ok.h (fun x hx=>by have:=V0.on x hx;have:=ok.n2;omega) (by decide) z hz
   omega
 . rw[List.length_zipWith]
   have:=ok.w
   omega
noncomputable def zL9 (K:W.Frag)(t:Adr):Sp:=fun vs H Q _=>∃(b a:Addr) (n r lim:Int) (hs xs:List Int),vs=[.ref b,.ref a]/\ze0 t H b n r hs lim/\zg3 n r hs.length xs ∧
 (SqL K H a (xs.map V.int)\/H a=some (.tup (xs.map V.int)))/\∀H',Same H H'->Q (.int (zg5 hs xs)) H'
noncomputable def zu2 (K:W.Frag)(t:Adr):Sp:=fun vs H Q _=>∃(b a:Addr) (n r lim:Int) (hs xs:List Int),vs=[.ref b,.ref a]/\ze0 t H b n r hs lim/\zg3 n r hs.length xs ∧
 (SqL K H a (xs.map V.int)\/H a=some (.tup (xs.map V.int)))/\∀H',Same H H'->Q (.bl (decide (absI (zg5 hs xs)<=lim))) H'
theorem zU3 (T:Txt K mg t):FnOk P w K mg base CX0 3 t.bA t.bK ["beam","standing"] (zL9 K t):=by
 have Gaf:FnOk P w K mg base CX0 2 t.au t.av ["beam","standing"] (zf3 K t):=zf8 T
 refine T.gZ.ok zD5 (fun vs H Q E h=>?_) (fun cdv A outer s H vs Q E hr h=>?_)
 . obtain⟨b,a,n,r,lim,hs,xs,rfl,B,V0,hS,q⟩:=h
   rfl
 . obtain⟨b,a,n,r,lim,hs,xs,rfl,B,V0,hS,q⟩:=h
   have haf:Room 2 _:=hr.mono (by decide)
   refine⟨_,(za4 (zc2 (i:=2) zD5.nd rfl (Or.inl rfl) (zb0 Gaf haf rfl T.ag T.ah T.af .nil zb4 (za0 (pv 0) (za0 (pv 1) za1))))
     (za6 (zc8 (zb9 (call_sum rfl) rfl T.iJ PyProof.Rows.boot_sum (za0 (zx5 rfl zB2 (pi_zip rfl T.iK (za0 (zg9 (pv 0) rfl) (za0 (pv 2) za1))) (fun _ _ _ _ _=>(pg_tupK (n:=2) K rfl rfl (zM5 (zh9 (i:=0) zB2.nd rfl (Or.inl rfl)) (zM5 (zh9 (i:=1) zB2.nd rfl (Or.inl rfl)) pgs_nil)))) (fun _ _ _ _ _=>zE6) (fun _ _ _ _ _=>(zf9 zw7 (pv 0) (pv 1)))) za1))))),?_⟩
   refine⟨_,rfl,_,rfl,b,a,n,r,lim,hs,xs,rfl,B,V0,hS,fun l H1 s1 hl=>?_⟩
   have ok:=B.1
   obtain⟨_,dx,h,hb,hh⟩:=B.same s1
   refine⟨_,rfl,b,_,dx,_,_,rfl,hb,T.ac,T.aj,zr8 _ _ _ _,_,rfl,h,l,_,_,rfl,hh,hl,fun D hD=>?_⟩
   refine comp_zip (f:=mulV) (rest:=[]) hh hl (by rw[List.length_map,List.length_map,V0.len]) hD (Nat.le_of_lt (zg6 (by rw[List.length_map];have:=ok.w;omega))) (fun i x y H' R hx hy s2 h=>?_) (fun H' s2 hd=>?_)
   . obtain⟨u,rfl,hu⟩:=int_at hx
     obtain⟨v,rfl,hv⟩:=int_at hy
     have:=ok.h u (List.mem_of_getElem? hu)
     exact⟨_,rfl,_,rfl,_,_,rfl,rfl,.inl ⟨by omega,by omega⟩,h⟩
   . rw[zP2] at hd
     exact⟨D,_,rfl,SqL.of hd,tilt_fits ok V0,q H' (s1.trans s2)⟩
theorem not_past (a lim:Int):(!decide (lim<a))=decide (a<=lim):=by
 by_cases h:lim<a
 . rw[decide_eq_true h,decide_eq_false (by omega)];rfl
 . rw[decide_eq_false h,decide_eq_true (by omega)];rfl
noncomputable def zD7 (K:W.Frag)(t:Adr):Sp:=fun vs H Q _=>∃(b:Addr) (n r lim:Int) (hs:List Int) (z:Int),vs=[.ref b,.int z]/\ze0 t H b n r hs lim/\Q (.bl (decide (lim<absI z))) H
theorem zM0 (T:Txt K mg t):FnOk P w K mg base CX0 1 t.bL t.bS ["beam","tipped"] (zD7 K t):=by
 refine T.iB.ok sc_past (fun vs H Q E h=>?_) (fun cdv A outer s H vs Q E hr h=>?_)
 . obtain⟨b,n,r,lim,hs,z,rfl,B,q⟩:=h
   rfl
 . obtain⟨b,n,r,lim,hs,z,rfl,B,q⟩:=h
   refine⟨_,(za6 (zc8 (zu8 zH7 (zb9 call_abs rfl T.iL PyProof.Rows.boot_abs (za0 (pv 1) za1)) (zg9 (pv 0) rfl) (zd1 _)))),?_⟩
   obtain⟨_,dx,h,hb,hh⟩:=B
   exact⟨_,rfl,_,rfl,_,rfl,b,_,dx,_,_,rfl,hb,T.ac,T.aC,b_limit _ _ _ _,_,_,rfl,rfl,q⟩
theorem zz6 (T:Txt K mg t):FnOk P w K mg base CX0 4 t.bj t.bx ["beam","standing"] (zu2 K t):=by
 have Gah:FnOk P w K mg base CX0 1 t.bL t.bS ["beam","tipped"] (zD7 K t):=zM0 T
 have Gai:FnOk P w K mg base CX0 3 t.bA t.bK ["beam","standing"] (zL9 K t):=zU3 T
 refine T.iu.ok sc_keeps (fun vs H Q E h=>?_) (fun cdv A outer s H vs Q E hr h=>?_)
 . obtain⟨b,a,n,r,lim,hs,xs,rfl,B,V0,hS,q⟩:=h
   rfl
 . obtain⟨b,a,n,r,lim,hs,xs,rfl,B,V0,hS,q⟩:=h
   have hah:Room 1 _:=hr.mono (by decide)
   have hai:Room 3 _:=hr.mono (by decide)
   refine⟨_,(za6 (zc8 (pe_not (zb0 Gah hah rfl T.aL T.aM T.aK .nil zb4 (za0 (pv 0) (za0 (zb0 Gai hai rfl T.eN T.eO T.eM .nil zb4 (za0 (pv 0) (za0 (pv 1) za1))) za1)))))),?_⟩
   refine⟨_,rfl,_,rfl,_,rfl,b,a,n,r,lim,hs,xs,rfl,B,V0,hS,fun H1 s1=>⟨b,n,r,lim,hs,_,rfl,B.same s1,_,rfl,?_⟩⟩
   rw[not_past]
   exact q H1 s1
noncomputable def zj2 (hs xs:List Int)(i:Nat):Int:=zg5 hs xs-hs.getD i 0*xs.getD i 0
theorem set_back {xs:List Int}{i:Nat}(p:Int)(hi:i<xs.length):(xs.set i p).set i (xs.getD i 0)=xs:=by
 rw[List.set_set,List.getD_eq_getElem?_getD,List.getElem?_eq_getElem hi]
 exact List.set_getElem_self hi
theorem count_set' {xs:List Int}{i:Nat}{p y:Int}(hi:i<xs.length):((xs.set i p).count y:Int)=(xs.count y:Int)-(if xs.getD i 0=y then 1 else 0)+(if p=y then 1 else 0):=by
 have e:xs.getD i 0=xs[i]:=by rw[List.getD_eq_getElem?_getD,List.getElem?_eq_getElem hi];rfl
 rw[e,List.count_set hi]
 have:xs[i]=y->1<=xs.count y:=fun h=>List.count_pos_iff.mpr (h▸List.getElem_mem hi)
 by_cases h1:xs[i]=y<;>by_cases h2:p=y<;>simp[h1,h2]<;>have:=this h1<;>omega
structure Lets (n r:Int)(hs:List Int)(lim:Int)(xs:List Int)(i:Nat)(p:Int):Prop where
 lt:i<xs.length
 on:-n<=p/\p<=n
 ne:p≠xs.getD i 0
 room:p≠0->(xs.count p:Int)<r
 held:absI (zj2 hs xs i)<=lim
 behind:absI (zj2 hs xs i+hs.getD i 0*p)<=lim
noncomputable instance (n r:Int) (hs:List Int) (lim:Int) (xs:List Int) (i:Nat) (p:Int):Decidable (Lets n r hs lim xs i p) :=
 decidable_of_iff (i<xs.length/\(-n<=p/\p<=n)/\p≠xs.getD i 0/\(p≠0->(xs.count p:Int)<r)/\absI (zj2 hs xs i)<=lim/\absI (zj2 hs xs i+hs.getD i 0*p)<=lim)
   ⟨fun⟨a,b,c,d,e,f⟩=>⟨a,b,c,d,e,f⟩,fun⟨a,b,c,d,e,f⟩=>⟨a,b,c,d,e,f⟩⟩
theorem zG1 {xs:List Int}{i:Nat}(hi:i<xs.length):xs.getD i 0∈xs:=by
 rw[List.getD_eq_getElem?_getD,List.getElem?_eq_getElem hi];exact List.getElem_mem hi
theorem Lets.valid {n r lim:Int}{w:Nat}{hs xs:List Int}{i:Nat}{p:Int}(L:Lets n r hs lim xs i p)(V0:zg3 n r w xs):zg3 n r w (xs.set i p):=by
 refine⟨by rw[List.length_set];exact V0.len,fun y hy=>?_,fun y hy h0=>?_⟩
 . rcases List.mem_or_eq_of_mem_set hy with h | rfl
   . exact V0.on y h
   . exact L.on
 . rw[count_set' L.lt]
   by_cases e:p=y
   . subst e
     have:=L.room h0
     rw[if_pos rfl,if_neg (fun z=>L.ne z.symm)]
     omega
   . have hm:y∈xs:=(List.mem_or_eq_of_mem_set hy).resolve_right (fun z=>e z.symm)
     have:=V0.room y hm h0
     rw[if_neg e]
     split<;>omega
noncomputable def zx0 (K:W.Frag)(t:Adr):Sp:=fun vs H Q E=>∃(b a:Addr) (n r lim k:Int) (i:Nat) (hs xs:List Int),vs=[.ref b,.ref a,.int k]/\ze0 t H b n r hs lim/\zg3 n r hs.length xs ∧
 (SqL K H a (xs.map V.int)\/H a=some (.tup (xs.map V.int)))/\(k=(i:Int)+1/\i<xs.length)/\∀H',Same H H'->Q (.int (zj2 hs xs i)) H'
theorem zG2 (T:Txt K mg t):FnOk P w K mg base CX0 4 t.bq t.bE ["beam","standing","weight"] (zx0 K t):=by
 have Gaf:FnOk P w K mg base CX0 2 t.au t.av ["beam","standing"] (zf3 K t):=zf8 T
 have Gaa:FnOk P w K mg base CX0 1 t.aB t.aH ["number","low","high"] (zj1 K t):=zk4 T
 have Gai:FnOk P w K mg base CX0 3 t.bA t.bK ["beam","standing"] (zL9 K t):=zU3 T
 refine T.hX.ok zF8 (fun vs H Q E h=>?_) (fun cdv A outer s H vs Q E hr h=>?_)
 . obtain⟨b,a,n,r,lim,k,i,hs,xs,rfl,B,V0,hS,⟨rfl,hi⟩,q⟩:=h
   rfl
 . obtain⟨b,a,n,r,lim,k,i,hs,xs,rfl,B,V0,hS,⟨rfl,hi⟩,q⟩:=h
   have haf:Room 2 _:=hr.mono (by decide)
   have haa:Room 1 _:=hr.mono (by decide)
   have hai:Room 3 _:=hr.mono (by decide)
   refine⟨_,(za4 (zc2 (i:=3) zF8.nd rfl (Or.inl rfl) (zb0 Gaf haf rfl T.ag T.ah T.af .nil zb4 (za0 (pv 0) (za0 (pv 1) za1))))
     (za4 (zd2 (zg8 (zb0 Gaa haa rfl T.an T.ao T.am .nil zb4 (za0 (pv 2) (za0 za8 (za0 (zb9 zc3 rfl T.al PySem.boot_len (za0 (pv 3) za1)) za1))))) (za6 zh6) zb7)
     (za6 (zc8 (zf9 zr4 (zb0 Gai hai rfl T.eN T.eO T.eM .nil zb4 (za0 (pv 0) (za0 (pv 3) za1))) (zf9 zw7 (zj7 zt0 (zg9 (pv 0) rfl) (zf9 zr4 (pv 2) za8) (fun _ _=>rfl)) (zj7 zt0 (pv 3) (zf9 zr4 (pv 2) za8) (fun _ _=>rfl)))))))),?_⟩
   refine cut3 ?_
   intro rr3 rr2
   refine⟨_,rfl,_,rfl,b,a,n,r,lim,hs,xs,rfl,B,V0,hS,fun l H1 s1 hl=>?_⟩
   refine⟨_,rfl,_,rfl,l,_,rfl,.inr (SqT.of hl),_,1,_,rfl,_,rfl,?_⟩
   rw[List.length_map]
   refine iteB (zt2 (by omega) (by omega)) ?_
   refine⟨_,rfl,_,rfl,b,l,n,r,lim,hs,xs,rfl,B.same s1,V0,.inr hl,fun H2 s2=>?_⟩
   obtain⟨_,dx,h,hb,hh⟩:=B.same (s1.trans s2)
   have hlen:=V0.len
   have e1:((i:Int)+1-1).toNat=i:=by omega
   have a1:atI (hs.map V.int) ((i:Int)+1-1)=some (.int (hs.getD i 0)):=by have:=zn8 (xs:=hs) (i:=(i:Int)+1-1) (by omega) (by omega);rw[e1] at this;exact this
   have a2:atI (xs.map V.int) ((i:Int)+1-1)=some (.int (xs.getD i 0)):=by have:=zn8 (xs:=xs) (i:=(i:Int)+1-1) (by omega) (by omega);rw[e1] at this;exact this
   have hm:=B.1.h (hs.getD i 0) (zG1 (by omega))
   refine⟨_,rfl,b,_,dx,_,_,rfl,hb,T.ac,T.aj,zr8 _ _ _ _,_,rfl,_,_,rfl,rfl,h,_,_,_,rfl,rfl,SqT.of hh,a1,?_⟩
   exact⟨_,rfl,_,rfl,_,_,rfl,rfl,l,_,_,_,rfl,rfl,SqT.of (s2 _ _ hl),a2,_,_,rfl,rfl,.inl ⟨by omega,by omega⟩,_,_,rfl,rfl,q _ (s1.trans s2)⟩
noncomputable def zs2 (r:Int)(xs:List Int)(p:Int):Bool:=decide (p≠0/\r<=(xs.count p:Int))
noncomputable def zM1 (K:W.Frag)(t:Adr):Sp:=fun vs H Q _=>∃(b a:Addr) (n r lim p:Int) (hs xs:List Int),vs=[.ref b,.ref a,.int p]/\ze0 t H b n r hs lim/\H a=some (.tup (xs.map V.int))/\Q (.bl (zs2 r xs p)) H
theorem zU4 (T:Txt K mg t):FnOk P w K mg base CX0 1 t.bT t.b1 ["beam","places","place"] (zM1 K t):=by
 refine T.iC.ok sc_full (fun vs H Q E h=>?_) (fun cdv A outer s H vs Q E hr h=>?_)
 . obtain⟨b,a,n,r,lim,p,hs,xs,rfl,B,hT,q⟩:=h
   rfl
 . obtain⟨b,a,n,r,lim,p,hs,xs,rfl,B,hT,q⟩:=h
   refine⟨_,(za6 (zc8 (pe_and (zu8 zx2 (pv 2) za8 (zd1 _)) (zU9 (zu8 zV6 (zY4 PySem.F.slot_tuple_count PySem.F.type_tuple_count zI6 (pv 1) (za0 (pv 2) za1)) (zg9 (pv 0) rfl) (zd1 _)))))),?_⟩
   obtain⟨_,dx,h,hb,hh⟩:=B
   unfold zs2 at q
   refine⟨_,rfl,rfl,_,rfl,?_⟩
   rw[zm3]
   refine ite2 (fun h1=>?_) (fun h1=>?_)
   . have h1':p≠0:=by simpa using h1
     refine⟨_,rfl,⟨_,_,rfl,hT⟩,_,rfl,_,xs,p,rfl,rfl,SqT.of hT,_,rfl,b,_,dx,_,_,rfl,hb,T.ac,T.aw,zQ3 _ _ _ _,_,_,rfl,rfl,?_⟩
     have e:decide (p≠0/\r<=(xs.count p:Int))=decide (r<=(xs.count p:Int)):=by simp[h1']
     rw[e] at q
     exact q
   . have h1':p=0:=by simpa using h1
     have e:decide (p≠0/\r<=(xs.count p:Int))=false:=by simp[h1']
     rw[e] at q
     exact q
theorem cut_set (xs:List Int)(i:Nat)(p:Int)(hi:i<xs.length):cutV (xs.map V.int) none (some (i:Int))++[V.int p]++cutV (xs.map V.int) (some ((i:Int)+1)) none=(xs.set i p).map V.int:=by
 unfold cutV
 rw[HT.sIx_none,HT.sIx_nat,HT.sIx_none,show((i:Int)+1)=((i+1:Nat):Int) by omega,HT.sIx_nat,List.length_map,Nat.min_eq_left (by omega),Nat.min_eq_left (by omega),List.drop_zero,Nat.sub_zero,
   List.set_eq_take_append_cons_drop,if_pos hi,List.map_append,List.map_cons,List.append_assoc,List.map_take,List.map_drop]
 congr 1
 show V.int p::_=_
 congr 1
 exact List.take_of_length_le (by simp)
noncomputable def Mv (K:W.Frag)(H:Hp)(m:Addr)(k s p:Int):Prop:=SqL K H m [.int k,.int s,.int p]\/SqT K H m [.int k,.int s,.int p]
theorem Mv.ix {K:W.Frag}{H:Hp}{m:Addr}{k s p:Int}(h:Mv K H m k s p):(∀Q:VK,Q (.int k) H->rIx K (.ref m) (.int 0) H Q)/\(∀Q:VK,Q (.int s) H->rIx K (.ref m) (.int 1) H Q)/\(∀Q:VK,Q (.int p) H->rIx K (.ref m) (.int 2) H Q):=by
 rcases h with h | h
 . exact⟨fun Q q=>.inl ⟨m,_,_,_,rfl,rfl,h,rfl,q⟩,fun Q q=>.inl ⟨m,_,_,_,rfl,rfl,h,rfl,q⟩,fun Q q=>.inl ⟨m,_,_,_,rfl,rfl,h,rfl,q⟩⟩
 . exact⟨fun Q q=>.inr (.inl ⟨m,_,_,_,rfl,rfl,h,rfl,q⟩),fun Q q=>.inr (.inl ⟨m,_,_,_,rfl,rfl,h,rfl,q⟩),fun Q q=>.inr (.inl ⟨m,_,_,_,rfl,rfl,h,rfl,q⟩)⟩
theorem Same.seqT {K:W.Frag}{H H':Hp}{a:Addr}{xs:List V}(e:Same H H')(h:SqT K H a xs):SqT K H' a xs:=by
 rcases h with(h | ⟨o,h⟩) | h
 . exact .inl (.inl (e _ _ h))
 . exact .inl (.inr ⟨o,e _ _ h⟩)
 . exact .inr h
theorem Mv.same {K:W.Frag}{H H':Hp}{m:Addr}{k s p:Int}(h:Mv K H m k s p)(e:Same H H'):Mv K H' m k s p:=h.imp e.seq (fun z=>Same.seqT e z)
noncomputable def zv5 (K:W.Frag)(t:Adr):Sp:=fun vs H Q _=>∃(a m:Addr) (k s p:Int) (i:Nat) (xs:List Int),vs=[.ref a,.ref m]/\H a=some (.tup (xs.map V.int))/\Mv K H m k s p/\(k=(i:Int)+1/\i<xs.length/\xs.length<=900) ∧
 ∀l H',Same H H'->H' l=some (.tup ((xs.set i p).map V.int))->Q (.ref l) H'
theorem zB3 (T:Txt K mg t):FnOk P w K mg base CX0 1 t.bk t.bB ["places","move"] (zv5 K t):=by
 refine T.ig.ok sc_behind (fun vs H Q E h=>?_) (fun cdv A outer s H vs Q E hr h=>?_)
 . obtain⟨a,m,k,s,p,i,xs,rfl,hT,hM,⟨rfl,hi,hx⟩,q⟩:=h
   rfl
 . obtain⟨a,m,k,s,p,i,xs,rfl,hT,hM,⟨rfl,hi,hx⟩,q⟩:=h
   refine⟨_,(za6 (zc8 (zf9 zS2 (zf9 zS2 (zN0 zW1 (pv 0) zR2 (zR3 (zf9 zr4 (zj7 zr6 (pv 1) za8 (fun _ _=>rfl)) za8))) (zQ1 (za0 (zj7 zr6 (pv 1) za8 (fun _ _=>rfl)) za1))) (zN0 zW1 (pv 0) (zR3 (zj7 zr6 (pv 1) za8 (fun _ _=>rfl))) zR2)))),?_⟩
   refine⟨_,rfl,_,rfl,hM.ix.1 _ ⟨_,_,rfl,rfl,_,rfl,a,_,rfl,SqT.of hT,?_,fun l1 f1=>?_⟩⟩
   . have e:(i:Int)+1-1=(i:Int):=by omega
     rw[e,HT.sIx_none,HT.sIx_nat,List.length_map,Nat.min_eq_left (by omega)]
     omega
   have s1:Same H (upd H l1 (.tup (cutV (xs.map V.int) none (some ((i:Int)+1-1))))):=Same.upd f1
   have h1:(upd H l1 (.tup (cutV (xs.map V.int) none (some ((i:Int)+1-1))))) l1=some (.tup (cutV (xs.map V.int) none (some ((i:Int)+1-1)))):=za5
   revert s1 h1
   generalize upd H l1 (.tup (cutV (xs.map V.int) none (some ((i:Int)+1-1))))=H1
   intro s1 h1
   refine⟨_,rfl,(hM.same s1).ix.2.2 _ ⟨(by show 1<=sizeLine;decide),fun l2 f2=>?_⟩⟩
   have s2:Same H1 (upd H1 l2 (.tup [.int p])):=Same.upd f2
   have h2:(upd H1 l2 (.tup [.int p])) l2=some (.tup [.int p]):=za5
   revert s2 h2
   generalize upd H1 l2 (.tup [.int p])=H2
   intro s2 h2
   have len1:=zC1 (xs.map V.int) none (some ((i:Int)+1-1))
   rw[List.length_map] at len1
   refine⟨l1,l2,_,_,rfl,rfl,s2 _ _ h1,h2,Nat.le_of_lt (zg6 (by show _+1<=_;omega)),fun l3 H3 s3 h3=>?_⟩
   have s03:=s1.trans (s2.trans s3)
   refine⟨_,rfl,_,rfl,(hM.same s03).ix.1 _ ⟨_,rfl,a,_,rfl,SqT.of (s03 _ _ hT),?_,fun l4 f4=>?_⟩⟩
   . rw[show((i:Int)+1)=((i+1:Nat):Int) by omega,HT.sIx_nat,List.length_map]
     omega
   have s4:Same H3 (upd H3 l4 (.tup (cutV (xs.map V.int) (some ((i:Int)+1)) none))):=Same.upd f4
   have h4:(upd H3 l4 (.tup (cutV (xs.map V.int) (some ((i:Int)+1)) none))) l4=some (.tup (cutV (xs.map V.int) (some ((i:Int)+1)) none)):=za5
   revert s4 h4
   generalize upd H3 l4 (.tup (cutV (xs.map V.int) (some ((i:Int)+1)) none))=H4
   intro s4 h4
   have e5:=cut_set xs i p hi
   rw[show(i:Int)=(i:Int)+1-1 by omega,show(i:Int)+1-1+1=(i:Int)+1 by omega] at e5
   refine⟨l3,l4,_,_,rfl,rfl,s4 _ _ h3,h4,?_,fun l5 H5 s5 h5=>q l5 H5 (s03.trans (s4.trans s5)) ?_⟩
   . rw[<-List.length_append,e5,List.length_map,List.length_set]
     exact Nat.le_of_lt (zg6 (by omega))
   . rw[h5,e5]
noncomputable def zJ9 (K:W.Frag)(t:Adr):Sp:=fun vs H Q _=>∃(m:Addr) (k s p:Int),vs=[.ref m]/\Mv K H m k s p/\∀l,H l=none->Q (.ref l) (upd H l (.tup [.int k,.int p,.int s]))
theorem ok_turned (T:Txt K mg t):FnOk P w K mg base CX0 1 t.bN t.bY ["move"] (zJ9 K t):=by
 refine T.ib.ok sc_turned (fun vs H Q E h=>?_) (fun cdv A outer s H vs Q E hr h=>?_)
 . obtain⟨m,k,s,p,rfl,hM,q⟩:=h
   rfl
 . obtain⟨m,k,s,p,rfl,hM,q⟩:=h
   refine⟨_,(za6 (zc8 (zQ1 (za0 (zj7 zr6 (pv 0) za8 (fun _ _=>rfl)) (za0 (zj7 zr6 (pv 0) za8 (fun _ _=>rfl)) (za0 (zj7 zr6 (pv 0) za8 (fun _ _=>rfl)) za1)))))),?_⟩
   refine⟨_,rfl,hM.ix.1 _ ⟨_,rfl,hM.ix.2.2 _ ⟨_,rfl,hM.ix.2.1 _ ⟨(by show 3<=sizeLine;decide),fun l fl=>?_⟩⟩⟩⟩
   exact q l fl
noncomputable def zb8 (K:W.Frag) (t:Adr):Sp:=fun vs H Q _=>∃(x C:Addr) (u v:V),vs=[.ref x,u,v]/\H x=some (ExcO C x none)/\XCls K C/\zc1 K C "reason"/\zc1 K C "word" ∧
 ∀H' dx,H' x=some (ExcO C x (some dx))->H' dx=some (.xd (putF "word" v (putF "reason" u [])))->ze5 x H H'->Q .non H'
theorem zc0 (T:Txt K mg t):FnOk P w K mg base CX0 1 t.ao t.ap ["self","reason","word"] (zb8 K t):=by
 refine T.fN.ok sc_BeamError_init (fun vs H Q E h=>?_) (fun cdv A outer s H vs Q E hr h=>?_)
 . obtain⟨x,C,u,v,rfl,hx,hc,n1,n2,q⟩:=h
   rfl
 . obtain⟨x,C,u,v,rfl,hx,hc,n1,n2,q⟩:=h
   refine⟨_,(za4 (zS0 (pv 0) (pv 1) rfl)
     (za6 (zS0 (pv 0) (pv 2) rfl))),?_⟩
   refine⟨_,rfl,_,rfl,x,C,none,rfl,hx,hc,n1,fun dx fdx ndx=>?_⟩
   refine⟨_,rfl,_,rfl,x,C,some dx,rfl,za5,hc,n2,putF "reason" u [],by rw[za7 ndx];exact za5,by show(1:Nat)<1000;decide,?_⟩
   refine q _ dx (by rw[za7 ndx.symm];exact za5) za5 fun b o e hb=>?_
   rw[za7 (zb2 e fdx),za7 hb,za7 (zb2 e fdx)]
   exact e
noncomputable def zq7 (K:W.Frag)(t:Adr):Sp:=fun vs H Q _=>∃(x:Addr) (u:V),vs=[.ref x,u]/\H x=some (ExcO t.ag x none) ∧
 ∀H' dx,H' x=some (ExcO t.ag x (some dx))->H' dx=some (.xd (putF "word" (.str "no weight") (putF "reason" u [])))->ze5 x H H'->Q .non H'
theorem ok_NoWeight_init (T:Txt K mg t):FnOk P w K mg base CX0 2 t.aE t.bb ["self","reason"] (zq7 K t):=by
 have Gaj:FnOk P w K mg base CX0 1 t.ao t.ap ["self","reason","word"] (zb8 K t):=zc0 T
 refine T.f5.ok sc_NoWeight_init (fun vs H Q E h=>?_) (fun cdv A outer s H vs Q E hr h=>?_)
 . obtain⟨x,u,rfl,hx,q⟩:=h
   rfl
 . obtain⟨x,u,rfl,hx,q⟩:=h
   have haj:Room 1 _:=hr.mono (by decide)
   refine⟨_,(za6 (zc6 (zh3 T.ad rfl T.ae Gaj haj T.aa .nil zb4 (za0 (pv 0) (za0 (pv 1) (za0 ze1 za1)))))),?_⟩
   exact⟨_,rfl,_,rfl,x,t.ag,u,_,rfl,hx,T.aO,T.eZ,T.fT,fun H' dx h1 h2 h3=>q H' dx h1 h2 h3⟩
noncomputable def zs3 (K:W.Frag)(t:Adr):Sp:=fun vs H Q _=>∃(x:Addr) (u:V),vs=[.ref x,u]/\H x=some (ExcO t.aj x none) ∧
 ∀H' dx,H' x=some (ExcO t.aj x (some dx))->H' dx=some (.xd (putF "word" (.str "no place") (putF "reason" u [])))->ze5 x H H'->Q .non H'
theorem ok_NoPlace_init (T:Txt K mg t):FnOk P w K mg base CX0 2 t.aJ t.bg ["self","reason"] (zs3 K t):=by
 have Gaj:FnOk P w K mg base CX0 1 t.ao t.ap ["self","reason","word"] (zb8 K t):=zc0 T
 refine T.gg.ok sc_NoPlace_init (fun vs H Q E h=>?_) (fun cdv A outer s H vs Q E hr h=>?_)
 . obtain⟨x,u,rfl,hx,q⟩:=h
   rfl
 . obtain⟨x,u,rfl,hx,q⟩:=h
   have haj:Room 1 _:=hr.mono (by decide)
   refine⟨_,(za6 (zc6 (zh3 T.ad rfl T.ae Gaj haj T.aa .nil zb4 (za0 (pv 0) (za0 (pv 1) (za0 ze1 za1)))))),?_⟩
   exact⟨_,rfl,_,rfl,x,t.aj,u,_,rfl,hx,T.eW,T.fw,T.ga,fun H' dx h1 h2 h3=>q H' dx h1 h2 h3⟩
noncomputable def zo3 (K:W.Frag)(t:Adr):Sp:=fun vs H Q _=>∃(x:Addr) (u:V),vs=[.ref x,u]/\H x=some (ExcO t.ae x none) ∧
 ∀H' dx,H' x=some (ExcO t.ae x (some dx))->H' dx=some (.xd (putF "word" (.str "same place") (putF "reason" u [])))->ze5 x H H'->Q .non H'
theorem ok_SamePlace_init (T:Txt K mg t):FnOk P w K mg base CX0 2 t.aD t.a9 ["self","reason"] (zo3 K t):=by
 have Gaj:FnOk P w K mg base CX0 1 t.ao t.ap ["self","reason","word"] (zb8 K t):=zc0 T
 refine T.fO.ok sc_SamePlace_init (fun vs H Q E h=>?_) (fun cdv A outer s H vs Q E hr h=>?_)
 . obtain⟨x,u,rfl,hx,q⟩:=h
   rfl
 . obtain⟨x,u,rfl,hx,q⟩:=h
   have haj:Room 1 _:=hr.mono (by decide)
   refine⟨_,(za6 (zc6 (zh3 T.ad rfl T.ae Gaj haj T.aa .nil zb4 (za0 (pv 0) (za0 (pv 1) (za0 ze1 za1)))))),?_⟩
   exact⟨_,rfl,_,rfl,x,t.ae,u,_,rfl,hx,T.cl,T.ec,T.fx,fun H' dx h1 h2 h3=>q H' dx h1 h2 h3⟩
noncomputable def zu3 (K:W.Frag)(t:Adr):Sp:=fun vs H Q _=>∃(x:Addr) (u:V),vs=[.ref x,u]/\H x=some (ExcO t.am x none) ∧
 ∀H' dx,H' x=some (ExcO t.am x (some dx))->H' dx=some (.xd (putF "word" (.str "no room") (putF "reason" u [])))->ze5 x H H'->Q .non H'
theorem ok_NoRoom_init (T:Txt K mg t):FnOk P w K mg base CX0 2 t.aO t.br ["self","reason"] (zu3 K t):=by
 have Gaj:FnOk P w K mg base CX0 1 t.ao t.ap ["self","reason","word"] (zb8 K t):=zc0 T
 refine T.gA.ok sc_NoRoom_init (fun vs H Q E h=>?_) (fun cdv A outer s H vs Q E hr h=>?_)
 . obtain⟨x,u,rfl,hx,q⟩:=h
   rfl
 . obtain⟨x,u,rfl,hx,q⟩:=h
   have haj:Room 1 _:=hr.mono (by decide)
   refine⟨_,(za6 (zc6 (zh3 T.ad rfl T.ae Gaj haj T.aa .nil zb4 (za0 (pv 0) (za0 (pv 1) (za0 ze1 za1)))))),?_⟩
   exact⟨_,rfl,_,rfl,x,t.am,u,_,rfl,hx,T.fS,T.fU,T.gt,fun H' dx h1 h2 h3=>q H' dx h1 h2 h3⟩
noncomputable def zo0 (K:W.Frag)(t:Adr):Sp:=fun vs H Q _=>∃(x:Addr) (u:V),vs=[.ref x,u]/\H x=some (ExcO t.ac x none) ∧
 ∀H' dx,H' x=some (ExcO t.ac x (some dx))->H' dx=some (.xd (putF "word" (.str "tips in hand") (putF "reason" u [])))->ze5 x H H'->Q .non H'
theorem ok_TipsInHand_init (T:Txt K mg t):FnOk P w K mg base CX0 2 t.az t.aZ ["self","reason"] (zo0 K t):=by
 have Gaj:FnOk P w K mg base CX0 1 t.ao t.ap ["self","reason","word"] (zb8 K t):=zc0 T
 refine T.fo.ok sc_TipsInHand_init (fun vs H Q E h=>?_) (fun cdv A outer s H vs Q E hr h=>?_)
 . obtain⟨x,u,rfl,hx,q⟩:=h
   rfl
 . obtain⟨x,u,rfl,hx,q⟩:=h
   have haj:Room 1 _:=hr.mono (by decide)
   refine⟨_,(za6 (zc6 (zh3 T.ad rfl T.ae Gaj haj T.aa .nil zb4 (za0 (pv 0) (za0 (pv 1) (za0 ze1 za1)))))),?_⟩
   exact⟨_,rfl,_,rfl,x,t.ac,u,_,rfl,hx,T.bt,T.dD,T.e0,fun H' dx h1 h2 h3=>q H' dx h1 h2 h3⟩
noncomputable def zo1 (K:W.Frag)(t:Adr):Sp:=fun vs H Q _=>∃(x:Addr) (u:V),vs=[.ref x,u]/\H x=some (ExcO t.ad x none) ∧
 ∀H' dx,H' x=some (ExcO t.ad x (some dx))->H' dx=some (.xd (putF "word" (.str "tips behind") (putF "reason" u [])))->ze5 x H H'->Q .non H'
theorem ok_TipsBehind_init (T:Txt K mg t):FnOk P w K mg base CX0 2 t.aA t.a0 ["self","reason"] (zo1 K t):=by
 have Gaj:FnOk P w K mg base CX0 1 t.ao t.ap ["self","reason","word"] (zb8 K t):=zc0 T
 refine T.fq.ok sc_TipsBehind_init (fun vs H Q E h=>?_) (fun cdv A outer s H vs Q E hr h=>?_)
 . obtain⟨x,u,rfl,hx,q⟩:=h
   rfl
 . obtain⟨x,u,rfl,hx,q⟩:=h
   have haj:Room 1 _:=hr.mono (by decide)
   refine⟨_,(za6 (zc6 (zh3 T.ad rfl T.ae Gaj haj T.aa .nil zb4 (za0 (pv 0) (za0 (pv 1) (za0 ze1 za1)))))),?_⟩
   exact⟨_,rfl,_,rfl,x,t.ad,u,_,rfl,hx,T.bu,T.dE,T.e1,fun H' dx h1 h2 h3=>q H' dx h1 h2 h3⟩
noncomputable def zw0 (K:W.Frag)(t:Adr):Sp:=fun vs H Q _=>∃(x:Addr) (u:V),vs=[.ref x,u]/\H x=some (ExcO t.an x none) ∧
 ∀H' dx,H' x=some (ExcO t.an x (some dx))->H' dx=some (.xd (putF "word" (.str "no way") (putF "reason" u [])))->ze5 x H H'->Q .non H'
theorem ok_NoWay_init (T:Txt K mg t):FnOk P w K mg base CX0 2 t.aS t.bz ["self","reason"] (zw0 K t):=by
 have Gaj:FnOk P w K mg base CX0 1 t.ao t.ap ["self","reason","word"] (zb8 K t):=zc0 T
 refine T.gX.ok sc_NoWay_init (fun vs H Q E h=>?_) (fun cdv A outer s H vs Q E hr h=>?_)
 . obtain⟨x,u,rfl,hx,q⟩:=h
   rfl
 . obtain⟨x,u,rfl,hx,q⟩:=h
   have haj:Room 1 _:=hr.mono (by decide)
   refine⟨_,(za6 (zc6 (zh3 T.ad rfl T.ae Gaj haj T.aa .nil zb4 (za0 (pv 0) (za0 (pv 1) (za0 ze1 za1)))))),?_⟩
   exact⟨_,rfl,_,rfl,x,t.an,u,_,rfl,hx,T.gs,T.gb,T.gS,fun H' dx h1 h2 h3=>q H' dx h1 h2 h3⟩
noncomputable def zm6 (K:W.Frag)(t:Adr):Sp:=fun vs H Q _=>∃(x:Addr) (u:V),vs=[.ref x,u]/\H x=some (ExcO t.ab x none) ∧
 ∀H' dx,H' x=some (ExcO t.ab x (some dx))->H' dx=some (.xd (putF "word" (.str "nothing back") (putF "reason" u [])))->ze5 x H H'->Q .non H'
theorem ok_NothingBack_init (T:Txt K mg t):FnOk P w K mg base CX0 2 t.ax t.aT ["self","reason"] (zm6 K t):=by
 have Gaj:FnOk P w K mg base CX0 1 t.ao t.ap ["self","reason","word"] (zb8 K t):=zc0 T
 refine T.eI.ok sc_NothingBack_init (fun vs H Q E h=>?_) (fun cdv A outer s H vs Q E hr h=>?_)
 . obtain⟨x,u,rfl,hx,q⟩:=h
   rfl
 . obtain⟨x,u,rfl,hx,q⟩:=h
   have haj:Room 1 _:=hr.mono (by decide)
   refine⟨_,(za6 (zc6 (zh3 T.ad rfl T.ae Gaj haj T.aa .nil zb4 (za0 (pv 0) (za0 (pv 1) (za0 ze1 za1)))))),?_⟩
   exact⟨_,rfl,_,rfl,x,t.ab,u,_,rfl,hx,T.a0,T.cW,T.ed,fun H' dx h1 h2 h3=>q H' dx h1 h2 h3⟩
noncomputable def zs4 (K:W.Frag)(t:Adr):Sp:=fun vs H Q _=>∃(x:Addr) (u:V),vs=[.ref x,u]/\H x=some (ExcO t.al x none) ∧
 ∀H' dx,H' x=some (ExcO t.al x (some dx))->H' dx=some (.xd (putF "word" (.str "bad text") (putF "reason" u [])))->ze5 x H H'->Q .non H'
theorem ok_BadText_init (T:Txt K mg t):FnOk P w K mg base CX0 2 t.aK t.bh ["self","reason"] (zs4 K t):=by
 have Gaj:FnOk P w K mg base CX0 1 t.ao t.ap ["self","reason","word"] (zb8 K t):=zc0 T
 refine T.gi.ok sc_BadText_init (fun vs H Q E h=>?_) (fun cdv A outer s H vs Q E hr h=>?_)
 . obtain⟨x,u,rfl,hx,q⟩:=h
   rfl
 . obtain⟨x,u,rfl,hx,q⟩:=h
   have haj:Room 1 _:=hr.mono (by decide)
   refine⟨_,(za6 (zc6 (zh3 T.ad rfl T.ae Gaj haj T.aa .nil zb4 (za0 (pv 0) (za0 (pv 1) (za0 ze1 za1)))))),?_⟩
   exact⟨_,rfl,_,rfl,x,t.al,u,_,rfl,hx,T.eX,T.fy,T.gc,fun H' dx h1 h2 h3=>q H' dx h1 h2 h3⟩
noncomputable def zs5 (K:W.Frag)(t:Adr):Sp:=fun vs H Q _=>∃(x:Addr) (u:V),vs=[.ref x,u]/\H x=some (ExcO t.ak x none) ∧
 ∀H' dx,H' x=some (ExcO t.ak x (some dx))->H' dx=some (.xd (putF "word" (.str "bad beam") (putF "reason" u [])))->ze5 x H H'->Q .non H'
theorem ok_BadBeam_init (T:Txt K mg t):FnOk P w K mg base CX0 2 t.aL t.bi ["self","reason"] (zs5 K t):=by
 have Gaj:FnOk P w K mg base CX0 1 t.ao t.ap ["self","reason","word"] (zb8 K t):=zc0 T
 refine T.gk.ok sc_BadBeam_init (fun vs H Q E h=>?_) (fun cdv A outer s H vs Q E hr h=>?_)
 . obtain⟨x,u,rfl,hx,q⟩:=h
   rfl
 . obtain⟨x,u,rfl,hx,q⟩:=h
   have haj:Room 1 _:=hr.mono (by decide)
   refine⟨_,(za6 (zc6 (zh3 T.ad rfl T.ae Gaj haj T.aa .nil zb4 (za0 (pv 0) (za0 (pv 1) (za0 ze1 za1)))))),?_⟩
   exact⟨_,rfl,_,rfl,x,t.ak,u,_,rfl,hx,T.eY,T.fz,T.gd,fun H' dx h1 h2 h3=>q H' dx h1 h2 h3⟩
noncomputable def zm7 (K:W.Frag)(t:Adr):Sp:=fun vs H Q _=>∃(x:Addr) (u:V),vs=[.ref x,u]/\H x=some (ExcO t.aa x none) ∧
 ∀H' dx,H' x=some (ExcO t.aa x (some dx))->H' dx=some (.xd (putF "word" (.str "bad standing") (putF "reason" u [])))->ze5 x H H'->Q .non H'
theorem ok_BadStanding_init (T:Txt K mg t):FnOk P w K mg base CX0 2 t.ay t.aU ["self","reason"] (zm7 K t):=by
 have Gaj:FnOk P w K mg base CX0 1 t.ao t.ap ["self","reason","word"] (zb8 K t):=zc0 T
 refine T.eK.ok sc_BadStanding_init (fun vs H Q E h=>?_) (fun cdv A outer s H vs Q E hr h=>?_)
 . obtain⟨x,u,rfl,hx,q⟩:=h
   rfl
 . obtain⟨x,u,rfl,hx,q⟩:=h
   have haj:Room 1 _:=hr.mono (by decide)
   refine⟨_,(za6 (zc6 (zh3 T.ad rfl T.ae Gaj haj T.aa .nil zb4 (za0 (pv 0) (za0 (pv 1) (za0 ze1 za1)))))),?_⟩
   exact⟨_,rfl,_,rfl,x,t.aa,u,_,rfl,hx,T.a1,T.cX,T.ee,fun H' dx h1 h2 h3=>q H' dx h1 h2 h3⟩
noncomputable def zl5 (K:W.Frag)(t:Adr):Sp:=fun vs H Q _=>∃(x:Addr) (u:V),vs=[.ref x,u]/\H x=some (ExcO t.af x none) ∧
 ∀H' dx,H' x=some (ExcO t.af x (some dx))->H' dx=some (.xd (putF "word" (.str "start past") (putF "reason" u [])))->ze5 x H H'->Q .non H'
theorem zo4 (T:Txt K mg t):FnOk P w K mg base CX0 2 t.aw t.aN ["self","reason"] (zl5 K t):=by
 have Gaj:FnOk P w K mg base CX0 1 t.ao t.ap ["self","reason","word"] (zb8 K t):=zc0 T
 refine T.fQ.ok sc_StartPast_init (fun vs H Q E h=>?_) (fun cdv A outer s H vs Q E hr h=>?_)
 . obtain⟨x,u,rfl,hx,q⟩:=h
   rfl
 . obtain⟨x,u,rfl,hx,q⟩:=h
   have haj:Room 1 _:=hr.mono (by decide)
   refine⟨_,(za6 (zc6 (zh3 T.ad rfl T.ae Gaj haj T.aa .nil zb4 (za0 (pv 0) (za0 (pv 1) (za0 ze1 za1)))))),?_⟩
   exact⟨_,rfl,_,rfl,x,t.af,u,_,rfl,hx,T.aH,T.ef,T.fA,fun H' dx h1 h2 h3=>q H' dx h1 h2 h3⟩
noncomputable def zq8 (K:W.Frag)(t:Adr):Sp:=fun vs H Q _=>∃(x:Addr) (u:V),vs=[.ref x,u]/\H x=some (ExcO t.ah x none) ∧
 ∀H' dx,H' x=some (ExcO t.ah x (some dx))->H' dx=some (.xd (putF "word" (.str "goal past") (putF "reason" u [])))->ze5 x H H'->Q .non H'
theorem ok_GoalPast_init (T:Txt K mg t):FnOk P w K mg base CX0 2 t.aF t.bc ["self","reason"] (zq8 K t):=by
 have Gaj:FnOk P w K mg base CX0 1 t.ao t.ap ["self","reason","word"] (zb8 K t):=zc0 T
 refine T.f6.ok sc_GoalPast_init (fun vs H Q E h=>?_) (fun cdv A outer s H vs Q E hr h=>?_)
 . obtain⟨x,u,rfl,hx,q⟩:=h
   rfl
 . obtain⟨x,u,rfl,hx,q⟩:=h
   have haj:Room 1 _:=hr.mono (by decide)
   refine⟨_,(za6 (zc6 (zh3 T.ad rfl T.ae Gaj haj T.aa .nil zb4 (za0 (pv 0) (za0 (pv 1) (za0 ze1 za1)))))),?_⟩
   exact⟨_,rfl,_,rfl,x,t.ah,u,_,rfl,hx,T.dA,T.e2,T.fV,fun H' dx h1 h2 h3=>q H' dx h1 h2 h3⟩
noncomputable def zq9 (K:W.Frag)(t:Adr):Sp:=fun vs H Q _=>∃(x:Addr) (u:V),vs=[.ref x,u]/\H x=some (ExcO t.ai x none) ∧
 ∀H' dx,H' x=some (ExcO t.ai x (some dx))->H' dx=some (.xd (putF "word" (.str "play full") (putF "reason" u [])))->ze5 x H H'->Q .non H'
theorem ok_PlayFull_init (T:Txt K mg t):FnOk P w K mg base CX0 2 t.aG t.bd ["self","reason"] (zq9 K t):=by
 have Gaj:FnOk P w K mg base CX0 1 t.ao t.ap ["self","reason","word"] (zb8 K t):=zc0 T
 refine T.f8.ok sc_PlayFull_init (fun vs H Q E h=>?_) (fun cdv A outer s H vs Q E hr h=>?_)
 . obtain⟨x,u,rfl,hx,q⟩:=h
   rfl
 . obtain⟨x,u,rfl,hx,q⟩:=h
   have haj:Room 1 _:=hr.mono (by decide)
   refine⟨_,(za6 (zc6 (zh3 T.ad rfl T.ae Gaj haj T.aa .nil zb4 (za0 (pv 0) (za0 (pv 1) (za0 ze1 za1)))))),?_⟩
   exact⟨_,rfl,_,rfl,x,t.ai,u,_,rfl,hx,T.dB,T.e3,T.fW,fun H' dx h1 h2 h3=>q H' dx h1 h2 h3⟩
noncomputable def Told (H H':Hp) (od:Option Addr) (w:Str):Prop:=Same H H'/\∃dx fs,od=some dx/\H' dx=some (.xd fs)/\fs.lookup ("word" : Str)=some (V.str w)
theorem Told.from {H H1 H':Hp}{od:Option Addr}{w:Str}(h:Told H1 H' od w)(s:Same H H1):Told H H' od w:=⟨s.trans h.1,h.2⟩
theorem zi3 {H H1 H':Hp} {x dx C:Addr} {o:HO} {u:V} {w:Str} (s:Same H H1) (fx:H1 x=none) (hx:H' x=some (ExcO C x (some dx))) (hd:H' dx=some (.xd (putF "word" (.str w) (putF "reason" u [])))) (sx:ze5 x (upd H1 x o) H'):Told H (del H' x) (some dx) w:=by
 refine⟨fun b v e=>?_,dx,putF "word" (.str w) (putF "reason" u []),rfl,?_,?_⟩
 . have e1:=s b v e
   have hb:b≠x:=zb2 e1 fx
   rw[zt3 hb]
   exact sx b v (by rw[za7 hb];exact e1) hb
 . rw[zt3 (fun z=>by rw[z,hx] at hd;cases hd)];exact hd
 . rw[zb3,if_pos rfl]
noncomputable def zz7 (xs:List Int)(k s:Int):Prop:=(1<=k/\k<=xs.length)/\xs.getD (k-1).toNat 0=s
noncomputable instance (xs:List Int) (k s:Int):Decidable (zz7 xs k s):=by unfold zz7;exact inferInstance
noncomputable def refN (n r lim:Int)(hs xs:List Int)(k s p:Int):Nat :=
 if ¬ zz7 xs k s then 1 else if p < -n\/n<p then 2 else if p=s then 3 else if zs2 r xs p=true then 4
 else if lim<absI (zj2 hs xs (k-1).toNat) then 5 else if lim<absI (zj2 hs xs (k-1).toNat+hs.getD (k-1).toNat 0*p) then 6 else 0
noncomputable def zY9:Nat->Str
 | 1 => "no weight" | 2 => "no place" | 3 => "same place" | 4 => "no room" | 5 => "tips in hand" | 6 => "tips behind" | _ => ""
noncomputable def clsN (t:Adr):Nat->Addr
 | 1=>t.ag | 2=>t.aj | 3=>t.ae | 4=>t.am | 5=>t.ac | _=>t.ad
noncomputable def zs6 (K:W.Frag) (t:Adr):Sp:=fun vs H Q E=>∃(a:Addr) (k s:Int) (xs:List Int),vs=[.ref a,.int k,.int s]/\H a=some (.tup (xs.map V.int))/\(zz7 xs k s->Q .non H)/\(¬ zz7 xs k s->∀od H',Told H H' od "no weight"->E (.ref t.ag) od H')
theorem ok_check_weight (T:Txt K mg t):FnOk P w K mg base (CXD P w) 4 t.aX t.bl ["places","weight","taken"] (zs6 K t):=by
 have Gaa:FnOk P w K mg base CX0 1 t.aB t.aH ["number","low","high"] (zj1 K t):=zk4 T
 have Gam:FnOk P w K mg base CX0 2 t.aE t.bb ["self","reason"] (zq7 K t):=ok_NoWeight_init T
 refine T.gm.d.okD (CX:=CX0) sc_check_weight (fun vs H Q E h=>?_) (fun cdv A outer s H vs Q E hr h=>?_)
 . obtain⟨a,k,s,xs,rfl,hT,q,qe⟩:=h
   rfl
 . obtain⟨a,k,s,xs,rfl,hT,q,qe⟩:=h
   have haa:Room 1 _:=hr.mono (by decide)
   have han:Room 3 _:=hr.mono (by decide)
   refine⟨_,(za4 (zd2 (zg8 (zb0 Gaa haa rfl T.an T.ao T.am .nil zb4 (za0 (pv 1) (za0 za8 (za0 (zb9 zc3 rfl T.al PySem.boot_len (za0 (pv 0) za1)) za1))))) (za6 (zf4 zd9 rfl T.aO T.dC T.cm Gam han rfl T.aN T.aJ .nil zb4 (za0 ze1 za1))) zb7)
     (za6 (zd2 (zc7 zx2 (zj7 zt0 (pv 0) (zf9 zr4 (pv 1) za8) (fun _ _=>rfl)) (pv 2) (zd1 _)) (za6 (zf4 zd9 rfl T.aO T.dC T.cm Gam han rfl T.aN T.aJ .nil zb4 (za0 ze1 za1))) zb7))),?_⟩
   refine⟨_,rfl,_,rfl,a,_,rfl,.inr (SqT.of hT),k,1,_,rfl,_,rfl,?_⟩
   rw[List.length_map]
   refine ite2 (fun h1=>?_) (fun h1=>?_)
   . have hb:¬ zz7 xs k s:=fun z=>by have:=z.1;simp at h1;omega
     exact⟨(by show 1<=sizeLine;decide),fun x fx=>⟨x,_,rfl,za5,fun H' dx hx hd sx=>⟨rfl,some dx,hx,qe hb _ _ (zi3 (Same.refl _) fx hx hd sx)⟩⟩⟩
   have hk:1<=k/\k<=xs.length:=by simp at h1;omega
   refine⟨_,rfl,_,rfl,_,_,rfl,rfl,a,_,_,_,rfl,rfl,SqT.of hT,zn8 (by omega) (by omega),_,rfl,rfl,_,rfl,?_⟩
   rw[zm3]
   refine ite2 (fun h2=>?_) (fun h2=>?_)
   . have hb:¬ zz7 xs k s:=fun z=>by simp at h2;exact h2 (by simpa using z.2)
     exact⟨(by show 1<=sizeLine;decide),fun x fx=>⟨x,_,rfl,za5,fun H' dx hx hd sx=>⟨rfl,some dx,hx,qe hb _ _ (zi3 (Same.refl _) fx hx hd sx)⟩⟩⟩
   . exact q ⟨hk,by simpa using h2⟩
noncomputable def zz8 (K:W.Frag)(t:Adr):Sp:=fun vs H Q E=>∃(b a:Addr) (n r lim s p:Int) (hs xs:List Int),vs=[.ref b,.ref a,.int s,.int p]/\ze0 t H b n r hs lim/\H a=some (.tup (xs.map V.int)) ∧
 (¬ (p < -n\/n<p)->p≠s->¬ zs2 r xs p=true->Q .non H)/\((p < -n\/n<p)->∀od H',Told H H' od "no place"->E (.ref t.aj) od H')/\(¬ (p < -n\/n<p)->p=s->∀od H',Told H H' od "same place"->E (.ref t.ae) od H') ∧
 (¬ (p < -n\/n<p)->p≠s->zs2 r xs p=true->∀od H',Told H H' od "no room"->E (.ref t.am) od H')
theorem ok_check_put (T:Txt K mg t):FnOk P w K mg base (CXD P w) 4 t.bm t.bH ["beam","places","taken","put"] (zz8 K t):=by
 have Gaa:FnOk P w K mg base CX0 1 t.aB t.aH ["number","low","high"] (zj1 K t):=zk4 T
 have Gao:FnOk P w K mg base CX0 1 t.bT t.b1 ["beam","places","place"] (zM1 K t):=zU4 T
 have Gaq:FnOk P w K mg base CX0 2 t.aJ t.bg ["self","reason"] (zs3 K t):=ok_NoPlace_init T
 have Gar:FnOk P w K mg base CX0 2 t.aD t.a9 ["self","reason"] (zo3 K t):=ok_SamePlace_init T
 have Gat:FnOk P w K mg base CX0 2 t.aO t.br ["self","reason"] (zu3 K t):=ok_NoRoom_init T
 refine T.hm.d.okD (CX:=CX0) sc_check_put (fun vs H Q E h=>?_) (fun cdv A outer s H vs Q E hr h=>?_)
 . obtain⟨b,a,n,r,lim,s,p,hs,xs,rfl,B,hT,q,q1,q2,q3⟩:=h
   rfl
 . obtain⟨b,a,n,r,lim,s,p,hs,xs,rfl,B,hT,q,q1,q2,q3⟩:=h
   have haa:Room 1 _:=hr.mono (by decide)
   have hao:Room 1 _:=hr.mono (by decide)
   have hau:Room 3 _:=hr.mono (by decide)
   have hav:Room 3 _:=hr.mono (by decide)
   have haw:Room 3 _:=hr.mono (by decide)
   refine⟨_,(za4 (zd2 (zg8 (zb0 Gaa haa rfl T.an T.ao T.am .nil zb4 (za0 (pv 3) (za0 (zB9 zs9 (zg9 (pv 0) rfl)) (za0 (zg9 (pv 0) rfl) za1))))) (za6 (zf4 zd9 rfl T.eW T.h6 T.hO Gaq hau rfl T.eT T.gh .nil zb4 (za0 ze1 za1))) zb7)
     (za4 (zd2 (zc7 zm1 (pv 3) (pv 2) (zd1 _)) (za6 (zf4 zd9 rfl T.cl T.hz T.hf Gar hav rfl T.ck T.fP .nil zb4 (za0 ze1 za1))) zb7)
     (za6 (zd2 (zg8 (zb0 Gao hao rfl T.g1 T.g2 T.g0 .nil zb4 (za0 (pv 0) (za0 (pv 1) (za0 (pv 3) za1))))) (za6 (zf4 zd9 rfl T.fS T.iq T.h7 Gat haw rfl T.fR T.gB .nil zb4 (za0 ze1 za1))) zb7)))),?_⟩
   refine cut3 ?_
   intro rr3 rr2
   have B0:=B
   obtain⟨_,dx,h,hb,hh⟩:=B
   refine⟨_,rfl,_,rfl,b,_,dx,_,_,rfl,hb,T.ac,T.ai,zl3 _ _ _ _,_,rfl,_,rfl,b,_,dx,_,_,rfl,hb,T.ac,T.ai,zl3 _ _ _ _,p,-n,n,rfl,_,rfl,?_⟩
   refine ite2 (fun h1=>?_) (fun h1=>?_)
   . have h1':p < -n\/n<p:=by simpa using h1
     exact⟨(by show 1<=sizeLine;decide),fun x fx=>⟨x,_,rfl,za5,fun H' dx hx hd sx=>⟨rfl,some dx,hx,q1 h1' _ _ (zi3 (Same.refl _) fx hx hd sx)⟩⟩⟩
   have h1':¬ (p < -n\/n<p):=fun z=>h1 (by simpa using z)
   refine⟨_,rfl,_,rfl,rfl,_,rfl,?_⟩
   rw[zm3]
   refine ite2 (fun h2=>?_) (fun h2=>?_)
   . have h2':p=s:=of_decide_eq_true h2
     exact⟨(by show 1<=sizeLine;decide),fun x fx=>⟨x,_,rfl,za5,fun H' dx hx hd sx=>⟨rfl,some dx,hx,q2 h1' h2' _ _ (zi3 (Same.refl _) fx hx hd sx)⟩⟩⟩
   have h2':p≠s:=fun z=>h2 (decide_eq_true z)
   refine⟨_,rfl,_,rfl,_,rfl,b,a,n,r,lim,p,hs,xs,rfl,B0,hT,_,rfl,?_⟩
   refine ite2 (fun h3=>?_) (fun h3=>?_)
   . exact⟨(by show 1<=sizeLine;decide),fun x fx=>⟨x,_,rfl,za5,fun H' dx hx hd sx=>⟨rfl,some dx,hx,q3 h1' h2' h3 _ _ (zi3 (Same.refl _) fx hx hd sx)⟩⟩⟩
   . exact q h1' h2' h3
noncomputable def zu4 (K:W.Frag) (t:Adr):Sp:=fun vs H Q E=>∃(b:Addr) (n r lim u v:Int) (hs:List Int),vs=[.ref b,.int u,.int v]/\ze0 t H b n r hs lim/\(¬ lim<absI u->¬ lim<absI (u+v)->Q .non H)/\(lim<absI u->∀od H',Told H H' od "tips in hand"->E (.ref t.ac) od H') ∧
 (¬ lim<absI u->lim<absI (u+v)->∀od H',Told H H' od "tips behind"->E (.ref t.ad) od H')
theorem ok_check_tilts (T:Txt K mg t):FnOk P w K mg base (CXD P w) 4 t.a7 t.bt ["beam","held","added"] (zu4 K t):=by
 have Gah:FnOk P w K mg base CX0 1 t.bL t.bS ["beam","tipped"] (zD7 K t):=zM0 T
 have Gay:FnOk P w K mg base CX0 2 t.az t.aZ ["self","reason"] (zo0 K t):=ok_TipsInHand_init T
 have Gaz:FnOk P w K mg base CX0 2 t.aA t.a0 ["self","reason"] (zo1 K t):=ok_TipsBehind_init T
 refine T.gG.d.okD (CX:=CX0) sc_check_tilts (fun vs H Q E h=>?_) (fun cdv A outer s H vs Q E hr h=>?_)
 . obtain⟨b,n,r,lim,u,v,hs,rfl,B,q,q1,q2⟩:=h
   rfl
 . obtain⟨b,n,r,lim,u,v,hs,rfl,B,q,q1,q2⟩:=h
   have hah:Room 1 _:=hr.mono (by decide)
   have haA:Room 3 _:=hr.mono (by decide)
   have haB:Room 3 _:=hr.mono (by decide)
   refine⟨_,(za4 (zd2 (zg8 (zb0 Gah hah rfl T.aL T.aM T.aK .nil zb4 (za0 (pv 0) (za0 (pv 1) za1)))) (za6 (zf4 zd9 rfl T.bt T.hg T.gQ Gay haA rfl T.br T.fp .nil zb4 (za0 ze1 za1))) zb7)
     (za6 (zd2 (zg8 (zb0 Gah hah rfl T.aL T.aM T.aK .nil zb4 (za0 (pv 0) (za0 (zf9 zs8 (pv 1) (pv 2)) za1)))) (za6 (zf4 zd9 rfl T.bu T.hh T.gR Gaz haB rfl T.bs T.fr .nil zb4 (za0 ze1 za1))) zb7))),?_⟩
   refine⟨_,rfl,_,rfl,b,n,r,lim,hs,u,rfl,B,_,rfl,?_⟩
   refine ite2 (fun h1=>?_) (fun h1=>?_)
   . exact⟨(by show 1<=sizeLine;decide),fun x fx=>⟨x,_,rfl,za5,fun H' dx hx hd sx=>⟨rfl,some dx,hx,q1 (of_decide_eq_true h1) _ _ (zi3 (Same.refl _) fx hx hd sx)⟩⟩⟩
   have h1':¬ lim<absI u:=fun z=>h1 (decide_eq_true z)
   refine⟨_,rfl,_,rfl,_,rfl,_,_,rfl,rfl,b,n,r,lim,hs,u+v,rfl,B,_,rfl,?_⟩
   refine ite2 (fun h2=>?_) (fun h2=>?_)
   . exact⟨(by show 1<=sizeLine;decide),fun x fx=>⟨x,_,rfl,za5,fun H' dx hx hd sx=>⟨rfl,some dx,hx,q2 h1' (of_decide_eq_true h2) _ _ (zi3 (Same.refl _) fx hx hd sx)⟩⟩⟩
   . exact q h1' fun z=>h2 (decide_eq_true z)
noncomputable def zw1 (K:W.Frag)(t:Adr):Sp:=fun vs H Q E=>∃(b a:Addr) (n r lim k s p:Int) (hs xs:List Int),vs=[.ref b,.ref a,.int k,.int s,.int p]/\ze0 t H b n r hs lim/\zg3 n r hs.length xs/\H a=some (.tup (xs.map V.int)) ∧
 (refN n r lim hs xs k s p=0->∀H',Same H H'->Q .non H')/\(∀j od H',refN n r lim hs xs k s p=j+1->Told H H' od (zY9 (j+1))->E (.ref (clsN t (j+1))) od H')
theorem ok_check_move (T:Txt K mg t):FnOk P w K mg base (CXD P w) 5 t.be t.bC ["beam","places","weight","taken","put"] (zw1 K t):=by
 have GaC:FnOk P w K mg base (CXD P w) 4 t.aX t.bl ["places","weight","taken"] (zs6 K t):=ok_check_weight T
 have GaD:FnOk P w K mg base (CXD P w) 4 t.bm t.bH ["beam","places","taken","put"] (zz8 K t):=ok_check_put T
 have GaE:FnOk P w K mg base (CXD P w) 4 t.a7 t.bt ["beam","held","added"] (zu4 K t):=ok_check_tilts T
 have GaF:FnOk P w K mg base CX0 4 t.bq t.bE ["beam","standing","weight"] (zx0 K t):=zG2 T
 refine T.g3.d.okD (CX:=CX0) sc_check_move (fun vs H Q E h=>?_) (fun cdv A outer s H vs Q E hr h=>?_)
 . obtain⟨b,a,n,r,lim,k,s,p,hs,xs,rfl,B,V0,hT,q,qe⟩:=h
   rfl
 . obtain⟨b,a,n,r,lim,k,s,p,hs,xs,rfl,B,V0,hT,q,qe⟩:=h
   have haC:Room 4 _:=hr.mono (by decide)
   have haD:Room 4 _:=hr.mono (by decide)
   have haE:Room 4 _:=hr.mono (by decide)
   have haF:Room 4 _:=hr.mono (by decide)
   refine⟨_,(za4 (zc6 (zb0 GaC haC rfl T.go T.gp T.gn .nil zc5 (za0 (pv 1) (za0 (pv 2) (za0 (pv 3) za1)))))
     (za4 (zc6 (zb0 GaD haD rfl T.ho T.hp T.hn .nil zc5 (za0 (pv 0) (za0 (pv 1) (za0 (pv 3) (za0 (pv 4) za1))))))
     (za6 (zc6 (zb0 GaE haE rfl T.gI T.gJ T.gH .nil zc5 (za0 (pv 0) (za0 (zb0 GaF haF rfl T.eQ T.eR T.eP .nil zb4 (za0 (pv 0) (za0 (pv 1) (za0 (pv 2) za1)))) (za0 (zf9 zw7 (zj7 zt0 (zg9 (pv 0) rfl) (zf9 zr4 (pv 2) za8) (fun _ _=>rfl)) (pv 4)) za1)))))))),?_⟩
   refine cut3 ?_
   intro rr3 rr2
   unfold refN at q qe
   refine⟨_,rfl,_,rfl,_,rfl,a,k,s,xs,rfl,hT,fun g1=>?_,fun g1 od H' tl=>qe 0 od H' (by rw[if_pos g1]) tl⟩
   rw[if_neg (fun z=>z g1)] at q
   simp only[if_neg (fun z:¬ zz7 xs k s=>z g1)] at qe
   refine⟨_,rfl,_,rfl,_,rfl,_,rfl,b,a,n,r,lim,s,p,hs,xs,rfl,B,hT,fun g2 g3 g4=>?_,fun g2 od H' tl=>qe 1 od H' (by rw[if_pos g2]) tl,fun g2 g3 od H' tl=>qe 2 od H' (by rw[if_neg g2,if_pos g3]) tl,fun g2 g3 g4 od H' tl=>qe 3 od H' (by rw[if_neg g2,if_neg g3,if_pos g4]) tl⟩
   rw[if_neg g2,if_neg g3,if_neg g4] at q
   simp only[if_neg g2,if_neg g3,if_neg g4] at qe
   obtain⟨⟨k1,k2⟩,g1⟩:=g1
   have hlen:=V0.len
   have ek:k=(((k-1).toNat:Nat):Int)+1:=by omega
   have hi:(k-1).toNat<xs.length:=by omega
   refine⟨_,rfl,_,rfl,_,rfl,_,rfl,b,a,n,r,lim,k,(k-1).toNat,hs,xs,rfl,B,V0,.inr hT,⟨ek,hi⟩,fun H1 s1=>?_⟩
   obtain⟨_,dx,h,hb,hh⟩:=B.same s1
   have hm:=B.1.h (hs.getD (k-1).toNat 0) (zG1 (by omega))
   refine⟨_,rfl,b,_,dx,_,_,rfl,hb,T.ac,T.aj,zr8 _ _ _ _,_,rfl,_,_,rfl,rfl,h,_,_,_,rfl,rfl,SqT.of hh,zn8 (by omega) (by omega),_,rfl,_,_,rfl,rfl,.inl ⟨by omega,by omega⟩,b,n,r,lim,_,_,hs,rfl,B.same s1,fun g5 g6=>?_,fun g5 od H' tl=>qe 4 od H' (by rw[if_pos g5]) (tl.from s1),fun g5 g6 od H' tl=>qe 5 od H' (by rw[if_neg g5,if_pos g6]) (tl.from s1)⟩
   rw[if_neg g5,if_neg g6] at q
   exact q rfl H1 s1
noncomputable def zG3 (K:W.Frag)(t:Adr):Sp:=fun vs H Q E=>∃(b a m:Addr) (n r lim k s p:Int) (hs xs:List Int),vs=[.ref b,.ref a,.ref m]/\ze0 t H b n r hs lim/\zg3 n r hs.length xs/\(SqL K H a (xs.map V.int)\/H a=some (.tup (xs.map V.int)))/\Mv K H m k s p ∧
 (refN n r lim hs xs k s p=0->∀l H',Same H H'->H' l=some (.tup ((xs.set (k-1).toNat p).map V.int))->Q (.ref l) H')/\(∀j od H',refN n r lim hs xs k s p=j+1->Told H H' od (zY9 (j+1))->E (.ref (clsN t (j+1))) od H')
theorem zP3 (T:Txt K mg t):FnOk P w K mg base (CXD P w) 6 t.bM t.bW ["beam","standing","move"] (zG3 K t):=by
 have Gaf:FnOk P w K mg base CX0 2 t.au t.av ["beam","standing"] (zf3 K t):=zf8 T
 have GaG:FnOk P w K mg base (CXD P w) 5 t.be t.bC ["beam","places","weight","taken","put"] (zw1 K t):=ok_check_move T
 have GaH:FnOk P w K mg base CX0 1 t.bk t.bB ["places","move"] (zv5 K t):=zB3 T
 refine T.iv.d.okD (CX:=CX0) zP0 (fun vs H Q E h=>?_) (fun cdv A outer s H vs Q E hr h=>?_)
 . obtain⟨b,a,m,n,r,lim,k,s,p,hs,xs,rfl,B,V0,hS,hM,q,qe⟩:=h
   rfl
 . obtain⟨b,a,m,n,r,lim,k,s,p,hs,xs,rfl,B,V0,hS,hM,q,qe⟩:=h
   have haf:Room 2 _:=hr.mono (by decide)
   have haG:Room 5 _:=hr.mono (by decide)
   have haH:Room 1 _:=hr.mono (by decide)
   refine⟨_,(za4 (zc2 (i:=3) zP0.nd rfl (Or.inl rfl) (zb0 Gaf haf rfl T.ag T.ah T.af .nil zb4 (za0 (pv 0) (za0 (pv 1) za1))))
     (za4 (zc6 (zb0 GaG haG rfl T.g5 T.g6 T.g4 .nil zc5 (za0 (pv 0) (za0 (pv 3) (za0 (zj7 zr6 (pv 2) za8 (fun _ _=>rfl)) (za0 (zj7 zr6 (pv 2) za8 (fun _ _=>rfl)) (za0 (zj7 zr6 (pv 2) za8 (fun _ _=>rfl)) za1)))))))
     (za6 (zc8 (zb0 GaH haH rfl T.bh T.bi T.bg .nil zb4 (za0 (pv 3) (za0 (pv 2) za1))))))),?_⟩
   refine cut3 ?_
   intro rr3 rr2
   refine⟨_,rfl,_,rfl,b,a,n,r,lim,hs,xs,rfl,B,V0,hS,fun l H1 s1 hl=>?_⟩
   have M1:=(hM.same s1).ix
   refine⟨_,rfl,_,rfl,_,rfl,M1.1 _ ⟨_,rfl,M1.2.1 _ ⟨_,rfl,M1.2.2 _ ?_⟩⟩⟩
   refine⟨b,l,n,r,lim,k,s,p,hs,xs,rfl,B.same s1,V0,hl,fun hz H2 s2=>?_,fun j od H' hj tl=>qe j od H' hj (tl.from s1)⟩
   have hg:zz7 xs k s:=Decidable.byContradiction fun z=>by unfold refN at hz;rw[if_pos z] at hz;cases hz
   obtain⟨⟨k1,k2⟩,_⟩:=hg
   have:=B.1.w
   have:=V0.len
   exact⟨_,rfl,_,rfl,l,m,k,s,p,(k-1).toNat,xs,rfl,s2 _ _ hl,hM.same (s1.trans s2),⟨by omega,by omega,by omega⟩,fun l3 H3 s3 h3=>q hz l3 H3 (s1.trans (s2.trans s3)) h3⟩
noncomputable def grid (n:Int)(j:Nat):List Int:=(List.range j).map fun(k:Nat)=>-n+(k:Int)
noncomputable def zk2 (n r:Int)(hs:List Int)(lim:Int)(xs:List Int)(i j:Nat):List Int:=(grid n j).filter fun p=>decide (Lets n r hs lim xs i p)
theorem zG4 (n r:Int)(hs:List Int)(lim:Int)(xs:List Int)(i j:Nat):zk2 n r hs lim xs i (j+1)=zk2 n r hs lim xs i j++(if Lets n r hs lim xs i (-n+(j:Int)) then [-n+(j:Int)] else []):=by
 unfold zk2 grid
 rw[List.range_succ,List.map_append,List.filter_append]
 congr 1
 by_cases h:Lets n r hs lim xs i (-n+(j:Int))
 . rw[if_pos h];simp[h]
 . rw[if_neg h];simp[h]
theorem zB4 (n r:Int)(hs:List Int)(lim:Int)(xs:List Int)(i j:Nat):(zk2 n r hs lim xs i j).length<=j:=by
 unfold zk2 grid
 refine Nat.le_trans (List.length_filter_le _ _) ?_
 simp
theorem putsL_nil {n r:Int}{hs:List Int}{lim:Int}{xs:List Int}{i:Nat}(j:Nat)(h:¬ absI (zj2 hs xs i)<=lim):zk2 n r hs lim xs i j=[]:=by
 unfold zk2
 rw[List.filter_eq_nil_iff]
 intro p _
 have:¬ Lets n r hs lim xs i p:=fun L=>h L.held
 simp[this]
noncomputable def wide (n:Int):Nat:=(n+1 - -n).toNat
noncomputable def zm8 (n r:Int)(hs:List Int)(lim:Int)(xs:List Int)(i:Nat):List (Nat×Int):=(List.range i).flatMap fun k=>(zk2 n r hs lim xs k (wide n)).map fun p=>(k,p)
theorem zG5 (n r:Int)(hs:List Int)(lim:Int)(xs:List Int)(i:Nat):zm8 n r hs lim xs (i+1)=zm8 n r hs lim xs i++(zk2 n r hs lim xs i (wide n)).map fun p=>(i,p):=by
 unfold zm8
 rw[List.range_succ,List.flatMap_append]
 simp
theorem zK0 (n r:Int)(hs:List Int)(lim:Int)(xs:List Int):∀i,(zm8 n r hs lim xs i).length<=i*wide n
 | 0=>by simp[zm8]
 | i+1=>by
   rw[zG5,List.length_append,List.length_map,Nat.succ_mul]
   have:=zK0 n r hs lim xs i
   have:=zB4 n r hs lim xs i (wide n)
   omega
noncomputable def zz9 (H:Hp)(xs:List Int)(a:Addr)(m:Nat×Int):Prop:=H a=some (.tup [.int ((m.1:Int)+1),.int (xs.getD m.1 0),.int m.2])
noncomputable def Rows (H:Hp)(xs:List Int)(rs:List Addr)(ms:List (Nat×Int)):Prop:=rs.length=ms.length/\∀(k:Nat) (a:Addr) (m:Nat×Int),rs[k]?=some a->ms[k]?=some m->zz9 H xs a m
theorem Rows.nil (H:Hp)(xs:List Int):Rows H xs [] []:=⟨rfl,fun k a m h=>by simp at h⟩
theorem Rows.same {H H':Hp}{xs:List Int}{rs:List Addr}{ms:List (Nat×Int)}(h:Rows H xs rs ms)(s:Same H H'):Rows H' xs rs ms:=⟨h.1,fun k a m e1 e2=>s _ _ (h.2 k a m e1 e2)⟩
theorem Rows.app {H:Hp}{xs:List Int}{rs rs':List Addr}{ms ms':List (Nat×Int)}(h:Rows H xs rs ms)(h':Rows H xs rs' ms'):Rows H xs (rs++rs') (ms++ms'):=by
 refine⟨by rw[List.length_append,List.length_append,h.1,h'.1],fun k a m e1 e2=>?_⟩
 by_cases hk:k<rs.length
 . rw[List.getElem?_append_left hk] at e1
   rw[List.getElem?_append_left (by rw[<-h.1];exact hk)] at e2
   exact h.2 k a m e1 e2
 . rw[List.getElem?_append_right (by omega)] at e1
   rw[List.getElem?_append_right (by rw[<-h.1];omega),<-h.1] at e2
   exact h'.2 _ a m e1 e2
theorem Rows.one {H:Hp}{xs:List Int}{a:Addr}{m:Nat×Int}(h:zz9 H xs a m):Rows H xs [a] [m]:=⟨rfl,fun k a' m' e1 e2=>by
 match k,e1,e2 with
 | 0,e1,e2=>cases e1;cases e2;exact h
 | k+1,e1,_=>simp at e1⟩
theorem Rows.put {H:Hp}{xs:List Int}{rs:List Addr}{ms:List (Nat×Int)}{l:Addr}{o:HO}{vs:List V}(h:Rows H xs rs ms)(hl:H l=some (.lst vs)):Rows (upd H l o) xs rs ms :=
 ⟨h.1,fun k a m e1 e2=>by
   have:=h.2 k a m e1 e2
   unfold zz9 at this ⊢
   rw[za7 (fun z=>by rw[z,hl] at this;cases this)]
   exact this⟩
noncomputable def zU5 (K:W.Frag)(t:Adr):Sp:=fun vs H Q _=>∃(b a:Addr) (n r lim k:Int) (i:Nat) (hs xs:List Int),vs=[.ref b,.ref a,.int k]/\ze0 t H b n r hs lim/\zg3 n r hs.length xs/\H a=some (.tup (xs.map V.int))/\(k=(i:Int)+1/\i<xs.length) ∧
 ∀l H',Same H H'->H' l=some (.lst ((zk2 n r hs lim xs i (wide n)).map V.int))->Q (.ref l) H'
theorem ok_puts (T:Txt K mg t):FnOk P w K mg base CX0 5 t.b2 t.b5 ["beam","places","weight"] (zU5 K t):=by
 have GaF:FnOk P w K mg base CX0 4 t.bq t.bE ["beam","standing","weight"] (zx0 K t):=zG2 T
 have Gah:FnOk P w K mg base CX0 1 t.bL t.bS ["beam","tipped"] (zD7 K t):=zM0 T
 have Gao:FnOk P w K mg base CX0 1 t.bT t.b1 ["beam","places","place"] (zM1 K t):=zU4 T
 refine T.iD.ok zD6 (fun vs H Q E h=>?_) (fun cdv A outer s H vs Q E hr h=>?_)
 . obtain⟨b,a,n,r,lim,k,i,hs,xs,rfl,B,V0,hT,⟨rfl,hi⟩,q⟩:=h
   rfl
 . obtain⟨b,a,n,r,lim,k,i,hs,xs,rfl,B,V0,hT,⟨rfl,hi⟩,q⟩:=h
   have haF:Room 4 _:=hr.mono (by decide)
   have hah:Room 1 _:=hr.mono (by decide)
   have hao:Room 1 _:=hr.mono (by decide)
   refine⟨_,(za4 (zc2 (i:=3) zD6.nd rfl (Or.inr rfl) (zb0 GaF haF rfl T.eQ T.eR T.eP .nil zb4 (za0 (pv 0) (za0 (pv 1) (za0 (pv 2) za1)))))
     (za4 (zd2 (zg8 (zb0 Gah hah rfl T.aL T.aM T.aK .nil zb4 (za0 (pv 0) (za0 (pv 3) za1)))) (za6 (zc8 (zo6 za1))) zb7)
     (za4 (zc2 (i:=4) zD6.nd rfl (Or.inr rfl) (zj7 zt0 (pv 1) (zf9 zr4 (pv 2) za8) (fun _ _=>rfl)))
     (za4 (zc2 (i:=5) zD6.nd rfl (Or.inr rfl) (zj7 zt0 (zg9 (pv 0) rfl) (zf9 zr4 (pv 2) za8) (fun _ _=>rfl)))
     (za6 (zc8 (zx5 rfl zJ7 (zH6 rfl T.aB (za0 (zB9 zs9 (zg9 (pv 0) rfl)) (za0 (zf9 zs8 (zg9 (pv 0) rfl) za8) za1))) (fun _ _ _ _ _=>(zh9 (i:=0) zJ7.nd rfl (Or.inl rfl))) (fun _ _ _ _ _=>(zN2 (PW.pt (zQ0 (zc7 zx2 (pv 0) (pv 1) (zd1 _)) (zQ0 (zo5 (zg8 (zb0 Gao hao rfl T.g1 T.g2 T.g0 .nil zb4 (za0 (pv 2) (za0 (pv 3) (za0 (pv 0) za1)))))) (zQ5 (zo5 (zg8 (zb0 Gah hah rfl T.aL T.aM T.aK .nil zb4 (za0 (pv 2) (za0 (zf9 zs8 (pv 4) (zf9 zw7 (pv 5) (pv 0))) za1))))))))))) (fun _ _ _ _ _=>(pv 0))))))))),?_⟩
   refine cut5 ?_
   intro rr5 rr4 rr3 rr2
   refine⟨_,rfl,_,rfl,_,rfl,b,a,n,r,lim,_,i,hs,xs,rfl,B,V0,.inr hT,⟨rfl,hi⟩,fun H1 s1=>?_⟩
   have hT1:=s1 _ _ hT
   have B1:=B.same s1
   refine⟨_,rfl,_,rfl,b,n,r,lim,hs,_,rfl,B1,_,rfl,?_⟩
   refine ite2 (fun h1=>?_) (fun h1=>?_)
   . have h1':¬ absI (zj2 hs xs i)<=lim:=fun z=>by have:=of_decide_eq_true h1;omega
     refine⟨Nat.zero_le _,fun l fl=>q l _ (s1.updT fl) ?_⟩
     rw[putsL_nil _ h1']
     exact za5
   have h1':absI (zj2 hs xs i)<=lim:=Int.not_lt.mp fun z=>h1 (decide_eq_true z)
   obtain⟨ok,dx,h,hb,hh⟩:=B1
   have hlen:=V0.len
   have e1:((i:Int)+1-1).toNat=i:=by omega
   have a1:atI (hs.map V.int) ((i:Int)+1-1)=some (.int (hs.getD i 0)):=by have:=zn8 (xs:=hs) (i:=(i:Int)+1-1) (by omega) (by omega);rw[e1] at this;exact this
   have a2:atI (xs.map V.int) ((i:Int)+1-1)=some (.int (xs.getD i 0)):=by have:=zn8 (xs:=xs) (i:=(i:Int)+1-1) (by omega) (by omega);rw[e1] at this;exact this
   have hm:=ok.h (hs.getD i 0) (zG1 (by omega))
   have n1:=ok.n1
   have n2:=ok.n2
   refine⟨_,rfl,_,rfl,_,_,rfl,rfl,a,_,_,_,rfl,rfl,SqT.of hT1,a2,?_⟩
   refine⟨_,rfl,b,_,dx,_,_,rfl,hb,T.ac,T.aj,zr8 _ _ _ _,_,rfl,_,_,rfl,rfl,h,_,_,_,rfl,rfl,SqT.of hh,a1,?_⟩
   refine⟨_,rfl,b,_,dx,_,_,rfl,hb,T.ac,T.ai,zl3 _ _ _ _,_,rfl,_,rfl,b,_,dx,_,_,rfl,hb,T.ac,T.ai,zl3 _ _ _ _,_,_,rfl,rfl,-n,n+1,rfl,⟨by omega,by omega,by omega,by omega⟩,fun D hD=>?_⟩
   refine comp_rangeI (fun j H'=>H'=upd H1 D (.lst ((zk2 n r hs lim xs i j).map V.int))) rfl ?_ ?_
   . rintro j H' N hj rfl hN
     have hT':(upd H1 D (.lst ((zk2 n r hs lim xs i j).map V.int))) a=some (.tup (xs.map V.int)):=Same.upd hD _ _ hT1
     have B':ze0 t (upd H1 D (.lst ((zk2 n r hs lim xs i j).map V.int))) b n r hs lim:=ze0.same ⟨ok,dx,h,hb,hh⟩ (Same.upd hD)
     have hD':(upd H1 D (.lst ((zk2 n r hs lim xs i j).map V.int))) D=some (.lst ((zk2 n r hs lim xs i j).map V.int)):=za5
     have no:¬ Lets n r hs lim xs i (-n+(j:Int))->(upd H1 D (.lst ((zk2 n r hs lim xs i j).map V.int)))=upd H1 D (.lst ((zk2 n r hs lim xs i (j+1)).map V.int)):=fun z=>by rw[zG4,if_neg z,List.append_nil]
     refine⟨_,rfl,_,rfl,rfl,_,rfl,?_⟩
     rw[zm3]
     refine ite2 (fun h2=>?_) (fun h2=>?_)
     . have h2':-n+(j:Int)≠xs.getD i 0:=by simpa using h2
       refine⟨_,rfl,_,rfl,_,rfl,b,a,n,r,lim,-n+(j:Int),hs,xs,rfl,B',hT',_,rfl,?_⟩
       refine ite2 (fun h3=>?_) (fun h3=>?_)
       . have h3':¬ (-n+(j:Int)≠0/\r<=(xs.count (-n+(j:Int)):Int)):=fun z=>by unfold zs2 at h3;rw[decide_eq_true z] at h3;exact Bool.noConfusion h3
         have hroom:-n+(j:Int)≠0->(xs.count (-n+(j:Int)):Int)<r:=fun z=>Int.not_le.mp fun y=>h3' ⟨z,y⟩
         refine⟨_,rfl,_,rfl,_,rfl,_,rfl,_,_,rfl,rfl,.inl ⟨by omega,by omega⟩,_,_,rfl,rfl,b,n,r,lim,hs,_,rfl,B',_,rfl,?_⟩
         refine ite2 (fun h4=>?_) (fun h4=>?_)
         . have h4':absI (zj2 hs xs i+hs.getD i 0*(-n+(j:Int)))<=lim:=Int.not_lt.mp fun z=>by rw[decide_eq_true z] at h4;exact Bool.noConfusion h4
           have L:Lets n r hs lim xs i (-n+(j:Int)):=⟨hi,by unfold wide at *;omega,h2',hroom,h1',h4'⟩
           refine⟨_,rfl,_,hD',zg6 (by rw[List.length_map];have:=zB4 n r hs lim xs i j;omega),hN _ ?_⟩
           rw[zu6,zG4,if_pos L,List.map_append]
           rfl
         . exact hN _ (no fun L=>h4 (by have:=L.behind;rw[decide_eq_false (by omega)];rfl))
       . refine iteF ?_
         exact hN _ (no fun L=>h3 (by unfold zs2;rw[decide_eq_false (fun z=>by have:=L.room z.1;omega)];rfl))
     . have h2':-n+(j:Int)=xs.getD i 0:=by simpa using h2
       refine iteF ?_
       exact hN _ (no fun L=>L.ne h2')
   . rintro H' rfl
     exact q D _ (s1.updT hD) za5
noncomputable def zP4 (K:W.Frag)(t:Adr):Sp:=fun vs H Q _=>∃(b a:Addr) (n r lim:Int) (hs xs:List Int),vs=[.ref b,.ref a]/\ze0 t H b n r hs lim/\zg3 n r hs.length xs/\(SqL K H a (xs.map V.int)\/H a=some (.tup (xs.map V.int))) ∧
 ∀l rs H',Same H H'->H l=none->H' l=some (.lst (rs.map V.ref))->Rows H' xs rs (zm8 n r hs lim xs xs.length)->Q (.ref l) H'
theorem ok_moves (T:Txt K mg t):FnOk P w K mg base CX0 6 t.bX t.b4 ["beam","standing"] (zP4 K t):=by
 have Gaf:FnOk P w K mg base CX0 2 t.au t.av ["beam","standing"] (zf3 K t):=zf8 T
 have GaI:FnOk P w K mg base CX0 5 t.b2 t.b5 ["beam","places","weight"] (zU5 K t):=ok_puts T
 refine T.iw.ok zz0 (fun vs H Q E h=>?_) (fun cdv A outer s H vs Q E hr h=>?_)
 . obtain⟨b,a,n,r,lim,hs,xs,rfl,B,V0,hS,q⟩:=h
   rfl
 . obtain⟨b,a,n,r,lim,hs,xs,rfl,B,V0,hS,q⟩:=h
   have haf:Room 2 _:=hr.mono (by decide)
   have haI:Room 5 _:=hr.mono (by decide)
   refine⟨_,(za4 (zc2 (i:=2) zz0.nd rfl (Or.inr rfl) (zb0 Gaf haf rfl T.ag T.ah T.af .nil zb4 (za0 (pv 0) (za0 (pv 1) za1))))
     (za4 (zc2 (i:=3) zz0.nd rfl (Or.inl rfl) (zo6 za1))
     (za4 (zr3 PassesOwn.never rfl (zH6 rfl T.aB (za0 za8 (za0 (zf9 zs8 (zb9 zc3 rfl T.al PySem.boot_len (za0 (pv 2) za1)) za8) za1))) (zh9 (i:=4) zz0.nd rfl (Or.inr rfl)) (za6 (zc6 (zE4 PySem.F.plainAttrs_list PySem.F.slot_list_extend PySem.F.type_list_extend mt_extend (pv 3) (za0 (zx5 rfl zF9 (zx1 (zb0 GaI haI rfl T.iF T.iG T.iE .nil zb4 (za0 (pv 0) (za0 (pv 2) (za0 (pv 4) za1))))) (fun _ _ _ _ _=>(zh9 (i:=0) zF9.nd rfl (Or.inl rfl))) (fun _ _ _ _ _=>zE6) (fun _ _ _ _ _=>(zQ1 (za0 (pv 1) (za0 (zj7 (zR7 K rfl) (pv 2) (zf9 zr4 (pv 1) za8) (fun _ _=>rfl)) (za0 (pv 0) za1)))))) za1)))))
     (za6 (zc8 (pv 3)))))),?_⟩
   refine cut4 ?_
   intro rr4 rr3 rr2
   have hx5:xs.length<=5:=by have:=B.1.w;have:=V0.len;omega
   have n1:=B.1.n1
   have n2:=B.1.n2
   have hwide:wide n<=9:=by unfold wide;omega
   refine⟨_,rfl,_,rfl,b,a,n,r,lim,hs,xs,rfl,B,V0,hS,fun p H1 s1 hT1=>?_⟩
   refine⟨Nat.zero_le _,fun l fl=>?_⟩
   have fl0:H l=none:=s1.free fl
   have B1:=B.same s1
   have s2:Same H1 (upd H1 l (.lst [])):=Same.upd fl
   have hl2:(upd H1 l (.lst [])) l=some (.lst []):=za5
   revert s2 hl2
   generalize upd H1 l (.lst [])=H2
   intro s2 hl2
   refine⟨_,rfl,p,_,rfl,.inr (SqT.of (s2 _ _ hT1)),_,_,rfl,rfl,1,_,rfl,?_⟩
   rw[List.length_map]
   refine⟨⟨by omega,by omega,by omega,by omega⟩,zo9 (lo:=1) (n:=((xs.length:Int)+1-1).toNat) (fun i σ H'=>∃v rs,σ=[some (.ref b),some (.ref a),some (.ref p),some (.ref l),v]/\Same H1 H'/\H' l=some (.lst (rs.map V.ref))/\Rows H' xs rs (zm8 n r hs lim xs i)) ⟨none,[],rfl,s2,hl2,Rows.nil _ _⟩ ?_ ?_⟩
   . rintro i σ H3 hi ⟨v,rs,rfl,s3,hl3,R3⟩
     have hi':i<xs.length:=by omega
     have e1:(1+(i:Int)-1).toNat=i:=by omega
     have ax:atI (xs.map V.int) (1+(i:Int)-1)=some (.int (xs.getD i 0)):=by have:=zn8 (xs:=xs) (i:=1+(i:Int)-1) (by omega) (by omega);rw[e1] at this;exact this
     have hps:=zB4 n r hs lim xs i (wide n)
     have hrl:=zK0 n r hs lim xs i
     have hmul:i*wide n<=5*9:=Nat.mul_le_mul (by omega) hwide
     refine⟨_,rfl,.inl ⟨rfl,_,SqL.of hl3⟩,_,rfl,_,rfl,_,rfl,b,p,n,r,lim,_,i,hs,xs,rfl,B1.same s3,V0,s3 _ _ hT1,⟨by omega,hi'⟩,fun lp H4 s4 h4=>?_⟩
     refine⟨lp,rfl,⟨_,SqL.of h4⟩,fun D hD=>?_⟩
     have hrs:zm8 n r hs lim xs (i+1)=zm8 n r hs lim xs i++(zk2 n r hs lim xs i (wide n)).map fun p=>(i,p):=zG5 n r hs lim xs i
     generalize zk2 n r hs lim xs i (wide n)=ps at h4 hps hrs ⊢
     refine zw9 (K:=K) (a:=lp) (xs:=ps.map V.int) (fun j H'=>∃rs',H' D=some (.lst (rs'.map V.ref))/\Rows H' xs rs' ((ps.take j).map fun p=>(i,p))/\Same H4 H') ⟨[],za5,Rows.nil _ _,Same.upd hD⟩ (fun j H' ⟨_,_,_,s⟩=>SqL.of (s _ _ h4)) ?_ ?_
     . rintro j x H' N hj ⟨rs',hD',R',s'⟩ hN
       obtain⟨z,rfl,hz⟩:=int_at hj
       dsimp only[zN1]
       refine iteT ?_
       refine⟨_,rfl,_,rfl,_,rfl,_,_,rfl,rfl,p,_,_,_,rfl,rfl,SqT.of (s' _ _ (s4 _ _ (s3 _ _ hT1))),ax,_,rfl,(by show 3<=sizeLine;decide),fun lt ft=>?_⟩
       have nDl:D≠lt:=fun z=>by rw[z,ft] at hD';cases hD'
       have hjl:(ps.take j).length<=9:=by rw[List.length_take];omega
       have hrl':rs'.length<=9:=by have:=R'.1;rw[List.length_map] at this;omega
       have etk:ps.take (j+1)=ps.take j++[z]:=by rw[List.take_succ,hz];rfl
       have R'':=(R'.same (Same.upd ft)).app (Rows.one (H:=upd H' lt (.tup [.int (1+(i:Int)),.int (xs.getD i 0),.int z])) (xs:=xs) (a:=lt) (m:=(i,z)) (by unfold zz9;rw[za5,Int.add_comm]))
       have hD'':(upd H' lt (.tup [.int (1+(i:Int)),.int (xs.getD i 0),.int z])) D=some (.lst (rs'.map V.ref)):=by rw[za7 nDl];exact hD'
       refine⟨rs'.map V.ref,hD'',zg6 (by rw[List.length_map];omega),hN _ ⟨rs'++[lt],by rw[za5,List.map_append];rfl,?_,(s'.updT ft).put hD⟩⟩
       rw[etk,List.map_append]
       exact R''.put hD''
     . rintro H5 ⟨rs',hD5,R5,s5⟩
       rw[List.length_map,List.take_length] at R5
       have s35:=s4.trans s5
       have hl5:=s35 _ _ hl3
       have e2:rs.length=(zm8 n r hs lim xs i).length:=R3.1
       have e3:rs'.length=ps.length:=by rw[R5.1,List.length_map]
       refine⟨l,D,_,_,rfl,rfl,hl5,hD5,Nat.le_of_lt (zg6 (by rw[List.length_map,List.length_map];omega)),?_⟩
       refine⟨_,rs++rs',rfl,(s3.trans s35).put fl,by rw[za5,List.map_append],?_⟩
       rw[hrs]
       exact((R3.same s35).app R5).put hl5
   . rintro σ H3 ⟨v,rs,rfl,s3,hl3,R3⟩
     rw[show((xs.length:Int)+1-1).toNat=xs.length by omega] at R3
     exact⟨_,rfl,q l rs H3 (s1.trans s3) fl0 hl3 R3⟩
end
section
variable {P:Program} {w:World} {K:W.Frag} {mg:Str->Option Value} {base:Heap} {t:Adr}
noncomputable def nbs (n r:Int)(hs:List Int)(lim:Int)(x:List Int):List (List Int):=(zm8 n r hs lim x x.length).map fun m=>x.set m.1 m.2
theorem zK1 {n r:Int}{hs:List Int}{lim:Int}{x:List Int}{i:Nat}{p:Int}:p∈zk2 n r hs lim x i (wide n)↔Lets n r hs lim x i p:=by
 unfold zk2 grid
 rw[List.mem_filter,decide_eq_true_eq]
 refine⟨fun h=>h.2,fun h=>⟨?_,h⟩⟩
 have:=h.on
 rw[List.mem_map]
 exact⟨(p+n).toNat,List.mem_range.mpr (by unfold wide;omega),by omega⟩
theorem zB5 {n r:Int}{hs:List Int}{lim:Int}{x:List Int}{k:Nat}{m:Nat×Int}:m∈zm8 n r hs lim x k↔m.1<k/\Lets n r hs lim x m.1 m.2:=by
 unfold zm8
 rw[List.mem_flatMap]
 constructor
 . rintro⟨i,hi,hm⟩
   obtain⟨p,hp,rfl⟩:=List.mem_map.mp hm
   exact⟨List.mem_range.mp hi,zK1.mp hp⟩
 . rintro⟨hi,L⟩
   exact⟨m.1,List.mem_range.mpr hi,List.mem_map.mpr ⟨m.2,zK1.mpr L,rfl⟩⟩
theorem zU6 {n r:Int}{hs:List Int}{lim:Int}{x y:List Int}:y∈nbs n r hs lim x↔∃i p,Lets n r hs lim x i p/\y=x.set i p:=by
 unfold nbs
 rw[List.mem_map]
 constructor
 . rintro⟨m,hm,rfl⟩
   exact⟨m.1,m.2,(zB5.mp hm).2,rfl⟩
 . rintro⟨i,p,L,rfl⟩
   exact⟨(i,p),zB5.mpr ⟨L.lt,L⟩,rfl⟩
inductive Walk (n r:Int)(hs:List Int)(lim:Int)(s:List Int):Nat->List Int->Prop
 | zero:Walk n r hs lim s 0 s
 | succ {d:Nat} {x y:List Int}:Walk n r hs lim s d x->y∈nbs n r hs lim x->Walk n r hs lim s (d+1) y
noncomputable def Dst (n r:Int)(hs:List Int)(lim:Int)(s:List Int)(d:Nat)(x:List Int):Prop:=Walk n r hs lim s d x/\∀j,j<d->¬ Walk n r hs lim s j x
section
variable {n r:Int} {hs:List Int} {lim:Int} {s:List Int}
theorem Walk.dst:∀ {d:Nat} {x:List Int},Walk n r hs lim s d x->∃e,e<=d/\Dst n r hs lim s e x:=by
 intro d
 induction d using Nat.strongRecOn with
 | _ d ih =>
   intro x h
   by_cases q:∃j,j<d/\Walk n r hs lim s j x
   . obtain⟨j,hj,hw⟩:=q
     obtain⟨e,he,hd⟩:=ih j hj hw
     exact⟨e,by omega,hd⟩
   . exact⟨d,Nat.le_refl _,h,fun j hj hw=>q ⟨j,hj,hw⟩⟩
theorem Dst.uniq {d e:Nat}{x:List Int}(h:Dst n r hs lim s d x)(h':Dst n r hs lim s e x):d=e:=by
 rcases Nat.lt_trichotomy d e with z | z | z
 . exact absurd h.1 (h'.2 d z)
 . exact z
 . exact absurd h'.1 (h.2 e z)
theorem Dst.zero:Dst n r hs lim s 0 s:=⟨.zero,fun j hj=>absurd hj (Nat.not_lt_zero _)⟩
theorem Dst.pred {d:Nat}{y:List Int}(h:Dst n r hs lim s (d+1) y):∃x,Dst n r hs lim s d x/\y∈nbs n r hs lim x:=by
 obtain⟨hw,hm⟩:=h
 cases hw with
 | @succ _ x _ hx hy=>exact⟨x,⟨hx,fun j hj hj'=>hm (j+1) (by omega) (.succ hj' hy)⟩,hy⟩
theorem Dst.below:∀ {d:Nat} {x:List Int},Dst n r hs lim s d x->∀e,e<=d->∃y,Dst n r hs lim s e y
 | 0,x,h,e,he=>⟨x,by rw[show e=0 by omega];exact h⟩
 | d+1,x,h,e,he=>by
   rcases Nat.eq_or_lt_of_le he with z | z
   . subst z;exact⟨x,h⟩
   . obtain⟨y,hy,_⟩:=h.pred
     exact Dst.below hy e (by omega)
theorem dst_next {d:Nat}{y:List Int}:Dst n r hs lim s (d+1) y↔(¬ ∃j,j<=d/\Dst n r hs lim s j y)/\∃x,Dst n r hs lim s d x/\y∈nbs n r hs lim x:=by
 constructor
 . intro h
   exact⟨fun⟨j,hj,h'⟩=>by have:=h.uniq h';omega,h.pred⟩
 . rintro⟨h1,x,hx,hy⟩
   refine⟨.succ hx.1 hy,fun j hj hw=>h1 ?_⟩
   obtain⟨e,he,hd⟩:=hw.dst
   exact⟨e,by omega,hd⟩
theorem dst_none {d:Nat}(h:∀y,¬ Dst n r hs lim s (d+1) y):∀e,d<e->∀y,¬ Dst n r hs lim s e y:=by
 intro e
 induction e with
 | zero=>intro he;omega
 | succ e ih =>
   intro he y hy
   rcases Nat.lt_or_ge d e with z | z
   . obtain⟨x,hx,_⟩:=hy.pred
     exact ih z x hx
   . obtain rfl:e=d:=by omega
     exact h y hy
theorem Walk.valid {d:Nat}{x:List Int}(h:Walk n r hs lim s d x){w:Nat}(V0:zg3 n r w s):zg3 n r w x:=by
 induction h with
 | zero=>exact V0
 | succ _ hy ih =>
   obtain⟨i,p,L,rfl⟩:=zU6.mp hy
   exact L.valid ih
end
theorem zG6:∀(N:Nat) (l:List Nat),l.Nodup->(∀x∈l,x<N)->l.length<=N
 | 0,l,_,h=>by
   cases l with
   | nil=>exact Nat.le_refl _
   | cons a l=>exact absurd (h a (.head _)) (Nat.not_lt_zero _)
 | N+1,l,hd,h=>by
   by_cases hm:N∈l
   . have:=zG6 N (l.erase N) (hd.erase N) fun x hx=>by
       have h1:=h x (List.mem_of_mem_erase hx)
       have h2:x≠N:=fun z=>by rw[z] at hx;exact(List.Nodup.not_mem_erase hd) hx
       omega
     rw[List.length_erase_of_mem hm] at this
     omega
   . have:=zG6 N l hd fun x hx=>by
       have h1:=h x hx
       have h2:x≠N:=fun z=>hm (z▸hx)
       omega
     omega
noncomputable def zm9 (n:Int):List Int->Nat
 | []=>0
 | a::x=>(a+n).toNat+(2*n+1).toNat*zm9 n x
theorem zP5 {n:Int}(hn:0<=n):∀ {x:List Int},(∀a∈x,-n<=a/\a<=n)->zm9 n x<(2*n+1).toNat ^ x.length
 | [],_=>by simp[zm9]
 | a::x,h=>by
   have h1:=h a (.head _)
   have ih:=zP5 hn (x:=x) fun b hb=>h b (.tail _ hb)
   show(a+n).toNat+(2*n+1).toNat*zm9 n x<(2*n+1).toNat ^ (x.length+1)
   rw[Nat.pow_succ,Nat.mul_comm _ ((2*n+1).toNat)]
   have h2:(2*n+1).toNat*(zm9 n x+1)<=(2*n+1).toNat*(2*n+1).toNat ^ x.length:=Nat.mul_le_mul_left _ ih
   rw[Nat.mul_add] at h2
   omega
theorem zK2 {n:Int}(hn:0<=n):∀ {x y:List Int},x.length=y.length->(∀a∈x,-n<=a/\a<=n)->(∀a∈y,-n<=a/\a<=n)->zm9 n x=zm9 n y->x=y
 | [],[],_,_,_,_=>rfl
 | [],_::_,h,_,_,_=>nomatch h
 | _::_,[],h,_,_,_=>nomatch h
 | a::x,b::y,hl,hx,hy,e=>by
   have h1:=hx a (.head _)
   have h2:=hy b (.head _)
   have e':(a+n).toNat+(2*n+1).toNat*zm9 n x=(b+n).toNat+(2*n+1).toNat*zm9 n y:=e
   have hM:0<(2*n+1).toNat:=by omega
   have m1:((a+n).toNat+(2*n+1).toNat*zm9 n x) % (2*n+1).toNat=(a+n).toNat:=by rw[Nat.add_mul_mod_self_left];exact Nat.mod_eq_of_lt (by omega)
   have m2:((b+n).toNat+(2*n+1).toNat*zm9 n y) % (2*n+1).toNat=(b+n).toNat:=by rw[Nat.add_mul_mod_self_left];exact Nat.mod_eq_of_lt (by omega)
   have ea:(a+n).toNat=(b+n).toNat:=by rw[<-m1,<-m2,e']
   have ec:zm9 n x=zm9 n y:=by
     have:(2*n+1).toNat*zm9 n x=(2*n+1).toNat*zm9 n y:=by omega
     exact Nat.eq_of_mul_eq_mul_left hM this
   rw[show a=b by omega,zK2 hn (by simpa using hl) (fun c hc=>hx c (.tail _ hc)) (fun c hc=>hy c (.tail _ hc)) ec]
theorem few {n r:Int}{hs:List Int}{lim:Int}(ok:zG0 n r hs lim){ks:List (List Int)}(hd:ks.Nodup)(hv:∀x∈ks,zg3 n r hs.length x):ks.length<=1000:=by
 have n1:=ok.n1
 have h:=zG6 ((2*n+1).toNat ^ hs.length) (ks.map (zm9 n)) ?_ ?_
 . rw[List.length_map] at h
   have hm:=ok.most
   have e:(((2*n+1).toNat ^ hs.length:Nat):Int)=(2*n+1) ^ hs.length:=by rw[Int.natCast_pow,Int.toNat_of_nonneg (by omega)]
   omega
 . refine List.pairwise_map.mpr (hd.imp_of_mem fun {x y} hx hy z e=>z ?_)
   exact zK2 (by omega) ((hv x hx).len.trans (hv y hy).len.symm) (hv x hx).on (hv y hy).on e
 . intro c hc
   obtain⟨x,hx,rfl⟩:=List.mem_map.mp hc
   have:=zP5 (n:=n) (by omega) (hv x hx).on
   rw[(hv x hx).len] at this
   exact this
noncomputable def Goes (n r:Int)(hs:List Int)(lim:Int):List Int->List (Nat×Int)->List Int->Prop
 | x,[],y=>x=y
 | x,m::ms,y=>Lets n r hs lim x m.1 m.2/\Goes n r hs lim (x.set m.1 m.2) ms y
noncomputable def zj8 (H:Hp):List Int->List Addr->List (Nat×Int)->Prop
 | _,[],[]=>True
 | x,a::rs,m::ms=>zz9 H x a m/\zj8 H (x.set m.1 m.2) rs ms
 | _,_,_=>False
theorem zj8.same {H H':Hp}(s:Same H H'):∀ {x:List Int} {rs:List Addr} {ms:List (Nat×Int)},zj8 H x rs ms->zj8 H' x rs ms
 | _,[],[],_=>trivial
 | _,[],_::_,h=>h.elim
 | _,_::_,[],h=>h.elim
 | x,a::rs,m::ms,h=>⟨s _ _ h.1,zj8.same s h.2⟩
theorem zj8.keepL {H:Hp}{l:Addr}{o:HO}{vs:List V}(hl:H l=some (.lst vs)):∀ {x:List Int} {rs:List Addr} {ms:List (Nat×Int)},zj8 H x rs ms->zj8 (upd H l o) x rs ms
 | _,[],[],_=>trivial
 | _,[],_::_,h=>h.elim
 | _,_::_,[],h=>h.elim
 | x,a::rs,m::ms,h=>by
   refine⟨?_,zj8.keepL hl h.2⟩
   have:=h.1
   unfold zz9 at this ⊢
   rw[za7 (fun z=>by rw[z,hl] at this;cases this)]
   exact this
theorem zj8.len {H:Hp}:∀ {x:List Int} {rs:List Addr} {ms:List (Nat×Int)},zj8 H x rs ms->rs.length=ms.length
 | _,[],[],_=>rfl
 | _,[],_::_,h=>h.elim
 | _,_::_,[],h=>h.elim
 | x,a::rs,m::ms,h=>by simp[zj8.len h.2]
noncomputable abbrev dOf (kv:List (List Int×V)):List (List Key×V):=kv.map fun e=>(ik e.1,e.2)
theorem zX2 {x y:List Int}(h:ik x=ik y):x=y:=(List.map_inj_right (fun a b z=>by injection z)).mp h
theorem zG7 {kv:List (List Int×V)}{x:List Int}{v:V}(hd:(kv.map (·.1)).Nodup)(h:(x,v)∈kv):valV (dOf kv) (ik x)=some v:=by
 induction kv with
 | nil=>cases h
 | cons e kv ih =>
   rw[List.map_cons,List.nodup_cons] at hd
   rcases List.mem_cons.mp h with rfl | h
   . exact zy6 rfl
   . have ne:¬ ik e.1=ik x:=fun z=>hd.1 (by rw[zX2 z];exact List.mem_map.mpr ⟨_,h,rfl⟩)
     show valV ((ik e.1,e.2)::dOf kv) (ik x)=_
     rw[zt5 ne]
     exact ih hd.2 h
theorem zP6 {kv:List (List Int×V)}{x:List Int}(h:x∉kv.map (·.1)):valV (dOf kv) (ik x)=none:=by
 induction kv with
 | nil=>rfl
 | cons e kv ih =>
   rw[List.map_cons,List.mem_cons,not_or] at h
   have ne:¬ ik e.1=ik x:=fun z=>h.1 (zX2 z).symm
   show valV ((ik e.1,e.2)::dOf kv) (ik x)=_
   rw[zt5 ne]
   exact ih h.2
theorem zX3 {kv:List (List Int×V)}(hd:(kv.map (·.1)).Nodup)(x:List Int):(valV (dOf kv) (ik x)).isSome=decide (x∈kv.map (·.1)):=by
 by_cases h:x∈kv.map (·.1)
 . obtain⟨e,he,rfl⟩:=List.mem_map.mp h
   rw[zG7 hd he,decide_eq_true h]
   rfl
 . rw[zP6 h,decide_eq_false h]
   rfl
theorem dOf_put {kv:List (List Int×V)}{x:List Int}(v:V)(h:x∉kv.map (·.1)):putK (dOf kv) (ik x) v=dOf (kv++[(x,v)]):=by
 rw[putK_new v (zP6 h)]
 unfold dOf
 rw[List.map_append]
 rfl
theorem dOf_keys (kv:List (List Int×V)):(dOf kv).map (·.1)=(kv.map (·.1)).map ik:=by
 unfold dOf
 rw[List.map_map,List.map_map]
 rfl
section
variable {n r:Int} {hs:List Int} {lim:Int}
end
end
section
variable {P:Program} {w:World} {K:W.Frag} {mg:Str->Option Value} {base:Heap} {t:Adr}
theorem dget {H:Hp}{a b:Addr}{kv:List (List Int×V)}{x:List Int}(e:H a=some (.dT (dOf kv)))(eb:H b=some (.tup (x.map V.int))):DGet H a (.ref b) (valV (dOf kv) (ik x)):=DGet.t e (by rw[zT6];exact eb)
theorem dput {H:Hp}{a b:Addr}{kv:List (List Int×V)}{x:List Int}{v:V}(e:H a=some (.dT (dOf kv)))(eb:H b=some (.tup (x.map V.int)))(hl:kv.length<=1000):DPut H a (.ref b) v (upd H a (.dT (putK (dOf kv) (ik x) v))) :=
 DPut.t e (by rw[zT6];exact eb) (zg6 (by rw[List.length_map];exact hl))
noncomputable def zX4 (n r:Int)(hs:List Int)(lim:Int)(L:List (List Int))(H:Hp)(e:List Int×V):Prop:=∃x∈L,∃m i p,e.2 = .ref m/\zz9 H x m (i,p)/\Lets n r hs lim x i p/\e.1=x.set i p
structure NL (n r:Int)(hs:List Int)(lim:Int)(H:Hp)(ld f:Addr)(L:List (List Int))(kv:List (List Int×V))(Seen:List Int->Prop)(H':Hp)(F:List (List Int×V))(zs:List V):Prop where
 sx:ze5 ld H H'
 hf:H' f=some (.lst zs)
 tu:Tups H' zs (F.map (·.1))
 hd:H' ld=some (.dT (dOf (kv++F)))
 nd:((kv++F).map (·.1)).Nodup
 mem:∀y,y∈F.map (·.1)↔y∉kv.map (·.1)/\Seen y
 row:∀e∈F,zX4 n r hs lim L H' e
theorem NL.step {n r:Int}{hs:List Int}{lim:Int}{H:Hp}{ld f:Addr}{L:List (List Int)}{kv:List (List Int×V)}{Seen:List Int->Prop}{H' H2:Hp}{F:List (List Int×V)}{zs:List V}(N:NL n r hs lim H ld f L kv Seen H' F zs)(s:Same H' H2):NL n r hs lim H ld f L kv Seen H2 F zs :=
 ⟨N.sx.trans s.x,s _ _ N.hf,s.tups N.tu,s _ _ N.hd,N.nd,N.mem,fun e he=>let⟨x,hx,m,i,p,e1,e2,e3,e4⟩:=N.row e he;⟨x,hx,m,i,p,e1,s _ _ e2,e3,e4⟩⟩
theorem NL.iff {n r:Int}{hs:List Int}{lim:Int}{H:Hp}{ld f:Addr}{L:List (List Int)}{kv:List (List Int×V)}{Seen Seen':List Int->Prop}{H':Hp}{F:List (List Int×V)}{zs:List V}(N:NL n r hs lim H ld f L kv Seen H' F zs)(h:∀y,Seen y↔Seen' y):NL n r hs lim H ld f L kv Seen' H' F zs :=
 ⟨N.sx,N.hf,N.tu,N.hd,N.nd,fun y=>by rw[N.mem,h],N.row⟩
theorem NL.add {n r:Int}{hs:List Int}{lim:Int}{H:Hp}{ld f:Addr}{L:List (List Int)}{kv:List (List Int×V)}{Seen:List Int->Prop}{H':Hp}{F:List (List Int×V)}{zs:List V}(N:NL n r hs lim H ld f L kv Seen H' F zs)(ff:H f=none)
   {x:List Int} {m l:Addr} {i:Nat} {p:Int} (hx:x∈L) (hm:zz9 H' x m (i,p)) (hL:Lets n r hs lim x i p) (hl:H' l=some (.tup ((x.set i p).map V.int))) (hy:x.set i p∉(kv++F).map (·.1)) :
   NL n r hs lim H ld f L kv (fun y=>Seen y\/y=x.set i p) (upd (upd H' ld (.dT (putK (dOf (kv++F)) (ik (x.set i p)) (.ref m)))) f (.lst (zs++[.ref l]))) (F++[(x.set i p,.ref m)]) (zs++[.ref l]):=by
 have nfd:f≠ld:=fun z=>by have:=N.hf;rw[z,N.hd] at this;cases this
 have tup_keep:∀ {b:Addr} {ys:List V},H' b=some (.tup ys)->(upd (upd H' ld (.dT (putK (dOf (kv++F)) (ik (x.set i p)) (.ref m)))) f (.lst (zs++[.ref l]))) b=some (.tup ys):=fun {b ys} hb=>by
   rw[za7 (fun z=>by have:=N.hf;rw[<-z,hb] at this;cases this),za7 (fun z=>by have:=N.hd;rw[<-z,hb] at this;cases this)]
   exact hb
 refine⟨N.sx.updX.put ff,za5,?_,?_,?_,fun y=>?_,fun e he=>?_⟩
 . rw[List.map_append]
   exact zJ5 (Paired.mapP N.tu fun y k ⟨b,e,hb⟩=>⟨b,e,tup_keep hb⟩) (tup_keep hl)
 . rw[za7 (Ne.symm nfd),za5,dOf_put _ hy,List.append_assoc]
 . rw[<-List.append_assoc,List.map_append]
   exact List.nodup_append.mpr ⟨N.nd,by simp,fun a ha b hb=>by
     obtain rfl:b=x.set i p:=by simpa using hb
     exact fun z=>hy (z▸ha)⟩
 . rw[List.map_append,List.mem_append,N.mem]
   have hy':x.set i p∉kv.map (·.1):=fun z=>hy (by rw[List.map_append];exact List.mem_append_left _ z)
   constructor
   . rintro(⟨h1,h2⟩ | h)
     . exact⟨h1,.inl h2⟩
     . obtain rfl:y=x.set i p:=by simpa using h
       exact⟨hy',.inr rfl⟩
   . rintro⟨h1,h2 | h2⟩
     . exact .inl ⟨h1,h2⟩
     . exact .inr (by simp[h2])
 . rcases List.mem_append.mp he with he | he
   . obtain⟨x',hx',m',i',p',e1,e2,e3,e4⟩:=N.row e he
     exact⟨x',hx',m',i',p',e1,tup_keep e2,e3,e4⟩
   . obtain rfl:e=(x.set i p,.ref m):=by simpa using he
     exact⟨x,hx,m,i,p,rfl,tup_keep hm,hL,rfl⟩
noncomputable def zw2 (K:W.Frag)(t:Adr):Sp:=fun vs H Q _=>∃(b l ld:Addr) (n r lim:Int) (hs:List Int) (L:List (List Int)) (ys:List V) (kv:List (List Int×V)),vs=[.ref b,.ref l,.ref ld]/\ze0 t H b n r hs lim/\H l=some (.lst ys)/\Tups H ys L/\(∀x∈L,zg3 n r hs.length x) ∧
 H ld=some (.dT (dOf kv))/\(kv.map (·.1)).Nodup/\(∀x∈kv.map (·.1),zg3 n r hs.length x) ∧
 ∀l' H' zs G F,ze5 ld H H'->H l'=none->H' l'=some (.lst zs)->Tups H' zs G->G.Perm (F.map (·.1))->G.Pairwise (fun x y=>Sx.lexB x y=true)->H' ld=some (.dT (dOf (kv++F)))->((kv++F).map (·.1)).Nodup →
   (∀y,y∈F.map (·.1)↔y∉kv.map (·.1)/\∃x∈L,y∈nbs n r hs lim x)->(∀e∈F,zX4 n r hs lim L H' e)->Q (.ref l') H'
theorem ok_next_layer (T:Txt K mg t):FnOk P w K mg base CX0 7 t.bf t.bD ["beam","layer","led"] (zw2 K t):=by
 have GaJ:FnOk P w K mg base CX0 6 t.bX t.b4 ["beam","standing"] (zP4 K t):=ok_moves T
 have GaH:FnOk P w K mg base CX0 1 t.bk t.bB ["places","move"] (zv5 K t):=zB3 T
 refine T.g7.ok zk1 (fun vs H Q E h=>?_) (fun cdv A outer s H vs Q E hr h=>?_)
 . obtain⟨b,l,ld,n,r,lim,hs,L,ys,kv,rfl,B,hl,hT,hV,hd,nd,hV2,q⟩:=h
   rfl
 . obtain⟨b,l,ld,n,r,lim,hs,L,ys,kv,rfl,B,hl,hT,hV,hd,nd,hV2,q⟩:=h
   have haJ:Room 6 _:=hr.mono (by decide)
   have haH:Room 1 _:=hr.mono (by decide)
   refine⟨_,(za4 (zc2 (i:=3) zk1.nd rfl (Or.inl rfl) (zo6 za1))
     (za4 (zr3 PassesOwn.never rfl (zx1 (pv 1)) (zh9 (i:=4) zk1.nd rfl (Or.inl rfl)) (za6 (zr3 PassesOwn.never rfl (zx1 (zb0 GaJ haJ rfl T.iy T.iz T.ix .nil zb4 (za0 (pv 0) (za0 (pv 4) za1)))) (zh9 (i:=5) zk1.nd rfl (Or.inl rfl)) (za4 (zc2 (i:=6) zk1.nd rfl (Or.inl rfl) (zb0 GaH haH rfl T.bh T.bi T.bg .nil zb4 (za0 (pv 4) (za0 (pv 5) za1))))
     (za6 (zd2 (zU8 (zJ1 (zE5 hr) (pv 6) (pv 2))) (za4 (ps_dput (zE5 hr) (pv 2) (pv 6) (pv 5) rfl)
     (za6 (zc6 (zE4 PySem.F.plainAttrs_list PySem.F.slot_list_append PySem.F.type_list_append zv0 (pv 3) (za0 (pv 6) za1))))) zb7))))))
     (za6 (zc8 (zb9 call_sortL rfl T.bN PyProof.Rows.boot_sorted (za0 (pv 3) za1)))))),?_⟩
   refine cut3 ?_
   intro rr3 rr2
   refine⟨Nat.zero_le _,fun f ff=>?_⟩
   have few_:∀ {H':Hp} {F:List (List Int×V)} {zs:List V} {Seen:List Int->Prop},NL n r hs lim H ld f L kv Seen H' F zs->(kv++F).length<=1000/\zs.length<=1000:=fun {H' F zs Seen} N=>by
     have h1:=few B.1 N.nd fun x hx=>by
       rw[List.map_append] at hx
       rcases List.mem_append.mp hx with z | z
       . exact hV2 x z
       . obtain⟨e,he,rfl⟩:=List.mem_map.mp z
         obtain⟨x',hx',m',i',p',_,_,L',e4⟩:=N.row e he
         rw[e4]
         exact L'.valid (hV x' hx')
     have h2:=zF7 N.tu
     rw[List.length_map] at h1 h2
     rw[List.length_append] at h1 ⊢
     omega
   have N0:NL n r hs lim H ld f L kv (fun y=>∃x∈L.take 0,y∈nbs n r hs lim x) (upd H f (.lst [])) [] [] :=
     ⟨(Same.upd ff).x,za5,.nil,by rw[za7 (zb2 hd ff),List.append_nil];exact hd,by rw[List.append_nil];exact nd,fun y=>⟨(fun z=>nomatch z),fun⟨_,x,hx,_⟩=>nomatch hx⟩,fun e he=>nomatch he⟩
   have nbf:∀ {c:Addr} {o:HO},H c=some o->c≠f:=fun e=>zb2 e ff
   have nbd:b≠ld:=fun z=>by obtain⟨_,_,_,hb,_⟩:=B;rw[z,hd] at hb;cases hb
   have nld:l≠ld:=fun z=>by rw[z,hd] at hl;cases hl
   have keepB:∀ {H':Hp},ze5 ld H H'->ze0 t H' b n r hs lim:=fun {H'} s=>by
     obtain⟨ok,dx,h,hb,hh⟩:=B
     exact⟨ok,dx,h,s _ _ hb nbd,s _ _ hh (fun z=>by rw[z,hd] at hh;cases hh)⟩
   have keepT:∀ {H':Hp} {c:Addr} {us:List V},ze5 ld H H'->H c=some (.tup us)->H' c=some (.tup us):=fun s e=>s _ _ e (fun z=>by rw[z,hd] at e;cases e)
   revert N0
   generalize upd H f (.lst [])=H1
   intro N0
   refine⟨_,rfl,l,rfl,⟨_,SqL.of (N0.sx _ _ hl nld)⟩,zE2 (K:=K) (a:=l) (xs:=ys) (fun i σ H'=>∃v4 v5 v6 F zs,σ=[some (.ref b),some (.ref l),some (.ref ld),some (.ref f),v4,v5,v6]/\NL n r hs lim H ld f L kv (fun y=>∃x∈L.take i,y∈nbs n r hs lim x) H' F zs) ⟨none,none,none,[],[],rfl,N0⟩ (fun i σ H' _ ⟨_,_,_,_,_,_,N⟩=>SqL.of (N.sx _ _ hl nld)) ?_ ?_⟩
   . rintro i y σ H2 hi ⟨v4,v5,v6,F,zs,rfl,N2⟩
     obtain⟨st,x,rfl,hx,hst⟩:=zU0 hT hi
     have hxL:x∈L:=List.mem_of_getElem? hx
     have Vx:=hV x hxL
     have hst2:=keepT N2.sx hst
     have hlen:x.length<=5:=by have:=Vx.len;have:=B.1.w;omega
     have etk:L.take (i+1)=L.take i++[x]:=by rw[List.take_succ,hx];rfl
     refine⟨_,rfl,_,rfl,b,st,n,r,lim,hs,x,rfl,keepB N2.sx,Vx,.inr hst2,fun lm rs H3 s3 flm hlm R3=>?_⟩
     have N3:=N2.step s3
     have hms:∀m∈zm8 n r hs lim x x.length,Lets n r hs lim x m.1 m.2:=fun m hm=>(zB5.mp hm).2
     have hnb:∀y,y∈nbs n r hs lim x↔∃m∈zm8 n r hs lim x x.length,y=x.set m.1 m.2:=fun y=>by
       unfold nbs
       rw[List.mem_map]
       exact⟨fun⟨m,h1,h2⟩=>⟨m,h1,h2.symm⟩,fun⟨m,h1,h2⟩=>⟨m,h1,h2.symm⟩⟩
     generalize zm8 n r hs lim x x.length=ms at R3 hms hnb
     refine⟨lm,rfl,⟨_,SqL.of hlm⟩,zE2 (K:=K) (a:=lm) (xs:=rs.map V.ref) (fun j σ H'=>∃v5 v6 F zs,σ=[some (.ref b),some (.ref l),some (.ref ld),some (.ref f),some (.ref st),v5,v6]/\NL n r hs lim H ld f L kv (fun y=>(∃x∈L.take i,y∈nbs n r hs lim x)\/∃m∈ms.take j,y=x.set m.1 m.2) H' F zs/\H' lm=some (.lst (rs.map V.ref))/\Rows H' x rs ms/\H' st=some (.tup (x.map V.int))) ⟨v5,v6,F,zs,rfl,N3.iff fun y=>⟨.inl,fun z=>z.elim id fun⟨m,hm,_⟩=>nomatch hm⟩,hlm,R3,s3 _ _ hst2⟩ (fun j σ H' _ ⟨_,_,_,_,_,_,h,_⟩=>SqL.of h) ?_ ?_⟩
     . rintro j y σ H4 hj ⟨v5,v6,F,zs,rfl,N4,hlm4,R4,hst4⟩
       have hj':j<rs.length:=by
         have:=(List.getElem?_eq_some_iff.mp hj).1
         simpa using this
       have hjm:j<ms.length:=by rw[<-R4.1];exact hj'
       obtain rfl:y = .ref rs[j]:=by
         rw[List.getElem?_map,List.getElem?_eq_getElem hj'] at hj
         exact(Option.some.inj hj).symm
       have hrow:=R4.2 j rs[j] ms[j] (List.getElem?_eq_getElem hj') (List.getElem?_eq_getElem hjm)
       have hLt:=hms ms[j] (List.getElem_mem hjm)
       have etm:ms.take (j+1)=ms.take j++[ms[j]]:=by rw[List.take_succ,List.getElem?_eq_getElem hjm];rfl
       generalize rs[j]=ma at hrow
       generalize ms[j]=m at hrow hLt etm
       obtain⟨mi,mp⟩:=m
       refine⟨_,rfl,_,rfl,st,ma,_,_,mp,mi,x,rfl,hst4,.inr (SqT.of hrow),⟨rfl,hLt.lt,by omega⟩,fun l5 H5 s5 h5=>?_⟩
       have N5:=N4.step s5
       have seen:∀y,((∃x∈L.take i,y∈nbs n r hs lim x)\/∃m∈ms.take (j+1),y=x.set m.1 m.2)↔((∃x∈L.take i,y∈nbs n r hs lim x)\/∃m∈ms.take j,y=x.set m.1 m.2)\/y=x.set mi mp:=fun y=>by
         rw[etm]
         simp only[List.mem_append,List.mem_singleton]
         constructor
         . rintro(z | ⟨m,z | z,e⟩)
           . exact .inl (.inl z)
           . exact .inl (.inr ⟨m,z,e⟩)
           . exact .inr (by rw[e,z])
         . rintro((z | ⟨m,z,e⟩) | z)
           . exact .inl z
           . exact .inr ⟨m,.inl z,e⟩
           . exact .inr ⟨(mi,mp),.inr rfl,z⟩
       refine⟨_,rfl,_,rfl,ld,_,rfl,dget N5.hd h5,_,rfl,?_⟩
       rw[zX3 N5.nd]
       refine ite2 (fun h1=>?_) (fun h1=>?_)
       . have hy:x.set mi mp∉(kv++F).map (·.1):=fun z=>by rw[decide_eq_true z] at h1;cases h1
         refine⟨_,rfl,_,rfl,_,rfl,ld,_,rfl,dput N5.hd h5 (few_ N5).1,?_⟩
         have nfd:f≠ld:=fun z=>by have:=N5.hf;rw[z,N5.hd] at this;cases this
         have hf6:(upd H5 ld (.dT (putK (dOf (kv++F)) (ik (x.set mi mp)) (.ref ma)))) f=some (.lst zs):=by rw[za7 nfd];exact N5.hf
         have N6:=(N5.add ff hxL (s5 _ _ hrow) hLt h5 hy).iff fun y=>(seen y).symm
         have keep6:∀ {c:Addr} {o:HO},H4 c=some o->c≠ld->c≠f->(upd (upd H5 ld (.dT (putK (dOf (kv++F)) (ik (x.set mi mp)) (.ref ma)))) f (.lst (zs++[.ref l5]))) c=some o:=fun e e1 e2=>by rw[za7 e2,za7 e1];exact s5 _ _ e
         have ntup:∀ {c:Addr} {us:List V},H4 c=some (.tup us)->c≠ld/\c≠f:=fun e=>⟨fun z=>(by have:=N4.hd;rw[<-z,e] at this;cases this),fun z=>(by have:=N4.hf;rw[<-z,e] at this;cases this)⟩
         have nlm:lm≠ld/\lm≠f:=⟨fun z=>(by have:=N4.hd;rw[<-z,hlm4] at this;cases this),fun z=>(by have hh:=N2.hf;rw[<-z,flm] at hh;cases hh)⟩
         refine⟨_,rfl,.inl ⟨rfl,_,SqL.of hf6⟩,_,rfl,f,_,_,rfl,rfl,hf6,zg6 (few_ N5).2,?_⟩
         exact⟨_,_,_,_,rfl,N6,keep6 hlm4 nlm.1 nlm.2,⟨R4.1,fun k a m' e1 e2=>by
           have:=R4.2 k a m' e1 e2
           exact keep6 this (ntup this).1 (ntup this).2⟩,keep6 hst4 (ntup hst4).1 (ntup hst4).2⟩
       . have hy:x.set mi mp∈(kv++F).map (·.1):=Classical.byContradiction fun z=>h1 (by rw[decide_eq_false z];rfl)
         refine⟨_,_,_,_,rfl,⟨N5.sx,N5.hf,N5.tu,N5.hd,N5.nd,fun y=>?_,N5.row⟩,s5 _ _ hlm4,R4.same s5,s5 _ _ hst4⟩
         rw[N5.mem,seen]
         constructor
         . rintro⟨h1,h2⟩;exact⟨h1,.inl h2⟩
         . rintro⟨h1,h2 | h2⟩
           . exact⟨h1,h2⟩
           . rw[List.map_append] at hy
             rcases List.mem_append.mp hy with z | z
             . exact absurd (h2▸z) h1
             . rw[h2];exact(N5.mem _).mp z
     . rintro σ H4 ⟨v5,v6,F,zs,rfl,N4,hlm4,R4,hst4⟩
       rw[List.length_map,R4.1,List.take_length] at N4
       refine⟨_,_,_,F,zs,rfl,N4.iff fun y=>?_⟩
       rw[etk]
       simp only[List.mem_append,List.mem_singleton]
       constructor
       . rintro(⟨x',h1,h2⟩ | z)
         . exact⟨x',.inl h1,h2⟩
         . exact⟨x,.inr rfl,(hnb y).mpr z⟩
       . rintro⟨x',h1 | h1,h2⟩
         . exact .inl ⟨x',h1,h2⟩
         . exact .inr ((hnb y).mp (h1▸h2))
   . rintro σ H2 ⟨v4,v5,v6,F,zs,rfl,N2⟩
     rw[zF7 hT,List.take_length] at N2
     refine⟨_,rfl,f,_,_,rfl,SqL.of N2.hf,N2.tu,?_,fun _ k hk=>?_,fun l' zs' js fl' ht hp hso=>?_⟩
     . have:=N2.nd
       rw[List.map_append] at this
       exact(List.nodup_append.mp this).2.1
     . obtain⟨e,he,rfl⟩:=List.mem_map.mp hk
       obtain⟨x',hx',m',i',p',_,_,L',e4⟩:=N2.row e he
       rw[e4]
       intro z
       have h0:(x'.set i' p').length=0:=by rw[z];rfl
       rw[List.length_set] at h0
       have:=L'.lt
       omega
     . have sd:Same H2 (upd H2 l' (.lst zs')):=Same.upd fl'
       have N3:=N2.step sd
       exact q l' _ zs' js F N3.sx (N2.sx.free fl' (by rw[N2.hd];exact fun z=>nomatch z)) za5 (sd.tups ht) hp hso N3.hd N3.nd N3.mem N3.row
end
section
variable {P:Program} {w:World} {K:W.Frag} {mg:Str->Option Value} {base:Heap} {t:Adr}
noncomputable def zK3 (n r:Int)(hs:List Int)(lim:Int)(s:List Int)(H:Hp)(e:List Int×V):Prop :=
 (e.1=s/\e.2 = .non)\/∃y d m i p,e.2 = .ref m/\zz9 H y m (i,p)/\Lets n r hs lim y i p/\e.1=y.set i p/\Dst n r hs lim s d y/\Dst n r hs lim s (d+1) e.1
theorem zK3.same {n r:Int}{hs:List Int}{lim:Int}{s:List Int}{H H':Hp}{e:List Int×V}(h:zK3 n r hs lim s H e)(k:∀b us,H b=some (.tup us)->H' b=some (.tup us)):zK3 n r hs lim s H' e:=by
 rcases h with h | ⟨y,d,m,i,p,h1,h2,h3⟩
 . exact .inl h
 . exact .inr ⟨y,d,m,i,p,h1,k _ _ h2,h3⟩
noncomputable def zK4 (K:W.Frag)(t:Adr):Sp:=fun vs H Q _=>∃(g ld:Addr) (n r lim:Int) (hs s x:List Int) (d:Nat) (kv:List (List Int×V)),vs=[.ref g,.ref ld]/\H g=some (.tup (x.map V.int))/\H ld=some (.dT (dOf kv))/\(kv.map (·.1)).Nodup/\(∀e∈kv,zK3 n r hs lim s H e) ∧
 Dst n r hs lim s d x/\(∀j y,j<=d->Dst n r hs lim s j y->y∈kv.map (·.1))/\zg3 n r hs.length s/\hs.length<=5/\d<=1000 ∧
 ∀l H' rs ms,Same H H'->H l=none->H' l=some (.lst (rs.map V.ref))->zj8 H' s rs ms->Goes n r hs lim s ms x->ms.length=d->Q (.ref l) H'
theorem ok_row_to (T:Txt K mg t):FnOk P w K mg base CX0 2 t.bQ t.b0 ["goal","led"] (zK4 K t):=by
 have GaH:FnOk P w K mg base CX0 1 t.bk t.bB ["places","move"] (zv5 K t):=zB3 T
 have GaK:FnOk P w K mg base CX0 1 t.bN t.bY ["move"] (zJ9 K t):=ok_turned T
 refine T.il.ok zv4 (fun vs H Q E h=>?_) (fun cdv A outer s H vs Q E hr h=>?_)
 . obtain⟨g,ld,n,r,lim,hs,s,x,d,kv,rfl,hg,hd,nd,hled,hx,hcl,V0,hw,hd1,q⟩:=h
   rfl
 . obtain⟨g,ld,n,r,lim,hs,s,x,d,kv,rfl,hg,hd,nd,hled,hx,hcl,V0,hw,hd1,q⟩:=h
   have haH:Room 1 _:=hr.mono (by decide)
   have haK:Room 1 _:=hr.mono (by decide)
   refine⟨_,(za4 (zc2 (i:=2) zv4.nd rfl (Or.inl rfl) (zo6 za1))
     (za4 (zc2 (i:=3) zv4.nd rfl (Or.inl rfl) (pv 0))
     (za4 (zM6 PassesOwn.never (zc7 op_notN (zL8 (zE5 hr) (pv 1) (pv 3) (fun _ _=>rfl)) zP9 (zd1 _)) (za4 (zc6 (zE4 PySem.F.plainAttrs_list PySem.F.slot_list_append PySem.F.type_list_append zv0 (pv 2) (za0 (zL8 (zE5 hr) (pv 1) (pv 3) (fun _ _=>rfl)) za1)))
     (za6 (zc2 (i:=3) zv4.nd rfl (Or.inl rfl) (zb0 GaH haH rfl T.bh T.bi T.bg .nil zb4 (za0 (pv 3) (za0 (zb0 GaK haK rfl T.id T.ie T.ic .nil zb4 (za0 (zL8 (zE5 hr) (pv 1) (pv 3) (fun _ _=>rfl)) za1)) za1)))))))
     (za4 (zc6 (pe_bm0 PySem.F.plainAttrs_list PySem.F.slot_list_reverse PySem.F.type_list_reverse mt_reverse (pv 2)))
     (za6 (zc8 (pv 2))))))),?_⟩
   refine cut5 ?_
   intro rr5 rr4 rr3 rr2
   refine⟨Nat.zero_le _,fun rw_ frw=>?_⟩
   refine⟨_,rfl,?_⟩
   refine zM8 (fun σ H'=>∃(st:Addr) (z:List Int) (rs:List Addr) (ms:List (Nat×Int)) (j:Nat),σ=[some (.ref g),some (.ref ld),some (.ref rw_),some (.ref st)]/\Same H H'/\H' rw_=some (.lst (rs.map V.ref))/\H' st=some (.tup (z.map V.int))/\zj8 H' z rs.reverse ms/\Goes n r hs lim z ms x/\Dst n r hs lim s j z/\j+ms.length=d)
     (fun σ H'=>match H' rw_ with | some (.lst us)=>d-us.length | _=>0) ⟨g,x,[],[],d,rfl,Same.upd frw,za5,by rw[za7 (zb2 hg frw)];exact hg,trivial,rfl,hx,rfl⟩ ?_ ?_
   . rintro σ H' ⟨st,z,rs,ms,j,rfl,s1,h1,h2,h3,h4,h5,h6⟩
     have hzk:=hcl j z (by omega) h5
     obtain⟨⟨z',v⟩,he,rfl⟩:=List.mem_map.mp hzk
     have hd':=s1 _ _ hd
     have g1:∀ {H2:Hp} {b:Addr},Same H' H2->H2 b=some (.tup (z'.map V.int))->DGet H2 ld (.ref b) (some v):=fun {H2 b} s2 hb=>by
       have:=dget (s2 _ _ hd') hb
       rw[zG7 nd he] at this
       exact this
     refine⟨_,rfl,_,rfl,ld,v,rfl,g1 (Same.refl _) h2,rfl,_,rfl,?_⟩
     rcases hled _ he with⟨e1,e2⟩ | ⟨y,d',m,i,p,e1,e2,e3,e4,e5,e6⟩
     . obtain rfl:v = .non:=e2
       refine iteF ?_
       have hj:j=0:=h5.uniq (by rw[show z'=s from e1];exact Dst.zero)
       obtain rfl:z'=s:=e1
       refine⟨_,rfl,.inl ⟨rfl,_,SqL.of h1⟩,rw_,_,rfl,rfl,h1,?_⟩
       refine⟨_,rfl,q rw_ _ rs.reverse ms (s1.put frw) frw ?_ ?_ h4 (by omega)⟩
       . rw[za5,List.map_reverse]
       . exact zj8.keepL h1 h3
     . have hv:v = .ref m:=e1
       subst hv
       refine iteT ?_
       have ez:z'=y.set i p:=e4
       have ej:j=d'+1:=h5.uniq e6
       have hrow:=s1 _ _ e2
       have hlr:rs.length=ms.length:=by rw[<-List.length_reverse];exact h3.len
       have Vy:=e5.1.valid V0
       have hly:y.length=hs.length:=Vy.len
       refine⟨_,rfl,.inl ⟨rfl,_,SqL.of h1⟩,_,rfl,_,rfl,ld,_,rfl,g1 (Same.refl _) h2,rw_,_,_,rfl,rfl,h1,zg6 (by rw[List.length_map];omega),?_⟩
       have k2:∀ {b:Addr} {us:List V},H' b=some (.tup us)->(upd H' rw_ (.lst (rs.map V.ref++[.ref m]))) b=some (.tup us):=fun hb=>by rw[za7 (fun z=>by rw[z,h1] at hb;cases hb)];exact hb
       have hd2:(upd H' rw_ (.lst (rs.map V.ref++[.ref m]))) ld=some (.dT (dOf kv)):=by rw[za7 (fun z=>by rw[z,h1] at hd';cases hd')];exact hd'
       have g2:DGet (upd H' rw_ (.lst (rs.map V.ref++[.ref m]))) ld (.ref st) (some (.ref m)):=by
         have:=dget hd2 (k2 h2)
         rw[zG7 nd he] at this
         exact this
       have h1':(upd H' rw_ (.lst (rs.map V.ref++[.ref m]))) rw_=some (.lst ((rs++[m]).map V.ref)):=by rw[za5,List.map_append];rfl
       have R2:zj8 (upd H' rw_ (.lst (rs.map V.ref++[.ref m]))) z' rs.reverse ms:=zj8.keepL h1 h3
       have s2:Same H (upd H' rw_ (.lst (rs.map V.ref++[.ref m]))):=s1.put frw
       have hst2:=k2 h2
       have hrow2:=k2 hrow
       revert g2 h1' R2 s2 hst2 hrow2 hd2
       generalize upd H' rw_ (.lst (rs.map V.ref++[.ref m]))=H2
       intro hd2 g2 h1' R2 s2 hst2 hrow2
       refine⟨_,rfl,_,rfl,_,rfl,ld,_,rfl,g2,m,_,_,_,rfl,.inr (SqT.of hrow2),fun lt flt=>?_⟩
       have s3:Same H2 (upd H2 lt (.tup [.int ((i:Int)+1),.int p,.int (y.getD i 0)])):=Same.upd flt
       have h3':(upd H2 lt (.tup [.int ((i:Int)+1),.int p,.int (y.getD i 0)])) lt=some (.tup [.int ((i:Int)+1),.int p,.int (y.getD i 0)]):=za5
       dsimp only
       revert s3 h3'
       generalize upd H2 lt (.tup [.int ((i:Int)+1),.int p,.int (y.getD i 0)])=H3
       intro s3 h3'
       refine⟨st,lt,_,_,y.getD i 0,i,z',rfl,s3 _ _ hst2,.inr (SqT.of h3'),⟨rfl,by rw[ez,List.length_set];exact e3.lt,by rw[ez,List.length_set];omega⟩,fun l4 H4 s4 h4'=>?_⟩
       have ey:z'.set i (y.getD i 0)=y:=by rw[ez];exact set_back p e3.lt
       rw[ey] at h4'
       have s24:=s3.trans s4
       refine⟨⟨l4,y,rs++[m],(i,p)::ms,d',rfl,s2.trans s24,s24 _ _ h1',h4',?_,⟨e3,by rw[<-ez];exact h4⟩,e5,by simp;omega⟩,?_⟩
       . rw[List.reverse_append]
         refine⟨s24 _ _ hrow2,?_⟩
         rw[<-ez]
         exact R2.same s24
       . rw[s24 _ _ h1',h1]
         simp
         omega
   . rintro σ H' Q1 Q2 hQ ⟨_,e1,_,e2,a1,v1,e3,e4,e5,k,e6,e7⟩
     exact⟨_,e1,_,e2,a1,v1,e3,e4,e5,k,e6,hQ _ _ e7⟩
noncomputable def wsOf (ms:List (Nat×Int)):List Int:=ms.map fun m=>(m.1:Int)+1
noncomputable def zu5 (K:W.Frag)(t:Adr):Sp:=fun vs H Q _=>∃(rw_:Addr) (x:List Int) (rs:List Addr) (ms:List (Nat×Int)),vs=[.ref rw_]/\H rw_=some (.lst (rs.map V.ref))/\zj8 H x rs ms/\(∀m∈ms,m.1<5)/\ms.length<=1000 ∧
 ∀(l:Addr) (H':Hp) (ag:List Int),Same H H'->H l=none->H' l=some (.lst (ag.map V.int))->ag.Pairwise (· < ·)->(∀k,k∈ag↔k∈wsOf ms/\1<(wsOf ms).count k)->Q (.ref l) H'
theorem zj8.at_ {H:Hp}:∀ {x:List Int} {rs:List Addr} {ms:List (Nat×Int)},zj8 H x rs ms->∀ {j:Nat} {a:Addr},rs[j]?=some a->∃m u v,ms[j]?=some m/\H a=some (.tup [.int ((m.1:Int)+1),u,v])
 | _,[],[],_,j,a,h=>by simp at h
 | _,[],_::_,h,_,_,_=>h.elim
 | _,_::_,[],h,_,_,_=>h.elim
 | x,b::rs,m::ms,h,0,a,e=>by
   have e':some b=some a:=e
   obtain rfl:=Option.some.inj e'
   exact⟨m,_,_,rfl,h.1⟩
 | x,b::rs,m::ms,h,j+1,a,e=>by
   obtain⟨m',u,v,e1,e2⟩:=zj8.at_ h.2 (j:=j) (a:=a) (by simpa using e)
   exact⟨m',u,v,by simpa using e1,e2⟩
theorem ok_moved_again (T:Txt K mg t):FnOk P w K mg base CX0 1 t.a8 t.bu ["row"] (zu5 K t):=by
 refine T.gK.ok zt9 (fun vs H Q E h=>?_) (fun cdv A outer s H vs Q E hr h=>?_)
 . obtain⟨rw_,x,rs,ms,rfl,hr0,R0,h5,hml,q⟩:=h
   rfl
 . obtain⟨rw_,x,rs,ms,rfl,hr0,R0,h5,hml,q⟩:=h
   refine⟨_,(za4 (zc2 (i:=1) zt9.nd rfl (Or.inr rfl) (zx5 rfl zq5 (zx1 (pv 0)) (fun _ _ _ _ _=>(zh9 (i:=0) zq5.nd rfl (Or.inl rfl))) (fun _ _ _ _ _=>zE6) (fun _ _ _ _ _=>(zj7 (zR7 K rfl) (pv 0) za8 (fun _ _=>rfl)))))
     (za6 (zc8 (zb9 (call_sortS rfl) rfl T.bN PyProof.Rows.boot_sorted (za0 (zp7 (call_setI rfl) rfl T.iM PyProof.Rows.boot_set (za0 (zx5 rfl zq6 (zx1 (pv 1)) (fun _ _ _ _ _=>(zh9 (i:=0) zq6.nd rfl (Or.inl rfl))) (fun _ _ _ _ _=>(zN2 (zc7 zH7 (pe_bmK K rfl PySem.F.plainAttrs_list PySem.F.slot_list_count PySem.F.type_list_count (mt_countLK K rfl) (pv 1) (za0 (pv 0) za1)) za8 (zd1 _)))) (fun _ _ _ _ _=>(pv 0))) za1)) za1))))),?_⟩
   have hlen:=R0.len
   refine⟨_,rfl,rw_,rfl,⟨_,SqL.of hr0⟩,fun D hD=>?_⟩
   refine zw9 (K:=K) (a:=rw_) (xs:=rs.map V.ref) (fun j H'=>H'=upd H D (.lst ((wsOf (ms.take j)).map V.int))) rfl (fun j H' e=>by rw[e];exact SqL.of (by rw[za7 (zb2 hr0 hD)];exact hr0)) ?_ ?_
   . rintro j v H' N hj rfl hN
     have hj':j<rs.length:=by
       have:=(List.getElem?_eq_some_iff.mp hj).1
       simpa using this
     obtain rfl:v = .ref rs[j]:=by
       rw[List.getElem?_map,List.getElem?_eq_getElem hj'] at hj
       exact(Option.some.inj hj).symm
     obtain⟨m,u,w',e1,e2⟩:=R0.at_ (List.getElem?_eq_getElem hj')
     have etk:ms.take (j+1)=ms.take j++[m]:=by rw[List.take_succ,e1];rfl
     have e2':(upd H D (.lst ((wsOf (ms.take j)).map V.int))) rs[j]=some (.tup [.int ((m.1:Int)+1),u,w']):=by rw[za7 (zb2 e2 hD)];exact e2
     dsimp only[zN1]
     refine iteT ?_
     refine⟨_,rfl,_,_,_,_,rfl,rfl,SqT.of e2',rfl,_,za5,zg6 (by unfold wsOf;rw[List.length_map,List.length_map,List.length_take];omega),hN _ ?_⟩
     rw[zu6,etk]
     unfold wsOf
     rw[List.map_append,List.map_append]
     rfl
   . rintro H' rfl
     rw[List.length_map,hlen,List.take_length]
     have s1:Same H (upd H D (.lst ((wsOf ms).map V.int))):=Same.upd hD
     have h1:(upd H D (.lst ((wsOf ms).map V.int))) D=some (.lst ((wsOf ms).map V.int)):=za5
     have hw5:∀k∈wsOf ms,1<=k/\k<=5:=fun k hk=>by
       unfold wsOf at hk
       obtain⟨m,hm,rfl⟩:=List.mem_map.mp hk
       have:=h5 m hm
       omega
     have hwl:(wsOf ms).length<=1000:=by unfold wsOf;rw[List.length_map];omega
     generalize wsOf ms=ws at *
     revert s1 h1
     generalize upd H D (.lst (ws.map V.int))=H1
     intro s1 h1
     refine⟨_,rfl,D,rfl,⟨_,SqL.of h1⟩,fun E hE=>?_⟩
     refine zw9 (K:=K) (a:=D) (xs:=ws.map V.int) (fun j H'=>H'=upd H1 E (.lst (((ws.take j).filter fun k=>decide (1<ws.count k)).map V.int))) rfl (fun j H' e=>by rw[e];exact SqL.of (by rw[za7 (zb2 h1 hE)];exact h1)) ?_ ?_
     . rintro j v H' N hj rfl hN
       obtain⟨z,rfl,hz⟩:=int_at hj
       have etk:ws.take (j+1)=ws.take j++[z]:=by rw[List.take_succ,hz];rfl
       have h1':(upd H1 E (.lst (((ws.take j).filter fun k=>decide (1<ws.count k)).map V.int))) D=some (.lst (ws.map V.int)):=by rw[za7 (zb2 h1 hE)];exact h1
       refine⟨_,rfl,.inl ⟨rfl,_,SqL.of h1'⟩,_,rfl,D,ws,z,rfl,rfl,SqL.of h1',_,_,rfl,rfl,_,rfl,?_⟩
       have ec:decide ((1:Int)<(ws.count z:Int))=decide (1<ws.count z):=by
         by_cases h:1<ws.count z
         . rw[decide_eq_true h,decide_eq_true (by omega)]
         . rw[decide_eq_false h,decide_eq_false (by omega)]
       rw[ec]
       refine ite2 (fun hc=>?_) (fun hc=>?_)
       . refine⟨_,rfl,_,za5,zg6 (by rw[List.length_map];exact Nat.le_trans (List.length_filter_le _ _) (by rw[List.length_take];omega)),hN _ ?_⟩
         rw[zu6,etk,List.filter_append,List.map_append]
         simp[hc]
       . refine hN _ ?_
         rw[etk,List.filter_append,List.map_append]
         simp[hc]
     . rintro H' rfl
       rw[List.length_map,List.take_length]
       have s2:Same H1 (upd H1 E (.lst ((ws.filter fun k=>decide (1<ws.count k)).map V.int))):=Same.upd hE
       have h2:(upd H1 E (.lst ((ws.filter fun k=>decide (1<ws.count k)).map V.int))) E=some (.lst ((ws.filter fun k=>decide (1<ws.count k)).map V.int)):=za5
       revert s2 h2
       generalize upd H1 E (.lst ((ws.filter fun k=>decide (1<ws.count k)).map V.int))=H2
       intro s2 h2
       refine⟨E,_,rfl,SqL.of h2,fun k hk=>hw5 k (List.mem_filter.mp hk).1,fun S ag fS hag up=>?_⟩
       have s3:∀ {o:HO},Same H2 (upd H2 S o):=Same.upd fS
       refine⟨S,ag,rfl,za5,fun l fl=>?_⟩
       refine q l _ ag (((s1.trans s2).trans s3).updT fl) ?_ za5 up fun k=>?_
       . exact((s1.trans s2).trans s3).free fl
       . rw[hag,List.mem_filter,decide_eq_true_eq]
end
section
variable {P:Program} {w:World} {K:W.Frag} {mg:Str->Option Value} {base:Heap} {t:Adr}
noncomputable def zU7 (v1 v2 v3 v4 v5 v6:V):List (Str×V):=putF "shut" v6 (putF "again" v5 (putF "layers" v4 (putF "row" v3 (putF "many" v2 (putF "reached" v1 [])))))
theorem wf_reached (v1 v2 v3 v4 v5 v6:V):(zU7 v1 v2 v3 v4 v5 v6).lookup ("reached" : Str)=some v1:=by
 unfold zU7
 rw[zb3,if_neg (by decide +kernel),zb3,if_neg (by decide +kernel),zb3,if_neg (by decide +kernel),zb3,if_neg (by decide +kernel),zb3,if_neg (by decide +kernel),zb3,if_pos rfl]
noncomputable def zC5 (K:W.Frag)(t:Adr):Sp:=fun vs H Q _=>∃(p dx:Addr) (v1 v2 v3 v4 v5 v6:V),vs=[.ref p,v1,v2,v3,v4,v5,v6]/\H p=some (.ins t.aY dx [])/\∀H',H' p=some (.ins t.aY dx (zU7 v1 v2 v3 v4 v5 v6))->ze5 p H H'->Q .non H'
theorem ok_Way_init (T:Txt K mg t):FnOk P w K mg base CX0 1 t.bv t.bO ["self","reached","many","row","layers","again","shut"] (zC5 K t):=by
 refine T.hH.ok sc_Way_init (fun vs H Q E h=>?_) (fun cdv A outer s H vs Q E hr h=>?_)
 . obtain⟨p,dx,v1,v2,v3,v4,v5,v6,rfl,hp,q⟩:=h
   rfl
 . obtain⟨p,dx,v1,v2,v3,v4,v5,v6,rfl,hp,q⟩:=h
   refine⟨_,(za4 (zk3 (pv 0) (pv 1) rfl)
     (za4 (zk3 (pv 0) (pv 2) rfl)
     (za4 (zk3 (pv 0) (pv 3) rfl)
     (za4 (zk3 (pv 0) (pv 4) rfl)
     (za4 (zk3 (pv 0) (pv 5) rfl)
     (za6 (zk3 (pv 0) (pv 6) rfl))))))),?_⟩
   refine cut6 ?_
   intro rr6 rr5 rr4 rr3 rr2
   refine⟨_,rfl,_,rfl,p,_,dx,_,rfl,hp,T.aA,T.aU,by decide,?_⟩
   refine⟨_,rfl,_,rfl,p,_,dx,_,rfl,za5,T.aA,T.hx,zl6 fl0,?_⟩
   refine⟨_,rfl,_,rfl,p,_,dx,_,rfl,za5,T.aA,T.hN,zl6 (flS fl0),?_⟩
   refine⟨_,rfl,_,rfl,p,_,dx,_,rfl,za5,T.aA,T.gO,zl6 (flS (flS fl0)),?_⟩
   refine⟨_,rfl,_,rfl,p,_,dx,_,rfl,za5,T.aA,T.hc,zl6 (flS (flS (flS fl0))),?_⟩
   refine⟨_,rfl,_,rfl,p,_,dx,_,rfl,za5,T.aA,T.hy,zl6 (flS (flS (flS (flS fl0)))),?_⟩
   refine q _ za5 fun b o e hb=>?_
   rw[za7 hb,za7 hb,za7 hb,za7 hb,za7 hb,za7 hb]
   exact e
noncomputable def zZ0 (t:Adr)(H:Hp)(a:Addr)(reached:Bool)(many:V)(row layers again shut:Addr):Prop:=∃dx,H a=some (.ins t.aY dx (zU7 (.bl reached) many (.ref row) (.ref layers) (.ref again) (.ref shut)))
noncomputable abbrev Lay (H:Hp)(as:List Addr)(Ls:List (List (List Int))):Prop:=Paired (fun a L=>∃ys,H a=some (.lst ys)/\Tups H ys L) as Ls
theorem Lay.keep {H H':Hp}(k:∀b o,H b=some o->H' b=some o){as:List Addr}{Ls:List (List (List Int))}(h:Lay H as Ls):Lay H' as Ls:=Paired.mapP h fun a L ⟨ys,h1,h2⟩=>⟨ys,k _ _ h1,Paired.mapP h2 fun y x ⟨b,e,hb⟩=>⟨b,e,k _ _ hb⟩⟩
structure zG8 (n r:Int)(hs:List Int)(lim:Int)(s:List Int)(Ls:List (List (List Int))):Prop where
 mem:∀j L,Ls[j]?=some L->∀x,x∈L↔Dst n r hs lim s j x
 srt:∀L∈Ls,L.Pairwise fun x y=>Sx.lexB x y=true
noncomputable def zX5 (t:Adr)(H:Hp)(a:Addr)(n r:Int)(hs:List Int)(lim:Int)(s g:List Int):Prop :=
 (∃d rw_ rs ms la as Ls ag ags sh,Dst n r hs lim s d g/\zZ0 t H a true (.int (d:Int)) rw_ la ag sh/\H rw_=some (.lst (rs.map V.ref))/\zj8 H s rs ms/\Goes n r hs lim s ms g/\ms.length=d/\H la=some (.lst (as.map V.ref))/\Lay H as Ls/\Ls.length=d+1/\zG8 n r hs lim s Ls ∧
   H ag=some (.lst (List.map V.int ags))/\ags.Pairwise (· < ·)/\(∀k,k∈ags↔k∈wsOf ms/\1<(wsOf ms).count k)/\H sh=some (.lst [])) ∨
 ((∀d,¬ Dst n r hs lim s d g)/\∃rw_ la as Ls ag sh zs S,zZ0 t H a false .non rw_ la ag sh/\H rw_=some (.lst [])/\H la=some (.lst (as.map V.ref))/\Lay H as Ls/\zG8 n r hs lim s Ls/\(∀d,d<Ls.length↔∃x,Dst n r hs lim s d x) ∧
   H ag=some (.lst [])/\H sh=some (.lst zs)/\Tups H zs S/\S.Pairwise (fun x y=>Sx.lexB x y=true)/\∀x,x∈S↔∃d,Dst n r hs lim s d x)
structure SI (n r:Int)(hs:List Int)(lim:Int)(s:List Int)(H:Hp)(la ld:Addr)(as:List Addr)(Ls:List (List (List Int)))(kv:List (List Int×V))(i:Nat):Prop where
 hla:H la=some (.lst (as.map V.ref))
 nla:la∉as
 lay:Lay H as Ls
 len:Ls.length=i+1
 lof:zG8 n r hs lim s Ls
 hd:H ld=some (.dT (dOf kv))
 nd:(kv.map (·.1)).Nodup
 key:∀x,x∈kv.map (·.1)↔∃j,j<=i/\Dst n r hs lim s j x
 led:∀e∈kv,zK3 n r hs lim s H e
theorem atI_neg1 {α:Type}{xs:List α}{x:α}:atI (xs++[x]) (-1)=some x:=by
 unfold atI ixN
 rw[List.length_append,List.length_singleton,if_neg (by omega),if_pos (by omega)]
 simp
 rw[show(-1+((xs.length:Int)+1)).toNat=xs.length by omega]
 simp
theorem Goes.lt {n r:Int}{hs:List Int}{lim:Int}{w:Nat}:∀ {x:List Int} {ms:List (Nat×Int)} {y:List Int},Goes n r hs lim x ms y->x.length=w->∀m∈ms,m.1<w
 | _,[],_,_,_,m,hm=>nomatch hm
 | x,m'::ms,y,h,hw,m,hm=>by
   rcases List.mem_cons.mp hm with rfl | hm
   . rw[<-hw];exact h.1.lt
   . exact Goes.lt h.2 (by rw[List.length_set];exact hw) m hm
noncomputable def zK5 (K:W.Frag)(t:Adr):Sp:=fun vs H Q _=>∃(b st go:Addr) (n r lim:Int) (hs s g:List Int),vs=[.ref b,.ref st,.ref go]/\ze0 t H b n r hs lim/\zg3 n r hs.length s/\H st=some (.tup (s.map V.int))/\H go=some (.tup (g.map V.int)) ∧
 ∀a H',Same H H'->zX5 t H' a n r hs lim s g->Q (.ref a) H'
theorem ok_search (T:Txt K mg t):FnOk P w K mg base CX0 8 t.bP t.bZ ["beam","start","goal"] (zK5 K t):=by
 have GaL:FnOk P w K mg base CX0 2 t.bQ t.b0 ["goal","led"] (zK4 K t):=ok_row_to T
 have GaM:FnOk P w K mg base CX0 1 t.bv t.bO ["self","reached","many","row","layers","again","shut"] (zC5 K t):=ok_Way_init T
 have GaN:FnOk P w K mg base CX0 7 t.bf t.bD ["beam","layer","led"] (zw2 K t):=ok_next_layer T
 have GaO:FnOk P w K mg base CX0 1 t.a8 t.bu ["row"] (zu5 K t):=ok_moved_again T
 refine T.ih.ok zq4 (fun vs H Q E h=>?_) (fun cdv A outer s H vs Q E hr h=>?_)
 . obtain⟨b,st,go,n,r,lim,hs,s,g,rfl,B,V0,hst,hgo,q⟩:=h
   rfl
 . obtain⟨b,st,go,n,r,lim,hs,s,g,rfl,B,V0,hst,hgo,q⟩:=h
   have haL:Room 2 _:=hr.mono (by decide)
   have haP:Room 2 _:=hr.mono (by decide)
   have haN:Room 7 _:=hr.mono (by decide)
   have haO:Room 1 _:=hr.mono (by decide)
   refine⟨_,(za4 (zc2 (i:=3) zq4.nd rfl (Or.inl rfl) (zo6 (za0 (zo6 (za0 (pv 1) za1)) za1)))
     (za4 (zc2 (i:=4) zq4.nd rfl (Or.inl rfl) (pe_disp1 (zE5 hr) (pv 1) zP9))
     (za4 (zM6 PassesOwn.never (zU8 (zJ1 (zE5 hr) (pv 2) (pv 4))) (za4 (zc2 (i:=5) zq4.nd rfl (Or.inl rfl) (zb0 GaN haN rfl T.g9 T.ha T.g8 .nil zb4 (za0 (pv 0) (za0 (zj7 zu9 (pv 3) (zB9 zs9 za8) (fun _ _=>rfl)) (za0 (pv 4) za1)))))
     (za4 (zd2 (zc7 zm1 (zb9 zc3 rfl T.al PySem.boot_len (za0 (pv 5) za1)) za8 (zd1 _)) (za6 (zc8 (zr5 T.hb GaM haP rfl T.hM T.dx .nil zb4 (za0 zM4 (za0 zP9 (za0 (zo6 za1) (za0 (pv 3) (za0 (zo6 za1) (za0 (zb9 (call_sortD rfl) rfl T.bN PyProof.Rows.boot_sorted (za0 (pv 4) za1)) za1))))))))) zb7)
     (za6 (zc6 (zE4 PySem.F.plainAttrs_list PySem.F.slot_list_append PySem.F.type_list_append zv0 (pv 3) (za0 (pv 5) za1)))))))
     (za4 (zc2 (i:=6) zq4.nd rfl (Or.inl rfl) (zb0 GaL haL rfl T.io T.ip T.im .nil zb4 (za0 (pv 2) (za0 (pv 4) za1))))
     (za6 (zc8 (zr5 T.hb GaM haP rfl T.hM T.dx .nil zb4 (za0 zM4 (za0 (zb9 zc3 rfl T.al PySem.boot_len (za0 (pv 6) za1)) (za0 (pv 6) (za0 (pv 3) (za0 (zb0 GaO haO rfl T.gM T.gN T.gL .nil zb4 (za0 (pv 6) za1)) (za0 (zo6 za1) za1))))))))))))),?_⟩
   refine cut5 ?_
   intro rr5 rr4 rr3 rr2
   refine⟨_,rfl,(by show 1<=sizeLine;decide),fun l0 f0=>⟨(by show 1<=sizeLine;decide),fun la fla=>?_⟩⟩
   have fla0:H la=none:=(Same.upd f0).free fla
   have nl0:l0≠la:=fun z=>by rw[<-z,za5] at fla;cases fla
   have s2:Same H (upd (upd H l0 (.lst [.ref st])) la (.lst [.ref l0])):=(Same.upd f0).updT fla
   have h0:(upd (upd H l0 (.lst [.ref st])) la (.lst [.ref l0])) l0=some (.lst [.ref st]):=by rw[za7 nl0];exact za5
   have hla0:(upd (upd H l0 (.lst [.ref st])) la (.lst [.ref l0])) la=some (.lst [.ref l0]):=za5
   dsimp only
   revert s2 h0 hla0
   generalize upd (upd H l0 (.lst [.ref st])) la (.lst [.ref l0])=H2
   intro s2 h0 hla0
   refine fun ld fld=>⟨_,rfl,za5,st,s,rfl,by rw[za7 (zb2 (s2 _ _ hst) fld)];exact s2 _ _ hst,?_⟩
   have fld0:H ld=none:=s2.free fld
   rw[zu6]
   have s3:Same H2 (upd H2 ld (.dT [(ik s,.non)])):=Same.upd fld
   have hd3:(upd H2 ld (.dT [(ik s,.non)])) ld=some (.dT (dOf [(s,.non)])):=za5
   revert s3 hd3
   generalize upd H2 ld (.dT [(ik s,.non)])=H3
   intro s3 hd3
   have okw:=B.1.w
   have I0:SI n r hs lim s H3 la ld [l0] [[s]] [(s,.non)] 0:=by
     refine⟨s3 _ _ hla0,by simpa using nl0.symm,.cons ⟨_,s3 _ _ h0,.cons ⟨st,rfl,s3 _ _ (s2 _ _ hst)⟩ .nil⟩ .nil,rfl,⟨fun j L e x=>?_,fun L hL=>?_⟩,hd3,by simp,fun x=>?_,fun e he=>?_⟩
     . match j,e with
       | 0,e =>
         obtain rfl:[s]=L:=Option.some.inj e
         rw[List.mem_singleton]
         exact⟨fun z=>z▸Dst.zero,fun z=>by obtain⟨w0,_⟩:=z;cases w0;rfl⟩
       | j+1,e=>simp at e
     . obtain rfl:L=[s]:=by simpa using hL
       exact List.pairwise_singleton _ _
     . constructor
       . intro hx
         obtain rfl:x=s:=by simpa using hx
         exact⟨0,Nat.le_refl _,Dst.zero⟩
       . rintro⟨j,hj,hx⟩
         obtain rfl:j=0:=by omega
         obtain⟨w0,_⟩:=hx
         cases w0
         simp
     . obtain rfl:e=(s,.non):=by simpa using he
       exact .inl ⟨rfl,rfl⟩
   have few_:∀ {H':Hp} {as:List Addr} {Ls:List (List (List Int))} {kv:List (List Int×V)} {i:Nat},SI n r hs lim s H' la ld as Ls kv i->kv.length<=1000:=fun {H' as Ls kv i} I=>by
     have:=few B.1 I.nd fun x hx=>by obtain⟨j,_,hj⟩:=(I.key x).mp hx;exact hj.1.valid V0
     rw[List.length_map] at this
     exact this
   refine zM8 (fun σ H'=>∃v5 as Ls kv i,σ=[some (.ref b),some (.ref st),some (.ref go),some (.ref la),some (.ref ld),v5,none]/\Same H H'/\SI n r hs lim s H' la ld as Ls kv i/\i<kv.length/\(∃x,Dst n r hs lim s i x)/\∀j,j<i->¬ Dst n r hs lim s j g)
     (fun σ H'=>match H' ld with | some (.dT k)=>1001-k.length | _=>0) ⟨none,_,_,_,0,rfl,s2.trans s3,I0,by show 0<1;decide,⟨s,Dst.zero⟩,fun j hj=>absurd hj (Nat.not_lt_zero _)⟩ ?_ ?_
   . rintro σ H4 ⟨v5,as,Ls,kv,i,rfl,s4,I4,hik,hne,hng⟩
     have hkl:=few_ I4
     refine⟨_,rfl,_,rfl,ld,_,rfl,dget I4.hd (s4 _ _ hgo),_,rfl,?_⟩
     rw[zX3 I4.nd]
     refine ite2 (fun h1=>?_) (fun h1=>?_)
     . have hgn:g∉kv.map (·.1):=fun z=>by rw[decide_eq_true z] at h1;cases h1
       obtain⟨as',al,rfl⟩:∃as' al,as=as'++[al]:=by
         have hl:=I4.lay
         have:as.length=Ls.length:=Paired.length hl
         have h0:as≠[]:=fun z=>by rw[z,I4.len] at this;cases this
         exact⟨as.dropLast,as.getLast h0,(List.dropLast_concat_getLast h0).symm⟩
       obtain⟨Ls',Ll,rfl⟩:∃Ls' Ll,Ls=Ls'++[Ll]:=by
         have h0:Ls≠[]:=fun z=>by have:=I4.len;rw[z] at this;cases this
         exact⟨Ls.dropLast,Ls.getLast h0,(List.dropLast_concat_getLast h0).symm⟩
       have hlen':Ls'.length=i:=by have:=I4.len;simpa using this
       obtain⟨ys,hal,htl⟩:∃ys,H4 al=some (.lst ys)/\Tups H4 ys Ll:=by
         have key:∀ {a1:List Addr} {l1:List (List (List Int))} {a:Addr} {l:List (List Int)},Lay H4 (a1++[a]) (l1++[l])->∃ys,H4 a=some (.lst ys)/\Tups H4 ys l:=by
           intro a1 l1 a l h
           have h':Paired (fun a L=>∃ys,H4 a=some (.lst ys)/\Tups H4 ys L) (a1++[a]) (l1++[l]):=h
           have hl:(a1++[a]).length=(l1++[l]).length:=Paired.length h'
           clear h
           induction a1 generalizing l1 with
           | nil =>
             cases l1 with
             | nil=>cases h' with | cons x _=>exact x
             | cons _ _=>simp at hl
           | cons _ a1 ih =>
             cases l1 with
             | nil=>simp at hl
             | cons _ l1=>cases h' with | cons _ t=>exact ih t (by simpa using hl)
         exact key I4.lay
       have hLl:∀x,x∈Ll↔Dst n r hs lim s i x:=I4.lof.mem i Ll (by rw[<-hlen'];simp)
       refine⟨_,rfl,_,rfl,_,rfl,la,_,_,_,rfl,rfl,SqL.of I4.hla,by rw[List.map_append];exact atI_neg1,_,rfl,b,al,ld,n,r,lim,hs,Ll,ys,kv,rfl,B.same s4,hal,htl,fun x hx=>((hLl x).mp hx).1.valid V0,I4.hd,I4.nd,fun x hx=>(by obtain⟨j,_,hj⟩:=(I4.key x).mp hx;exact hj.1.valid V0),fun l5 H5 zs G F sx5 fl5 hl5 ht5 hp5 hs5 hd5 nd5 hm5 hr5=>?_⟩
       have s5:Same H H5:=ze5.same s4 fld0 sx5
       have hF:∀y,y∈F.map (·.1)↔Dst n r hs lim s (i+1) y:=fun y=>by
         rw[hm5,dst_next,I4.key]
         constructor
         . rintro⟨h1,x,h2,h3⟩;exact⟨h1,x,(hLl x).mp h2,h3⟩
         . rintro⟨h1,x,h2,h3⟩;exact⟨h1,x,(hLl x).mpr h2,h3⟩
       have k5:∀ {c:Addr} {o:HO},H4 c=some o->(∀k,o≠.dT k)->H5 c=some o:=fun e ne=>sx5 _ _ e (fun z=>by rw[z,I4.hd] at e;injection e with e;exact ne _ e.symm)
       have hla5:H5 la=some (.lst ((as'++[al]).map V.ref)):=k5 I4.hla (fun k z=>nomatch z)
       have lay5:Lay H5 (as'++[al]) (Ls'++[Ll]):=Paired.mapP I4.lay fun a L ⟨ys,h1,h2⟩=>⟨ys,k5 h1 (fun k z=>nomatch z),Paired.mapP h2 fun y x ⟨b,e,hb⟩=>⟨b,e,k5 hb (fun k z=>nomatch z)⟩⟩
       have led5:∀e∈kv,zK3 n r hs lim s H5 e:=fun e he=>(I4.led e he).same fun b us hb=>k5 hb (fun k z=>nomatch z)
       have hfew5:(kv++F).length<=1000:=by
         have:=few B.1 nd5 fun x hx=>by
           rw[List.map_append] at hx
           rcases List.mem_append.mp hx with z | z
           . obtain⟨j,_,hj⟩:=(I4.key x).mp z;exact hj.1.valid V0
           . exact((hF x).mp z).1.valid V0
         rw[List.length_map] at this
         exact this
       have hGz:G.length=zs.length:=(zF7 ht5).symm
       have hGF:G.length=F.length:=by rw[hp5.length_eq,List.length_map]
       refine⟨_,rfl,l5,_,rfl,.inl (SqL.of hl5),rfl,_,rfl,?_⟩
       rw[zm3]
       refine ite2 (fun h2=>?_) (fun h2=>?_)
       . -- shut
         have hz0:zs.length=0:=by simpa using h2
         have hF0:F=[]:=List.eq_nil_of_length_eq_zero (by omega)
         subst hF0
         rw[List.append_nil] at hd5 nd5
         have none_:∀e,i<e->∀y,¬ Dst n r hs lim s e y:=dst_none fun y hy=>by have:=(hF y).mpr hy;simp at this
         have all_:∀x,x∈kv.map (·.1)↔∃d,Dst n r hs lim s d x:=fun x=>by
           rw[I4.key]
           exact⟨fun⟨j,_,h⟩=>⟨j,h⟩,fun⟨j,h⟩=>⟨j,Nat.not_lt.mp fun z=>none_ j z x h,h⟩⟩
         refine⟨Nat.zero_le _,fun lr flr=>⟨_,rfl,Nat.zero_le _,fun lg flg=>⟨_,rfl,?_⟩⟩⟩
         have s6:=((Same.refl H5).updT (o:=.lst []) flr).updT (o:=.lst []) flg
         have hlr:(upd (upd H5 lr (.lst [])) lg (.lst [])) lr=some (.lst []):=Same.upd flg _ _ za5
         have hlg:(upd (upd H5 lr (.lst [])) lg (.lst [])) lg=some (.lst []):=za5
         revert s6 hlr hlg
         generalize upd (upd H5 lr (.lst [])) lg (.lst [])=H6
         intro s6 hlr hlg
         refine⟨ld,_,_,rfl,s6 _ _ hd5,dOf_keys kv,nd5,fun h2' k hk=>?_,fun ls zs' S fls ht hp hso=>?_⟩
         . intro z
           rw[List.length_map] at h2'
           obtain⟨j,_,hj⟩:=(I4.key k).mp hk
           have hw0:hs.length=0:=by have:=(hj.1.valid V0).len;rw[z] at this;exact this.symm
           have one:∀e∈kv.map (·.1),e=[]:=fun e he=>by
             obtain⟨j',_,hj'⟩:=(I4.key e).mp he
             exact List.eq_nil_of_length_eq_zero ((hj'.1.valid V0).len.trans hw0)
           have lk:(kv.map (·.1)).length=kv.length:=List.length_map _
           have nd':=nd5
           generalize kv.map (·.1)=ks at nd' one lk
           match ks,nd',one with
           | [],_,_=>simp at lk;omega
           | [_],_,_=>simp at lk;omega
           | x1::x2::_,nd',one' =>
             have e1:=one' x1 (.head _)
             have e2:=one' x2 (.tail _ (.head _))
             rw[e1,e2] at nd'
             simp at nd'
         . have s7:Same H6 (upd H6 ls (.lst zs')):=Same.upd fls
           have hls:(upd H6 ls (.lst zs')) ls=some (.lst zs'):=za5
           have ht7:=s7.tups ht
           revert s7 hls ht7
           generalize upd H6 ls (.lst zs')=H7
           intro s7 hls ht7
           refine fun a dx fa fdx ndx=>?_
           have s8:Same H7 (upd (upd H7 dx (.own a)) a (.ins t.aY dx [])):=(Same.upd fdx).updT (by rw[za7 (Ne.symm ndx)];exact fa)
           refine⟨a,dx,_,_,_,_,_,_,rfl,za5,fun H9 h9 s9=>⟨rfl,?_⟩⟩
           have s79:Same H7 H9:=ze5.same s8 fa s9
           have s59:=(s6.trans s7).trans s79
           refine q a H9 (s5.trans s59) (.inr ⟨fun d hd=>hgn ((all_ g).mpr ⟨d,hd⟩),lr,la,_,_,lg,ls,zs',S,⟨dx,h9⟩,s79 _ _ (s7 _ _ hlr),s59 _ _ hla5,lay5.keep s59,I4.lof,fun d=>?_,s79 _ _ (s7 _ _ hlg),s79 _ _ hls,s79.tups ht7,hso,fun x=>?_⟩)
           . rw[I4.len]
             exact⟨fun hd=>let⟨x,hx⟩:=hne;hx.below d (Nat.le_of_lt_succ hd),fun⟨x,hd⟩=>Nat.lt_succ_of_le (Nat.not_lt.mp fun z=>none_ d z x hd)⟩
           . rw[hp.mem_iff,all_]
       . -- one layer more
         have hz0:zs.length≠0:=by simpa using h2
         have hne1:∃x,Dst n r hs lim s (i+1) x:=by
           cases F with
           | nil=>exact absurd (hGz.symm.trans hGF) hz0
           | cons e F=>exact⟨e.1,(hF e.1).mp (by simp)⟩
         refine⟨_,rfl,.inl ⟨rfl,_,SqL.of hla5⟩,_,rfl,la,_,_,rfl,rfl,hla5,zg6 (by rw[List.length_map,show(as'++[al]).length=i+1 from(Paired.length lay5).trans I4.len];omega),?_⟩
         have nl5:l5≠la:=fun z=>by rw[z,I4.hla] at fl5;cases fl5
         have k6:∀ {c:Addr} {o:HO},H5 c=some o->c≠la->(upd H5 la (.lst ((as'++[al]).map V.ref++[.ref l5]))) c=some o:=fun e ne=>by rw[za7 ne];exact e
         have tk6:∀ {c:Addr} {us:List V},H5 c=some (.tup us)->(upd H5 la (.lst ((as'++[al]).map V.ref++[.ref l5]))) c=some (.tup us):=fun e=>k6 e (fun z=>by rw[z,hla5] at e;cases e)
         have lay6:Lay (upd H5 la (.lst ((as'++[al]).map V.ref++[.ref l5]))) (as'++[al]) (Ls'++[Ll]):=by
           have key:∀ {a1:List Addr} {l1:List (List (List Int))},Lay H5 a1 l1->la∉a1->Lay (upd H5 la (.lst ((as'++[al]).map V.ref++[.ref l5]))) a1 l1:=by
             intro a1 l1 h
             have h':Paired (fun a L=>∃ys,H5 a=some (.lst ys)/\Tups H5 ys L) a1 l1:=h
             clear h
             induction h' with
             | nil=>intro _;exact .nil
             | cons x t ih =>
               intro hn
               rw[List.mem_cons,not_or] at hn
               obtain⟨ys,e1,e2⟩:=x
               exact .cons ⟨ys,k6 e1 (Ne.symm hn.1),Paired.mapP e2 fun y x ⟨b,e,hb⟩=>⟨b,e,tk6 hb⟩⟩ (ih hn.2)
           exact key lay5 I4.nla
         refine⟨⟨_,as'++[al]++[l5],Ls'++[Ll]++[G],kv++F,i+1,rfl,s5.put fla0,⟨?_,?_,?_,?_,⟨?_,?_⟩,?_,nd5,?_,?_⟩,by rw[List.length_append];omega,hne1,fun j hj hy=>hgn ((I4.key g).mpr ⟨j,by omega,hy⟩)⟩,?_⟩
         . rw[za5,List.map_append (l₁:=as'++[al])];rfl
         . rw[List.mem_append,not_or]
           exact⟨I4.nla,by simpa using nl5.symm⟩
         . exact Paired.snoc lay6 ⟨zs,k6 hl5 nl5,Paired.mapP ht5 fun y x ⟨b,e,hb⟩=>⟨b,e,tk6 hb⟩⟩
         . rw[List.length_append,I4.len];rfl
         . intro j L e x
           by_cases hj:j<(Ls'++[Ll]).length
           . rw[List.getElem?_append_left hj] at e
             exact I4.lof.mem j L e x
           . rw[List.getElem?_append_right (by omega)] at e
             have hj0:j-(Ls'++[Ll]).length=0:=by
               rcases Nat.eq_zero_or_pos (j-(Ls'++[Ll]).length) with z | z
               . exact z
               . rw[List.getElem?_eq_none (by rw[List.length_singleton];omega)] at e;cases e
             rw[hj0] at e
             obtain rfl:G=L:=Option.some.inj e
             have:j=i+1:=by have:=I4.len;omega
             rw[this,hp5.mem_iff,hF]
         . intro L hL
           rcases List.mem_append.mp hL with z | z
           . exact I4.lof.srt L z
           . obtain rfl:L=G:=by simpa using z
             exact hs5
         . rw[za7 (fun z=>by rw[z,hla5] at hd5;cases hd5)];exact hd5
         . intro x
           rw[List.map_append,List.mem_append,I4.key,hF]
           constructor
           . rintro(⟨j,hj,h⟩ | h)
             . exact⟨j,by omega,h⟩
             . exact⟨i+1,Nat.le_refl _,h⟩
           . rintro⟨j,hj,h⟩
             rcases Nat.lt_or_ge i j with z | z
             . obtain rfl:j=i+1:=by omega
               exact .inr h
             . exact .inl ⟨j,z,h⟩
         . intro e he
           rcases List.mem_append.mp he with z | z
           . exact(led5 e z).same fun b us hb=>tk6 hb
           . obtain⟨x,hx,m,i',p',e1,e2,e3,e4⟩:=hr5 e z
             exact .inr ⟨x,i,m,i',p',e1,tk6 e2,e3,e4,(hLl x).mp hx,(hF e.1).mp (List.mem_map.mpr ⟨e,z,rfl⟩)⟩
         . rw[za7 (fun z=>by rw[z,hla5] at hd5;cases hd5),hd5,I4.hd]
           simp only[List.length_map,List.length_append]
           omega
     . -- the goal is come to
       have hgk:g∈kv.map (·.1):=Classical.byContradiction fun z=>h1 (by rw[decide_eq_false z];rfl)
       obtain⟨d,hdi,hgd⟩:=(I4.key g).mp hgk
       refine⟨_,rfl,_,rfl,go,ld,n,r,lim,hs,s,g,d,kv,rfl,s4 _ _ hgo,I4.hd,I4.nd,I4.led,hgd,fun j y hj hy=>(I4.key y).mpr ⟨j,by omega,hy⟩,V0,okw,by omega,fun lr H5 rs ms s5 flr hlr R5 G5 hms=>?_⟩
       have hlr':=R5.len
       have hm5:∀m∈ms,m.1<5:=fun m hm=>Nat.lt_of_lt_of_le (G5.lt V0.len m hm) okw
       refine⟨_,rfl,lr,_,rfl,.inl (SqL.of hlr),?_⟩
       rw[List.length_map,hlr',hms]
       refine⟨_,rfl,_,rfl,_,rfl,lr,s,rs,ms,rfl,hlr,R5,hm5,by omega,fun lg H6 ag s6 flg hlg up6 hag=>?_⟩
       refine⟨Nat.zero_le _,fun ls fls=>?_⟩
       have s7:Same H6 (upd H6 ls (.lst [])):=Same.upd fls
       have hls:(upd H6 ls (.lst [])) ls=some (.lst []):=za5
       dsimp only
       revert s7 hls
       generalize upd H6 ls (.lst [])=H7
       intro s7 hls
       refine fun a dx fa fdx ndx=>?_
       have s8:Same H7 (upd (upd H7 dx (.own a)) a (.ins t.aY dx [])):=(Same.upd fdx).updT (by rw[za7 (Ne.symm ndx)];exact fa)
       refine⟨a,dx,_,_,_,_,_,_,rfl,za5,fun H9 h9 s9=>⟨rfl,?_⟩⟩
       have s79:Same H7 H9:=ze5.same s8 fa s9
       have s69:=s7.trans s79
       have s59:=s6.trans s69
       have s49:=s5.trans s59
       have hdi':d=i:=by
         rcases Nat.lt_or_ge d i with z | z
         . exact absurd hgd (hng d z)
         . omega
       refine q a H9 (s4.trans s49) (.inl ⟨d,lr,rs,ms,la,as,Ls,lg,ag,ls,hgd,⟨dx,h9⟩,s59 _ _ hlr,R5.same s59,G5,hms,s49 _ _ I4.hla,I4.lay.keep s49,by rw[hdi'];exact I4.len,I4.lof,s69 _ _ hlg,up6,hag,s79 _ _ hls⟩)
   . rintro σ H' Q1 Q2 hQ ⟨_,e1,_,e2,a1,v1,e3,e4,k,e6,e7⟩
     exact⟨_,e1,_,e2,a1,v1,e3,e4,k,e6,hQ _ _ e7⟩
noncomputable def zK6 (K:W.Frag)(t:Adr):Sp:=fun vs H Q _=>∃(b a1 a2:Addr) (n r lim:Int) (hs s g:List Int),vs=[.ref b,.ref a1,.ref a2]/\ze0 t H b n r hs lim/\zg3 n r hs.length s/\zg3 n r hs.length g/\(SqL K H a1 (s.map V.int)\/H a1=some (.tup (s.map V.int)))/\(SqL K H a2 (g.map V.int)\/H a2=some (.tup (g.map V.int))) ∧
 absI (zg5 hs s)<=lim/\absI (zg5 hs g)<=lim/\∀a H',Same H H'->zX5 t H' a n r hs lim s g->Q (.ref a) H'
theorem ok_fewest (T:Txt K mg t):FnOk P w K mg base CX0 9 t.aV t.ba ["beam","start","goal"] (zK6 K t):=by
 have Gaf:FnOk P w K mg base CX0 2 t.au t.av ["beam","standing"] (zf3 K t):=zf8 T
 have GaQ:FnOk P w K mg base CX0 8 t.bP t.bZ ["beam","start","goal"] (zK5 K t):=ok_search T
 have GaR:FnOk P w K mg base CX0 4 t.bj t.bx ["beam","standing"] (zu2 K t):=zz6 T
 refine T.bj.ok zj6 (fun vs H Q E h=>?_) (fun cdv A outer s H vs Q E hr h=>?_)
 . obtain⟨b,a1,a2,n,r,lim,hs,s,g,rfl,B,V1,V2,h1,h2,k1,k2,q⟩:=h
   rfl
 . obtain⟨b,a1,a2,n,r,lim,hs,s,g,rfl,B,V1,V2,h1,h2,k1,k2,q⟩:=h
   have haf:Room 2 _:=hr.mono (by decide)
   have haQ:Room 8 _:=hr.mono (by decide)
   have haR:Room 4 _:=hr.mono (by decide)
   refine⟨_,(za4 (zc2 (i:=3) zj6.nd rfl (Or.inl rfl) (zb0 Gaf haf rfl T.ag T.ah T.af .nil zb4 (za0 (pv 0) (za0 (pv 1) za1))))
     (za4 (zc2 (i:=4) zj6.nd rfl (Or.inl rfl) (zb0 Gaf haf rfl T.ag T.ah T.af .nil zb4 (za0 (pv 0) (za0 (pv 2) za1))))
     (za4 (zd2 (zo5 (zg8 (zb0 GaR haR rfl T.ay T.az T.ax .nil zb4 (za0 (pv 0) (za0 (pv 3) za1))))) (za6 zh6) zb7)
     (za4 (zd2 (zo5 (zg8 (zb0 GaR haR rfl T.ay T.az T.ax .nil zb4 (za0 (pv 0) (za0 (pv 4) za1))))) (za6 zh6) zb7)
     (za6 (zc8 (zb0 GaQ haQ rfl T.ij T.ik T.ii .nil zb4 (za0 (pv 0) (za0 (pv 3) (za0 (pv 4) za1)))))))))),?_⟩
   refine cut5 ?_
   intro rr5 rr4 rr3 rr2
   refine⟨_,rfl,_,rfl,b,a1,n,r,lim,hs,s,rfl,B,V1,h1,fun l1 H1 s1 e1=>?_⟩
   refine⟨_,rfl,_,rfl,b,a2,n,r,lim,hs,g,rfl,B.same s1,V2,h2.imp s1.seq (fun e=>s1 _ _ e),fun l2 H2 s2 e2=>?_⟩
   refine⟨_,rfl,_,rfl,b,l1,n,r,lim,hs,s,rfl,(B.same s1).same s2,V1,.inr (s2 _ _ e1),fun H3 s3=>⟨_,rfl,?_⟩⟩
   refine iteB (by rw[decide_eq_true k1];rfl) ?_
   refine⟨_,rfl,_,rfl,b,l2,n,r,lim,hs,g,rfl,((B.same s1).same s2).same s3,V2,.inr (s3 _ _ e2),fun H4 s4=>⟨_,rfl,?_⟩⟩
   refine iteB (by rw[decide_eq_true k2];rfl) ?_
   have s24:=s3.trans s4
   exact⟨_,rfl,_,rfl,_,rfl,b,l1,l2,n,r,lim,hs,s,g,rfl,((B.same s1).same s2).same s24,V1,s24 _ _ (s2 _ _ e1),s24 _ _ e2,fun a H5 s5 R=>q a H5 (s1.trans (s2.trans (s24.trans s5))) R⟩
end
section
variable {P:Program} {w:World} {K:W.Frag} {mg:Str->Option Value} {base:Heap} {t:Adr}
noncomputable def zj9 (b s x m:Addr):List (Str×V):=[("beam",.ref b),("start",.ref s),("standing",.ref x),("made",.ref m)]
theorem zX6:¬ ("beam" : Str) = "start":=by decide +kernel
theorem zQ4:¬ ("beam" : Str) = "standing":=by decide +kernel
theorem zX7:¬ ("start" : Str) = "standing":=by decide +kernel
theorem zX8:¬ ("beam" : Str) = "made":=by decide +kernel
theorem pf_ne5:¬ ("start" : Str) = "made":=by decide +kernel
theorem zX9:¬ ("standing" : Str) = "made":=by decide +kernel
theorem pfN {f:Str}{v:V}:putF f v []=[(f,v)]:=rfl
theorem pfC {f g:Str}{v x:V}{l:List (Str×V)}(h:¬ g=f):putF f v ((g,x)::l)=(g,x)::putF f v l:=if_neg h
theorem pfE {f:Str}{v x:V}{l:List (Str×V)}:putF f v ((f,x)::l)=(f,v)::l:=if_pos rfl
theorem zP7 (b s x m:Addr):putF "made" (.ref m) (putF "standing" (.ref x) (putF "start" (.ref s) (putF "beam" (.ref b) [])))=zj9 b s x m:=by
 rw[pfN,pfC zX6,pfN,pfC zQ4,pfC zX7,pfN,pfC zX8,pfC pf_ne5,pfC zX9,pfN]
 rfl
theorem pf_set (b s x x' m:Addr):putF "standing" (.ref x') (zj9 b s x m)=zj9 b s x' m:=by
 unfold zj9
 rw[pfC zQ4,pfC zX7,pfE]
theorem pf_beam (b s x m:Addr):(zj9 b s x m).lookup ("beam" : Str)=some (.ref b):=by rw[<-zP7,zb3,if_neg zX8,zb3,if_neg zQ4,zb3,if_neg zX6,zb3,if_pos rfl]
theorem zC6 (b s x m:Addr):(zj9 b s x m).lookup ("standing" : Str)=some (.ref x):=by rw[<-zP7,zb3,if_neg zX9,zb3,if_pos rfl]
theorem zD8 (b s x m:Addr):(zj9 b s x m).lookup ("made" : Str)=some (.ref m):=by rw[<-zP7,zb3,if_pos rfl]
theorem zZ1 (b s x m:Addr) (f:Str) (h1:¬ f = "made") (h2:¬ f = "standing") (h3:¬ f = "start") (h4:¬ f = "beam"):(zj9 b s x m).lookup f=none:=by rw[<-zP7,zb3,if_neg h1,zb3,if_neg h2,zb3,if_neg h3,zb3,if_neg h4];rfl
theorem zM2 (b s x m:Addr):(zj9 b s x m).lookup ("move" : Str)=none:=zZ1 _ _ _ _ _ (by decide +kernel) (by decide +kernel) (by decide +kernel) (by decide +kernel)
theorem pf_back (b s x m:Addr):(zj9 b s x m).lookup ("back" : Str)=none:=zZ1 _ _ _ _ _ (by decide +kernel) (by decide +kernel) (by decide +kernel) (by decide +kernel)
theorem pf_len (b s x m:Addr):(zj9 b s x m).length<1000:=by show 4<1000;decide
noncomputable def zk0 (p m:Addr)(H H':Hp):Prop:=∀b o,H b=some o->b≠p->b≠m->H' b=some o
theorem zk0.tup {p m:Addr}{H H':Hp}(s:zk0 p m H H')(hp:∃C dx fs,H p=some (.ins C dx fs))(hm:∃ys,H m=some (.lst ys)){a:Addr}{vs:List V}(h:H a=some (.tup vs)):H' a=some (.tup vs) :=
 s a _ h (fun z=>by obtain⟨C,dx,fs,e⟩:=hp;rw[z,e] at h;cases h) (fun z=>by obtain⟨ys,e⟩:=hm;rw[z,e] at h;cases h)
theorem zk0.tups {p m:Addr}{H H':Hp}(s:zk0 p m H H')(hp:∃C dx fs,H p=some (.ins C dx fs))(hm:∃ys,H m=some (.lst ys)){ys:List V}{ks:List (List Int)}(h:Tups H ys ks):Tups H' ys ks:=Paired.mapP h fun y k ⟨b,e,hb⟩=>⟨b,e,s.tup hp hm hb⟩
structure zk5 (t:Adr)(H:Hp)(p b s x m:Addr)(n r:Int)(hs:List Int)(lim:Int)(a c:List Int)(ys:List V)(ms:List (List Int)):Prop where
 bm:ze0 t H b n r hs lim
 nb:b≠p
 hp:∃dx,H p=some (.ins t.ar dx (zj9 b s x m))
 hs:H s=some (.tup (a.map V.int))
 hx:H x=some (.tup (c.map V.int))
 hm:H m=some (.lst ys)
 tm:Tups H ys ms
theorem ze0.same2 {t:Adr}{H H':Hp}{b p m:Addr}{n r lim:Int}{hs:List Int}(B:ze0 t H b n r hs lim)(s:zk0 p m H H')(nb:b≠p)(hp:∃C dx fs,H p=some (.ins C dx fs))(hm:∃ys,H m=some (.lst ys)):ze0 t H' b n r hs lim:=by
 obtain⟨ok,dx,h,hb,hh⟩:=B
 exact⟨ok,dx,h,s b _ hb nb (fun z=>by obtain⟨ys,e⟩:=hm;rw[z,e] at hb;cases hb),s.tup hp hm hh⟩
theorem zk5.same {t:Adr}{H H':Hp}{p b s x m:Addr}{n r lim:Int}{hs a c:List Int}{ys:List V}{ms:List (List Int)}(h:zk5 t H p b s x m n r hs lim a c ys ms)(e:Same H H'):zk5 t H' p b s x m n r hs lim a c ys ms :=
 ⟨h.bm.same e,h.nb,let⟨dx,z⟩:=h.hp;⟨dx,e _ _ z⟩,e _ _ h.hs,e _ _ h.hx,e _ _ h.hm,e.tups h.tm⟩
theorem zk5.ip {t:Adr}{H:Hp}{p b s x m:Addr}{n r lim:Int}{hs a c:List Int}{ys:List V}{ms:List (List Int)}(h:zk5 t H p b s x m n r hs lim a c ys ms):∃C dx fs,H p=some (.ins C dx fs):=let⟨dx,z⟩:=h.hp;⟨_,dx,_,z⟩
theorem Same.two {H H':Hp}(s:Same H H')(p m:Addr):zk0 p m H H':=fun b o e _ _=>s b o e
theorem zk0.trans {p m:Addr}{H H1 H2:Hp}(s:zk0 p m H H1)(s':zk0 p m H1 H2):zk0 p m H H2:=fun b o e h1 h2=>s' b o (s b o e h1 h2) h1 h2
theorem zk0.updP {p m:Addr}{H H1:Hp}{o:HO}(s:zk0 p m H H1):zk0 p m H (upd H1 p o):=fun b u e h1 h2=>by rw[za7 h1];exact s b u e h1 h2
theorem zk0.updM {p m:Addr}{H H1:Hp}{o:HO}(s:zk0 p m H H1):zk0 p m H (upd H1 m o):=fun b u e h1 h2=>by rw[za7 h2];exact s b u e h1 h2
noncomputable def zr9 (K:W.Frag)(t:Adr):Sp:=fun vs H Q _=>∃(p b a dx:Addr) (n r lim:Int) (hs xs:List Int),vs=[.ref p,.ref b,.ref a]/\H p=some (.ins t.ar dx [])/\b≠p/\ze0 t H b n r hs lim/\zg3 n r hs.length xs/\(SqL K H a (xs.map V.int)\/H a=some (.tup (xs.map V.int)))/\absI (zg5 hs xs)<=lim ∧
 ∀H' s m,ze5 p H H'->H m=none->zk5 t H' p b s s m n r hs lim xs xs [] []->Q .non H'
theorem zA0 (T:Txt K mg t):FnOk P w K mg base CX0 5 t.a4 t.bn ["self","beam","start"] (zr9 K t):=by
 have Gaf:FnOk P w K mg base CX0 2 t.au t.av ["beam","standing"] (zf3 K t):=zf8 T
 have GaR:FnOk P w K mg base CX0 4 t.bj t.bx ["beam","standing"] (zu2 K t):=zz6 T
 refine T.hq.ok zz1 (fun vs H Q E h=>?_) (fun cdv A outer s H vs Q E hr h=>?_)
 . obtain⟨p,b,a,dx,n,r,lim,hs,xs,rfl,hp,nb,B,V0,hS,k0,q⟩:=h
   rfl
 . obtain⟨p,b,a,dx,n,r,lim,hs,xs,rfl,hp,nb,B,V0,hS,k0,q⟩:=h
   have haf:Room 2 _:=hr.mono (by decide)
   have haR:Room 4 _:=hr.mono (by decide)
   refine⟨_,(za4 (zc2 (i:=3) zz1.nd rfl (Or.inl rfl) (zb0 Gaf haf rfl T.ag T.ah T.af .nil zb4 (za0 (pv 1) (za0 (pv 2) za1))))
     (za4 (zd2 (zo5 (zg8 (zb0 GaR haR rfl T.ay T.az T.ax .nil zb4 (za0 (pv 1) (za0 (pv 3) za1))))) zh0 zb7)
     (za4 (zk3 (pv 0) (pv 1) rfl)
     (za4 (zk3 (pv 0) (pv 3) rfl)
     (za4 (zk3 (pv 0) (pv 3) rfl)
     (za6 (zk3 (pv 0) (zo6 za1) rfl))))))),?_⟩
   refine cut6 ?_
   intro rr6 rr5 rr4 rr3 rr2
   refine⟨_,rfl,_,rfl,b,a,n,r,lim,hs,xs,rfl,B,V0,hS,fun l H1 s1 hl=>?_⟩
   refine⟨_,rfl,_,rfl,b,l,n,r,lim,hs,xs,rfl,B.same s1,V0,.inr hl,fun H2 s2=>⟨_,rfl,?_⟩⟩
   rw[decide_eq_true k0]
   refine iteF ?_
   have s02:=s1.trans s2
   have hl2:=s2 _ _ hl
   have nl:l≠p:=fun z=>by rw[z,s02 _ _ hp] at hl2;cases hl2
   refine⟨_,rfl,_,rfl,p,_,dx,_,rfl,s02 _ _ hp,T.ak,T.bq,by decide,?_⟩
   refine⟨_,rfl,_,rfl,p,_,dx,_,rfl,za5,T.ak,T.gP,zl6 fl0,?_⟩
   refine⟨_,rfl,_,rfl,p,_,dx,_,rfl,za5,T.ak,T.ap,zl6 (flS fl0),?_⟩
   rw[zu6,zu6]
   refine⟨Nat.zero_le _,fun m fm=>?_⟩
   have nm:m≠p:=fun z=>by rw[z,za5] at fm;cases fm
   refine⟨_,rfl,p,_,dx,_,rfl,by rw[za7 nm.symm];exact za5,T.ak,T.aq,zl6 (flS (flS fl0)),?_⟩
   rw[zP7]
   rw[za7 nm] at fm
   have s3:ze5 p H (upd (upd (upd H2 p (.ins t.ar dx (putF "standing" (.ref l) (putF "start" (.ref l) (putF "beam" (.ref b) []))))) m (.lst [])) p (.ins t.ar dx (zj9 b l l m))):=fun c o e hc=>by
     rw[za7 hc,za7 (zb2 (s02 _ _ e) fm),za7 hc]
     exact s02 _ _ e
   have hl3:(upd (upd (upd H2 p (.ins t.ar dx (putF "standing" (.ref l) (putF "start" (.ref l) (putF "beam" (.ref b) []))))) m (.lst [])) p (.ins t.ar dx (zj9 b l l m))) l=some (.tup (xs.map V.int)):=by
     rw[za7 nl,za7 (zb2 hl2 fm),za7 nl]
     exact hl2
   refine q _ l m s3 (s02.free fm) ⟨?_,nb,⟨dx,za5⟩,hl3,hl3,by rw[za7 nm];exact za5,.nil⟩
   obtain⟨ok,dx',h,hb,hh⟩:=B
   exact⟨ok,dx',h,s3 _ _ hb nb,s3 _ _ hh (fun z=>by rw[z,hp] at hh;cases hh)⟩
noncomputable def zr0 (K:W.Frag) (t:Adr):Sp:=fun vs H Q E=>∃r l:Int,vs=[.int 0,.int r,.int l]/\∀od H',Told H H' od "bad beam"->E (.ref t.ak) od H'
theorem ok_check_boundsB (T:Txt K mg t):FnOk P w K mg base (CXD P w) 4 t.aC t.aM ["notches","room","limit"] (zr0 K t):=by
 have Gaa:FnOk P w K mg base CX0 1 t.aB t.aH ["number","low","high"] (zj1 K t):=zk4 T
 have GaS:FnOk P w K mg base CX0 2 t.aL t.bi ["self","reason"] (zs5 K t):=ok_BadBeam_init T
 refine T.aQ.d.okD (CX:=CX0) zs0 (fun vs H Q E h=>?_) (fun cdv A outer s H vs Q E hr h=>?_)
 . obtain⟨r,l,rfl,qe⟩:=h
   rfl
 . obtain⟨r,l,rfl,qe⟩:=h
   have haa:Room 1 _:=hr.mono (by decide)
   have haT:Room 3 _:=hr.mono (by decide)
   refine⟨_,(za4 (zd2 (zg8 (zb0 Gaa haa rfl T.an T.ao T.am .nil zb4 (za0 (pv 0) (za0 za8 (za0 (ze8 (v:=.int 4) rfl T.aW ⟨_,rfl⟩) za1))))) (za6 (zf4 zd9 rfl T.eY T.h9 T.hQ GaS haT rfl T.eV T.gl .nil zb4 (za0 ze1 za1))) zb7)
     zh0),?_⟩
   refine⟨_,rfl,_,_,_,rfl,_,rfl,iteA rfl ?_⟩
   exact⟨(by show 1<=sizeLine;decide),fun x fx=>⟨x,_,rfl,za5,fun H' dx hx hd sx=>⟨rfl,some dx,hx,qe _ _ (zi3 (Same.refl _) fx hx hd sx)⟩⟩⟩
noncomputable def zw3 (K:W.Frag) (t:Adr):Sp:=fun vs H Q E=>∃(p a:Addr) (r l:Int),vs=[.ref p,.int 0,.int r,.ref a,.int l]/\∀od H',Told H H' od "bad beam"->E (.ref t.ak) od H'
theorem ok_BeamB_init (T:Txt K mg t):FnOk P w K mg base (CXD P w) 5 t.aP t.a2 ["self","notches","room","hefts","limit"] (zw3 K t):=by
 have GaU:FnOk P w K mg base (CXD P w) 4 t.aC t.aM ["notches","room","limit"] (zr0 K t):=ok_check_boundsB T
 refine T.cd.d.okD (CX:=CX0) zy9 (fun vs H Q E h=>?_) (fun cdv A outer s H vs Q E hr h=>?_)
 . obtain⟨p,a,r,l,rfl,qe⟩:=h
   rfl
 . obtain⟨p,a,r,l,rfl,qe⟩:=h
   have haU:Room 4 _:=hr.mono (by decide)
   refine⟨_,(za4 (zc6 (zb0 GaU haU rfl T.aS T.aT T.aR .nil zc5 (za0 (pv 1) (za0 (pv 2) (za0 (pv 4) za1)))))
     zh0),?_⟩
   exact⟨_,rfl,_,rfl,_,rfl,r,l,rfl,qe⟩
noncomputable def zs7 (K:W.Frag) (t:Adr):Sp:=fun vs H Q E=>∃(b a:Addr) (n r lim:Int) (hs xs:List Int),vs=[.ref b,.ref a]/\ze0 t H b n r hs lim/\SqL K H a (xs.map V.int)/\xs.length≠hs.length/\∀od H',Told H H' od "bad standing"->E (.ref t.aa) od H'
theorem ok_as_standingB (T:Txt K mg t):FnOk P w K mg base (CXD P w) 4 t.au t.av ["beam","standing"] (zs7 K t):=by
 have GaV:FnOk P w K mg base CX0 2 t.ay t.aU ["self","reason"] (zm7 K t):=ok_BadStanding_init T
 refine T.aX.d.okD (CX:=CX0) zi9 (fun vs H Q E h=>?_) (fun cdv A outer s H vs Q E hr h=>?_)
 . obtain⟨b,a,n,r,lim,hs,xs,rfl,B,hS,hne,qe⟩:=h
   rfl
 . obtain⟨b,a,n,r,lim,hs,xs,rfl,B,hS,hne,qe⟩:=h
   have haW:Room 3 _:=hr.mono (by decide)
   refine⟨_,(za4 (zc2 (i:=2) zi9.nd rfl (Or.inl rfl) (zp7 zl9 rfl T.aV PyProof.Rows.boot_tuple (za0 (pv 1) za1)))
     (za4 (zd2 (zc7 zx2 (zb9 zc3 rfl T.al PySem.boot_len (za0 (pv 2) za1)) (zb9 zc3 rfl T.al PySem.boot_len (za0 (zg9 (pv 0) rfl) za1)) (zd1 _)) (za6 (zf4 zd9 rfl T.a1 T.gU T.gv GaV haW rfl T.aZ T.eL .nil zb4 (za0 ze1 za1))) zb7)
     zh0)),?_⟩
   refine cut3 ?_
   intro rr3 rr2
   refine⟨_,rfl,a,xs.map V.int,rfl,.inl ⟨hS,fun l hl=>?_⟩⟩
   have s1:Same H (upd H l (.tup (xs.map V.int))):=Same.upd hl
   have hT:(upd H l (.tup (xs.map V.int))) l=some (.tup (xs.map V.int)):=za5
   revert s1 hT
   generalize upd H l (.tup (xs.map V.int))=H1
   intro s1 hT
   obtain⟨ok,dx,h,hb,hh⟩:=B.same s1
   refine⟨_,rfl,_,_,rfl,.inr (SqT.of hT),_,rfl,b,_,dx,_,_,rfl,hb,T.ac,T.aj,zr8 _ _ _ _,h,_,rfl,.inr (SqT.of hh),rfl,_,rfl,?_⟩
   rw[List.length_map,List.length_map,zm3]
   refine iteA (by simpa using fun z=>hne (by omega)) ?_
   exact⟨(by show 1<=sizeLine;decide),fun x fx=>⟨x,_,rfl,za5,fun H' dx hx hd sx=>⟨rfl,some dx,hx,qe _ _ (zi3 s1 fx hx hd sx)⟩⟩⟩
noncomputable def zP8 (K:W.Frag) (t:Adr):Sp:=fun vs H Q E=>∃(b a:Addr) (n r lim:Int) (hs xs:List Int),vs=[.ref b,.ref a]/\ze0 t H b n r hs lim/\SqL K H a (xs.map V.int)/\xs.length≠hs.length/\∀od H',Told H H' od "bad standing"->E (.ref t.aa) od H'
theorem ok_tiltB (T:Txt K mg t):FnOk P w K mg base (CXD P w) 5 t.bA t.bK ["beam","standing"] (zP8 K t):=by
 have GaX:FnOk P w K mg base (CXD P w) 4 t.au t.av ["beam","standing"] (zs7 K t):=ok_as_standingB T
 refine T.gZ.d.okD (CX:=CX0) zD5 (fun vs H Q E h=>?_) (fun cdv A outer s H vs Q E hr h=>?_)
 . obtain⟨b,a,n,r,lim,hs,xs,rfl,B,hS,hne,qe⟩:=h
   rfl
 . obtain⟨b,a,n,r,lim,hs,xs,rfl,B,hS,hne,qe⟩:=h
   have haX:Room 4 _:=hr.mono (by decide)
   refine⟨_,(za4 (zc2 (i:=2) zD5.nd rfl (Or.inl rfl) (zb0 GaX haX rfl T.ag T.ah T.af .nil zc5 (za0 (pv 0) (za0 (pv 1) za1))))
     zh0),?_⟩
   exact⟨_,rfl,_,rfl,b,a,n,r,lim,hs,xs,rfl,B,hS,hne,qe⟩
noncomputable def zM3 (K:W.Frag)(t:Adr)(vs:List V)(H:Hp)(P:Int->List Int->List Int->List Int->Prop)(R:Prop):Prop:=∃(b a1 a2:Addr) (n r lim:Int) (hs s g:List Int),vs=[.ref b,.ref a1,.ref a2]/\ze0 t H b n r hs lim/\zg3 n r hs.length s/\zg3 n r hs.length g/\(SqL K H a1 (s.map V.int)\/H a1=some (.tup (s.map V.int)))/\(SqL K H a2 (g.map V.int)\/H a2=some (.tup (g.map V.int)))/\P lim hs s g/\R
noncomputable def zG9 (K:W.Frag) (t:Adr):Sp:=fun vs H Q E=>zM3 K t vs H (fun lim hs s _=>lim<absI (zg5 hs s)) (∀od H',Told H H' od "start past"->E (.ref t.af) od H')
theorem ok_fewestS (T:Txt K mg t):FnOk P w K mg base (CXD P w) 5 t.aV t.ba ["beam","start","goal"] (zG9 K t):=by
 have Gaf:FnOk P w K mg base CX0 2 t.au t.av ["beam","standing"] (zf3 K t):=zf8 T
 have GaR:FnOk P w K mg base CX0 4 t.bj t.bx ["beam","standing"] (zu2 K t):=zz6 T
 have GaY:FnOk P w K mg base CX0 2 t.aw t.aN ["self","reason"] (zl5 K t):=zo4 T
 refine T.bj.d.okD (CX:=CX0) zj6 (fun vs H Q E h=>?_) (fun cdv A outer s H vs Q E hr h=>?_)
 . obtain⟨b,a1,a2,n,r,lim,hs,s,g,rfl,B,V1,V2,h1,h2,k1,qe⟩:=h
   rfl
 . obtain⟨b,a1,a2,n,r,lim,hs,s,g,rfl,B,V1,V2,h1,h2,k1,qe⟩:=h
   have haf:Room 2 _:=hr.mono (by decide)
   have haR:Room 4 _:=hr.mono (by decide)
   have haZ:Room 3 _:=hr.mono (by decide)
   refine⟨_,(za4 (zc2 (i:=3) zj6.nd rfl (Or.inl rfl) (zb0 Gaf haf rfl T.ag T.ah T.af .nil zb4 (za0 (pv 0) (za0 (pv 1) za1))))
     (za4 (zc2 (i:=4) zj6.nd rfl (Or.inl rfl) (zb0 Gaf haf rfl T.ag T.ah T.af .nil zb4 (za0 (pv 0) (za0 (pv 2) za1))))
     (za4 (zd2 (zo5 (zg8 (zb0 GaR haR rfl T.ay T.az T.ax .nil zb4 (za0 (pv 0) (za0 (pv 3) za1))))) (za6 (zf4 zd9 rfl T.aH T.cn T.bv GaY haZ rfl T.aG T.aI .nil zb4 (za0 ze1 za1))) zb7)
     zh0))),?_⟩
   refine cut4 ?_
   intro rr4 rr3 rr2
   refine⟨_,rfl,_,rfl,b,a1,n,r,lim,hs,s,rfl,B,V1,h1,fun l1 H1 s1 e1=>?_⟩
   refine⟨_,rfl,_,rfl,b,a2,n,r,lim,hs,g,rfl,B.same s1,V2,h2.imp s1.seq (fun e=>s1 _ _ e),fun l2 H2 s2 e2=>?_⟩
   refine⟨_,rfl,_,rfl,b,l1,n,r,lim,hs,s,rfl,(B.same s1).same s2,V1,.inr (s2 _ _ e1),fun H3 s3=>⟨_,rfl,?_⟩⟩
   refine iteA (by rw[decide_eq_false (by omega)];rfl) ?_
   exact⟨(by show 1<=sizeLine;decide),fun x fx=>⟨x,_,rfl,za5,fun H' dx hx hd sx=>⟨rfl,some dx,hx,qe _ _ (zi3 (s1.trans (s2.trans s3)) fx hx hd sx)⟩⟩⟩
noncomputable def zH0 (K:W.Frag) (t:Adr):Sp:=fun vs H Q E=>zM3 K t vs H (fun lim hs s g=>absI (zg5 hs s)<=lim/\lim<absI (zg5 hs g)) (∀od H',Told H H' od "goal past"->E (.ref t.ah) od H')
theorem ok_fewestG (T:Txt K mg t):FnOk P w K mg base (CXD P w) 5 t.aV t.ba ["beam","start","goal"] (zH0 K t):=by
 have Gaf:FnOk P w K mg base CX0 2 t.au t.av ["beam","standing"] (zf3 K t):=zf8 T
 have GaR:FnOk P w K mg base CX0 4 t.bj t.bx ["beam","standing"] (zu2 K t):=zz6 T
 have GaY:FnOk P w K mg base CX0 2 t.aw t.aN ["self","reason"] (zl5 K t):=zo4 T
 have Ga1:FnOk P w K mg base CX0 2 t.aF t.bc ["self","reason"] (zq8 K t):=ok_GoalPast_init T
 refine T.bj.d.okD (CX:=CX0) zj6 (fun vs H Q E h=>?_) (fun cdv A outer s H vs Q E hr h=>?_)
 . obtain⟨b,a1,a2,n,r,lim,hs,s,g,rfl,B,V1,V2,h1,h2,⟨k1,k2⟩,qe⟩:=h
   rfl
 . obtain⟨b,a1,a2,n,r,lim,hs,s,g,rfl,B,V1,V2,h1,h2,⟨k1,k2⟩,qe⟩:=h
   have haf:Room 2 _:=hr.mono (by decide)
   have haR:Room 4 _:=hr.mono (by decide)
   have haZ:Room 3 _:=hr.mono (by decide)
   have ha2:Room 3 _:=hr.mono (by decide)
   refine⟨_,(za4 (zc2 (i:=3) zj6.nd rfl (Or.inl rfl) (zb0 Gaf haf rfl T.ag T.ah T.af .nil zb4 (za0 (pv 0) (za0 (pv 1) za1))))
     (za4 (zc2 (i:=4) zj6.nd rfl (Or.inl rfl) (zb0 Gaf haf rfl T.ag T.ah T.af .nil zb4 (za0 (pv 0) (za0 (pv 2) za1))))
     (za4 (zd2 (zo5 (zg8 (zb0 GaR haR rfl T.ay T.az T.ax .nil zb4 (za0 (pv 0) (za0 (pv 3) za1))))) (za6 (zf4 zd9 rfl T.aH T.cn T.bv GaY haZ rfl T.aG T.aI .nil zb4 (za0 ze1 za1))) zb7)
     (za4 (zd2 (zo5 (zg8 (zb0 GaR haR rfl T.ay T.az T.ax .nil zb4 (za0 (pv 0) (za0 (pv 4) za1))))) (za6 (zf4 zd9 rfl T.dA T.hR T.hA Ga1 ha2 rfl T.dy T.f7 .nil zb4 (za0 ze1 za1))) zb7)
     zh0)))),?_⟩
   refine cut5 ?_
   intro rr5 rr4 rr3 rr2
   refine⟨_,rfl,_,rfl,b,a1,n,r,lim,hs,s,rfl,B,V1,h1,fun l1 H1 s1 e1=>?_⟩
   refine⟨_,rfl,_,rfl,b,a2,n,r,lim,hs,g,rfl,B.same s1,V2,h2.imp s1.seq (fun e=>s1 _ _ e),fun l2 H2 s2 e2=>?_⟩
   refine⟨_,rfl,_,rfl,b,l1,n,r,lim,hs,s,rfl,(B.same s1).same s2,V1,.inr (s2 _ _ e1),fun H3 s3=>⟨_,rfl,?_⟩⟩
   refine iteB (by rw[decide_eq_true k1];rfl) ?_
   refine⟨_,rfl,_,rfl,b,l2,n,r,lim,hs,g,rfl,((B.same s1).same s2).same s3,V2,.inr (s3 _ _ e2),fun H4 s4=>⟨_,rfl,?_⟩⟩
   refine iteA (by rw[decide_eq_false (by omega)];rfl) ?_
   exact⟨(by show 1<=sizeLine;decide),fun x fx=>⟨x,_,rfl,za5,fun H' dx hx hd sx=>⟨rfl,some dx,hx,qe _ _ (zi3 (s1.trans (s2.trans (s3.trans s4))) fx hx hd sx)⟩⟩⟩
noncomputable def zw4 (K:W.Frag) (t:Adr):Sp:=fun vs H Q E=>zM3 K t vs H (fun lim hs s g=>absI (zg5 hs s)<=lim/\lim<absI (zg5 hs g)) (∀od H',Told H H' od "goal past"->E (.ref t.ah) od H')
theorem ok_next_moveG (T:Txt K mg t):FnOk P w K mg base (CXD P w) 6 t.aQ t.a3 ["beam","start","goal"] (zw4 K t):=by
 have Ga3:FnOk P w K mg base (CXD P w) 5 t.aV t.ba ["beam","start","goal"] (zH0 K t):=ok_fewestG T
 refine T.ce.d.okD (CX:=CX0) zn0 (fun vs H Q E h=>?_) (fun cdv A outer s H vs Q E hr h=>?_)
 . obtain⟨b,a1,a2,n,r,lim,hs,s,g,rfl,B,V1,V2,h1,h2,kk,qe⟩:=h
   rfl
 . obtain⟨b,a1,a2,n,r,lim,hs,s,g,rfl,B,V1,V2,h1,h2,kk,qe⟩:=h
   have ha3:Room 5 _:=hr.mono (by decide)
   refine⟨_,(za4 (zc2 (i:=3) zn0.nd rfl (Or.inl rfl) (zb0 Ga3 ha3 rfl T.bl T.bm T.bk .nil zc5 (za0 (pv 0) (za0 (pv 1) (za0 (pv 2) za1)))))
     zh0),?_⟩
   exact⟨_,rfl,_,rfl,_,rfl,b,a1,a2,n,r,lim,hs,s,g,rfl,B,V1,V2,h1,h2,kk,qe⟩
noncomputable def zA1 (K:W.Frag) (t:Adr):Sp:=fun vs H Q E=>∃(b a1 a2:Addr) (n r lim:Int) (hs s g:List Int),vs=[.ref b,.ref a1,.ref a2]/\ze0 t H b n r hs lim/\zg3 n r hs.length s/\zg3 n r hs.length g/\(SqL K H a1 (s.map V.int)\/H a1=some (.tup (s.map V.int)))/\(SqL K H a2 (g.map V.int)\/H a2=some (.tup (g.map V.int)))/\(absI (zg5 hs s)<=lim/\absI (zg5 hs g)<=lim)/\(∀d,¬ Dst n r hs lim s d g)/\∀od H',Told H H' od "no way"->E (.ref t.an) od H'
theorem ok_next_move (T:Txt K mg t):FnOk P w K mg base (CXD P w) 10 t.aQ t.a3 ["beam","start","goal"] (zA1 K t):=by
 have Ga4:FnOk P w K mg base CX0 9 t.aV t.ba ["beam","start","goal"] (zK6 K t):=ok_fewest T
 have Ga5:FnOk P w K mg base CX0 2 t.aS t.bz ["self","reason"] (zw0 K t):=ok_NoWay_init T
 refine T.ce.d.okD (CX:=CX0) zn0 (fun vs H Q E h=>?_) (fun cdv A outer s H vs Q E hr h=>?_)
 . obtain⟨b,a1,a2,n,r,lim,hs,s,g,rfl,B,V1,V2,h1,h2,⟨k1,k2⟩,hno,qe⟩:=h
   rfl
 . obtain⟨b,a1,a2,n,r,lim,hs,s,g,rfl,B,V1,V2,h1,h2,⟨k1,k2⟩,hno,qe⟩:=h
   have ha4:Room 9 _:=hr.mono (by decide)
   have ha6:Room 3 _:=hr.mono (by decide)
   refine⟨_,(za4 (zc2 (i:=3) zn0.nd rfl (Or.inl rfl) (zb0 Ga4 ha4 rfl T.bl T.bm T.bk .nil zb4 (za0 (pv 0) (za0 (pv 1) (za0 (pv 2) za1)))))
     (za4 (zd2 (zo5 (zg8 (zg9 (pv 3) rfl))) (za6 (zf4 zd9 rfl T.gs T.iA T.ir Ga5 ha6 rfl T.gr T.gY .nil zb4 (za0 ze1 za1))) zb7)
     zh0)),?_⟩
   refine cut3 ?_
   intro rr3 rr2
   refine⟨_,rfl,_,rfl,_,rfl,b,a1,a2,n,r,lim,hs,s,g,rfl,B,V1,V2,h1,h2,k1,k2,fun wy H1 s1 W=>?_⟩
   rcases W with⟨d,rw_,rs,ms,la,as,Ls,ag,ags,sh,hd,_⟩ | ⟨_,rw_,la,as,Ls,ag,sh,zs,S,⟨dx,hwy⟩,hrw,_⟩
   . exact absurd hd (hno d)
   . refine⟨_,rfl,wy,_,dx,_,_,rfl,hwy,T.aA,T.aU,wf_reached _ _ _ _ _ _,_,rfl,iteT ?_⟩
     exact⟨(by show 1<=sizeLine;decide),fun x fx=>⟨x,_,rfl,za5,fun H' dx hx hd sx=>⟨rfl,some dx,hx,qe _ _ (zi3 s1 fx hx hd sx)⟩⟩⟩
noncomputable def zA2 (K:W.Frag) (t:Adr):Sp:=fun vs H Q E=>vs=[.str "tray"]/\∀od H',Told H H' od "bad text"->E (.ref t.al) od H'
theorem split_tray:Txt.split (Str.ofString "tray") (Str.ofString " ")=[Str.ofString "tray"]:=by decide +kernel
theorem ok_read_move (T:Txt K mg t):FnOk P w K mg base (CXD P w) 4 t.bp t.bJ ["text"] (zA2 K t):=by
 have Ga7:FnOk P w K mg base CX0 2 t.aK t.bh ["self","reason"] (zs4 K t):=ok_BadText_init T
 refine T.ht.d.okD (CX:=CX0) zz3 (fun vs H Q E h=>?_) (fun cdv A outer s H vs Q E hr h=>?_)
 . obtain⟨rfl,qe⟩:=h
   rfl
 . obtain⟨rfl,qe⟩:=h
   have ha8:Room 3 _:=hr.mono (by decide)
   refine⟨_,(za4 (zc2 (i:=1) zz3.nd rfl (Or.inl rfl) (zE4 PySem.F.plainAttrs_str PySem.F.slot_str_split PySem.F.type_str_split mt_splitS (pv 0) (za0 ze1 za1)))
     (za4 (zd2 (zc7 zx2 (zb9 zc3 rfl T.al PySem.boot_len (za0 (pv 1) za1)) za8 (zd1 _)) (za6 (zf4 zd9 rfl T.eX T.h8 T.hP Ga7 ha8 rfl T.eU T.gj .nil zb4 (za0 ze1 za1))) zb7)
     zh0)),?_⟩
   refine cut3 ?_
   intro rr3 rr2
   refine⟨_,rfl,rfl,_,_,rfl,rfl,by decide,by decide,fun l H1 s1 f1 h1=>?_⟩
   rw[split_tray] at h1
   refine⟨_,rfl,l,_,rfl,.inl (SqL.of h1),rfl,_,rfl,iteA (by decide) ?_⟩
   exact⟨(by show 1<=sizeLine;decide),fun x fx=>⟨x,_,rfl,za5,fun H' dx hx hd sx=>⟨rfl,some dx,hx,qe _ _ (zi3 s1 fx hx hd sx)⟩⟩⟩
noncomputable def zA3 (K:W.Frag)(t:Adr):Sp:=fun vs H Q _=>∃(p mv b s x m:Addr) (n r lim k u qq:Int) (hs a c:List Int) (ys:List V) (ms:List (List Int)),vs=[.ref p,.ref mv]/\zk5 t H p b s x m n r hs lim a c ys ms/\zg3 n r hs.length c/\H mv=some (.lst [.int k,.int u,.int qq])/\ys.length<300 ∧
 refN n r lim hs c k u qq=0/\∀x' tv H',zk0 p m H H'->zk5 t H' p b s x' m n r hs lim a (c.set (k-1).toNat qq) (ys++[.ref tv]) (ms++[[k,u,qq]])->Q (.ref x') H'
theorem ok_Play_move (T:Txt K mg t):FnOk P w K mg base CX0 7 t.aR t.a5 ["self","move"] (zA3 K t):=by
 have Ga9:FnOk P w K mg base (CXD P w) 6 t.bM t.bW ["beam","standing","move"] (zG3 K t):=zP3 T
 refine T.cj.ok zz2 (fun vs H Q E h=>?_) (fun cdv A outer s H vs Q E hr h=>?_)
 . obtain⟨p,mv,b,s,x,m,n,r,lim,k,u,qq,hs,a,c,ys,ms,rfl,P0,V0,hM,hy,hz,q⟩:=h
   rfl
 . obtain⟨p,mv,b,s,x,m,n,r,lim,k,u,qq,hs,a,c,ys,ms,rfl,P0,V0,hM,hy,hz,q⟩:=h
   have ha9:Room 6 _:=hr.mono (by decide)
   refine⟨_,(za4 (zd2 (zc7 zV6 (zb9 zc3 rfl T.al PySem.boot_len (za0 (zg9 (pv 0) rfl) za1)) (ze8 (v:=.int 300) rfl T.bO ⟨_,rfl⟩) (zd1 _)) (za6 zh6) zb7)
     (za4 (zk3 (pv 0) (zb0 Ga9 ha9 rfl T.au T.av T.ar .nil passesND (za0 (zg9 (pv 0) rfl) (za0 (zg9 (pv 0) rfl) (za0 (pv 1) za1)))) rfl)
     (za4 (zc6 (zE4 PySem.F.plainAttrs_list PySem.F.slot_list_append PySem.F.type_list_append zv0 (zg9 (pv 0) rfl) (za0 (zp7 zl9 rfl T.aV PyProof.Rows.boot_tuple (za0 (pv 1) za1)) za1)))
     (za6 (zc8 (zg9 (pv 0) rfl)))))),?_⟩
   refine cut4 ?_
   intro rr4 rr3 rr2
   obtain⟨dx,hp⟩:=P0.hp
   refine⟨_,rfl,p,_,dx,_,_,rfl,hp,T.ak,T.aq,zD8 _ _ _ _,m,_,rfl,.inl (SqL.of P0.hm),_,_,rfl,rfl,_,rfl,iteB (decide_eq_false (by omega)) ?_⟩
   refine⟨_,rfl,p,_,dx,_,_,rfl,hp,T.ak,T.bq,pf_beam _ _ _ _,_,rfl,p,_,dx,_,_,rfl,hp,T.ak,T.ap,zC6 _ _ _ _,_,rfl,b,x,mv,n,r,lim,k,u,qq,hs,c,rfl,P0.bm,V0,.inr P0.hx,.inl (SqL.of hM),fun _ x' H1 s1 hx'=>?_,fun j od H' hj _=>(by rw[hz] at hj;cases hj)⟩
   have P1:=P0.same s1
   have hp1:=s1 _ _ hp
   refine⟨_,rfl,p,_,dx,_,rfl,hp1,T.ak,T.ap,pf_len _ _ _ _,?_⟩
   rw[pf_set]
   have s2:zk0 p m H1 (upd H1 p (.ins t.ar dx (zj9 b s x' m))):=(Same.two (Same.refl H1) p m).updP
   have hp2:(upd H1 p (.ins t.ar dx (zj9 b s x' m))) p=some (.ins t.ar dx (zj9 b s x' m)):=za5
   have nmp:m≠p:=fun z=>by have:=P1.hm;rw[z,hp1] at this;cases this
   have hm2:(upd H1 p (.ins t.ar dx (zj9 b s x' m))) m=some (.lst ys):=by rw[za7 nmp];exact P1.hm
   have P2:zk5 t (upd H1 p (.ins t.ar dx (zj9 b s x' m))) p b s x' m n r hs lim a (c.set (k-1).toNat qq) ys ms:=⟨P1.bm.same2 s2 P1.nb P1.ip ⟨_,P1.hm⟩,P1.nb,⟨dx,hp2⟩,s2.tup P1.ip ⟨_,P1.hm⟩ P1.hs,s2.tup P1.ip ⟨_,P1.hm⟩ hx',hm2,s2.tups P1.ip ⟨_,P1.hm⟩ P1.tm⟩
   have hM1:=s1 _ _ hM
   have s02:zk0 p m H (upd H1 p (.ins t.ar dx (zj9 b s x' m))):=(Same.two s1 p m).trans s2
   have hM2:(upd H1 p (.ins t.ar dx (zj9 b s x' m))) mv=some (.lst [.int k,.int u,.int qq]):=by
     rw[za7 (fun z=>by rw[z,hp1] at hM1;cases hM1)]
     exact hM1
   revert P2 hp2 hm2 hM2 s02
   generalize upd H1 p (.ins t.ar dx (zj9 b s x' m))=H2
   intro hp2 hm2 P2 s02 hM2
   refine⟨_,rfl,p,_,dx,_,_,rfl,hp2,T.ak,T.aq,zD8 _ _ _ _,.inl ⟨rfl,_,SqL.of hm2⟩,_,rfl,mv,[.int k,.int u,.int qq],rfl,?_⟩
   refine .inl ⟨SqL.of hM2,fun tv ftv=>?_⟩
   have s3:Same H2 (upd H2 tv (.tup [.int k,.int u,.int qq])):=Same.upd ftv
   have h3:(upd H2 tv (.tup [.int k,.int u,.int qq])) tv=some (.tup [.int k,.int u,.int qq]):=za5
   dsimp only
   revert s3 h3
   generalize upd H2 tv (.tup [.int k,.int u,.int qq])=H3
   intro s3 h3
   have P3:=P2.same s3
   have s4:zk0 p m H3 (upd H3 m (.lst (ys++[.ref tv]))):=(Same.two (Same.refl H3) p m).updM
   have ip:=P3.ip
   have im:∃ys,H3 m=some (.lst ys):=⟨_,P3.hm⟩
   have P4:zk5 t (upd H3 m (.lst (ys++[.ref tv]))) p b s x' m n r hs lim a (c.set (k-1).toNat qq) (ys++[.ref tv]) (ms++[[k,u,qq]]):=⟨P3.bm.same2 s4 P3.nb ip im,P3.nb,⟨dx,by rw[za7 nmp.symm];exact s3 _ _ hp2⟩,s4.tup ip im P3.hs,s4.tup ip im P3.hx,za5,zJ5 (s4.tups ip im P3.tm) (s4.tup ip im h3)⟩
   refine⟨m,_,_,rfl,rfl,s3 _ _ hm2,zg6 (by omega),?_⟩
   obtain⟨dx4,hp4⟩:=P4.hp
   exact⟨_,rfl,p,_,dx4,_,_,rfl,hp4,T.ak,T.ap,zC6 _ _ _ _,q x' tv _ ((s02.trans (Same.two s3 p m)).trans s4) P4⟩
noncomputable def zw5 (K:W.Frag) (t:Adr):Sp:=fun vs H Q E=>∃(p mv b s x m:Addr) (n r lim:Int) (hs a c:List Int) (ys:List V) (ms:List (List Int)),vs=[.ref p,.ref mv]/\zk5 t H p b s x m n r hs lim a c ys ms/\ys.length=300/\∀od H',Told H H' od "play full"->E (.ref t.ai) od H'
theorem ok_Play_moveF (T:Txt K mg t):FnOk P w K mg base (CXD P w) 4 t.aR t.a5 ["self","move"] (zw5 K t):=by
 have Gba:FnOk P w K mg base CX0 2 t.aG t.bd ["self","reason"] (zq9 K t):=ok_PlayFull_init T
 refine T.cj.d.okD (CX:=CX0) zz2 (fun vs H Q E h=>?_) (fun cdv A outer s H vs Q E hr h=>?_)
 . obtain⟨p,mv,b,s,x,m,n,r,lim,hs,a,c,ys,ms,rfl,P0,hy,qe⟩:=h
   rfl
 . obtain⟨p,mv,b,s,x,m,n,r,lim,hs,a,c,ys,ms,rfl,P0,hy,qe⟩:=h
   have hbc:Room 3 _:=hr.mono (by decide)
   refine⟨_,(za4 (zd2 (zc7 zV6 (zb9 zc3 rfl T.al PySem.boot_len (za0 (zg9 (pv 0) rfl) za1)) (ze8 (v:=.int 300) rfl T.bO ⟨_,rfl⟩) (zd1 _)) (za6 (zf4 zd9 rfl T.dB T.hS T.hB Gba hbc rfl T.dz T.f9 .nil zb4 (za0 ze1 za1))) zb7)
     zh0),?_⟩
   obtain⟨dx,hp⟩:=P0.hp
   refine⟨_,rfl,p,_,dx,_,_,rfl,hp,T.ak,T.aq,zD8 _ _ _ _,m,_,rfl,.inl (SqL.of P0.hm),_,_,rfl,rfl,_,rfl,iteA (decide_eq_true (by omega)) ?_⟩
   exact⟨(by show 1<=sizeLine;decide),fun x fx=>⟨x,_,rfl,za5,fun H' dx hx hd sx=>⟨rfl,some dx,hx,qe _ _ (zi3 (Same.refl _) fx hx hd sx)⟩⟩⟩
noncomputable def zA4 (K:W.Frag) (t:Adr):Sp:=fun vs H Q E=>∃(p b s x m:Addr) (n r lim:Int) (hs a c:List Int) (ms:List (List Int)),vs=[.ref p]/\zk5 t H p b s x m n r hs lim a c [] ms/\∀od H',Told H H' od "nothing back"->E (.ref t.ab) od H'
theorem ok_Play_back (T:Txt K mg t):FnOk P w K mg base (CXD P w) 4 t.bo t.bI ["self"] (zA4 K t):=by
 have Gbf:FnOk P w K mg base CX0 2 t.ax t.aT ["self","reason"] (zm6 K t):=ok_NothingBack_init T
 refine T.hr.d.okD (CX:=CX0) sc_Play_back (fun vs H Q E h=>?_) (fun cdv A outer s H vs Q E hr h=>?_)
 . obtain⟨p,b,s,x,m,n,r,lim,hs,a,c,ms,rfl,P0,qe⟩:=h
   rfl
 . obtain⟨p,b,s,x,m,n,r,lim,hs,a,c,ms,rfl,P0,qe⟩:=h
   have hbg:Room 3 _:=hr.mono (by decide)
   refine⟨_,(za4 (zd2 (zc7 zm1 (zb9 zc3 rfl T.al PySem.boot_len (za0 (zg9 (pv 0) rfl) za1)) za8 (zd1 _)) (za6 (zf4 zd9 rfl T.a0 T.gT T.gu Gbf hbg rfl T.aY T.eJ .nil zb4 (za0 ze1 za1))) zb7)
     zh0),?_⟩
   obtain⟨dx,hp⟩:=P0.hp
   refine⟨_,rfl,p,_,dx,_,_,rfl,hp,T.ak,T.aq,zD8 _ _ _ _,m,_,rfl,.inl (SqL.of P0.hm),rfl,_,rfl,iteA (by decide) ?_⟩
   exact⟨(by show 1<=sizeLine;decide),fun x fx=>⟨x,_,rfl,za5,fun H' dx hx hd sx=>⟨rfl,some dx,hx,qe _ _ (zi3 (Same.refl _) fx hx hd sx)⟩⟩⟩
end
section
variable {P:Program} {w:World} {K:W.Frag} {mg:Str->Option Value} {base:Heap} {t:Adr}
theorem ok_w_at (T:Txt K mg t):FnOk P w K mg base CX0 1 t.b3 t.b6 ["_law_script","_law_k"] (zU2 K t):=by
 refine T.iH.ok sc_w_at (fun vs H Q E h=>?_) (fun cdv A outer s H vs Q E hr h=>?_)
 . obtain⟨a,ns,k,rfl,hS,q⟩:=h
   rfl
 . obtain⟨a,ns,k,rfl,hS,q⟩:=h
   refine⟨_,(za4 (zd2 (zc7 zY0 (pv 1) (zb9 zc3 rfl T.al PySem.boot_len (za0 (pv 0) za1)) (zd1 _)) (za6 (zc8 (zj7 zu9 (pv 0) (pv 1) (fun _ _=>rfl)))) zb7)
     (za6 (zc8 za8))),?_⟩
   refine⟨_,rfl,_,rfl,a,_,rfl,.inl hS,_,_,rfl,rfl,_,rfl,?_⟩
   rw[List.length_map]
   refine ite2 (fun h1=>?_) (fun h1=>?_)
   . have hk:k<ns.length:=by have:=of_decide_eq_true h1;omega
     have e:ns.getD k 0=ns[k]:=by simp[hk]
     rw[e] at q
     exact⟨_,rfl,_,rfl,a,_,_,_,rfl,rfl,hS,zR8 (by simp[hk]),q⟩
   . have hk:¬ k<ns.length:=fun z=>h1 (decide_eq_true (by omega))
     have e:ns.getD k 0=0:=by simp[hk]
     rw[e] at q
     exact q
noncomputable def clsF (t:Adr):Nat->Addr
 | 0=>t.al | 1=>t.ak | 2=>t.aa | 3=>t.ag | 4=>t.aj | 5=>t.ae | 6=>t.am | 7=>t.ac | 8=>t.ad | 9=>t.af | 10=>t.ah | 11=>t.an | 12=>t.ab | _=>t.ai
noncomputable def zZ2 (j:Nat):List V:=[.bl (decide (j=0)),.bl (decide (j=1)),.bl (decide (j=2)),.bl (decide (j=3)),.bl (decide (j=4)),.bl (decide (j=5)),.bl (decide (j=6)),.bl (decide (j=7)),.bl (decide (j=8)),.bl (decide (j=9)),.bl (decide (j=10)),.bl (decide (j=11)),.bl (decide (j=12)),.bl (decide (j=13)),.bl true]
theorem ffacts (T:Txt K mg t) {j:Nat} (hj:j<14):XAsk K (clsF t j)/\W.exmOne K (.ref (clsF t j)) (.ref t.aq)=some true/\W.kitOne K (.ref (clsF t j)) (.ref t.al)=some (decide (j=0))/\W.kitOne K (.ref (clsF t j)) (.ref t.ak)=some (decide (j=1))/\W.kitOne K (.ref (clsF t j)) (.ref t.aa)=some (decide (j=2))/\W.kitOne K (.ref (clsF t j)) (.ref t.ag)=some (decide (j=3))/\W.kitOne K (.ref (clsF t j)) (.ref t.aj)=some (decide (j=4))/\W.kitOne K (.ref (clsF t j)) (.ref t.ae)=some (decide (j=5))/\W.kitOne K (.ref (clsF t j)) (.ref t.am)=some (decide (j=6))/\W.kitOne K (.ref (clsF t j)) (.ref t.ac)=some (decide (j=7))/\W.kitOne K (.ref (clsF t j)) (.ref t.ad)=some (decide (j=8))/\W.kitOne K (.ref (clsF t j)) (.ref t.af)=some (decide (j=9))/\W.kitOne K (.ref (clsF t j)) (.ref t.ah)=some (decide (j=10))/\W.kitOne K (.ref (clsF t j)) (.ref t.an)=some (decide (j=11))/\W.kitOne K (.ref (clsF t j)) (.ref t.ab)=some (decide (j=12))/\W.kitOne K (.ref (clsF t j)) (.ref t.ai)=some (decide (j=13))/\W.kitOne K (.ref (clsF t j)) (.type "ValueError")=some true:=by
 match j,hj with
 | 0,_=>exact⟨T.hU,T.dW,T.ff,T.fg,T.cF,T.ev,T.fh,T.dX,T.fJ,T.dg,T.dh,T.dY,T.ew,T.f2,T.cG,T.ex,T.di⟩
 | 1,_=>exact⟨T.hV,T.dZ,T.fi,T.fj,T.cH,T.ey,T.fk,T.d0,T.fK,T.dj,T.dk,T.d1,T.ez,T.f3,T.cI,T.eA,T.dl⟩
 | 2,_=>exact⟨T.gy,T.bI,T.cJ,T.cK,T.a4,T.b3,T.cL,T.bJ,T.dm,T.bd,T.be,T.bK,T.b4,T.d2,T.a5,T.b5,T.bf⟩
 | 3,_=>exact⟨T.hC,T.cY,T.eg,T.eh,T.bP,T.dF,T.ei,T.cZ,T.e4,T.co,T.cp,T.c0,T.dG,T.fB,T.bQ,T.dH,T.cq⟩
 | 4,_=>exact⟨T.hT,T.dI,T.e5,T.e6,T.cr,T.ej,T.e7,T.dJ,T.fC,T.c1,T.c2,T.dK,T.ek,T.fX,T.cs,T.el,T.c3⟩
 | 5,_=>exact⟨T.hi,T.ct,T.dL,T.dM,T.bw,T.c4,T.dN,T.cu,T.em,T.bR,T.bS,T.cv,T.c5,T.e8,T.bx,T.c6,T.bT⟩
 | 6,_=>exact⟨T.ia,T.en,T.fD,T.fE,T.c7,T.e9,T.fF,T.eo,T.fY,T.dO,T.dP,T.ep,T.fa,T.ge,T.c8,T.fb,T.dQ⟩
 | 7,_=>exact⟨T.gV,T.bU,T.c9,T.da,T.a6,T.cw,T.db,T.bV,T.dR,T.bz,T.bA,T.bW,T.cx,T.eq,T.a7,T.cy,T.bB⟩
 | 8,_=>exact⟨T.gW,T.bX,T.dc,T.dd,T.a8,T.cz,T.de,T.bY,T.dS,T.bC,T.bD,T.bZ,T.cA,T.er,T.a9,T.cB,T.bE⟩
 | 9,_=>exact⟨T.hj,T.cM,T.d3,T.d4,T.bL,T.dn,T.d5,T.cN,T.eB,T.b6,T.b7,T.cO,T.dp,T.fl,T.bM,T.dq,T.b8⟩
 | 10,_=>exact⟨T.hD,T.dr,T.eC,T.eD,T.b9,T.d6,T.eE,T.ds,T.fm,T.cP,T.cQ,T.dt,T.d7,T.fL,T.ca,T.d8,T.cR⟩
 | 11,_=>exact⟨T.it,T.fc,T.fZ,T.f0,T.dT,T.fG,T.f1,T.fd,T.gf,T.es,T.et,T.fe,T.fH,T.gw,T.dU,T.fI,T.eu⟩
 | 12,_=>exact⟨T.gx,T.bF,T.cC,T.cD,T.a2,T.b0,T.cE,T.bG,T.df,T.ba,T.bb,T.bH,T.b1,T.dV,T.a3,T.b2,T.bc⟩
 | 13,_=>exact⟨T.hE,T.du,T.eF,T.eG,T.cb,T.d9,T.eH,T.dv,T.fn,T.cS,T.cT,T.dw,T.ea,T.fM,T.cc,T.eb,T.cU⟩
 | j+14,h=>exact absurd h (by omega)
theorem zw6 (h x y:Int):zg5 [h,h] [x,y]=h*x+h*y:=by simp[zg5]
theorem zB6 {n x y:Int}(hx:-n<=x/\x<=n)(hy:-n<=y/\y<=n)(h:x=y->x=0):zg3 n 1 2 [x,y]:=by
 refine⟨rfl,fun a ha=>?_,fun a ha z=>?_⟩
 . rcases List.mem_cons.mp ha with e | ha
   . rw[e];exact hx
   . rcases List.mem_cons.mp ha with e | ha
     . rw[e];exact hy
     . cases ha
 . rw[List.count_cons,List.count_cons,List.count_nil]
   by_cases e1:x=a
   . have e2:¬ y=a:=fun e=>z (by rw[<-e1];exact h (by omega))
     rw[if_neg (by simpa using e2),if_pos (by simpa using e1)]
     decide
   . rw[if_neg (show ¬ (x == a)=true by simpa using e1)]
     split<;>decide
theorem zA5 {z:Int}(h:z≠0):0<absI z:=by unfold absI;split<;>omega
theorem zH1 {h z:Int}(h1:1<=h)(hz:z≠0):h*z≠0:=Int.mul_ne_zero (by omega) hz
section
variable {n h no:Int} (hn:1<=n/\n<=4) (hh:1<=h/\h<=20) (h0:no≠0) (ho:-n<=no/\no<=n)
include hn hh h0 ho
theorem rf3 (lim:Int):refN n 1 lim [h,h] [0,0] 3 0 no=1:=by
 unfold refN
 rw[if_pos (fun z=>by have:=z.1.2;simp at this)]
theorem rf4 (lim:Int):refN n 1 lim [h,h] [0,0] 1 0 5=2:=by
 unfold refN
 rw[if_neg (fun z=>z ⟨⟨by decide,by show(_:Int)<=((2:Nat):Int);decide⟩,rfl⟩),if_pos (.inr (by omega))]
theorem rf5 (lim:Int):refN n 1 lim [h,h] [no,0] 1 no no=3:=by
 unfold refN
 rw[if_neg (fun z=>z ⟨⟨by decide,by show(_:Int)<=((2:Nat):Int);decide⟩,rfl⟩),if_neg (by omega),if_pos rfl]
theorem rf6 (lim:Int):refN n 1 lim [h,h] [no,0] 2 0 no=4:=by
 unfold refN
 rw[if_neg (fun z=>z ⟨⟨by decide,by show(_:Int)<=((2:Nat):Int);decide⟩,rfl⟩),if_neg (by omega),if_neg h0,if_pos (show zs2 1 [no,0] no=true from decide_eq_true ⟨h0,by rw[List.count_cons_self];omega⟩)]
theorem rf7:refN n 1 0 [h,h] [no,-no] 2 (-no) 0=5:=by
 have e:zj2 [h,h] [no,-no] ((2:Int)-1).toNat=h*no:=by
   show zg5 [h,h] [no,-no]-h * -no=_
   rw[zw6]
   omega
 unfold refN
 rw[if_neg (fun z=>z ⟨⟨by decide,by show(_:Int)<=((2:Nat):Int);decide⟩,rfl⟩),if_neg (by omega),if_neg (by omega),if_neg (by unfold zs2;simp),if_pos (by rw[e];exact zA5 (zH1 hh.1 h0))]
theorem rf8:refN n 1 0 [h,h] [0,0] 1 0 no=6:=by
 have e:zj2 [h,h] [0,0] ((1:Int)-1).toNat=0:=by
   show zg5 [h,h] [0,0]-h*0=_
   rw[zw6]
   omega
 unfold refN
 rw[if_neg (fun z=>z ⟨⟨by decide,by show(_:Int)<=((2:Nat):Int);decide⟩,rfl⟩),if_neg (by omega),if_neg h0,if_neg (by unfold zs2;simp[Ne.symm h0]),e,if_neg (by decide),if_pos (by rw[Int.zero_add];exact zA5 (zH1 hh.1 h0))]
theorem mul80:absI (h*no)<=400:=by
 have a1:h*no<=h*4:=Int.mul_le_mul_of_nonneg_left (by omega) (by omega)
 have a2:h * -4<=h*no:=Int.mul_le_mul_of_nonneg_left (by omega) (by omega)
 unfold absI
 split<;>omega
theorem rfA:refN n 1 400 [h,h] [0,0] 1 0 no=0:=by
 have e:zj2 [h,h] [0,0] ((1:Int)-1).toNat=0:=by
   show zg5 [h,h] [0,0]-h*0=_
   rw[zw6]
   omega
 have m:=mul80 hn hh h0 ho
 unfold refN
 rw[if_neg (fun z=>z ⟨⟨by decide,by show(_:Int)<=((2:Nat):Int);decide⟩,rfl⟩),if_neg (by omega),if_neg h0,if_neg (by unfold zs2;simp[Ne.symm h0]),e,if_neg (by decide),if_neg (by rw[Int.zero_add];show ¬ 400<absI (h*no);omega)]
theorem rfB:refN n 1 400 [h,h] [no,0] 1 no 0=0:=by
 have e:zj2 [h,h] [no,0] ((1:Int)-1).toNat=0:=by
   show zg5 [h,h] [no,0]-h*no=_
   rw[zw6]
   omega
 unfold refN
 rw[if_neg (fun z=>z ⟨⟨by decide,by show(_:Int)<=((2:Nat):Int);decide⟩,rfl⟩),if_neg (by omega),if_neg (Ne.symm h0),if_neg (by unfold zs2;simp),e,if_neg (by decide),if_neg (by rw[Int.mul_zero];decide)]
end
structure Bs (t:Adr)(H:Hp)(sf lo:Addr)(n h no:Int):Prop where
 s:ze0 t H sf n 1 [h,h] 0
 l:ze0 t H lo n 1 [h,h] 400
 n1:1<=n/\n<=4
 h1:1<=h/\h<=20
 o:no≠0
 o1:-n<=no/\no<=n
theorem Bs.same {t:Adr}{H H':Hp}{sf lo:Addr}{n h no:Int}(B:Bs t H sf lo n h no)(s:Same H H'):Bs t H' sf lo n h no:=⟨B.s.same s,B.l.same s,B.n1,B.h1,B.o,B.o1⟩
theorem no_nbs {n h:Int}(hh:1<=h/\h<=20){y:List Int}:¬ y∈nbs n 1 [h,h] 0 [0,0]:=fun z=>by
 obtain⟨i,p,l,rfl⟩:=zU6.mp z
 have hi:=l.lt
 have hne:=l.ne
 have hb:=l.behind
 have z0:∀j,([0,0]:List Int).getD j 0=0:=fun j=>by match j with | 0=>rfl | 1=>rfl | j+2=>rfl
 have zh:([h,h]:List Int).getD i 0=h:=by
   match i,hi with
   | 0,_=>rfl
   | 1,_=>rfl
   | i+2,h=>simp at h;omega
 have e:zj2 [h,h] [0,0] i=0:=by
   unfold zj2
   rw[zw6,z0]
   omega
 rw[z0] at hne
 rw[e,zh,Int.zero_add] at hb
 have:=zA5 (zH1 hh.1 hne)
 omega
theorem no_dst {n h no:Int}(hh:1<=h/\h<=20)(h0:no≠0)(d:Nat):¬ Dst n 1 [h,h] 0 [0,0] d [no,-no]:=fun z=>by
 have key:∀ {d:Nat} {y:List Int},Walk n 1 [h,h] 0 [0,0] d y->y=[0,0]:=fun {d y} k=>by
   induction k with
   | zero=>rfl
   | succ _ hy ih=>subst ih;exact absurd hy (no_nbs hh)
 have:=key z.1
 exact h0 (List.cons.inj this).1
noncomputable def Nws (t:Adr)(H:Hp)(j:Nat)(E:XK):Prop:=∀od H' w9,Told H H' od w9->E (.ref (clsF t j)) od H'
noncomputable def zH2 (K:W.Frag)(t:Adr):Sp:=fun vs H Q E=>∃(j:Nat) (sf lo:Addr) (n h no:Int),vs=[.int (j:Int),.ref sf,.ref lo,.int no]/\j<13/\Bs t H sf lo n h no/\Nws t H j E
theorem zB7 {R J : Nat} (e : R = J + 1) {A : Prop} {P : Nat → Option Addr → Hp → Prop} (h : ∀ od H', P J od H') : (R = 0 → A) ∧ ∀ j od H', R = j + 1 → P j od H' :=
  ⟨fun z => by omega, fun j od H' hj => by obtain rfl : j = J := by omega
                                           exact h od H'⟩
theorem ok_w_bring (T:Txt K mg t):FnOk P w K mg base (CXD P w) 11 t.bF t.bU ["_law_which","_law_stiff","_law_loose","_law_notch"] (zH2 K t):=by
 have Gbh:FnOk P w K mg base (CXD P w) 4 t.bo t.bI ["self"] (zA4 K t):=ok_Play_back T
 have Gbj:FnOk P w K mg base (CXD P w) 4 t.bp t.bJ ["text"] (zA2 K t):=ok_read_move T
 have Gbk:FnOk P w K mg base (CXD P w) 5 t.aP t.a2 ["self","notches","room","hefts","limit"] (zw3 K t):=ok_BeamB_init T
 have Gbl:FnOk P w K mg base (CXD P w) 5 t.bA t.bK ["beam","standing"] (zP8 K t):=ok_tiltB T
 have Ga9:FnOk P w K mg base (CXD P w) 6 t.bM t.bW ["beam","standing","move"] (zG3 K t):=zP3 T
 have Gbm:FnOk P w K mg base (CXD P w) 5 t.aV t.ba ["beam","start","goal"] (zG9 K t):=ok_fewestS T
 have Gbn:FnOk P w K mg base (CXD P w) 6 t.aQ t.a3 ["beam","start","goal"] (zw4 K t):=ok_next_moveG T
 have Gbo:FnOk P w K mg base (CXD P w) 10 t.aQ t.a3 ["beam","start","goal"] (zA1 K t):=ok_next_move T
 have Gbp:FnOk P w K mg base CX0 5 t.a4 t.bn ["self","beam","start"] (zr9 K t):=zA0 T
 refine T.hY.d.okD (CX:=CX0) sc_w_bring (fun vs H Q E h=>?_) (fun cdv A outer s H vs Q E hr h=>?_)
 . obtain⟨j,sf,lo,n,h,no,rfl,hj,B,qe⟩:=h
   rfl
 . obtain⟨j,sf,lo,n,h,no,rfl,hj,B,qe⟩:=h
   have hbh:Room 4 _:=hr.mono (by decide)
   have hbj:Room 4 _:=hr.mono (by decide)
   have hbq:Room 6 _:=hr.mono (by decide)
   have hbl:Room 5 _:=hr.mono (by decide)
   have ha9:Room 6 _:=hr.mono (by decide)
   have hbm:Room 5 _:=hr.mono (by decide)
   have hbn:Room 6 _:=hr.mono (by decide)
   have hbo:Room 10 _:=hr.mono (by decide)
   have hbr:Room 6 _:=hr.mono (by decide)
   refine⟨_,(za4 (zd2 (zc7 zm1 (pv 0) za8 (zd1 _)) (za6 (zc8 (zb0 Gbj hbj rfl T.hv T.hw T.hu .nil zc5 (za0 ze1 za1)))) zb7)
     (za4 (zd2 (zc7 zm1 (pv 0) za8 (zd1 _)) (za6 (zc8 (zr5 T.cV Gbk hbq rfl T.eS T.aE .nil zc5 (za0 za8 (za0 za8 (za0 (zc4 za1) (za0 za8 za1))))))) zb7)
     (za4 (zd2 (zc7 zm1 (pv 0) za8 (zd1 _)) (za6 (zc8 (zb0 Gbl hbl rfl T.eN T.eO T.eM .nil zc5 (za0 (pv 1) (za0 (zc4 (za0 za8 (za0 za8 (za0 za8 za1)))) za1))))) zb7)
     (za4 (zd2 (zc7 zm1 (pv 0) za8 (zd1 _)) (za6 (zc8 (zb0 Ga9 ha9 rfl T.au T.av T.ar .nil zc5 (za0 (pv 2) (za0 (zc4 (za0 za8 (za0 za8 za1))) (za0 (zc4 (za0 za8 (za0 za8 (za0 (pv 3) za1)))) za1)))))) zb7)
     (za4 (zd2 (zc7 zm1 (pv 0) za8 (zd1 _)) (za6 (zc8 (zb0 Ga9 ha9 rfl T.au T.av T.ar .nil zc5 (za0 (pv 2) (za0 (zc4 (za0 za8 (za0 za8 za1))) (za0 (zc4 (za0 za8 (za0 za8 (za0 za8 za1)))) za1)))))) zb7)
     (za4 (zd2 (zc7 zm1 (pv 0) za8 (zd1 _)) (za6 (zc8 (zb0 Ga9 ha9 rfl T.au T.av T.ar .nil zc5 (za0 (pv 2) (za0 (zc4 (za0 (pv 3) (za0 za8 za1))) (za0 (zc4 (za0 za8 (za0 (pv 3) (za0 (pv 3) za1)))) za1)))))) zb7)
     (za4 (zd2 (zc7 zm1 (pv 0) za8 (zd1 _)) (za6 (zc8 (zb0 Ga9 ha9 rfl T.au T.av T.ar .nil zc5 (za0 (pv 2) (za0 (zc4 (za0 (pv 3) (za0 za8 za1))) (za0 (zc4 (za0 za8 (za0 za8 (za0 (pv 3) za1)))) za1)))))) zb7)
     (za4 (zd2 (zc7 zm1 (pv 0) za8 (zd1 _)) (za6 (zc8 (zb0 Ga9 ha9 rfl T.au T.av T.ar .nil zc5 (za0 (pv 1) (za0 (zc4 (za0 (pv 3) (za0 (zB9 zs9 (pv 3)) za1))) (za0 (zc4 (za0 za8 (za0 (zB9 zs9 (pv 3)) (za0 za8 za1)))) za1)))))) zb7)
     (za4 (zd2 (zc7 zm1 (pv 0) za8 (zd1 _)) (za6 (zc8 (zb0 Ga9 ha9 rfl T.au T.av T.ar .nil zc5 (za0 (pv 1) (za0 (zc4 (za0 za8 (za0 za8 za1))) (za0 (zc4 (za0 za8 (za0 za8 (za0 (pv 3) za1)))) za1)))))) zb7)
     (za4 (zd2 (zc7 zm1 (pv 0) za8 (zd1 _)) (za6 (zc8 (zb0 Gbm hbm rfl T.bl T.bm T.bk .nil zc5 (za0 (pv 1) (za0 (zc4 (za0 (pv 3) (za0 za8 za1))) (za0 (zc4 (za0 za8 (za0 (pv 3) za1))) za1)))))) zb7)
     (za4 (zd2 (zc7 zm1 (pv 0) za8 (zd1 _)) (za6 (zc8 (zb0 Gbn hbn rfl T.cg T.ch T.cf .nil zc5 (za0 (pv 1) (za0 (zc4 (za0 za8 (za0 za8 za1))) (za0 (zc4 (za0 za8 (za0 (pv 3) za1))) za1)))))) zb7)
     (za4 (zd2 (zc7 zm1 (pv 0) za8 (zd1 _)) (za6 (zc8 (zb0 Gbo hbo rfl T.cg T.ch T.cf .nil zc5 (za0 (pv 1) (za0 (zc4 (za0 za8 (za0 za8 za1))) (za0 (zc4 (za0 (pv 3) (za0 (zB9 zs9 (pv 3)) za1))) za1)))))) zb7)
     (za6 (zc8 (pe_meth0 (zr5 T.gq Gbp hbr rfl T.hd T.ci .nil zb4 (za0 (pv 1) (za0 (zc4 (za0 za8 (za0 za8 za1))) za1))) T.ak T.he Gbh hbh T.hs .nil zc5))))))))))))))),?_⟩
   refine cut13 ?_
   intro rr13 rr12 rr11 rr10 rr9 rr8 rr7 rr6 rr5 rr4 rr3 rr2
   have hn:=B.n1
   have hh:=B.h1
   have h0:=B.o
   have ho:=B.o1
   have v00:zg3 n 1 2 [0,0]:=zB6 (by omega) (by omega) (fun _=>rfl)
   have v10:zg3 n 1 2 [no,0]:=zB6 ho (by omega) (fun z=>absurd z h0)
   have v01:zg3 n 1 2 [0,no]:=zB6 (by omega) ho (fun z=>rfl)
   have v11:zg3 n 1 2 [no,-no]:=zB6 ho (by omega) (fun z=>by omega)
   have t00:absI (zg5 [h,h] [0,0])<=0:=by rw[zw6,Int.mul_zero];decide
   have t10:0<absI (zg5 [h,h] [no,0]):=by rw[zw6,Int.mul_zero,Int.add_zero];exact zA5 (zH1 hh.1 h0)
   have t01:0<absI (zg5 [h,h] [0,no]):=by rw[zw6,Int.mul_zero,Int.zero_add];exact zA5 (zH1 hh.1 h0)
   have t11:absI (zg5 [h,h] [no,-no])<=0:=by rw[zw6,Int.mul_neg,Int.add_right_neg];decide
   match j,hj with
   | 0,_ =>
     refine⟨_,rfl,rfl,_,rfl,iteA (by decide) ?_⟩
     exact⟨rfl,fun od H' tl=>qe od H' _ tl⟩
   | 1,_ =>
     iterate 1 refine⟨_,rfl,rfl,_,rfl,iteB (by decide) ?_⟩
     refine⟨_,rfl,rfl,_,rfl,iteA (by decide) ?_⟩
     exact⟨Nat.zero_le _,fun l H1 s1 f1 h1 p dx fp fdx ndx=>⟨p,l,1,0,rfl,fun od H' tl=>qe od H' _ (tl.from (s1.trans ((Same.upd fdx).updT (by rw[za7 (Ne.symm ndx)];exact fp))))⟩⟩
   | 2,_ =>
     iterate 2 refine⟨_,rfl,rfl,_,rfl,iteB (by decide) ?_⟩
     refine⟨_,rfl,rfl,_,rfl,iteA (by decide) ?_⟩
     exact⟨_,rfl,(by show 3<=sizeLine;decide),fun l H1 s1 f1 h1=>⟨sf,l,n,1,0,[h,h],[0,0,0],rfl,B.s.same s1,SqL.of h1,(show(3:Nat)≠2 by decide),fun od H' tl=>qe od H' _ (tl.from s1)⟩⟩
   | 3,_ =>
     iterate 3 refine⟨_,rfl,rfl,_,rfl,iteB (by decide) ?_⟩
     refine⟨_,rfl,rfl,_,rfl,iteA (by decide) ?_⟩
     refine⟨_,rfl,(by show 2<=sizeLine;decide),fun l1 H1 s1 f1 h1=>⟨_,rfl,(by show 3<=sizeLine;decide),fun l2 H2 s2 f2 h2=>⟨lo,l1,l2,n,1,400,3,0,no,[h,h],[0,0],rfl,B.l.same (s1.trans s2),v00,.inl (SqL.of (s2 _ _ h1)),.inl (SqL.of h2),zB7 (rf3 hn hh h0 ho 400) fun od H' tl=>qe od H' _ (tl.from (s1.trans s2))⟩⟩⟩
   | 4,_ =>
     iterate 4 refine⟨_,rfl,rfl,_,rfl,iteB (by decide) ?_⟩
     refine⟨_,rfl,rfl,_,rfl,iteA (by decide) ?_⟩
     refine⟨_,rfl,(by show 2<=sizeLine;decide),fun l1 H1 s1 f1 h1=>⟨(by show 3<=sizeLine;decide),fun l2 H2 s2 f2 h2=>⟨lo,l1,l2,n,1,400,1,0,5,[h,h],[0,0],rfl,B.l.same (s1.trans s2),v00,.inl (SqL.of (s2 _ _ h1)),.inl (SqL.of h2),zB7 (rf4 hn hh h0 ho 400) fun od H' tl=>qe od H' _ (tl.from (s1.trans s2))⟩⟩⟩
   | 5,_ =>
     iterate 5 refine⟨_,rfl,rfl,_,rfl,iteB (by decide) ?_⟩
     refine⟨_,rfl,rfl,_,rfl,iteA (by decide) ?_⟩
     refine⟨_,rfl,_,rfl,(by show 2<=sizeLine;decide),fun l1 H1 s1 f1 h1=>⟨_,rfl,_,rfl,(by show 3<=sizeLine;decide),fun l2 H2 s2 f2 h2=>⟨lo,l1,l2,n,1,400,1,no,no,[h,h],[no,0],rfl,B.l.same (s1.trans s2),v10,.inl (SqL.of (s2 _ _ h1)),.inl (SqL.of h2),zB7 (rf5 hn hh h0 ho 400) fun od H' tl=>qe od H' _ (tl.from (s1.trans s2))⟩⟩⟩
   | 6,_ =>
     iterate 6 refine⟨_,rfl,rfl,_,rfl,iteB (by decide) ?_⟩
     refine⟨_,rfl,rfl,_,rfl,iteA (by decide) ?_⟩
     refine⟨_,rfl,_,rfl,(by show 2<=sizeLine;decide),fun l1 H1 s1 f1 h1=>⟨_,rfl,(by show 3<=sizeLine;decide),fun l2 H2 s2 f2 h2=>⟨lo,l1,l2,n,1,400,2,0,no,[h,h],[no,0],rfl,B.l.same (s1.trans s2),v10,.inl (SqL.of (s2 _ _ h1)),.inl (SqL.of h2),zB7 (rf6 hn hh h0 ho 400) fun od H' tl=>qe od H' _ (tl.from (s1.trans s2))⟩⟩⟩
   | 7,_ =>
     iterate 7 refine⟨_,rfl,rfl,_,rfl,iteB (by decide) ?_⟩
     refine⟨_,rfl,rfl,_,rfl,iteA (by decide) ?_⟩
     refine⟨_,rfl,_,rfl,_,rfl,_,rfl,(by show 2<=sizeLine;decide),fun l1 H1 s1 f1 h1=>⟨_,rfl,_,rfl,(by show 3<=sizeLine;decide),fun l2 H2 s2 f2 h2=>⟨sf,l1,l2,n,1,0,2,-no,0,[h,h],[no,-no],rfl,B.s.same (s1.trans s2),v11,.inl (SqL.of (s2 _ _ h1)),.inl (SqL.of h2),zB7 (rf7 hn hh h0 ho) fun od H' tl=>qe od H' _ (tl.from (s1.trans s2))⟩⟩⟩
   | 8,_ =>
     iterate 8 refine⟨_,rfl,rfl,_,rfl,iteB (by decide) ?_⟩
     refine⟨_,rfl,rfl,_,rfl,iteA (by decide) ?_⟩
     refine⟨_,rfl,(by show 2<=sizeLine;decide),fun l1 H1 s1 f1 h1=>⟨_,rfl,(by show 3<=sizeLine;decide),fun l2 H2 s2 f2 h2=>⟨sf,l1,l2,n,1,0,1,0,no,[h,h],[0,0],rfl,B.s.same (s1.trans s2),v00,.inl (SqL.of (s2 _ _ h1)),.inl (SqL.of h2),zB7 (rf8 hn hh h0 ho) fun od H' tl=>qe od H' _ (tl.from (s1.trans s2))⟩⟩⟩
   | 9,_ =>
     iterate 9 refine⟨_,rfl,rfl,_,rfl,iteB (by decide) ?_⟩
     refine⟨_,rfl,rfl,_,rfl,iteA (by decide) ?_⟩
     refine⟨_,rfl,_,rfl,(by show 2<=sizeLine;decide),fun l1 H1 s1 f1 h1=>⟨_,rfl,(by show 2<=sizeLine;decide),fun l2 H2 s2 f2 h2=>⟨sf,l1,l2,n,1,0,[h,h],[no,0],[0,no],rfl,B.s.same (s1.trans s2),v10,v01,.inl (SqL.of (s2 _ _ h1)),.inl (SqL.of h2),t10,fun od H' tl=>qe od H' _ (tl.from (s1.trans s2))⟩⟩⟩
   | 10,_ =>
     iterate 10 refine⟨_,rfl,rfl,_,rfl,iteB (by decide) ?_⟩
     refine⟨_,rfl,rfl,_,rfl,iteA (by decide) ?_⟩
     refine⟨_,rfl,(by show 2<=sizeLine;decide),fun l1 H1 s1 f1 h1=>⟨_,rfl,(by show 2<=sizeLine;decide),fun l2 H2 s2 f2 h2=>⟨sf,l1,l2,n,1,0,[h,h],[0,0],[0,no],rfl,B.s.same (s1.trans s2),v00,v01,.inl (SqL.of (s2 _ _ h1)),.inl (SqL.of h2),⟨t00,t01⟩,fun od H' tl=>qe od H' _ (tl.from (s1.trans s2))⟩⟩⟩
   | 11,_ =>
     iterate 11 refine⟨_,rfl,rfl,_,rfl,iteB (by decide) ?_⟩
     refine⟨_,rfl,rfl,_,rfl,iteA (by decide) ?_⟩
     refine⟨_,rfl,(by show 2<=sizeLine;decide),fun l1 H1 s1 f1 h1=>⟨_,rfl,_,rfl,_,rfl,(by show 2<=sizeLine;decide),fun l2 H2 s2 f2 h2=>⟨sf,l1,l2,n,1,0,[h,h],[0,0],[no,-no],rfl,B.s.same (s1.trans s2),v00,v11,.inl (SqL.of (s2 _ _ h1)),.inl (SqL.of h2),⟨t00,t11⟩,fun d=>no_dst hh h0 d,fun od H' tl=>qe od H' _ (tl.from (s1.trans s2))⟩⟩⟩
   | 12,_ =>
     iterate 12 refine⟨_,rfl,rfl,_,rfl,iteB (by decide) ?_⟩
     refine⟨_,rfl,(by show 2<=sizeLine;decide),fun l1 H1 s1 f1 h1 p dx fp fdx ndx=>?_⟩
     have sp:Same H1 (upd (upd H1 dx (.own p)) p (.ins t.ar dx [])):=(Same.upd fdx).updT (by rw[za7 (Ne.symm ndx)];exact fp)
     have hp:(upd (upd H1 dx (.own p)) p (.ins t.ar dx [])) p=some (.ins t.ar dx []):=za5
     revert sp hp
     generalize upd (upd H1 dx (.own p)) p (.ins t.ar dx [])=H2
     intro sp hp
     have B1:=B.s.same s1
     have nbp:sf≠p:=fun z=>by obtain⟨_,_,_,hb,_⟩:=B1;rw[z,fp] at hb;cases hb
     refine⟨p,sf,l1,dx,n,1,0,[h,h],[0,0],rfl,hp,nbp,B1.same sp,v00,.inl (SqL.of (sp _ _ h1)),t00,fun H3 s0 m x3 fm P3=>?_⟩
     have s3:Same H H3:=fun c o e=>x3 c o (sp _ _ (s1 _ _ e)) (zb2 (s1 _ _ e) fp)
     obtain⟨dxp,hp3⟩:=P3.hp
     exact⟨rfl,p,dxp,_,rfl,hp3,pf_back _ _ _ _,p,sf,s0,s0,m,n,1,0,[h,h],[0,0],[0,0],[],rfl,P3,fun od H' tl=>qe od H' _ (tl.from s3)⟩
   | j+13,h=>exact absurd h (by omega)
noncomputable def zC7 (K:W.Frag)(t:Adr):Sp:=fun vs H Q _=>∃(sf lo:Addr) (n h no:Int),vs=[.ref lo,.int no]/\Bs t H sf lo n h no/\∀p s x m ys ms H',Same H H'->zk5 t H' p lo s x m n 1 [h,h] 400 [0,0] [0,0] ys ms->ys.length=300->Q (.ref p) H'
theorem ok_w_played (T:Txt K mg t):FnOk P w K mg base CX0 8 t.bw t.bR ["_law_loose","_law_notch"] (zC7 K t):=by
 have Gbp:FnOk P w K mg base CX0 5 t.a4 t.bn ["self","beam","start"] (zr9 K t):=zA0 T
 have Gbs:FnOk P w K mg base CX0 7 t.aR t.a5 ["self","move"] (zA3 K t):=ok_Play_move T
 refine T.hI.ok zu0 (fun vs H Q E h=>?_) (fun cdv A outer s H vs Q E hr h=>?_)
 . obtain⟨sf,lo,n,h,no,rfl,B,q⟩:=h
   rfl
 . obtain⟨sf,lo,n,h,no,rfl,B,q⟩:=h
   have hbr:Room 6 _:=hr.mono (by decide)
   have hbs:Room 7 _:=hr.mono (by decide)
   refine⟨_,(za4 (zc2 (i:=2) zu0.nd rfl (Or.inl rfl) (zr5 T.gq Gbp hbr rfl T.hd T.ci .nil zb4 (za0 (pv 0) (za0 (zc4 (za0 za8 (za0 za8 za1))) za1))))
     (za4 (zr3 PassesOwn.never rfl (zu7 rfl T.aB (za0 za8 za1)) (zh9 (i:=3) zu0.nd rfl (Or.inl rfl)) (za4 (zc6 (zR0 (pv 2) T.ak T.aD Gbs hbs T.aF .nil zb4 (za0 (zc4 (za0 za8 (za0 za8 (za0 (pv 1) za1)))) za1)))
     (za6 (zc6 (zR0 (pv 2) T.ak T.aD Gbs hbs T.aF .nil zb4 (za0 (zc4 (za0 za8 (za0 (pv 1) (za0 za8 za1)))) za1))))))
     (za6 (zc8 (pv 2))))),?_⟩
   refine cut3 ?_
   intro rr3 rr2
   have hn:=B.n1
   have hh:=B.h1
   have h0:=B.o
   have ho:=B.o1
   have v00:zg3 n 1 2 [0,0]:=zB6 (by omega) (by omega) (fun _=>rfl)
   have v10:zg3 n 1 2 [no,0]:=zB6 ho (by omega) (fun z=>absurd z h0)
   have t00:absI (zg5 [h,h] [0,0])<=400:=by rw[zw6,Int.mul_zero];decide
   refine⟨_,rfl,(by show 2<=sizeLine;decide),fun l1 H1 s1 f1 h1 p dx fp fdx ndx=>?_⟩
   have sp:Same H1 (upd (upd H1 dx (.own p)) p (.ins t.ar dx [])):=(Same.upd fdx).updT (by rw[za7 (Ne.symm ndx)];exact fp)
   have hp:(upd (upd H1 dx (.own p)) p (.ins t.ar dx [])) p=some (.ins t.ar dx []):=za5
   revert sp hp
   generalize upd (upd H1 dx (.own p)) p (.ins t.ar dx [])=H2
   intro sp hp
   have B1:=B.l.same s1
   have nbp:lo≠p:=fun z=>by obtain⟨_,_,_,hb,_⟩:=B1;rw[z,fp] at hb;cases hb
   refine⟨p,lo,l1,dx,n,1,400,[h,h],[0,0],rfl,hp,nbp,B1.same sp,v00,.inl (SqL.of (sp _ _ h1)),t00,fun H3 s0 m x3 fm P3=>?_⟩
   have s3:Same H H3:=fun c o e=>x3 c o (sp _ _ (s1 _ _ e)) (zb2 (s1 _ _ e) fp)
   have fp0:H p=none:=s1.free fp
   have fm0:H m=none:=(s1.trans sp).free fm
   have two:∀ {H':Hp},zk0 p m H3 H'->Same H H':=fun {H'} z c o e=>z c o (s3 _ _ e) (zb2 e fp0) (zb2 e fm0)
   refine⟨rfl,?_⟩
   have e1:([0,0]:List Int).set ((1:Int)-1).toNat no=[no,0]:=rfl
   have e2:([no,0]:List Int).set ((1:Int)-1).toNat 0=[0,0]:=rfl
   refine⟨_,rfl,by decide,by decide,zo9 (n:=(150:Int).toNat) (fun i σ H'=>∃v x ys ms,σ=[some (.ref lo),some (.int no),some (.ref p),v]/\zk0 p m H3 H'/\zk5 t H' p lo s0 x m n 1 [h,h] 400 [0,0] [0,0] ys ms/\ys.length=2*i) ⟨none,s0,[],[],rfl,fun _ _ e _ _=>e,P3,rfl⟩ ?_ ?_⟩
   . rintro i σ H' hi ⟨v,x,ys,ms,rfl,s4,P4,hy⟩
     have hi':i<150:=by simpa using hi
     obtain⟨dx4,hp4⟩:=P4.hp
     refine⟨_,rfl,p,dx4,_,rfl,hp4,zM2 _ _ _ _,_,rfl,(by show 3<=sizeLine;decide),fun l2 H5 s5 f5 h5=>?_⟩
     refine⟨p,l2,lo,s0,x,m,n,1,400,1,0,no,[h,h],[0,0],[0,0],ys,ms,rfl,P4.same s5,v00,h5,by omega,rfA hn hh h0 ho,fun x6 t6 H6 s6 P6=>?_⟩
     rw[e1] at P6
     obtain⟨dx6,hp6⟩:=P6.hp
     refine⟨_,rfl,p,dx6,_,rfl,hp6,zM2 _ _ _ _,_,rfl,(by show 3<=sizeLine;decide),fun l7 H7 s7 f7 h7=>?_⟩
     refine⟨p,l7,lo,s0,x6,m,n,1,400,1,no,0,[h,h],[0,0],[no,0],_,_,rfl,P6.same s7,v10,h7,by rw[List.length_append];show ys.length+1<300;omega,rfB hn hh h0 ho,fun x8 t8 H8 s8 P8=>?_⟩
     rw[e2] at P8
     exact⟨_,x8,_,_,rfl,(((s4.trans (Same.two s5 p m)).trans s6).trans (Same.two s7 p m)).trans s8,P8,by rw[List.length_append,List.length_append,hy];show 2*i+1+1=2*(i+1);omega⟩
   . rintro σ H' ⟨v,x,ys,ms,rfl,s4,P4,hy⟩
     exact⟨_,rfl,q p s0 x m ys ms H' (two s4) P4 (by simpa using hy)⟩
noncomputable def zH3 (K:W.Frag)(t:Adr):Sp:=fun vs H Q _=>∃(wh:Nat) (sf lo p:Addr) (n h no:Int) (s x m:Addr) (ys:List V) (ms:List (List Int)),vs=[.int (wh:Int),.ref sf,.ref lo,.ref p,.int no]/\wh<14/\Bs t H sf lo n h no/\zk5 t H p lo s x m n 1 [h,h] 400 [0,0] [0,0] ys ms/\ys.length=300/\∀l H',Same H H'->H' l=some (.lst (zZ2 wh))->Q (.ref l) H'
theorem ok_w_flags (T:Txt K mg t):FnOk P w K mg base CX0 12 t.bG t.bV ["_law_which","_law_stiff","_law_loose","_law_play","_law_notch"] (zH3 K t):=by
 have Gbt:FnOk P w K mg base (CXD P w) 4 t.aR t.a5 ["self","move"] (zw5 K t):=ok_Play_moveF T
 have Gbu:FnOk P w K mg base (CXD P w) 11 t.bF t.bU ["_law_which","_law_stiff","_law_loose","_law_notch"] (zH2 K t):=ok_w_bring T
 refine T.h2.ok zj0 (fun vs H Q E h=>?_) (fun cdv A outer s H vs Q E hr h=>?_)
 . obtain⟨wh,sf,lo,p,n,h,no,s,x,m,ys,ms,rfl,hw,B,P0,hy,q⟩:=h
   rfl
 . obtain⟨wh,sf,lo,p,n,h,no,s,x,m,ys,ms,rfl,hw,B,P0,hy,q⟩:=h
   have hbt:Room 4 _:=hr.mono (by decide)
   have hbu:Room 11 _:=hr.mono (by decide)
   refine⟨_,(za4 (zc2 (i:=5) zj0.nd rfl (Or.inl rfl) (zc4 za1))
     (za4 (ps_tryD (Ex:=fun σ9 cls od H9=>∃(l0:Addr) (w9:Str),σ9=[some (.int (wh:Int)),some (.ref sf),some (.ref lo),some (.ref p),some (.int no),some (.ref l0),none]/\cls = .ref (clsF t wh)/\Told H H9 od w9) (i:=6) ⟨rfl,rfl⟩ rfl T.ae zj0.nd rfl rfl (fun _=>(za6 (zd2 (zc7 zm1 (pv 0) za8 (zd1 _)) (za6 (zc6 (pe_methS (pv 3) T.ak T.aD Gbt hbt T.aF .nil zC2 (za0 (zc4 (za0 za8 (za0 za8 (za0 (pv 4) za1)))) za1)))) (za6 (zc6 (pe_callS Gbu hbu rfl T.h0 T.h1 T.hZ .nil zC2 (za0 (pv 0) (za0 (pv 1) (za0 (pv 2) (za0 (pv 4) za1)))))))))) (fun _=>(za4 (zc2 (i:=5) zj0.nd rfl (Or.inl rfl) (zc4 (za0 (zb9 (zf5 K rfl) rfl T.ab PyProof.Rows.boot_isinstance (za0 (pv 6) (za0 (ze8 (v:=.ref t.al) rfl T.eU rfl) za1))) (za0 (zb9 (zf5 K rfl) rfl T.ab PyProof.Rows.boot_isinstance (za0 (pv 6) (za0 (ze8 (v:=.ref t.ak) rfl T.eV rfl) za1))) (za0 (zb9 (zf5 K rfl) rfl T.ab PyProof.Rows.boot_isinstance (za0 (pv 6) (za0 (ze8 (v:=.ref t.aa) rfl T.aZ rfl) za1))) (za0 (zb9 (zf5 K rfl) rfl T.ab PyProof.Rows.boot_isinstance (za0 (pv 6) (za0 (ze8 (v:=.ref t.ag) rfl T.aN rfl) za1))) za1))))))
     (za4 (zc2 (i:=5) zj0.nd rfl (Or.inl rfl) (zf9 zD4 (pv 5) (zc4 (za0 (zb9 (zf5 K rfl) rfl T.ab PyProof.Rows.boot_isinstance (za0 (pv 6) (za0 (ze8 (v:=.ref t.aj) rfl T.eT rfl) za1))) (za0 (zb9 (zf5 K rfl) rfl T.ab PyProof.Rows.boot_isinstance (za0 (pv 6) (za0 (ze8 (v:=.ref t.ae) rfl T.ck rfl) za1))) (za0 (zb9 (zf5 K rfl) rfl T.ab PyProof.Rows.boot_isinstance (za0 (pv 6) (za0 (ze8 (v:=.ref t.am) rfl T.fR rfl) za1))) za1))))))
     (za4 (zc2 (i:=5) zj0.nd rfl (Or.inl rfl) (zf9 zD4 (pv 5) (zc4 (za0 (zb9 (zf5 K rfl) rfl T.ab PyProof.Rows.boot_isinstance (za0 (pv 6) (za0 (ze8 (v:=.ref t.ac) rfl T.br rfl) za1))) (za0 (zb9 (zf5 K rfl) rfl T.ab PyProof.Rows.boot_isinstance (za0 (pv 6) (za0 (ze8 (v:=.ref t.ad) rfl T.bs rfl) za1))) (za0 (zb9 (zf5 K rfl) rfl T.ab PyProof.Rows.boot_isinstance (za0 (pv 6) (za0 (ze8 (v:=.ref t.af) rfl T.aG rfl) za1))) za1))))))
     (za4 (zc2 (i:=5) zj0.nd rfl (Or.inl rfl) (zf9 zD4 (pv 5) (zc4 (za0 (zb9 (zf5 K rfl) rfl T.ab PyProof.Rows.boot_isinstance (za0 (pv 6) (za0 (ze8 (v:=.ref t.ah) rfl T.dy rfl) za1))) (za0 (zb9 (zf5 K rfl) rfl T.ab PyProof.Rows.boot_isinstance (za0 (pv 6) (za0 (ze8 (v:=.ref t.an) rfl T.gr rfl) za1))) (za0 (zb9 (zf5 K rfl) rfl T.ab PyProof.Rows.boot_isinstance (za0 (pv 6) (za0 (ze8 (v:=.ref t.ab) rfl T.aY rfl) za1))) za1))))))
     (za6 (zc2 (i:=5) zj0.nd rfl (Or.inl rfl) (zf9 zD4 (pv 5) (zc4 (za0 (zb9 (zf5 K rfl) rfl T.ab PyProof.Rows.boot_isinstance (za0 (pv 6) (za0 (ze8 (v:=.ref t.ai) rfl T.dz rfl) za1))) (za0 (zb9 (zf5 K rfl) rfl T.ab PyProof.Rows.boot_isinstance (za0 (pv 6) (za0 (pe_bltn (v:=.ty "ValueError") rfl T.hk boot_VE rfl) za1))) za1))))))))))))
     (za6 (zc8 (pv 5))))),?_⟩
   refine cut3 ?_
   intro rr3 rr2
   refine⟨Nat.zero_le _,fun l0 H1 s1 f1 h1=>?_⟩
   refine⟨?_,fun σ' cls od H' a' hE fa=>?_⟩
   . by_cases e:wh=13
     . subst e
       refine⟨_,rfl,rfl,_,rfl,iteA (by decide) ?_⟩
       obtain⟨dxp,hp1⟩:=(P0.same s1).hp
       refine⟨_,rfl,p,dxp,_,rfl,hp1,zM2 _ _ _ _,_,rfl,(by show 3<=sizeLine;decide),fun l2 H2 s2 f2 h2=>?_⟩
       exact⟨p,l2,lo,s,x,m,n,1,400,[h,h],[0,0],[0,0],ys,ms,rfl,(P0.same s1).same s2,hy,fun od H' tl=>⟨l0,_,rfl,rfl,tl.from (s1.trans s2)⟩⟩
     . refine⟨_,rfl,rfl,_,rfl,iteB (by rw[zm3];exact decide_eq_false (by omega)) ?_⟩
       exact⟨_,rfl,_,rfl,_,rfl,_,rfl,wh,sf,lo,n,h,no,rfl,by omega,B.same s1,fun od H' w9 tl=>⟨l0,w9,rfl,rfl,tl.from s1⟩⟩
   . obtain⟨l0',w9,rfl,rfl,tl⟩:=hE
     obtain⟨sH,dx,fs,rfl,hdx,_⟩:=tl
     have ne:dx≠a':=fun z=>by rw[z,fa] at hdx;cases hdx
     obtain⟨X1,X2,k0,k1,k2,k3,k4,k5,k6,k7,k8,k9,k10,k11,k12,k13,k14⟩:=ffacts T hw
     refine⟨X2,?_⟩
     have s5:=sH.updT (o:=zx8 (.ref (clsF t wh)) a' (some dx)) fa
     have HA:(upd H' a' (zx8 (.ref (clsF t wh)) a' (some dx))) a'=_:=za5
     have HD:(upd H' a' (zx8 (.ref (clsF t wh)) a' (some dx))) dx=_:=(za7 ne).trans hdx
     revert s5 HA HD
     generalize upd H' a' (zx8 (.ref (clsF t wh)) a' (some dx))=H5
     intro s5 HA HD
     refine⟨_,rfl,a',_,dx,fs,_,_,_,rfl,.own _,HA,HD,X1,T.aP,k0,_,rfl,a',_,dx,fs,_,_,_,rfl,.own _,HA,HD,X1,T.aP,k1,_,rfl,a',_,dx,fs,_,_,_,rfl,.own _,HA,HD,X1,T.aP,k2,_,rfl,a',_,dx,fs,_,_,_,rfl,.own _,HA,HD,X1,T.aP,k3,(by show 4<=sizeLine;decide),fun l1 H6 s6 f6 h6=>?_⟩
     replace HA:=s6 _ _ HA
     replace HD:=s6 _ _ HD
     refine⟨_,rfl,_,rfl,a',_,dx,fs,_,_,_,rfl,.own _,HA,HD,X1,T.aP,k4,_,rfl,a',_,dx,fs,_,_,_,rfl,.own _,HA,HD,X1,T.aP,k5,_,rfl,a',_,dx,fs,_,_,_,rfl,.own _,HA,HD,X1,T.aP,k6,(by show 3<=sizeLine;decide),fun l2 H7 s7 f7 h7=>?_⟩
     refine⟨l1,l2,_,_,rfl,rfl,s7 _ _ h6,h7,(by show 7<=sizeLine;decide),fun l3 H8 s8 f8 h8=>?_⟩
     replace HA:=s8 _ _ (s7 _ _ HA)
     replace HD:=s8 _ _ (s7 _ _ HD)
     refine⟨_,rfl,_,rfl,a',_,dx,fs,_,_,_,rfl,.own _,HA,HD,X1,T.aP,k7,_,rfl,a',_,dx,fs,_,_,_,rfl,.own _,HA,HD,X1,T.aP,k8,_,rfl,a',_,dx,fs,_,_,_,rfl,.own _,HA,HD,X1,T.aP,k9,(by show 3<=sizeLine;decide),fun l4 H9 s9 f9 h9=>?_⟩
     refine⟨l3,l4,_,_,rfl,rfl,s9 _ _ h8,h9,(by show 10<=sizeLine;decide),fun l5 H10 s10 f10 h10=>?_⟩
     replace HA:=s10 _ _ (s9 _ _ HA)
     replace HD:=s10 _ _ (s9 _ _ HD)
     refine⟨_,rfl,_,rfl,a',_,dx,fs,_,_,_,rfl,.own _,HA,HD,X1,T.aP,k10,_,rfl,a',_,dx,fs,_,_,_,rfl,.own _,HA,HD,X1,T.aP,k11,_,rfl,a',_,dx,fs,_,_,_,rfl,.own _,HA,HD,X1,T.aP,k12,(by show 3<=sizeLine;decide),fun l6 H11 s11 f11 h11=>?_⟩
     refine⟨l5,l6,_,_,rfl,rfl,s11 _ _ h10,h11,(by show 13<=sizeLine;decide),fun l7 H12 s12 f12 h12=>?_⟩
     replace HA:=s12 _ _ (s11 _ _ HA)
     replace HD:=s12 _ _ (s11 _ _ HD)
     refine⟨_,rfl,_,rfl,a',_,dx,fs,_,_,_,rfl,.own _,HA,HD,X1,T.aP,k13,_,rfl,a',_,dx,fs,_,_,_,rfl,.ty _,HA,HD,X1,T.aP,k14,(by show 2<=sizeLine;decide),fun l8 H13 s13 f13 h13=>?_⟩
     refine⟨l7,l8,_,_,rfl,rfl,s13 _ _ h12,h13,(by show 15<=sizeLine;decide),fun l9 H14 s14 f14 h14=>?_⟩
     have sAll:=s5.trans (s6.trans (s7.trans (s8.trans (s9.trans (s10.trans (s11.trans (s12.trans (s13.trans s14))))))))
     exact⟨_,rfl,q l9 H14 sAll h14⟩
end
section
variable {P:Program} {w:World} {K:W.Frag} {mg:Str->Option Value} {base:Heap} {t:Adr}
theorem flagF_at {j k:Nat}(hk:k<14):atI (zZ2 j) (k:Int)=some (.bl (decide (j=k))):=by
 match k,hk with
 | 0,_=>rfl
 | 1,_=>rfl
 | 2,_=>rfl
 | 3,_=>rfl
 | 4,_=>rfl
 | 5,_=>rfl
 | 6,_=>rfl
 | 7,_=>rfl
 | 8,_=>rfl
 | 9,_=>rfl
 | 10,_=>rfl
 | 11,_=>rfl
 | 12,_=>rfl
 | 13,_=>rfl
 | k+14,h=>exact absurd h (by omega)
theorem ok_law (T:Txt K mg t):FnOk P w K mg base CX0 13 t.b7 t.b9 ["_law_script"] (sp_law K t):=by
 have Gbv:FnOk P w K mg base CX0 3 t.aP t.a2 ["self","notches","room","hefts","limit"] (zz5 K t):=ok_Beam_init T
 have Gbw:FnOk P w K mg base CX0 8 t.bw t.bR ["_law_loose","_law_notch"] (zC7 K t):=ok_w_played T
 have Gby:FnOk P w K mg base CX0 12 t.bG t.bV ["_law_which","_law_stiff","_law_loose","_law_play","_law_notch"] (zH3 K t):=ok_w_flags T
 have Gbz:FnOk P w K mg base CX0 1 t.b3 t.b6 ["_law_script","_law_k"] (zU2 K t):=ok_w_at T
 refine T.iI.ok zo8 (fun vs H Q E h=>?_) (fun cdv A outer s H vs Q E hr h=>?_)
 . obtain⟨a,ns,rfl,hS,hlen,q⟩:=h
   rfl
 . obtain⟨a,ns,rfl,hS,hlen,q⟩:=h
   have hbA:Room 4 _:=hr.mono (by decide)
   have hbw:Room 8 _:=hr.mono (by decide)
   have hby:Room 12 _:=hr.mono (by decide)
   have hbz:Room 1 _:=hr.mono (by decide)
   refine⟨_,(za4 (zc2 (i:=1) zo8.nd rfl (Or.inl rfl) (zf9 zs8 za8 (zf9 zK8 (zb0 Gbz hbz rfl T.bo T.bp T.bn .nil zb4 (za0 (pv 0) (za0 za8 za1))) za8)))
     (za4 (zc2 (i:=2) zo8.nd rfl (Or.inl rfl) (zf9 zs8 za8 (zf9 zK8 (zb0 Gbz hbz rfl T.bo T.bp T.bn .nil zb4 (za0 (pv 0) (za0 za8 za1))) za8)))
     (za4 (zc2 (i:=3) zo8.nd rfl (Or.inl rfl) (zf9 zw7 (zj7 zu9 (zc4 (za0 za8 (za0 (zB9 zs9 za8) za1))) (zf9 zK8 (zb0 Gbz hbz rfl T.bo T.bp T.bn .nil zb4 (za0 (pv 0) (za0 za8 za1))) za8) (fun _ _=>rfl)) (zf9 zs8 za8 (zf9 zK8 (zb0 Gbz hbz rfl T.bo T.bp T.bn .nil zb4 (za0 (pv 0) (za0 za8 za1))) (pv 1)))))
     (za4 (zc2 (i:=4) zo8.nd rfl (Or.inl rfl) (zr5 T.cV Gbv hbA rfl T.eS T.aE .nil zb4 (za0 (pv 1) (za0 za8 (za0 (zc4 (za0 (pv 2) (za0 (pv 2) za1))) (za0 za8 za1))))))
     (za4 (zc2 (i:=5) zo8.nd rfl (Or.inl rfl) (zr5 T.cV Gbv hbA rfl T.eS T.aE .nil zb4 (za0 (pv 1) (za0 za8 (za0 (zc4 (za0 (pv 2) (za0 (pv 2) za1))) (za0 za8 za1))))))
     (za4 (zc2 (i:=6) zo8.nd rfl (Or.inl rfl) (zb0 Gbw hbw rfl T.hK T.hL T.hJ .nil zb4 (za0 (pv 5) (za0 (pv 3) za1))))
     (za4 (zr3 PassesOwn.never rfl (zu7 rfl T.aB (za0 za8 za1)) (zh9 (i:=7) zo8.nd rfl (Or.inl rfl)) (za4 (zc2 (i:=8) zo8.nd rfl (Or.inl rfl) (zb0 Gby hby rfl T.h4 T.h5 T.h3 .nil zb4 (za0 (pv 7) (za0 (pv 4) (za0 (pv 5) (za0 (pv 6) (za0 (pv 3) za1)))))))
     (za4 (zd2 (PW.pt (pw_or (zc7 zx2 (zb9 zc3 rfl T.al PySem.boot_len (za0 (pv 8) za1)) za8 (zd1 _)) (pw_or1 (zo5 (zg8 (zj7 zu9 (pv 8) za8 (fun _ _=>rfl))))))) (za6 (zc8 zM4)) zb7)
     (za6 (zr3 PassesOwn.never rfl (zu7 rfl T.aB (za0 za8 za1)) (zh9 (i:=9) zo8.nd rfl (Or.inl rfl)) (za6 (zd2 (zc7 zx2 (zj7 zu9 (pv 8) (pv 9) (fun _ _=>rfl)) (zu8 zm1 (pv 9) (pv 7) (zd1 _)) (zd1 _)) (za6 (zc8 zM4)) zb7)))))))
     (za6 (zc8 zM4))))))))),?_⟩
   refine cut8 ?_
   intro rr8 rr7 rr6 rr5 rr4 rr3 rr2
   refine⟨_,rfl,a,ns,0,rfl,hS,_,_,rfl,rfl,(by show(0:Int)<4;decide),_,_,rfl,rfl,?_⟩
   refine⟨_,rfl,a,ns,1,rfl,hS,_,_,rfl,rfl,(by show(0:Int)<20;decide),_,_,rfl,rfl,?_⟩
   have hn:1<=1+ns.getD 0 0 % 4/\1+ns.getD 0 0 % 4<=4:=by omega
   have hh:1<=1+ns.getD 1 0 % 20/\1+ns.getD 1 0 % 20<=20:=by omega
   dsimp only
   generalize 1+ns.getD 0 0 % 4=n at hn ⊢
   generalize 1+ns.getD 1 0 % 20=h at hh ⊢
   refine⟨_,rfl,(by show 2<=sizeLine;decide),fun l1 H1 s1 f1 h1=>?_⟩
   have hd:∃d:Int,atI [V.int 1,V.int (-1)] (ns.getD 2 0 % 2)=some (.int d)/\(d=1\/d = -1):=by
     rcases(show ns.getD 2 0 % 2=0\/ns.getD 2 0 % 2=1 by omega) with e | e
     . rw[e];exact⟨1,rfl,.inl rfl⟩
     . rw[e];exact⟨-1,rfl,.inr rfl⟩
   obtain⟨d,hd1,hd2⟩:=hd
   refine⟨_,rfl,a,ns,2,rfl,s1.seq hS,_,_,rfl,rfl,(by show(0:Int)<2;decide),l1,_,_,_,rfl,rfl,SqL.of h1,hd1,?_⟩
   refine⟨_,rfl,a,ns,3,rfl,s1.seq hS,_,rfl,_,_,rfl,rfl,(by show 0<n;omega),_,_,rfl,rfl,_,_,rfl,rfl,.inl ⟨by rcases hd2 with e | e<;>rw[e]<;>decide,by rcases hd2 with e | e<;>rw[e]<;>decide⟩,?_⟩
   have hno:d*(1+ns.getD 3 0 % n)≠0/\-n<=d*(1+ns.getD 3 0 % n)/\d*(1+ns.getD 3 0 % n)<=n:=by
     have a1:=Int.emod_nonneg (ns.getD 3 0) (show n≠0 by omega)
     have a2:=Int.emod_lt_of_pos (ns.getD 3 0) (show 0<n by omega)
     rcases hd2 with e | e<;>rw[e]<;>omega
   dsimp only
   generalize d*(1+ns.getD 3 0 % n)=no at hno ⊢
   have okb:∀L,0<=L->L<=400->zG0 n 1 [h,h] L:=fun L z1 z2=>by
     refine⟨hn.1,hn.2,by decide,by decide,z1,z2,(by show 2<=5;decide),fun x hx=>?_,?_⟩
     . have:x=h:=by simpa using hx
       omega
     . show(2*n+1) ^ 2<=1000
       have:(2*n+1)*(2*n+1)<=9*9:=Int.mul_le_mul (by omega) (by omega) (by omega) (by omega)
       rw[Int.pow_succ,Int.pow_succ,Int.pow_zero,Int.one_mul]
       omega
   refine⟨_,rfl,_,rfl,_,rfl,(by show 2<=sizeLine;decide),fun l2 H2 s2 f2 h2 b dx fb fdx ndx=>?_⟩
   have s3:Same H2 (upd (upd H2 dx (.own b)) b (.ins t.aW dx [])):=(Same.upd fdx).updT (by rw[za7 (Ne.symm ndx)];exact fb)
   refine⟨b,dx,l2,n,1,0,[h,h],rfl,za5,.inl (SqL.of (s3 _ _ h2)),okb 0 (by decide) (by decide),fun H3 B3 x3=>⟨rfl,?_⟩⟩
   have s23:Same H2 H3:=fun c o e=>x3 c o (s3 c o e) (zb2 e fb)
   have s03:Same H H3:=s1.trans (s2.trans s23)
   clear s3 x3
   refine⟨_,rfl,_,rfl,_,rfl,(by show 2<=sizeLine;decide),fun l4 H4 s4 f4 h4 b2 dx2 fb2 fdx2 ndx2=>?_⟩
   have s5:Same H4 (upd (upd H4 dx2 (.own b2)) b2 (.ins t.aW dx2 [])):=(Same.upd fdx2).updT (by rw[za7 (Ne.symm ndx2)];exact fb2)
   refine⟨b2,dx2,l4,n,1,400,[h,h],rfl,za5,.inl (SqL.of (s5 _ _ h4)),okb 400 (by decide) (by decide),fun H5 B5 x5=>⟨rfl,?_⟩⟩
   have s35:Same H3 H5:=fun c o e=>x5 c o (s5 c o (s4 _ _ e)) (zb2 (s4 _ _ e) fb2)
   have Bq:Bs t H5 b b2 n h no:=⟨B3.same s35,B5,hn,hh,hno.1,hno.2⟩
   clear s5 x5
   refine⟨_,rfl,_,rfl,b,b2,n,h,no,rfl,Bq,fun p s x m ys ms H6 s6 P6 hy=>?_⟩
   replace Bq:=Bq.same s6
   refine⟨_,rfl,by decide,by decide,zo9 (n:=(14:Int).toNat) (fun i σ H'=>∃v8 v9 v10,σ=[some (.ref a),some (.int n),some (.int h),some (.int no),some (.ref b),some (.ref b2),some (.ref p),v8,v9,v10]/\Same H6 H') ⟨none,none,none,rfl,Same.refl _⟩ ?_ ?_⟩
   . rintro i σ H' hi ⟨v8,v9,v10,rfl,s7⟩
     have hi':i<14:=by simpa using hi
     have e0:∀j:Nat,(0:Int)+(j:Int)=(j:Int):=fun j=>by omega
     rw[e0]
     refine⟨_,rfl,_,rfl,_,rfl,_,rfl,_,rfl,i,b,b2,p,n,h,no,s,x,m,ys,ms,rfl,hi',Bq.same s7,P6.same s7,hy,fun l H8 s8 h8=>?_⟩
     refine⟨_,rfl,l,_,rfl,.inl (SqL.of h8),rfl,_,rfl,iteB rfl ?_⟩
     refine⟨_,rfl,l,_,_,_,rfl,rfl,SqL.of h8,rfl,_,rfl,iteF ?_⟩
     refine⟨_,rfl,by decide,by decide,zo9 (n:=(14:Int).toNat) (fun k σ H'=>∃v10,σ=[some (.ref a),some (.int n),some (.int h),some (.int no),some (.ref b),some (.ref b2),some (.ref p),some (.int (i:Int)),some (.ref l),v10]/\H'=H8) ⟨v10,rfl,rfl⟩ ?_ ?_⟩
     . rintro k σ H9 hk ⟨v10,rfl,rfl⟩
       have hk':k<14:=by simpa using hk
       rw[e0]
       refine⟨_,rfl,_,rfl,l,_,_,_,rfl,rfl,SqL.of h8,flagF_at hk',_,rfl,_,rfl,rfl,rfl,_,rfl,?_⟩
       rw[zm3]
       refine iteB ?_ ⟨_,rfl,rfl⟩
       by_cases e:i=k
       . subst e
         rw[decide_eq_true (p:=((i:Int)=(i:Int))) rfl,decide_eq_true (p:=(i=i)) rfl]
         rfl
       . rw[decide_eq_false e,decide_eq_false (p:=((k:Int)=(i:Int))) (by omega)]
         rfl
     . rintro σ H9 ⟨v10,rfl,rfl⟩
       exact⟨_,_,_,rfl,s7.trans s8⟩
   . rintro σ H' ⟨v8,v9,v10,rfl,s7⟩
     exact q _
end
theorem ar1 {us:List Value}(h:us.length=1):∃x0,us=[x0]:=by
 match us,h with
 | [a0],_=>exact⟨a0,rfl⟩
theorem ar2 {us:List Value}(h:us.length=2):∃x0 x1,us=[x0,x1]:=by
 match us,h with
 | [a0,a1],_=>exact⟨a0,a1,rfl⟩
theorem ar3 {us:List Value}(h:us.length=3):∃x0 x1 x2,us=[x0,x1,x2]:=by
 match us,h with
 | [a0,a1,a2],_=>exact⟨a0,a1,a2,rfl⟩
theorem ar4 {us:List Value}(h:us.length=4):∃x0 x1 x2 x3,us=[x0,x1,x2,x3]:=by
 match us,h with
 | [a0,a1,a2,a3],_=>exact⟨a0,a1,a2,a3,rfl⟩
theorem ar5 {us:List Value}(h:us.length=5):∃x0 x1 x2 x3 x4,us=[x0,x1,x2,x3,x4]:=by
 match us,h with
 | [a0,a1,a2,a3,a4],_=>exact⟨a0,a1,a2,a3,a4,rfl⟩
theorem ar7 {us:List Value}(h:us.length=7):∃x0 x1 x2 x3 x4 x5 x6,us=[x0,x1,x2,x3,x4,x5,x6]:=by
 match us,h with
 | [a0,a1,a2,a3,a4,a5,a6],_=>exact⟨a0,a1,a2,a3,a4,a5,a6,rfl⟩
theorem all_mk {l:W.OpenLaw} {w:World} {K:W.Frag} {h:Heap} {mg:Str->Option Value} {fa:Addr} (X:K.In h) (G:h.Ns mainGlobals mg) (hfa:mg "law" = some (.ref fa))
   {mc c3 c4 c5 bq c6:Value} {md c7:Option Addr} {me:Array (Option Value)} {aU:Addr}
   {bH:Addr} {mf:Value} {mh:Option Addr} {mi:Nat} {mj:Array (Option Value)} {mk ml:Value}
   {nr dK dL dM bI dN:Value} {ns dO:Option Addr} {nt:Array (Option Value)} {a4:Addr}
   {bS:Addr} {nu:Value} {nv:Option Addr} {nw:Nat} {nx:Array (Option Value)} {ny:Value}
   {oj fl fm fn bT fo:Value} {ok fp:Option Addr} {ol:Array (Option Value)} {a8:Addr}
   {ck:Addr} {om:Value} {on:Option Addr} {oo:Nat} {op:Array (Option Value)} {oq:Value}
   {mm c8 c9 da br db:Value} {mn dc:Option Addr} {mo:Array (Option Value)} {a1:Addr}
   {bJ:Addr} {mp:Value} {mq:Option Addr} {mr:Nat} {ms:Array (Option Value)} {mt:Value}
   {pA gQ gR gS cl gT:Value} {pB gU:Option Addr} {pC:Array (Option Value)} {be:Addr}
   {cS:Addr} {pD:Value} {pE:Option Addr} {pF:Nat} {pG:Array (Option Value)} {pH:Value}
   {kI cA cB cC bh cD:Value} {kJ cE:Option Addr} {kK:Array (Option Value)} {aZ:Addr}
   {bs:Addr} {kL:Value} {kM:Option Addr} {kN:Nat} {kO:Array (Option Value)} {kP:Value}
   {kQ cF cG cH bi cI:Value} {kR cJ:Option Addr} {kS:Array (Option Value)} {a0:Addr}
   {bt:Addr} {kT:Value} {kU:Option Addr} {kV:Nat} {kW:Array (Option Value)} {kX:Value}
   {rr jf jg jh cT ji:Value} {rs jj:Option Addr} {rt:Array (Option Value)} {bj:Addr}
   {dP:Addr} {ru:Value} {rv:Option Addr} {rx:Nat} {ry:Array (Option Value)} {rz:Value}
   {jy b6 b7 b8 bf b9:Value} {jz ca:Option Addr} {jA:Array (Option Value)} {aX:Addr}
   {bk:Addr} {jB:Value} {jC:Option Addr} {jD:Nat} {jE:Array (Option Value)} {jF:Value}
   {os fq fr fs bU ft:Value} {ot fu:Option Addr} {ou:Array (Option Value)} {a9:Addr}
   {cm:Addr} {ov:Value} {ow:Option Addr} {ox:Nat} {oy:Array (Option Value)} {oz:Value}
   {oA fv fw fx bV fy:Value} {oB fz:Option Addr} {oC:Array (Option Value)} {ba:Addr}
   {cn:Addr} {oD:Value} {oE:Option Addr} {oF:Nat} {oG:Array (Option Value)} {oH:Value}
   {jG cb cc cd bg ce:Value} {jH cf:Option Addr} {jI:Array (Option Value)} {aY:Addr}
   {bl:Addr} {jJ:Value} {jK:Option Addr} {jL:Nat} {jM:Array (Option Value)} {jN:Value}
   {mu dd de df bu dg:Value} {mv dh:Option Addr} {mw:Array (Option Value)} {a2:Addr}
   {bK:Addr} {mx:Value} {my:Option Addr} {mz:Nat} {mA:Array (Option Value)} {mB:Value}
   {nz dQ dR dS bL dT:Value} {nA dU:Option Addr} {nB:Array (Option Value)} {a5:Addr}
   {bW:Addr} {nC:Value} {nD:Option Addr} {nE:Nat} {nF:Array (Option Value)} {nG:Value}
   {nH dV dW dX bM dY:Value} {nI dZ:Option Addr} {nJ:Array (Option Value)} {a6:Addr}
   {bX:Addr} {nK:Value} {nL:Option Addr} {nM:Nat} {nN:Array (Option Value)} {nO:Value}
   {sU sV sW sX kY sY:Value} {sZ s0:Option Addr} {s1:Array (Option Value)} {bz:Addr}
   {w8 w9 xa xb oI xc:Value} {xd xe:Option Addr} {xf:Array (Option Value)} {fA:Addr}
   {oJ oK oL oM fB oN:Value} {oO oP:Option Addr} {oQ:Array (Option Value)} {bo:Addr}
   {pI pJ pK pL gV pM:Value} {pN pO:Option Addr} {pP:Array (Option Value)} {bD:Addr}
   {kZ k0 k1 k2 cK k3:Value} {k4 k5:Option Addr} {k6:Array (Option Value)} {a7:Addr}
   {pQ pR pS pT gW pU:Value} {pV pW:Option Addr} {pX:Array (Option Value)} {bE:Addr}
   {add ade adf adg wW adh:Value} {adi adj:Option Addr} {adk:Array (Option Value)} {oR:Addr}
   {adl adm adn ado wX adp:Value} {adq adr:Option Addr} {ads:Array (Option Value)} {oS:Addr}
   {aar aas aat aau s2 aav:Value} {aaw aax:Option Addr} {aay:Array (Option Value)} {l9:Addr}
   {xg xh xi xj oT xk:Value} {xl xm:Option Addr} {xn:Array (Option Value)} {fC:Addr}
   {aaz aba abb abc s3 abd:Value} {abe abf:Option Addr} {abg:Array (Option Value)} {ma:Addr}
   {abh abi abj abk s4 abl:Value} {abm abn:Option Addr} {abo:Array (Option Value)} {mb:Addr}
   {y4 y5 y6 y7 rh y8:Value} {y9 za:Option Addr} {zb:Array (Option Value)} {ib:Addr}
   {zc zd ze zf ri zg:Value} {zh zi:Option Addr} {zj:Array (Option Value)} {ic:Addr}
   {adt adu adv adw wY adx:Value} {ady adz:Option Addr} {aea:Array (Option Value)} {oU:Addr}
   {rA rB rC rD jk rE:Value} {rF rG:Option Addr} {rH:Array (Option Value)} {bY:Addr}
   {oV oW oX oY fD oZ:Value} {o0 o1:Option Addr} {o2:Array (Option Value)} {bp:Addr}
   {s5 s6 s7 s8 k7 s9:Value} {ta tb:Option Addr} {tc:Array (Option Value)} {cv:Addr}
   {pY pZ p0 p1 gX p2:Value} {p3 p4:Option Addr} {p5:Array (Option Value)} {bF:Addr}
   {aeb aec aed aee wZ aef:Value} {aeg aeh:Option Addr} {aei:Array (Option Value)} {o3:Addr}
   {u9 va vb vc nb vd:Value} {ve vf:Option Addr} {vg:Array (Option Value)} {bZ:Addr}
   {zk zl zm zn rj zo:Value} {zp zq:Option Addr} {zr:Array (Option Value)} {id:Addr}
   {td te tf tg k8 th:Value} {ti tj:Option Addr} {tk:Array (Option Value)} {cw:Addr}
   {zs zt zu zv rk zw:Value} {zx zy:Option Addr} {zz:Array (Option Value)} {ie:Addr}
   {rI rJ rK rL jl rM:Value} {rN rO:Option Addr} {rP:Array (Option Value)} {b0:Addr}
   {zA zB zC zD rl zE:Value} {zF zG:Option Addr} {zH:Array (Option Value)} {ig:Addr}
   {p6 p7 p8 p9 gY qa:Value} {qb qc:Option Addr} {qd:Array (Option Value)} {bG:Addr}
   {tl tm tn tp k9 tq:Value} {tr ts:Option Addr} {tt:Array (Option Value)} {bA:Addr}
   {tu tv tw tx la ty:Value} {tz tA:Option Addr} {tB:Array (Option Value)} {bB:Addr}
   {tC tD tE tF lb tG:Value} {tH tI:Option Addr} {tJ:Array (Option Value)} {bC:Addr}
   {tK tL tM tN lc tO:Value} {tP tQ:Option Addr} {tR:Array (Option Value)} {cx:Addr}
   {aej aek ael aem w0 aen:Value} {aeo aep:Option Addr} {aeq:Array (Option Value)} {o4:Addr}
   {xo xp xq xr o5 xs:Value} {xt xu:Option Addr} {xv:Array (Option Value)} {fE:Addr}
   {vh vi vj vk nc vl:Value} {vm vn:Option Addr} {vo:Array (Option Value)} {dr:Addr}
   {xx xy xz xA o6 xB:Value} {xC xD:Option Addr} {xE:Array (Option Value)} {fF:Addr}
   {afj afk afl afm zI afn:Value} {afo afp:Option Addr} {afq:Array (Option Value)} {xF:Addr}
   {bb:Addr}
   {bc:Addr}
   {a3:Addr}
   {ag:Addr}
   {aj:Addr}
   {ae:Addr}
   {am:Addr}
   {ac:Addr}
   {ad:Addr}
   {an:Addr}
   {aa:Addr}
   {ak:Addr}
   {al:Addr}
   {ab:Addr}
   {af:Addr}
   {ah:Addr}
   {ai:Addr}
   {ao:Addr}
   {vp vq:Str} {xG:Addr} {vr nd:List Value} {vs:List Str} {tS:List Value} {vt:Bool} {tT:Option Bool} {vu:Option Addr} {vv vw vx vy vz:Option Value}
   {xH xI:Str} {zJ:Addr} {xJ o7:List Value} {xK:List Str} {vA:List Value} {xL:Bool} {vB:Option Bool} {xM:Option Addr} {xN xO xP xQ xR:Option Value}
   {tU tV:Str} {vC:Addr} {tW ld:List Value} {tX:List Str} {rQ:List Value} {tY:Bool} {rR:Option Bool} {tZ:Option Addr} {t0 t1 t2 t3 t4:Option Value}
   {zK zL:Str} {abp:Addr} {zM rm:List Value} {zN:List Str} {xS:List Value} {zO:Bool} {xT:Option Bool} {zP:Option Addr} {zQ zR zS zT zU:Option Value}
   {rS rT:Str} {t5:Addr} {rU jm:List Value} {rV:List Str} {qe:List Value} {rW:Bool} {qf:Option Bool} {rX:Option Addr} {rY rZ r0 r1 r2:Option Value}
   {r3 r4:Str} {t6:Addr} {r5 jn:List Value} {r6:List Str} {qg:List Value} {r7:Bool} {qh:Option Bool} {r8:Option Addr} {r9 sa sb sc sd:Option Value}
   {abq abr:Str} {aer:Addr} {abt t7:List Value} {abu:List Str} {zV:List Value} {abv:Bool} {zW:Option Bool} {abw:Option Addr} {abx aby abz aca acb:Option Value}
   {qi qj:Str} {se:Addr} {qk gZ:List Value} {ql:List Str} {o8:List Value} {qm:Bool} {o9:Option Bool} {qn:Option Addr} {qo qp qq qr qs:Option Value}
   {xU xV:Str} {zX:Addr} {xW pa:List Value} {xX:List Str} {vD:List Value} {xY:Bool} {vE:Option Bool} {xZ:Option Addr} {x7 x8 x9 ya yb:Option Value}
   {yc yd:Str} {zY:Addr} {ye pb:List Value} {yf:List Str} {vF:List Value} {yg:Bool} {vG:Option Bool} {yh:Option Addr} {yi yj yk yl ym:Option Value}
   {qt qu:Str} {sf:Addr} {qv g0:List Value} {qw:List Str} {pc:List Value} {qx:Bool} {pd:Option Bool} {qy:Option Addr} {qz qA qB qC qD:Option Value}
   {t8 t9:Str} {vH:Addr} {ua le:List Value} {ub:List Str} {sg:List Value} {uc:Bool} {sh:Option Bool} {ud:Option Addr} {ue uf ug uh ui:Option Value}
   {vI vJ:Str} {yn:Addr} {vK ne:List Value} {vL:List Str} {uj:List Value} {vM:Bool} {uk:Option Bool} {vN:Option Addr} {vO vP vQ vR vS:Option Value}
   {vT vU:Str} {yo:Addr} {vV nf:List Value} {vW:List Str} {ul:List Value} {vX:Bool} {um:Option Bool} {vY:Option Addr} {vZ v0 v1 v2 v3:Option Value}
   {si:ClassData}
   {v4:ClassData}
   {v5:ClassData}
   {pe:ClassData}
   {uo:ClassData}
   {v6:ClassData}
   {sj:ClassData}
   {yp:ClassData}
   {qE:ClassData}
   {qF:ClassData}
   {sk:ClassData}
   {up:ClassData}
   {zZ:ClassData}
   {pf:ClassData}
   {uq:ClassData}
   {co:Tok}
   {fO:Tok}
   {d0:Tok}
   {cp:Tok}
   {fP:Tok}
   {bN:Tok}
   {d1:Tok}
   (afr:W.nsIn K mainGlobals "Beam" = some (some (.ref bb)))
   (agi:W.nsIn K mainGlobals "Way" = some (some (.ref bc)))
   (afs:W.nsIn K mainGlobals "Play" = some (some (.ref a3)))
   (yq:W.nsIn K mainGlobals "NoWeight" = some (some (.ref ag)))
   (z0:W.nsIn K mainGlobals "NoPlace" = some (some (.ref aj)))
   (v7:W.nsIn K mainGlobals "SamePlace" = some (some (.ref ae)))
   (acc:W.nsIn K mainGlobals "NoRoom" = some (some (.ref am)))
   (ur:W.nsIn K mainGlobals "TipsInHand" = some (some (.ref ac)))
   (ut:W.nsIn K mainGlobals "TipsBehind" = some (some (.ref ad)))
   (aes:W.nsIn K mainGlobals "NoWay" = some (some (.ref an)))
   (sl:W.nsIn K mainGlobals "NothingBack" = some (some (.ref aa)))
   (z1:W.nsIn K mainGlobals "BadText" = some (some (.ref ak)))
   (z2:W.nsIn K mainGlobals "BadBeam" = some (some (.ref al)))
   (sm:W.nsIn K mainGlobals "BadStanding" = some (some (.ref ab)))
   (v8:W.nsIn K mainGlobals "StartPast" = some (some (.ref af)))
   (yr:W.nsIn K mainGlobals "GoalPast" = some (some (.ref ah)))
   (ys:W.nsIn K mainGlobals "PlayFull" = some (some (.ref ai)))
   (v9:W.nsIn K mainGlobals "BeamError" = some (some (.ref ao)))
   (nP:W.findIn K (.ref ao) "__init__" = some (some (.ref aU)))
   (acd:W.isFn K (.ref aU)=true)
   (nQ:K.lookup aU=some ⟨mc,md,.func (W.fnOf "__init__" "BeamError.__init__" (zb1 zd6) (za9 zd6) (za2 zd6) (.ref bH) c3 c4 c5 c7 bq c6),me⟩)
   (nR:W.codeIn K bq "BeamError.__init__" = true) (bd:W.keepIn K (.ref aU)=true)
   (mC:K.lookup bH=some ⟨mf,mh,.seq #[mk,ml] mi,mj⟩)
   (fG:W.findIn K (.ref ag) "__init__" = some (some (.ref a4)))
   (pg:W.isFn K (.ref a4)=true)
   (ph:K.lookup a4=some ⟨nr,ns,.func (W.fnOf "__init__" "NoWeight.__init__" (zb1 ze2) (za9 ze2) (za2 ze2) (.ref bS) dK dL dM dO bI dN),nt⟩)
   (pi:W.codeIn K bI "NoWeight.__init__" = true) (b1:W.keepIn K (.ref a4)=true)
   (nS:K.lookup bS=some ⟨nu,nv,.seq #[ny] nw,nx⟩)
   (g1:W.findIn K (.ref aj) "__init__" = some (some (.ref a8)))
   (qG:W.isFn K (.ref a8)=true)
   (qH:K.lookup a8=some ⟨oj,ok,.func (W.fnOf "__init__" "NoPlace.__init__" (zb1 zf0) (za9 zf0) (za2 zf0) (.ref ck) fl fm fn fp bT fo),ol⟩)
   (qI:W.codeIn K bT "NoPlace.__init__" = true) (cq:W.keepIn K (.ref a8)=true)
   (pj:K.lookup ck=some ⟨om,on,.seq #[oq] oo,op⟩)
   (d2:W.findIn K (.ref ae) "__init__" = some (some (.ref a1)))
   (nT:W.isFn K (.ref a1)=true)
   (nU:K.lookup a1=some ⟨mm,mn,.func (W.fnOf "__init__" "SamePlace.__init__" (zb1 zd7) (za9 zd7) (za2 zd7) (.ref bJ) c8 c9 da dc br db),mo⟩)
   (nV:W.codeIn K br "SamePlace.__init__" = true) (bO:W.keepIn K (.ref a1)=true)
   (mD:K.lookup bJ=some ⟨mp,mq,.seq #[mt] mr,ms⟩)
   (jo:W.findIn K (.ref am) "__init__" = some (some (.ref be)))
   (sn:W.isFn K (.ref be)=true)
   (so:K.lookup be=some ⟨pA,pB,.func (W.fnOf "__init__" "NoRoom.__init__" (zb1 zf7) (za9 zf7) (za2 zf7) (.ref cS) gQ gR gS gU cl gT),pC⟩)
   (sp:W.codeIn K cl "NoRoom.__init__" = true) (cU:W.keepIn K (.ref be)=true)
   (qJ:K.lookup cS=some ⟨pD,pE,.seq #[pH] pF,pG⟩)
   (di:W.findIn K (.ref ac) "__init__" = some (some (.ref aZ)))
   (mE:W.isFn K (.ref aZ)=true)
   (mF:K.lookup aZ=some ⟨kI,kJ,.func (W.fnOf "__init__" "TipsInHand.__init__" (zb1 zd3) (za9 zd3) (za2 zd3) (.ref bs) cA cB cC cE bh cD),kK⟩)
   (mG:W.codeIn K bh "TipsInHand.__init__" = true) (bv:W.keepIn K (.ref aZ)=true)
   (lf:K.lookup bs=some ⟨kL,kM,.seq #[kP] kN,kO⟩)
   (dj:W.findIn K (.ref ad) "__init__" = some (some (.ref a0)))
   (mH:W.isFn K (.ref a0)=true)
   (mI:K.lookup a0=some ⟨kQ,kR,.func (W.fnOf "__init__" "TipsBehind.__init__" (zb1 zd4) (za9 zd4) (za2 zd4) (.ref bt) cF cG cH cJ bi cI),kS⟩)
   (mJ:W.codeIn K bi "TipsBehind.__init__" = true) (bw:W.keepIn K (.ref a0)=true)
   (lg:K.lookup bt=some ⟨kT,kU,.seq #[kX] kV,kW⟩)
   (lh:W.findIn K (.ref an) "__init__" = some (some (.ref bj)))
   (uu:W.isFn K (.ref bj)=true)
   (uv:K.lookup bj=some ⟨rr,rs,.func (W.fnOf "__init__" "NoWay.__init__" (zb1 zg4) (za9 zg4) (za2 zg4) (.ref dP) jf jg jh jj cT ji),rt⟩)
   (uw:W.codeIn K cT "NoWay.__init__" = true) (d3:W.keepIn K (.ref bj)=true)
   (sq:K.lookup dP=some ⟨ru,rv,.seq #[rz] rx,ry⟩)
   (cL:W.findIn K (.ref aa) "__init__" = some (some (.ref aX)))
   (li:W.isFn K (.ref aX)=true)
   (lj:K.lookup aX=some ⟨jy,jz,.func (W.fnOf "__init__" "NothingBack.__init__" (zb1 zc9) (za9 zc9) (za2 zc9) (.ref bk) b6 b7 b8 ca bf b9),jA⟩)
   (lk:W.codeIn K bf "NothingBack.__init__" = true) (bm:W.keepIn K (.ref aX)=true)
   (jO:K.lookup bk=some ⟨jB,jC,.seq #[jF] jD,jE⟩)
   (g2:W.findIn K (.ref ak) "__init__" = some (some (.ref a9)))
   (qK:W.isFn K (.ref a9)=true)
   (qL:K.lookup a9=some ⟨os,ot,.func (W.fnOf "__init__" "BadText.__init__" (zb1 zf1) (za9 zf1) (za2 zf1) (.ref cm) fq fr fs fu bU ft),ou⟩)
   (qM:W.codeIn K bU "BadText.__init__" = true) (cr:W.keepIn K (.ref a9)=true)
   (pk:K.lookup cm=some ⟨ov,ow,.seq #[oz] ox,oy⟩)
   (g3:W.findIn K (.ref al) "__init__" = some (some (.ref ba)))
   (qN:W.isFn K (.ref ba)=true)
   (qO:K.lookup ba=some ⟨oA,oB,.func (W.fnOf "__init__" "BadBeam.__init__" (zb1 zf2) (za9 zf2) (za2 zf2) (.ref cn) fv fw fx fz bV fy),oC⟩)
   (qP:W.codeIn K bV "BadBeam.__init__" = true) (cs:W.keepIn K (.ref ba)=true)
   (pl:K.lookup cn=some ⟨oD,oE,.seq #[oH] oF,oG⟩)
   (cM:W.findIn K (.ref ab) "__init__" = some (some (.ref aY)))
   (ll:W.isFn K (.ref aY)=true)
   (lm:K.lookup aY=some ⟨jG,jH,.func (W.fnOf "__init__" "BadStanding.__init__" (zb1 zd0) (za9 zd0) (za2 zd0) (.ref bl) cb cc cd cf bg ce),jI⟩)
   (ln:W.codeIn K bg "BadStanding.__init__" = true) (bn:W.keepIn K (.ref aY)=true)
   (jP:K.lookup bl=some ⟨jJ,jK,.seq #[jN] jL,jM⟩)
   (d4:W.findIn K (.ref af) "__init__" = some (some (.ref a2)))
   (nW:W.isFn K (.ref a2)=true)
   (nX:K.lookup a2=some ⟨mu,mv,.func (W.fnOf "__init__" "StartPast.__init__" (zb1 zd8) (za9 zd8) (za2 zd8) (.ref bK) dd de df dh bu dg),mw⟩)
   (nY:W.codeIn K bu "StartPast.__init__" = true) (bP:W.keepIn K (.ref a2)=true)
   (mK:K.lookup bK=some ⟨mx,my,.seq #[mB] mz,mA⟩)
   (fH:W.findIn K (.ref ah) "__init__" = some (some (.ref a5)))
   (pm:W.isFn K (.ref a5)=true)
   (pn:K.lookup a5=some ⟨nz,nA,.func (W.fnOf "__init__" "GoalPast.__init__" (zb1 ze3) (za9 ze3) (za2 ze3) (.ref bW) dQ dR dS dU bL dT),nB⟩)
   (po:W.codeIn K bL "GoalPast.__init__" = true) (b2:W.keepIn K (.ref a5)=true)
   (nZ:K.lookup bW=some ⟨nC,nD,.seq #[nG] nE,nF⟩)
   (fI:W.findIn K (.ref ai) "__init__" = some (some (.ref a6)))
   (pp:W.isFn K (.ref a6)=true)
   (pq:K.lookup a6=some ⟨nH,nI,.func (W.fnOf "__init__" "PlayFull.__init__" (zb1 ze4) (za9 ze4) (za2 ze4) (.ref bX) dV dW dX dZ bM dY),nJ⟩)
   (pr:W.codeIn K bM "PlayFull.__init__" = true) (b3:W.keepIn K (.ref a6)=true)
   (n0:K.lookup bX=some ⟨nK,nL,.seq #[nO] nM,nN⟩)
   (ng:W.findIn K (.ref bb) "__init__" = some (some (.ref bz)))
   (wa:W.isFn K (.ref bz)=true)
   (wb:K.lookup bz=some ⟨sU,sZ,.func (W.fnOf "__init__" "Beam.__init__" (zb1 zk6) (za9 zk6) (za2 zk6) .none sV sW sX s0 kY sY),s1⟩)
   (wc:W.codeIn K kY "Beam.__init__" = true) (fQ:W.keepIn K (.ref bz)=true)
   (rn:W.nsIn K mainGlobals "outside" = some (some (.ref fA)))
   (z3:K.lookup fA=some ⟨w8,xd,.func (W.fnOf "outside" "outside" (zb1 zn3) (za9 zn3) (za2 zn3) .none w9 xa xb xe oI xc),xf⟩)
   (z4:W.codeIn K oI "outside" = true) (lo:W.keepIn K (.ref fA)=true)
   (g4:W.nsIn K mainGlobals "check_bounds" = some (some (.ref bo)))
   (qQ:K.lookup bo=some ⟨oJ,oO,.func (W.fnOf "check_bounds" "check_bounds" (zb1 zh7) (za9 zh7) (za2 zh7) .none oK oL oM oP fB oN),oQ⟩)
   (qR:W.codeIn K fB "check_bounds" = true) (ct:W.keepIn K (.ref bo)=true)
   (jp:W.nsIn K mainGlobals "check_hefts" = some (some (.ref bD)))
   (sr:K.lookup bD=some ⟨pI,pN,.func (W.fnOf "check_hefts" "check_hefts" (zb1 zi5) (za9 zi5) (za2 zi5) .none pJ pK pL pO gV pM),pP⟩)
   (ss:W.codeIn K gV "check_hefts" = true) (cV:W.keepIn K (.ref bD)=true)
   (dk:W.nsIn K mainGlobals "check_standings" = some (some (.ref a7)))
   (mL:K.lookup a7=some ⟨kZ,k4,.func (W.fnOf "check_standings" "check_standings" (zb1 zg2) (za9 zg2) (za2 zg2) .none k0 k1 k2 k5 cK k3),k6⟩)
   (mM:W.codeIn K cK "check_standings" = true) (bx:W.keepIn K (.ref a7)=true)
   (jq:W.nsIn K mainGlobals "as_standing" = some (some (.ref bE)))
   (su:K.lookup bE=some ⟨pQ,pV,.func (W.fnOf "as_standing" "as_standing" (zb1 zi6) (za9 zi6) (za2 zi6) .none pR pS pT pW gW pU),pX⟩)
   (sv:W.codeIn K gW "as_standing" = true) (cW:W.keepIn K (.ref bE)=true)
   (z5:W.nsIn K mainGlobals "tilt" = some (some (.ref oR)))
   (aft:K.lookup oR=some ⟨add,adi,.func (W.fnOf "tilt" "tilt" (zb1 zt6) (za9 zt6) (za2 zt6) .none ade adf adg adj wW adh),adk⟩)
   (afu:W.codeIn K wW "tilt" = true) (ux:W.keepIn K (.ref oR)=true)
   (z6:W.nsIn K mainGlobals "past" = some (some (.ref oS)))
   (afv:K.lookup oS=some ⟨adl,adq,.func (W.fnOf "past" "past" (zb1 zA9) (za9 zA9) (za2 zA9) .none adm adn ado adr wX adp),ads⟩)
   (afw:W.codeIn K wX "past" = true) (uy:W.keepIn K (.ref oS)=true)
   (w1:W.nsIn K mainGlobals "keeps" = some (some (.ref l9)))
   (aet:K.lookup l9=some ⟨aar,aaw,.func (W.fnOf "keeps" "keeps" (zb1 zv2) (za9 zv2) (za2 zv2) .none aas aat aau aax s2 aav),aay⟩)
   (aeu:W.codeIn K s2 "keeps" = true) (qS:W.keepIn K (.ref l9)=true)
   (ro:W.nsIn K mainGlobals "in_hand" = some (some (.ref fC)))
   (z7:K.lookup fC=some ⟨xg,xl,.func (W.fnOf "in_hand" "in_hand" (zb1 zn4) (za9 zn4) (za2 zn4) .none xh xi xj xm oT xk),xn⟩)
   (z8:W.codeIn K oT "in_hand" = true) (lp:W.keepIn K (.ref fC)=true)
   (w2:W.nsIn K mainGlobals "moved" = some (some (.ref ma)))
   (aev:K.lookup ma=some ⟨aaz,abe,.func (W.fnOf "moved" "moved" (zb1 zv3) (za9 zv3) (za2 zv3) .none aba abb abc abf s3 abd),abg⟩)
   (aew:W.codeIn K s3 "moved" = true) (qT:W.keepIn K (.ref ma)=true)
   (w3:W.nsIn K mainGlobals "moves" = some (some (.ref mb)))
   (aex:K.lookup mb=some ⟨abh,abm,.func (W.fnOf "moves" "moves" (zb1 zo2) (za9 zo2) (za2 zo2) .none abi abj abk abn s4 abl),abo⟩)
   (aey:W.codeIn K s4 "moves" = true) (qU:W.keepIn K (.ref mb)=true)
   (uz:W.nsIn K mainGlobals "turned" = some (some (.ref ib)))
   (ace:K.lookup ib=some ⟨y4,y9,.func (W.fnOf "turned" "turned" (zb1 zp9) (za9 zp9) (za2 zp9) .none y5 y6 y7 za rh y8),zb⟩)
   (acf:W.codeIn K rh "turned" = true) (n1:W.keepIn K (.ref ib)=true)
   (uA:W.nsIn K mainGlobals "behind" = some (some (.ref ic)))
   (acg:K.lookup ic=some ⟨zc,zh,.func (W.fnOf "behind" "behind" (zb1 zq0) (za9 zq0) (za2 zq0) .none zd ze zf zi ri zg),zj⟩)
   (ach:W.codeIn K ri "behind" = true) (n2:W.keepIn K (.ref ic)=true)
   (z9:W.nsIn K mainGlobals "full" = some (some (.ref oU)))
   (afx:K.lookup oU=some ⟨adt,ady,.func (W.fnOf "full" "full" (zb1 zB0) (za9 zB0) (za2 zB0) .none adu adv adw adz wY adx),aea⟩)
   (afy:W.codeIn K wY "full" = true) (uB:W.keepIn K (.ref oU)=true)
   (lq:W.nsIn K mainGlobals "check_move" = some (some (.ref bY)))
   (uC:K.lookup bY=some ⟨rA,rF,.func (W.fnOf "check_move" "check_move" (zb1 zj4) (za9 zj4) (za2 zj4) .none rB rC rD rG jk rE),rH⟩)
   (uD:W.codeIn K jk "check_move" = true) (d5:W.keepIn K (.ref bY)=true)
   (g5:W.nsIn K mainGlobals "check_weight" = some (some (.ref bp)))
   (qV:K.lookup bp=some ⟨oV,o0,.func (W.fnOf "check_weight" "check_weight" (zb1 zh8) (za9 zh8) (za2 zh8) .none oW oX oY o1 fD oZ),o2⟩)
   (qW:W.codeIn K fD "check_weight" = true) (cu:W.keepIn K (.ref bp)=true)
   (nh:W.nsIn K mainGlobals "check_put" = some (some (.ref cv)))
   (wd:K.lookup cv=some ⟨s5,ta,.func (W.fnOf "check_put" "check_put" (zb1 zk7) (za9 zk7) (za2 zk7) .none s6 s7 s8 tb k7 s9),tc⟩)
   (we:W.codeIn K k7 "check_put" = true) (fR:W.keepIn K (.ref cv)=true)
   (jr:W.nsIn K mainGlobals "check_tilts" = some (some (.ref bF)))
   (sw:K.lookup bF=some ⟨pY,p3,.func (W.fnOf "check_tilts" "check_tilts" (zb1 zi7) (za9 zi7) (za2 zi7) .none pZ p0 p1 p4 gX p2),p5⟩)
   (sx:W.codeIn K gX "check_tilts" = true) (cX:W.keepIn K (.ref bF)=true)
   (aaa:W.nsIn K mainGlobals "puts" = some (some (.ref o3)))
   (afz:K.lookup o3=some ⟨aeb,aeg,.func (W.fnOf "puts" "puts" (zb1 zt7) (za9 zt7) (za2 zt7) .none aec aed aee aeh wZ aef),aei⟩)
   (aga:W.codeIn K wZ "puts" = true) (uE:W.keepIn K (.ref o3)=true)
   (pt:W.findIn K (.ref bc) "__init__" = some (some (.ref bZ)))
   (yt:W.isFn K (.ref bZ)=true)
   (yu:K.lookup bZ=some ⟨u9,ve,.func (W.fnOf "__init__" "Way.__init__" (zb1 zl7) (za9 zl7) (za2 zl7) .none va vb vc vf nb vd),vg⟩)
   (yv:W.codeIn K nb "Way.__init__" = true) (ih:W.keepIn K (.ref bZ)=true)
   (uF:W.nsIn K mainGlobals "fewest" = some (some (.ref id)))
   (aci:K.lookup id=some ⟨zk,zp,.func (W.fnOf "fewest" "fewest" (zb1 zq1) (za9 zq1) (za2 zq1) .none zl zm zn zq rj zo),zr⟩)
   (acj:W.codeIn K rj "fewest" = true) (n3:W.keepIn K (.ref id)=true)
   (ni:W.nsIn K mainGlobals "next_move" = some (some (.ref cw)))
   (wf:K.lookup cw=some ⟨td,ti,.func (W.fnOf "next_move" "next_move" (zb1 zk8) (za9 zk8) (za2 zk8) .none te tf tg tj k8 th),tk⟩)
   (wg:W.codeIn K k8 "next_move" = true) (fS:W.keepIn K (.ref cw)=true)
   (uG:W.nsIn K mainGlobals "search" = some (some (.ref ie)))
   (ack:K.lookup ie=some ⟨zs,zx,.func (W.fnOf "search" "search" (zb1 zq2) (za9 zq2) (za2 zq2) .none zt zu zv zy rk zw),zz⟩)
   (acl:W.codeIn K rk "search" = true) (n4:W.keepIn K (.ref ie)=true)
   (lr:W.nsIn K mainGlobals "next_layer" = some (some (.ref b0)))
   (uH:K.lookup b0=some ⟨rI,rN,.func (W.fnOf "next_layer" "next_layer" (zb1 zj5) (za9 zj5) (za2 zj5) .none rJ rK rL rO jl rM),rP⟩)
   (uI:W.codeIn K jl "next_layer" = true) (d6:W.keepIn K (.ref b0)=true)
   (uJ:W.nsIn K mainGlobals "row_to" = some (some (.ref ig)))
   (acm:K.lookup ig=some ⟨zA,zF,.func (W.fnOf "row_to" "row_to" (zb1 zq3) (za9 zq3) (za2 zq3) .none zB zC zD zG rl zE),zH⟩)
   (acn:W.codeIn K rl "row_to" = true) (n5:W.keepIn K (.ref ig)=true)
   (js:W.nsIn K mainGlobals "moved_again" = some (some (.ref bG)))
   (sy:K.lookup bG=some ⟨p6,qb,.func (W.fnOf "moved_again" "moved_again" (zb1 ze7) (za9 ze7) (za2 ze7) .none p7 p8 p9 qc gY qa),qd⟩)
   (sz:W.codeIn K gY "moved_again" = true) (cY:W.keepIn K (.ref bG)=true)
   (nj:W.findIn K (.ref a3) "__init__" = some (some (.ref bA)))
   (wh:W.isFn K (.ref bA)=true)
   (wi:K.lookup bA=some ⟨tl,tr,.func (W.fnOf "__init__" "Play.__init__" (zb1 zk9) (za9 zk9) (za2 zk9) .none tm tn tp ts k9 tq),tt⟩)
   (wj:W.codeIn K k9 "Play.__init__" = true) (fT:W.keepIn K (.ref bA)=true)
   (nk:W.findIn K (.ref a3) "move" = some (some (.ref bB)))
   (wk:W.isFn K (.ref bB)=true)
   (wl:K.lookup bB=some ⟨tu,tz,.func (W.fnOf "move" "Play.move" (zb1 zl0) (za9 zl0) (za2 zl0) .none tv tw tx tA la ty),tB⟩)
   (wm:W.codeIn K la "Play.move" = true) (cy:W.keepIn K (.ref bB)=true)
   (nl:W.findIn K (.ref a3) "back" = some (some (.ref bC)))
   (wn:W.isFn K (.ref bC)=true)
   (wo:K.lookup bC=some ⟨tC,tH,.func (W.fnOf "back" "Play.back" (zb1 zl1) (za9 zl1) (za2 zl1) .none tD tE tF tI lb tG),tJ⟩)
   (wp:W.codeIn K lb "Play.back" = true) (cz:W.keepIn K (.ref bC)=true)
   (nm:W.nsIn K mainGlobals "read_move" = some (some (.ref cx)))
   (wq:K.lookup cx=some ⟨tK,tP,.func (W.fnOf "read_move" "read_move" (zb1 zl2) (za9 zl2) (za2 zl2) .none tL tM tN tQ lc tO),tR⟩)
   (wr:W.codeIn K lc "read_move" = true) (fU:W.keepIn K (.ref cx)=true)
   (aab:W.nsIn K mainGlobals "_law_at" = some (some (.ref o4)))
   (agb:K.lookup o4=some ⟨aej,aeo,.func (W.fnOf "_law_at" "_law_at" (zb1 zB1) (za9 zB1) (za2 zB1) .none aek ael aem aep w0 aen),aeq⟩)
   (agc:W.codeIn K w0 "_law_at" = true) (uK:W.keepIn K (.ref o4)=true)
   (rp:W.nsIn K mainGlobals "_law_bring" = some (some (.ref fE)))
   (aac:K.lookup fE=some ⟨xo,xt,.func (W.fnOf "_law_bring" "_law_bring" (zb1 zn5) (za9 zn5) (za2 zn5) .none xp xq xr xu o5 xs),xv⟩)
   (aad:W.codeIn K o5 "_law_bring" = true) (ls:W.keepIn K (.ref fE)=true)
   (pu:W.nsIn K mainGlobals "_law_played" = some (some (.ref dr)))
   (yw:K.lookup dr=some ⟨vh,vm,.func (W.fnOf "_law_played" "_law_played" (zb1 zl8) (za9 zl8) (za2 zl8) .none vi vj vk vn nc vl),vo⟩)
   (yx:W.codeIn K nc "_law_played" = true) (ii:W.keepIn K (.ref dr)=true)
   (rq:W.nsIn K mainGlobals "_law_flags" = some (some (.ref fF)))
   (aae:K.lookup fF=some ⟨xx,xC,.func (W.fnOf "_law_flags" "_law_flags" (zb1 zn6) (za9 zn6) (za2 zn6) .none xy xz xA xD o6 xB),xE⟩)
   (aaf:W.codeIn K o6 "_law_flags" = true) (lt:W.keepIn K (.ref fF)=true)
   (yy:W.nsIn K mainGlobals "law" = some (some (.ref xF)))
   (agj:K.lookup xF=some ⟨afj,afo,.func (W.fnOf "law" "law" (zb1 zJ6) (za9 zJ6) (za2 zJ6) .none afk afl afm afp zI afn),afq⟩)
   (agk:W.codeIn K zI "law" = true) (yz:W.keepIn K (.ref xF)=true)
   (aez:W.plainGet K bb Str.empty=true) (afa:W.hasDictIn K bb=true) (afb:W.plainOver K bb=true) (afc:W.findIn K (.ref bb) "__setattr__" = some (some (.builtin "object.__setattr__"))) (w4:W.makesIn K bb=true) (afd:W.keepIn K (.ref bb)=true)
   (fJ:W.findIn K (.ref bb) "notches" = some none)
   (lu:W.findIn K (.ref bb) "room" = some none)
   (jt:W.findIn K (.ref bb) "hefts" = some none)
   (ju:W.findIn K (.ref bb) "limit" = some none)
   (agd:W.plainGet K bc Str.empty=true) (age:W.hasDictIn K bc=true) (agf:W.plainOver K bc=true) (agg:W.findIn K (.ref bc) "__setattr__" = some (some (.builtin "object.__setattr__"))) (aag:W.makesIn K bc=true) (agh:W.keepIn K (.ref bc)=true)
   (g6:W.findIn K (.ref bc) "reached" = some none)
   (nn:W.findIn K (.ref bc) "many" = some none)
   (pv:W.findIn K (.ref bc) "row" = some none)
   (jv:W.findIn K (.ref bc) "layers" = some none)
   (lv:W.findIn K (.ref bc) "again" = some none)
   (no:W.findIn K (.ref bc) "shut" = some none)
   (afe:W.plainGet K a3 Str.empty=true) (aff:W.hasDictIn K a3=true) (afg:W.plainOver K a3=true) (afh:W.findIn K (.ref a3) "__setattr__" = some (some (.builtin "object.__setattr__"))) (w5:W.makesIn K a3=true) (afi:W.keepIn K (.ref a3)=true)
   (lw:W.findIn K (.ref a3) "beam" = some none)
   (jw:W.findIn K (.ref a3) "start" = some none)
   (d7:W.findIn K (.ref a3) "standing" = some none)
   (lx:W.findIn K (.ref a3) "made" = some none)
   (ws:K.lookup ag=some (excClassObj vp vq ag xG vr nd true vs tS vt tT vu vv vw vx vy vz "ValueError.__new__")) (wt:MroV nd) (wu:W.findIn K (.ref ag) "__setattr__" = some (some (.builtin "object.__setattr__"))) (wv:W.keepIn K (.ref ag)=true)
   (yA:K.lookup aj=some (excClassObj xH xI aj zJ xJ o7 true xK vA xL vB xM xN xO xP xQ xR "ValueError.__new__")) (yB:MroV o7) (yC:W.findIn K (.ref aj) "__setattr__" = some (some (.builtin "object.__setattr__"))) (yD:W.keepIn K (.ref aj)=true)
   (uL:K.lookup ae=some (excClassObj tU tV ae vC tW ld true tX rQ tY rR tZ t0 t1 t2 t3 t4 "ValueError.__new__")) (uM:MroV ld) (uN:W.findIn K (.ref ae) "__setattr__" = some (some (.builtin "object.__setattr__"))) (uO:W.keepIn K (.ref ae)=true)
   (aah:K.lookup am=some (excClassObj zK zL am abp zM rm true zN xS zO xT zP zQ zR zS zT zU "ValueError.__new__")) (aai:MroV rm) (aaj:W.findIn K (.ref am) "__setattr__" = some (some (.builtin "object.__setattr__"))) (aak:W.keepIn K (.ref am)=true)
   (sA:K.lookup ac=some (excClassObj rS rT ac t5 rU jm true rV qe rW qf rX rY rZ r0 r1 r2 "ValueError.__new__")) (sB:MroV jm) (sC:W.findIn K (.ref ac) "__setattr__" = some (some (.builtin "object.__setattr__"))) (sD:W.keepIn K (.ref ac)=true)
   (sE:K.lookup ad=some (excClassObj r3 r4 ad t6 r5 jn true r6 qg r7 qh r8 r9 sa sb sc sd "ValueError.__new__")) (sF:MroV jn) (sG:W.findIn K (.ref ad) "__setattr__" = some (some (.builtin "object.__setattr__"))) (sH:W.keepIn K (.ref ad)=true)
   (aco:K.lookup an=some (excClassObj abq abr an aer abt t7 true abu zV abv zW abw abx aby abz aca acb "ValueError.__new__")) (acp:MroV t7) (acq:W.findIn K (.ref an) "__setattr__" = some (some (.builtin "object.__setattr__"))) (acr:W.keepIn K (.ref an)=true)
   (qX:K.lookup aa=some (excClassObj qi qj aa se qk gZ true ql o8 qm o9 qn qo qp qq qr qs "ValueError.__new__")) (qY:MroV gZ) (qZ:W.findIn K (.ref aa) "__setattr__" = some (some (.builtin "object.__setattr__"))) (q0:W.keepIn K (.ref aa)=true)
   (yE:K.lookup ak=some (excClassObj xU xV ak zX xW pa true xX vD xY vE xZ x7 x8 x9 ya yb "ValueError.__new__")) (yF:MroV pa) (yG:W.findIn K (.ref ak) "__setattr__" = some (some (.builtin "object.__setattr__"))) (yH:W.keepIn K (.ref ak)=true)
   (yI:K.lookup al=some (excClassObj yc yd al zY ye pb true yf vF yg vG yh yi yj yk yl ym "ValueError.__new__")) (yJ:MroV pb) (yK:W.findIn K (.ref al) "__setattr__" = some (some (.builtin "object.__setattr__"))) (yL:W.keepIn K (.ref al)=true)
   (q1:K.lookup ab=some (excClassObj qt qu ab sf qv g0 true qw pc qx pd qy qz qA qB qC qD "ValueError.__new__")) (q2:MroV g0) (q3:W.findIn K (.ref ab) "__setattr__" = some (some (.builtin "object.__setattr__"))) (q4:W.keepIn K (.ref ab)=true)
   (uP:K.lookup af=some (excClassObj t8 t9 af vH ua le true ub sg uc sh ud ue uf ug uh ui "ValueError.__new__")) (uQ:MroV le) (uR:W.findIn K (.ref af) "__setattr__" = some (some (.builtin "object.__setattr__"))) (uS:W.keepIn K (.ref af)=true)
   (ww:K.lookup ah=some (excClassObj vI vJ ah yn vK ne true vL uj vM uk vN vO vP vQ vR vS "ValueError.__new__")) (wx:MroV ne) (wy:W.findIn K (.ref ah) "__setattr__" = some (some (.builtin "object.__setattr__"))) (wz:W.keepIn K (.ref ah)=true)
   (wA:K.lookup ai=some (excClassObj vT vU ai yo vV nf true vW ul vX um vY vZ v0 v1 v2 v3 "ValueError.__new__")) (wB:MroV nf) (wC:W.findIn K (.ref ai) "__setattr__" = some (some (.builtin "object.__setattr__"))) (wD:W.keepIn K (.ref ai)=true)
   (cN:W.findIn K (.ref ag) "reason" = some none)
   (d8:W.findIn K (.ref ag) "word" = some none)
   (dl:W.findIn K (.ref aj) "reason" = some none)
   (fK:W.findIn K (.ref aj) "word" = some none)
   (cg:W.findIn K (.ref ae) "reason" = some none)
   (dm:W.findIn K (.ref ae) "word" = some none)
   (d9:W.findIn K (.ref am) "reason" = some none)
   (g7:W.findIn K (.ref am) "word" = some none)
   (b4:W.findIn K (.ref ac) "reason" = some none)
   (cO:W.findIn K (.ref ac) "word" = some none)
   (b5:W.findIn K (.ref ad) "reason" = some none)
   (cP:W.findIn K (.ref ad) "word" = some none)
   (fL:W.findIn K (.ref an) "reason" = some none)
   (jx:W.findIn K (.ref an) "word" = some none)
   (bQ:W.findIn K (.ref aa) "reason" = some none)
   (ch:W.findIn K (.ref aa) "word" = some none)
   (dn:W.findIn K (.ref ak) "reason" = some none)
   (fM:W.findIn K (.ref ak) "word" = some none)
   (dp:W.findIn K (.ref al) "reason" = some none)
   (fN:W.findIn K (.ref al) "word" = some none)
   (bR:W.findIn K (.ref ab) "reason" = some none)
   (ci:W.findIn K (.ref ab) "word" = some none)
   (cj:W.findIn K (.ref af) "reason" = some none)
   (dq:W.findIn K (.ref af) "word" = some none)
   (cQ:W.findIn K (.ref ah) "reason" = some none)
   (ea:W.findIn K (.ref ah) "word" = some none)
   (cR:W.findIn K (.ref ai) "reason" = some none)
   (eb:W.findIn K (.ref ai) "word" = some none)
   (xw1:W.specialIn K (.builtin "object.__class__") "__get__" = some (some (.builtin "getset_descriptor.__get__")))
   (xw2:W.takesIn K (.builtin "object.__class__")=some true)
   (az:W.clsIn K ao=some si) (aA:W.typeIn K (.ref ao)=some (.type "type"))
   (aM:W.clsIn K ak=some v4) (aN:W.typeIn K (.ref ak)=some (.type "type"))
   (aO:W.clsIn K al=some v5) (aP:W.typeIn K (.ref al)=some (.type "type"))
   (ap:W.clsIn K ab=some pe) (aq:W.typeIn K (.ref ab)=some (.type "type"))
   (aG:W.clsIn K ag=some uo) (aH:W.typeIn K (.ref ag)=some (.type "type"))
   (aQ:W.clsIn K aj=some v6) (aR:W.typeIn K (.ref aj)=some (.type "type"))
   (aC:W.clsIn K ae=some sj) (aD:W.typeIn K (.ref ae)=some (.type "type"))
   (aS:W.clsIn K am=some yp) (aT:W.typeIn K (.ref am)=some (.type "type"))
   (av:W.clsIn K ac=some qE) (aw:W.typeIn K (.ref ac)=some (.type "type"))
   (ax:W.clsIn K ad=some qF) (ay:W.typeIn K (.ref ad)=some (.type "type"))
   (aE:W.clsIn K af=some sk) (aF:W.typeIn K (.ref af)=some (.type "type"))
   (aI:W.clsIn K ah=some up) (aJ:W.typeIn K (.ref ah)=some (.type "type"))
   (aV:W.clsIn K an=some zZ) (aW:W.typeIn K (.ref an)=some (.type "type"))
   (ar:W.clsIn K aa=some pf) (au:W.typeIn K (.ref aa)=some (.type "type"))
   (aK:W.clsIn K ai=some uq) (aL:W.typeIn K (.ref ai)=some (.type "type"))
   (aB:W.subIn K (.ref ao) (.type "BaseException")=some true)
   (wE:W.findIn K (.ref ag) "__getattribute__" = some (some (.builtin "BaseException.__getattribute__"))) (wF:W.findIn K (.ref ag) "__getattr__" = some none) (wG:W.mroIn K ag (.type "BaseException")=some true) (wH:W.hasDictIn K ag=true) (wI:W.findIn K (.ref ag) "__class__" = some (some (.builtin "object.__class__"))) (wJ:W.mroIn K ag (.type "object")=some true)
   (g8:W.subIn K (.ref ag) (.ref ao)=some true)
   (jQ:(Value.ref ag == Value.ref ak)=false) (jR:W.subIn K (.ref ag) (.ref ak)=some false)
   (jS:(Value.ref ag == Value.ref al)=false) (jT:W.subIn K (.ref ag) (.ref al)=some false)
   (eB:(Value.ref ag == Value.ref ab)=false) (eC:W.subIn K (.ref ag) (.ref ab)=some false)
   (jU:(Value.ref ag == Value.ref aj)=false) (jV:W.subIn K (.ref ag) (.ref aj)=some false)
   (g9:(Value.ref ag == Value.ref ae)=false) (ha:W.subIn K (.ref ag) (.ref ae)=some false)
   (ly:(Value.ref ag == Value.ref am)=false) (lz:W.subIn K (.ref ag) (.ref am)=some false)
   (fV:(Value.ref ag == Value.ref ac)=false) (fW:W.subIn K (.ref ag) (.ref ac)=some false)
   (fX:(Value.ref ag == Value.ref ad)=false) (fY:W.subIn K (.ref ag) (.ref ad)=some false)
   (hb:(Value.ref ag == Value.ref af)=false) (hc:W.subIn K (.ref ag) (.ref af)=some false)
   (ij:(Value.ref ag == Value.ref ah)=false) (ik:W.subIn K (.ref ag) (.ref ah)=some false)
   (mN:(Value.ref ag == Value.ref an)=false) (mO:W.subIn K (.ref ag) (.ref an)=some false)
   (eD:(Value.ref ag == Value.ref aa)=false) (eE:W.subIn K (.ref ag) (.ref aa)=some false)
   (il:(Value.ref ag == Value.ref ai)=false) (im:W.subIn K (.ref ag) (.ref ai)=some false)
   (fZ:W.subIn K (.ref ag) (.type "ValueError")=some true)
   (yM:W.findIn K (.ref aj) "__getattribute__" = some (some (.builtin "BaseException.__getattribute__"))) (yN:W.findIn K (.ref aj) "__getattr__" = some none) (yO:W.mroIn K aj (.type "BaseException")=some true) (yP:W.hasDictIn K aj=true) (yQ:W.findIn K (.ref aj) "__class__" = some (some (.builtin "object.__class__"))) (yR:W.mroIn K aj (.type "object")=some true)
   (io:W.subIn K (.ref aj) (.ref ao)=some true)
   (lA:(Value.ref aj == Value.ref ak)=false) (lB:W.subIn K (.ref aj) (.ref ak)=some false)
   (lC:(Value.ref aj == Value.ref al)=false) (lD:W.subIn K (.ref aj) (.ref al)=some false)
   (f0:(Value.ref aj == Value.ref ab)=false) (f1:W.subIn K (.ref aj) (.ref ab)=some false)
   (jW:(Value.ref aj == Value.ref ag)=false) (jX:W.subIn K (.ref aj) (.ref ag)=some false)
   (ip:(Value.ref aj == Value.ref ae)=false) (iq:W.subIn K (.ref aj) (.ref ae)=some false)
   (mP:(Value.ref aj == Value.ref am)=false) (mQ:W.subIn K (.ref aj) (.ref am)=some false)
   (hd:(Value.ref aj == Value.ref ac)=false) (he:W.subIn K (.ref aj) (.ref ac)=some false)
   (hf:(Value.ref aj == Value.ref ad)=false) (hg:W.subIn K (.ref aj) (.ref ad)=some false)
   (ir:(Value.ref aj == Value.ref af)=false) (it:W.subIn K (.ref aj) (.ref af)=some false)
   (jY:(Value.ref aj == Value.ref ah)=false) (jZ:W.subIn K (.ref aj) (.ref ah)=some false)
   (n6:(Value.ref aj == Value.ref an)=false) (n7:W.subIn K (.ref aj) (.ref an)=some false)
   (f2:(Value.ref aj == Value.ref aa)=false) (f3:W.subIn K (.ref aj) (.ref aa)=some false)
   (j0:(Value.ref aj == Value.ref ai)=false) (j1:W.subIn K (.ref aj) (.ref ai)=some false)
   (hh:W.subIn K (.ref aj) (.type "ValueError")=some true)
   (uT:W.findIn K (.ref ae) "__getattribute__" = some (some (.builtin "BaseException.__getattribute__"))) (uU:W.findIn K (.ref ae) "__getattr__" = some none) (uV:W.mroIn K ae (.type "BaseException")=some true) (uW:W.hasDictIn K ae=true) (uX:W.findIn K (.ref ae) "__class__" = some (some (.builtin "object.__class__"))) (uY:W.mroIn K ae (.type "object")=some true)
   (f4:W.subIn K (.ref ae) (.ref ao)=some true)
   (iu:(Value.ref ae == Value.ref ak)=false) (iv:W.subIn K (.ref ae) (.ref ak)=some false)
   (iw:(Value.ref ae == Value.ref al)=false) (ix:W.subIn K (.ref ae) (.ref al)=some false)
   (ec:(Value.ref ae == Value.ref ab)=false) (ed:W.subIn K (.ref ae) (.ref ab)=some false)
   (hi:(Value.ref ae == Value.ref ag)=false) (hj:W.subIn K (.ref ae) (.ref ag)=some false)
   (iy:(Value.ref ae == Value.ref aj)=false) (iz:W.subIn K (.ref ae) (.ref aj)=some false)
   (j2:(Value.ref ae == Value.ref am)=false) (j3:W.subIn K (.ref ae) (.ref am)=some false)
   (eF:(Value.ref ae == Value.ref ac)=false) (eG:W.subIn K (.ref ae) (.ref ac)=some false)
   (eH:(Value.ref ae == Value.ref ad)=false) (eI:W.subIn K (.ref ae) (.ref ad)=some false)
   (f5:(Value.ref ae == Value.ref af)=false) (f6:W.subIn K (.ref ae) (.ref af)=some false)
   (hk:(Value.ref ae == Value.ref ah)=false) (hm:W.subIn K (.ref ae) (.ref ah)=some false)
   (lE:(Value.ref ae == Value.ref an)=false) (lF:W.subIn K (.ref ae) (.ref an)=some false)
   (ee:(Value.ref ae == Value.ref aa)=false) (ef:W.subIn K (.ref ae) (.ref aa)=some false)
   (hn:(Value.ref ae == Value.ref ai)=false) (ho:W.subIn K (.ref ae) (.ref ai)=some false)
   (eJ:W.subIn K (.ref ae) (.type "ValueError")=some true)
   (aal:W.findIn K (.ref am) "__getattribute__" = some (some (.builtin "BaseException.__getattribute__"))) (aam:W.findIn K (.ref am) "__getattr__" = some none) (aan:W.mroIn K am (.type "BaseException")=some true) (aao:W.hasDictIn K am=true) (aap:W.findIn K (.ref am) "__class__" = some (some (.builtin "object.__class__"))) (aaq:W.mroIn K am (.type "object")=some true)
   (j4:W.subIn K (.ref am) (.ref ao)=some true)
   (mR:(Value.ref am == Value.ref ak)=false) (mS:W.subIn K (.ref am) (.ref ak)=some false)
   (mT:(Value.ref am == Value.ref al)=false) (mU:W.subIn K (.ref am) (.ref al)=some false)
   (hp:(Value.ref am == Value.ref ab)=false) (hq:W.subIn K (.ref am) (.ref ab)=some false)
   (lG:(Value.ref am == Value.ref ag)=false) (lH:W.subIn K (.ref am) (.ref ag)=some false)
   (mV:(Value.ref am == Value.ref aj)=false) (mW:W.subIn K (.ref am) (.ref aj)=some false)
   (j5:(Value.ref am == Value.ref ae)=false) (j6:W.subIn K (.ref am) (.ref ae)=some false)
   (iA:(Value.ref am == Value.ref ac)=false) (iB:W.subIn K (.ref am) (.ref ac)=some false)
   (iC:(Value.ref am == Value.ref ad)=false) (iD:W.subIn K (.ref am) (.ref ad)=some false)
   (j7:(Value.ref am == Value.ref af)=false) (j8:W.subIn K (.ref am) (.ref af)=some false)
   (lI:(Value.ref am == Value.ref ah)=false) (lJ:W.subIn K (.ref am) (.ref ah)=some false)
   (pw:(Value.ref am == Value.ref an)=false) (px:W.subIn K (.ref am) (.ref an)=some false)
   (hr:(Value.ref am == Value.ref aa)=false) (hs:W.subIn K (.ref am) (.ref aa)=some false)
   (lK:(Value.ref am == Value.ref ai)=false) (lL:W.subIn K (.ref am) (.ref ai)=some false)
   (iE:W.subIn K (.ref am) (.type "ValueError")=some true)
   (sI:W.findIn K (.ref ac) "__getattribute__" = some (some (.builtin "BaseException.__getattribute__"))) (sJ:W.findIn K (.ref ac) "__getattr__" = some none) (sK:W.mroIn K ac (.type "BaseException")=some true) (sL:W.hasDictIn K ac=true) (sM:W.findIn K (.ref ac) "__class__" = some (some (.builtin "object.__class__"))) (sN:W.mroIn K ac (.type "object")=some true)
   (eK:W.subIn K (.ref ac) (.ref ao)=some true)
   (ht:(Value.ref ac == Value.ref ak)=false) (hu:W.subIn K (.ref ac) (.ref ak)=some false)
   (hv:(Value.ref ac == Value.ref al)=false) (hw:W.subIn K (.ref ac) (.ref al)=some false)
   (ds:(Value.ref ac == Value.ref ab)=false) (dt:W.subIn K (.ref ac) (.ref ab)=some false)
   (f7:(Value.ref ac == Value.ref ag)=false) (f8:W.subIn K (.ref ac) (.ref ag)=some false)
   (hx:(Value.ref ac == Value.ref aj)=false) (hy:W.subIn K (.ref ac) (.ref aj)=some false)
   (eL:(Value.ref ac == Value.ref ae)=false) (eM:W.subIn K (.ref ac) (.ref ae)=some false)
   (iF:(Value.ref ac == Value.ref am)=false) (iG:W.subIn K (.ref ac) (.ref am)=some false)
   (eg:(Value.ref ac == Value.ref ad)=false) (eh:W.subIn K (.ref ac) (.ref ad)=some false)
   (eN:(Value.ref ac == Value.ref af)=false) (eO:W.subIn K (.ref ac) (.ref af)=some false)
   (f9:(Value.ref ac == Value.ref ah)=false) (ga:W.subIn K (.ref ac) (.ref ah)=some false)
   (j9:(Value.ref ac == Value.ref an)=false) (ka:W.subIn K (.ref ac) (.ref an)=some false)
   (du:(Value.ref ac == Value.ref aa)=false) (dv:W.subIn K (.ref ac) (.ref aa)=some false)
   (gb:(Value.ref ac == Value.ref ai)=false) (gc:W.subIn K (.ref ac) (.ref ai)=some false)
   (ei:W.subIn K (.ref ac) (.type "ValueError")=some true)
   (sO:W.findIn K (.ref ad) "__getattribute__" = some (some (.builtin "BaseException.__getattribute__"))) (sP:W.findIn K (.ref ad) "__getattr__" = some none) (sQ:W.mroIn K ad (.type "BaseException")=some true) (sR:W.hasDictIn K ad=true) (sS:W.findIn K (.ref ad) "__class__" = some (some (.builtin "object.__class__"))) (sT:W.mroIn K ad (.type "object")=some true)
   (eP:W.subIn K (.ref ad) (.ref ao)=some true)
   (hz:(Value.ref ad == Value.ref ak)=false) (hA:W.subIn K (.ref ad) (.ref ak)=some false)
   (hB:(Value.ref ad == Value.ref al)=false) (hC:W.subIn K (.ref ad) (.ref al)=some false)
   (dw:(Value.ref ad == Value.ref ab)=false) (dx:W.subIn K (.ref ad) (.ref ab)=some false)
   (gd:(Value.ref ad == Value.ref ag)=false) (ge:W.subIn K (.ref ad) (.ref ag)=some false)
   (hD:(Value.ref ad == Value.ref aj)=false) (hE:W.subIn K (.ref ad) (.ref aj)=some false)
   (eQ:(Value.ref ad == Value.ref ae)=false) (eR:W.subIn K (.ref ad) (.ref ae)=some false)
   (iH:(Value.ref ad == Value.ref am)=false) (iI:W.subIn K (.ref ad) (.ref am)=some false)
   (ej:(Value.ref ad == Value.ref ac)=false) (ek:W.subIn K (.ref ad) (.ref ac)=some false)
   (eS:(Value.ref ad == Value.ref af)=false) (eT:W.subIn K (.ref ad) (.ref af)=some false)
   (gf:(Value.ref ad == Value.ref ah)=false) (gg:W.subIn K (.ref ad) (.ref ah)=some false)
   (kb:(Value.ref ad == Value.ref an)=false) (kc:W.subIn K (.ref ad) (.ref an)=some false)
   (dy:(Value.ref ad == Value.ref aa)=false) (dz:W.subIn K (.ref ad) (.ref aa)=some false)
   (gh:(Value.ref ad == Value.ref ai)=false) (gi:W.subIn K (.ref ad) (.ref ai)=some false)
   (el:W.subIn K (.ref ad) (.type "ValueError")=some true)
   (acs:W.findIn K (.ref an) "__getattribute__" = some (some (.builtin "BaseException.__getattribute__"))) (act:W.findIn K (.ref an) "__getattr__" = some none) (acu:W.mroIn K an (.type "BaseException")=some true) (acv:W.hasDictIn K an=true) (acw:W.findIn K (.ref an) "__class__" = some (some (.builtin "object.__class__"))) (acx:W.mroIn K an (.type "object")=some true)
   (lM:W.subIn K (.ref an) (.ref ao)=some true)
   (n8:(Value.ref an == Value.ref ak)=false) (n9:W.subIn K (.ref an) (.ref ak)=some false)
   (oa:(Value.ref an == Value.ref al)=false) (ob:W.subIn K (.ref an) (.ref al)=some false)
   (iJ:(Value.ref an == Value.ref ab)=false) (iK:W.subIn K (.ref an) (.ref ab)=some false)
   (mX:(Value.ref an == Value.ref ag)=false) (mY:W.subIn K (.ref an) (.ref ag)=some false)
   (oc:(Value.ref an == Value.ref aj)=false) (od:W.subIn K (.ref an) (.ref aj)=some false)
   (lN:(Value.ref an == Value.ref ae)=false) (lO:W.subIn K (.ref an) (.ref ae)=some false)
   (py:(Value.ref an == Value.ref am)=false) (pz:W.subIn K (.ref an) (.ref am)=some false)
   (kd:(Value.ref an == Value.ref ac)=false) (ke:W.subIn K (.ref an) (.ref ac)=some false)
   (kf:(Value.ref an == Value.ref ad)=false) (kg:W.subIn K (.ref an) (.ref ad)=some false)
   (lP:(Value.ref an == Value.ref af)=false) (lQ:W.subIn K (.ref an) (.ref af)=some false)
   (mZ:(Value.ref an == Value.ref ah)=false) (m0:W.subIn K (.ref an) (.ref ah)=some false)
   (iL:(Value.ref an == Value.ref aa)=false) (iM:W.subIn K (.ref an) (.ref aa)=some false)
   (m1:(Value.ref an == Value.ref ai)=false) (m2:W.subIn K (.ref an) (.ref ai)=some false)
   (kh:W.subIn K (.ref an) (.type "ValueError")=some true)
   (q5:W.findIn K (.ref aa) "__getattribute__" = some (some (.builtin "BaseException.__getattribute__"))) (q6:W.findIn K (.ref aa) "__getattr__" = some none) (q7:W.mroIn K aa (.type "BaseException")=some true) (q8:W.hasDictIn K aa=true) (q9:W.findIn K (.ref aa) "__class__" = some (some (.builtin "object.__class__"))) (ra:W.mroIn K aa (.type "object")=some true)
   (em:W.subIn K (.ref aa) (.ref ao)=some true)
   (gj:(Value.ref aa == Value.ref ak)=false) (gk:W.subIn K (.ref aa) (.ref ak)=some false)
   (gl:(Value.ref aa == Value.ref al)=false) (gm:W.subIn K (.ref aa) (.ref al)=some false)
   (cZ:(Value.ref aa == Value.ref ab)=false) (c0:W.subIn K (.ref aa) (.ref ab)=some false)
   (eU:(Value.ref aa == Value.ref ag)=false) (eV:W.subIn K (.ref aa) (.ref ag)=some false)
   (gn:(Value.ref aa == Value.ref aj)=false) (go:W.subIn K (.ref aa) (.ref aj)=some false)
   (en:(Value.ref aa == Value.ref ae)=false) (eo:W.subIn K (.ref aa) (.ref ae)=some false)
   (hF:(Value.ref aa == Value.ref am)=false) (hG:W.subIn K (.ref aa) (.ref am)=some false)
   (dA:(Value.ref aa == Value.ref ac)=false) (dB:W.subIn K (.ref aa) (.ref ac)=some false)
   (dC:(Value.ref aa == Value.ref ad)=false) (dD:W.subIn K (.ref aa) (.ref ad)=some false)
   (ep:(Value.ref aa == Value.ref af)=false) (eq:W.subIn K (.ref aa) (.ref af)=some false)
   (eW:(Value.ref aa == Value.ref ah)=false) (eX:W.subIn K (.ref aa) (.ref ah)=some false)
   (iN:(Value.ref aa == Value.ref an)=false) (iO:W.subIn K (.ref aa) (.ref an)=some false)
   (eY:(Value.ref aa == Value.ref ai)=false) (eZ:W.subIn K (.ref aa) (.ref ai)=some false)
   (dE:W.subIn K (.ref aa) (.type "ValueError")=some true)
   (yS:W.findIn K (.ref ak) "__getattribute__" = some (some (.builtin "BaseException.__getattribute__"))) (yT:W.findIn K (.ref ak) "__getattr__" = some none) (yU:W.mroIn K ak (.type "BaseException")=some true) (yV:W.hasDictIn K ak=true) (yW:W.findIn K (.ref ak) "__class__" = some (some (.builtin "object.__class__"))) (yX:W.mroIn K ak (.type "object")=some true)
   (iP:W.subIn K (.ref ak) (.ref ao)=some true)
   (lR:(Value.ref ak == Value.ref al)=false) (lS:W.subIn K (.ref ak) (.ref al)=some false)
   (gp:(Value.ref ak == Value.ref ab)=false) (gq:W.subIn K (.ref ak) (.ref ab)=some false)
   (ki:(Value.ref ak == Value.ref ag)=false) (kj:W.subIn K (.ref ak) (.ref ag)=some false)
   (lT:(Value.ref ak == Value.ref aj)=false) (lU:W.subIn K (.ref ak) (.ref aj)=some false)
   (iQ:(Value.ref ak == Value.ref ae)=false) (iR:W.subIn K (.ref ak) (.ref ae)=some false)
   (m3:(Value.ref ak == Value.ref am)=false) (m4:W.subIn K (.ref ak) (.ref am)=some false)
   (hH:(Value.ref ak == Value.ref ac)=false) (hI:W.subIn K (.ref ak) (.ref ac)=some false)
   (hJ:(Value.ref ak == Value.ref ad)=false) (hK:W.subIn K (.ref ak) (.ref ad)=some false)
   (iS:(Value.ref ak == Value.ref af)=false) (iT:W.subIn K (.ref ak) (.ref af)=some false)
   (kk:(Value.ref ak == Value.ref ah)=false) (kl:W.subIn K (.ref ak) (.ref ah)=some false)
   (oe:(Value.ref ak == Value.ref an)=false) (og:W.subIn K (.ref ak) (.ref an)=some false)
   (gr:(Value.ref ak == Value.ref aa)=false) (gs:W.subIn K (.ref ak) (.ref aa)=some false)
   (km:(Value.ref ak == Value.ref ai)=false) (kn:W.subIn K (.ref ak) (.ref ai)=some false)
   (hL:W.subIn K (.ref ak) (.type "ValueError")=some true)
   (yY:W.findIn K (.ref al) "__getattribute__" = some (some (.builtin "BaseException.__getattribute__"))) (yZ:W.findIn K (.ref al) "__getattr__" = some none) (y0:W.mroIn K al (.type "BaseException")=some true) (y1:W.hasDictIn K al=true) (y2:W.findIn K (.ref al) "__class__" = some (some (.builtin "object.__class__"))) (y3:W.mroIn K al (.type "object")=some true)
   (iU:W.subIn K (.ref al) (.ref ao)=some true)
   (lV:(Value.ref al == Value.ref ak)=false) (lW:W.subIn K (.ref al) (.ref ak)=some false)
   (gt:(Value.ref al == Value.ref ab)=false) (gu:W.subIn K (.ref al) (.ref ab)=some false)
   (ko:(Value.ref al == Value.ref ag)=false) (kp:W.subIn K (.ref al) (.ref ag)=some false)
   (lX:(Value.ref al == Value.ref aj)=false) (lY:W.subIn K (.ref al) (.ref aj)=some false)
   (iV:(Value.ref al == Value.ref ae)=false) (iW:W.subIn K (.ref al) (.ref ae)=some false)
   (m5:(Value.ref al == Value.ref am)=false) (m6:W.subIn K (.ref al) (.ref am)=some false)
   (hM:(Value.ref al == Value.ref ac)=false) (hN:W.subIn K (.ref al) (.ref ac)=some false)
   (hO:(Value.ref al == Value.ref ad)=false) (hP:W.subIn K (.ref al) (.ref ad)=some false)
   (iX:(Value.ref al == Value.ref af)=false) (iY:W.subIn K (.ref al) (.ref af)=some false)
   (kq:(Value.ref al == Value.ref ah)=false) (kr:W.subIn K (.ref al) (.ref ah)=some false)
   (oh:(Value.ref al == Value.ref an)=false) (oi:W.subIn K (.ref al) (.ref an)=some false)
   (gv:(Value.ref al == Value.ref aa)=false) (gw:W.subIn K (.ref al) (.ref aa)=some false)
   (ks:(Value.ref al == Value.ref ai)=false) (kt:W.subIn K (.ref al) (.ref ai)=some false)
   (hQ:W.subIn K (.ref al) (.type "ValueError")=some true)
   (rb:W.findIn K (.ref ab) "__getattribute__" = some (some (.builtin "BaseException.__getattribute__"))) (rc:W.findIn K (.ref ab) "__getattr__" = some none) (rd:W.mroIn K ab (.type "BaseException")=some true) (re:W.hasDictIn K ab=true) (rf:W.findIn K (.ref ab) "__class__" = some (some (.builtin "object.__class__"))) (rg:W.mroIn K ab (.type "object")=some true)
   (er:W.subIn K (.ref ab) (.ref ao)=some true)
   (gx:(Value.ref ab == Value.ref ak)=false) (gy:W.subIn K (.ref ab) (.ref ak)=some false)
   (gz:(Value.ref ab == Value.ref al)=false) (gA:W.subIn K (.ref ab) (.ref al)=some false)
   (e0:(Value.ref ab == Value.ref ag)=false) (e1:W.subIn K (.ref ab) (.ref ag)=some false)
   (gB:(Value.ref ab == Value.ref aj)=false) (gC:W.subIn K (.ref ab) (.ref aj)=some false)
   (es:(Value.ref ab == Value.ref ae)=false) (et:W.subIn K (.ref ab) (.ref ae)=some false)
   (hR:(Value.ref ab == Value.ref am)=false) (hS:W.subIn K (.ref ab) (.ref am)=some false)
   (dF:(Value.ref ab == Value.ref ac)=false) (dG:W.subIn K (.ref ab) (.ref ac)=some false)
   (dH:(Value.ref ab == Value.ref ad)=false) (dI:W.subIn K (.ref ab) (.ref ad)=some false)
   (eu:(Value.ref ab == Value.ref af)=false) (ev:W.subIn K (.ref ab) (.ref af)=some false)
   (e2:(Value.ref ab == Value.ref ah)=false) (e3:W.subIn K (.ref ab) (.ref ah)=some false)
   (iZ:(Value.ref ab == Value.ref an)=false) (i0:W.subIn K (.ref ab) (.ref an)=some false)
   (c1:(Value.ref ab == Value.ref aa)=false) (c2:W.subIn K (.ref ab) (.ref aa)=some false)
   (e4:(Value.ref ab == Value.ref ai)=false) (e5:W.subIn K (.ref ab) (.ref ai)=some false)
   (dJ:W.subIn K (.ref ab) (.type "ValueError")=some true)
   (uZ:W.findIn K (.ref af) "__getattribute__" = some (some (.builtin "BaseException.__getattribute__"))) (u0:W.findIn K (.ref af) "__getattr__" = some none) (u1:W.mroIn K af (.type "BaseException")=some true) (u2:W.hasDictIn K af=true) (u3:W.findIn K (.ref af) "__class__" = some (some (.builtin "object.__class__"))) (u4:W.mroIn K af (.type "object")=some true)
   (gD:W.subIn K (.ref af) (.ref ao)=some true)
   (i1:(Value.ref af == Value.ref ak)=false) (i2:W.subIn K (.ref af) (.ref ak)=some false)
   (i3:(Value.ref af == Value.ref al)=false) (i4:W.subIn K (.ref af) (.ref al)=some false)
   (ew:(Value.ref af == Value.ref ab)=false) (ex:W.subIn K (.ref af) (.ref ab)=some false)
   (hT:(Value.ref af == Value.ref ag)=false) (hU:W.subIn K (.ref af) (.ref ag)=some false)
   (i5:(Value.ref af == Value.ref aj)=false) (i6:W.subIn K (.ref af) (.ref aj)=some false)
   (gE:(Value.ref af == Value.ref ae)=false) (gF:W.subIn K (.ref af) (.ref ae)=some false)
   (ku:(Value.ref af == Value.ref am)=false) (kv:W.subIn K (.ref af) (.ref am)=some false)
   (e6:(Value.ref af == Value.ref ac)=false) (e7:W.subIn K (.ref af) (.ref ac)=some false)
   (e8:(Value.ref af == Value.ref ad)=false) (e9:W.subIn K (.ref af) (.ref ad)=some false)
   (hV:(Value.ref af == Value.ref ah)=false) (hW:W.subIn K (.ref af) (.ref ah)=some false)
   (lZ:(Value.ref af == Value.ref an)=false) (l0:W.subIn K (.ref af) (.ref an)=some false)
   (ey:(Value.ref af == Value.ref aa)=false) (ez:W.subIn K (.ref af) (.ref aa)=some false)
   (hX:(Value.ref af == Value.ref ai)=false) (hY:W.subIn K (.ref af) (.ref ai)=some false)
   (fb:W.subIn K (.ref af) (.type "ValueError")=some true)
   (wK:W.findIn K (.ref ah) "__getattribute__" = some (some (.builtin "BaseException.__getattribute__"))) (wL:W.findIn K (.ref ah) "__getattr__" = some none) (wM:W.mroIn K ah (.type "BaseException")=some true) (wN:W.hasDictIn K ah=true) (wO:W.findIn K (.ref ah) "__class__" = some (some (.builtin "object.__class__"))) (wP:W.mroIn K ah (.type "object")=some true)
   (hZ:W.subIn K (.ref ah) (.ref ao)=some true)
   (kw:(Value.ref ah == Value.ref ak)=false) (kx:W.subIn K (.ref ah) (.ref ak)=some false)
   (ky:(Value.ref ah == Value.ref al)=false) (kz:W.subIn K (.ref ah) (.ref al)=some false)
   (fc:(Value.ref ah == Value.ref ab)=false) (fe:W.subIn K (.ref ah) (.ref ab)=some false)
   (i7:(Value.ref ah == Value.ref ag)=false) (i8:W.subIn K (.ref ah) (.ref ag)=some false)
   (kA:(Value.ref ah == Value.ref aj)=false) (kB:W.subIn K (.ref ah) (.ref aj)=some false)
   (h0:(Value.ref ah == Value.ref ae)=false) (h1:W.subIn K (.ref ah) (.ref ae)=some false)
   (l1:(Value.ref ah == Value.ref am)=false) (l2:W.subIn K (.ref ah) (.ref am)=some false)
   (gG:(Value.ref ah == Value.ref ac)=false) (gH:W.subIn K (.ref ah) (.ref ac)=some false)
   (gI:(Value.ref ah == Value.ref ad)=false) (gJ:W.subIn K (.ref ah) (.ref ad)=some false)
   (h2:(Value.ref ah == Value.ref af)=false) (h3:W.subIn K (.ref ah) (.ref af)=some false)
   (m7:(Value.ref ah == Value.ref an)=false) (m8:W.subIn K (.ref ah) (.ref an)=some false)
   (ff:(Value.ref ah == Value.ref aa)=false) (fg:W.subIn K (.ref ah) (.ref aa)=some false)
   (i9:(Value.ref ah == Value.ref ai)=false) (ja:W.subIn K (.ref ah) (.ref ai)=some false)
   (gK:W.subIn K (.ref ah) (.type "ValueError")=some true)
   (wQ:W.findIn K (.ref ai) "__getattribute__" = some (some (.builtin "BaseException.__getattribute__"))) (wR:W.findIn K (.ref ai) "__getattr__" = some none) (wS:W.mroIn K ai (.type "BaseException")=some true) (wT:W.hasDictIn K ai=true) (wU:W.findIn K (.ref ai) "__class__" = some (some (.builtin "object.__class__"))) (wV:W.mroIn K ai (.type "object")=some true)
   (h4:W.subIn K (.ref ai) (.ref ao)=some true)
   (kC:(Value.ref ai == Value.ref ak)=false) (kD:W.subIn K (.ref ai) (.ref ak)=some false)
   (kE:(Value.ref ai == Value.ref al)=false) (kF:W.subIn K (.ref ai) (.ref al)=some false)
   (fh:(Value.ref ai == Value.ref ab)=false) (fi:W.subIn K (.ref ai) (.ref ab)=some false)
   (jb:(Value.ref ai == Value.ref ag)=false) (jc:W.subIn K (.ref ai) (.ref ag)=some false)
   (kG:(Value.ref ai == Value.ref aj)=false) (kH:W.subIn K (.ref ai) (.ref aj)=some false)
   (h5:(Value.ref ai == Value.ref ae)=false) (h6:W.subIn K (.ref ai) (.ref ae)=some false)
   (l3:(Value.ref ai == Value.ref am)=false) (l4:W.subIn K (.ref ai) (.ref am)=some false)
   (gL:(Value.ref ai == Value.ref ac)=false) (gM:W.subIn K (.ref ai) (.ref ac)=some false)
   (gN:(Value.ref ai == Value.ref ad)=false) (gO:W.subIn K (.ref ai) (.ref ad)=some false)
   (h7:(Value.ref ai == Value.ref af)=false) (h8:W.subIn K (.ref ai) (.ref af)=some false)
   (jd:(Value.ref ai == Value.ref ah)=false) (je:W.subIn K (.ref ai) (.ref ah)=some false)
   (m9:(Value.ref ai == Value.ref an)=false) (na:W.subIn K (.ref ai) (.ref an)=some false)
   (fj:(Value.ref ai == Value.ref aa)=false) (fk:W.subIn K (.ref ai) (.ref aa)=some false)
   (gP:W.subIn K (.ref ai) (.type "ValueError")=some true)
   (u5:W.specialIn K (.ref ao) "__getattribute__" = some (some (.builtin "type.__getattribute__"))) (u6:W.readsIn K ao (.type "type")=true) (u7:W.findCls K (.ref ao) (.type "type") "__init__" = some (.val (.ref aU)))
   (w6:W.nsIn K mainGlobals "tuple" = some none)
   (acy:W.nsIn K mainGlobals "len" = some none)
   (w7:W.nsIn K mainGlobals "range" = some none)
   (acz:W.nsIn K mainGlobals "sum" = some none)
   (ada:W.nsIn K mainGlobals "zip" = some none)
   (adb:W.nsIn K mainGlobals "abs" = some none)
   (u8:W.nsIn K mainGlobals "sorted" = some none)
   (adc:W.nsIn K mainGlobals "set" = some none)
   (l5:W.nsIn K mainGlobals "isinstance" = some none)
   (l6:W.nsIn K mainGlobals "ValueError" = some none)
   (h9:W.nsIn K mainGlobals "MOST_NOTCHES" = some (some (.int 4 co)))
   (np:W.nsIn K mainGlobals "MOST_ROOM" = some (some (.int 3 fO)))
   (l7:W.nsIn K mainGlobals "MOST_LIMIT" = some (some (.int 400 d0)))
   (ia:W.nsIn K mainGlobals "MOST_WEIGHTS" = some (some (.int 5 cp)))
   (nq:W.nsIn K mainGlobals "MOST_HEFT" = some (some (.int 20 fP)))
   (eA:W.nsIn K mainGlobals "MOST_STANDINGS" = some (some (.int 1000 bN)))
   (l8:W.nsIn K mainGlobals "MOST_MOVES" = some (some (.int 300 d1))) :
   ∃fd:FuncData,(∀(s:Shared) (v:Value),BindsTo s fd ⟨[v],[]⟩ [("_law_script",v)])/\∀base:Heap,K.In base->base.Ns mainGlobals mg->FnOk l.prog w K mg base CX0 13 fa fd ["_law_script"] (zP1 K):=by
 have e:=hfa.symm.trans (W.mg_of X G yy)
 cases e
 have F_BeamError_init:=zi0 (st:=zd6) nQ nR bd
 have b_BeamError_init:zb6 K _ ["self","reason","word"] []:=fun s us X hl=>by
   rw[List.append_nil] at hl ⊢
   match us,hl with
   | [_,_,_],_=>exact BindsTo.of_defaults (fd:=W.fnOf "__init__" "BeamError.__init__" (zb1 zd6) (za9 zd6) (za2 zd6) (.ref bH) c3 c4 c5 c7 bq c6) rfl (X _ _ mC) rfl rfl rfl
 have F_NoWeight_init:=zi0 (st:=ze2) ph pi b1
 have b_NoWeight_init:zb6 K _ ["self","reason"] []:=fun s us X hl=>by
   rw[List.append_nil] at hl ⊢
   match us,hl with
   | [_,_],_=>exact BindsTo.of_defaults (fd:=W.fnOf "__init__" "NoWeight.__init__" (zb1 ze2) (za9 ze2) (za2 ze2) (.ref bS) dK dL dM dO bI dN) rfl (X _ _ nS) rfl rfl rfl
 have F_NoPlace_init:=zi0 (st:=zf0) qH qI cq
 have b_NoPlace_init:zb6 K _ ["self","reason"] []:=fun s us X hl=>by
   rw[List.append_nil] at hl ⊢
   match us,hl with
   | [_,_],_=>exact BindsTo.of_defaults (fd:=W.fnOf "__init__" "NoPlace.__init__" (zb1 zf0) (za9 zf0) (za2 zf0) (.ref ck) fl fm fn fp bT fo) rfl (X _ _ pj) rfl rfl rfl
 have F_SamePlace_init:=zi0 (st:=zd7) nU nV bO
 have b_SamePlace_init:zb6 K _ ["self","reason"] []:=fun s us X hl=>by
   rw[List.append_nil] at hl ⊢
   match us,hl with
   | [_,_],_=>exact BindsTo.of_defaults (fd:=W.fnOf "__init__" "SamePlace.__init__" (zb1 zd7) (za9 zd7) (za2 zd7) (.ref bJ) c8 c9 da dc br db) rfl (X _ _ mD) rfl rfl rfl
 have F_NoRoom_init:=zi0 (st:=zf7) so sp cU
 have b_NoRoom_init:zb6 K _ ["self","reason"] []:=fun s us X hl=>by
   rw[List.append_nil] at hl ⊢
   match us,hl with
   | [_,_],_=>exact BindsTo.of_defaults (fd:=W.fnOf "__init__" "NoRoom.__init__" (zb1 zf7) (za9 zf7) (za2 zf7) (.ref cS) gQ gR gS gU cl gT) rfl (X _ _ qJ) rfl rfl rfl
 have F_TipsInHand_init:=zi0 (st:=zd3) mF mG bv
 have b_TipsInHand_init:zb6 K _ ["self","reason"] []:=fun s us X hl=>by
   rw[List.append_nil] at hl ⊢
   match us,hl with
   | [_,_],_=>exact BindsTo.of_defaults (fd:=W.fnOf "__init__" "TipsInHand.__init__" (zb1 zd3) (za9 zd3) (za2 zd3) (.ref bs) cA cB cC cE bh cD) rfl (X _ _ lf) rfl rfl rfl
 have F_TipsBehind_init:=zi0 (st:=zd4) mI mJ bw
 have b_TipsBehind_init:zb6 K _ ["self","reason"] []:=fun s us X hl=>by
   rw[List.append_nil] at hl ⊢
   match us,hl with
   | [_,_],_=>exact BindsTo.of_defaults (fd:=W.fnOf "__init__" "TipsBehind.__init__" (zb1 zd4) (za9 zd4) (za2 zd4) (.ref bt) cF cG cH cJ bi cI) rfl (X _ _ lg) rfl rfl rfl
 have F_NoWay_init:=zi0 (st:=zg4) uv uw d3
 have b_NoWay_init:zb6 K _ ["self","reason"] []:=fun s us X hl=>by
   rw[List.append_nil] at hl ⊢
   match us,hl with
   | [_,_],_=>exact BindsTo.of_defaults (fd:=W.fnOf "__init__" "NoWay.__init__" (zb1 zg4) (za9 zg4) (za2 zg4) (.ref dP) jf jg jh jj cT ji) rfl (X _ _ sq) rfl rfl rfl
 have F_NothingBack_init:=zi0 (st:=zc9) lj lk bm
 have b_NothingBack_init:zb6 K _ ["self","reason"] []:=fun s us X hl=>by
   rw[List.append_nil] at hl ⊢
   match us,hl with
   | [_,_],_=>exact BindsTo.of_defaults (fd:=W.fnOf "__init__" "NothingBack.__init__" (zb1 zc9) (za9 zc9) (za2 zc9) (.ref bk) b6 b7 b8 ca bf b9) rfl (X _ _ jO) rfl rfl rfl
 have F_BadText_init:=zi0 (st:=zf1) qL qM cr
 have b_BadText_init:zb6 K _ ["self","reason"] []:=fun s us X hl=>by
   rw[List.append_nil] at hl ⊢
   match us,hl with
   | [_,_],_=>exact BindsTo.of_defaults (fd:=W.fnOf "__init__" "BadText.__init__" (zb1 zf1) (za9 zf1) (za2 zf1) (.ref cm) fq fr fs fu bU ft) rfl (X _ _ pk) rfl rfl rfl
 have F_BadBeam_init:=zi0 (st:=zf2) qO qP cs
 have b_BadBeam_init:zb6 K _ ["self","reason"] []:=fun s us X hl=>by
   rw[List.append_nil] at hl ⊢
   match us,hl with
   | [_,_],_=>exact BindsTo.of_defaults (fd:=W.fnOf "__init__" "BadBeam.__init__" (zb1 zf2) (za9 zf2) (za2 zf2) (.ref cn) fv fw fx fz bV fy) rfl (X _ _ pl) rfl rfl rfl
 have F_BadStanding_init:=zi0 (st:=zd0) lm ln bn
 have b_BadStanding_init:zb6 K _ ["self","reason"] []:=fun s us X hl=>by
   rw[List.append_nil] at hl ⊢
   match us,hl with
   | [_,_],_=>exact BindsTo.of_defaults (fd:=W.fnOf "__init__" "BadStanding.__init__" (zb1 zd0) (za9 zd0) (za2 zd0) (.ref bl) cb cc cd cf bg ce) rfl (X _ _ jP) rfl rfl rfl
 have F_StartPast_init:=zi0 (st:=zd8) nX nY bP
 have b_StartPast_init:zb6 K _ ["self","reason"] []:=fun s us X hl=>by
   rw[List.append_nil] at hl ⊢
   match us,hl with
   | [_,_],_=>exact BindsTo.of_defaults (fd:=W.fnOf "__init__" "StartPast.__init__" (zb1 zd8) (za9 zd8) (za2 zd8) (.ref bK) dd de df dh bu dg) rfl (X _ _ mK) rfl rfl rfl
 have F_GoalPast_init:=zi0 (st:=ze3) pn po b2
 have b_GoalPast_init:zb6 K _ ["self","reason"] []:=fun s us X hl=>by
   rw[List.append_nil] at hl ⊢
   match us,hl with
   | [_,_],_=>exact BindsTo.of_defaults (fd:=W.fnOf "__init__" "GoalPast.__init__" (zb1 ze3) (za9 ze3) (za2 ze3) (.ref bW) dQ dR dS dU bL dT) rfl (X _ _ nZ) rfl rfl rfl
 have F_PlayFull_init:=zi0 (st:=ze4) pq pr b3
 have b_PlayFull_init:zb6 K _ ["self","reason"] []:=fun s us X hl=>by
   rw[List.append_nil] at hl ⊢
   match us,hl with
   | [_,_],_=>exact BindsTo.of_defaults (fd:=W.fnOf "__init__" "PlayFull.__init__" (zb1 ze4) (za9 ze4) (za2 ze4) (.ref bX) dV dW dX dZ bM dY) rfl (X _ _ n0) rfl rfl rfl
 have F_Beam_init:=zd5 (st:=zk6) wb wc fQ
 have b_Beam_init:=F_Beam_init.binds (ps:=["self","notches","room","hefts","limit"]) fun _ _ _ _ _ _ us hl=>by obtain⟨x0,x1,x2,x3,x4,rfl⟩:=ar5 hl;rfl
 have F_outside:=zd5 (st:=zn3) z3 z4 lo
 have b_outside:=F_outside.binds (ps:=["number","low","high"]) fun _ _ _ _ _ _ us hl=>by obtain⟨x0,x1,x2,rfl⟩:=ar3 hl;rfl
 have F_check_bounds:=zd5 (st:=zh7) qQ qR ct
 have b_check_bounds:=F_check_bounds.binds (ps:=["notches","room","limit"]) fun _ _ _ _ _ _ us hl=>by obtain⟨x0,x1,x2,rfl⟩:=ar3 hl;rfl
 have F_check_hefts:=zd5 (st:=zi5) sr ss cV
 have b_check_hefts:=F_check_hefts.binds (ps:=["hefts"]) fun _ _ _ _ _ _ us hl=>by obtain⟨x0,rfl⟩:=ar1 hl;rfl
 have F_check_standings:=zd5 (st:=zg2) mL mM bx
 have b_check_standings:=F_check_standings.binds (ps:=["notches","weights"]) fun _ _ _ _ _ _ us hl=>by obtain⟨x0,x1,rfl⟩:=ar2 hl;rfl
 have F_as_standing:=zd5 (st:=zi6) su sv cW
 have b_as_standing:=F_as_standing.binds (ps:=["beam","standing"]) fun _ _ _ _ _ _ us hl=>by obtain⟨x0,x1,rfl⟩:=ar2 hl;rfl
 have F_tilt:=zd5 (st:=zt6) aft afu ux
 have b_tilt:=F_tilt.binds (ps:=["beam","standing"]) fun _ _ _ _ _ _ us hl=>by obtain⟨x0,x1,rfl⟩:=ar2 hl;rfl
 have F_past:=zd5 (st:=zA9) afv afw uy
 have b_past:=F_past.binds (ps:=["beam","tipped"]) fun _ _ _ _ _ _ us hl=>by obtain⟨x0,x1,rfl⟩:=ar2 hl;rfl
 have F_keeps:=zd5 (st:=zv2) aet aeu qS
 have b_keeps:=F_keeps.binds (ps:=["beam","standing"]) fun _ _ _ _ _ _ us hl=>by obtain⟨x0,x1,rfl⟩:=ar2 hl;rfl
 have F_in_hand:=zd5 (st:=zn4) z7 z8 lp
 have b_in_hand:=F_in_hand.binds (ps:=["beam","standing","weight"]) fun _ _ _ _ _ _ us hl=>by obtain⟨x0,x1,x2,rfl⟩:=ar3 hl;rfl
 have F_moved:=zd5 (st:=zv3) aev aew qT
 have b_moved:=F_moved.binds (ps:=["beam","standing","move"]) fun _ _ _ _ _ _ us hl=>by obtain⟨x0,x1,x2,rfl⟩:=ar3 hl;rfl
 have F_moves:=zd5 (st:=zo2) aex aey qU
 have b_moves:=F_moves.binds (ps:=["beam","standing"]) fun _ _ _ _ _ _ us hl=>by obtain⟨x0,x1,rfl⟩:=ar2 hl;rfl
 have F_turned:=zd5 (st:=zp9) ace acf n1
 have b_turned:=F_turned.binds (ps:=["move"]) fun _ _ _ _ _ _ us hl=>by obtain⟨x0,rfl⟩:=ar1 hl;rfl
 have F_behind:=zd5 (st:=zq0) acg ach n2
 have b_behind:=F_behind.binds (ps:=["places","move"]) fun _ _ _ _ _ _ us hl=>by obtain⟨x0,x1,rfl⟩:=ar2 hl;rfl
 have F_full:=zd5 (st:=zB0) afx afy uB
 have b_full:=F_full.binds (ps:=["beam","places","place"]) fun _ _ _ _ _ _ us hl=>by obtain⟨x0,x1,x2,rfl⟩:=ar3 hl;rfl
 have F_check_move:=zd5 (st:=zj4) uC uD d5
 have b_check_move:=F_check_move.binds (ps:=["beam","places","weight","taken","put"]) fun _ _ _ _ _ _ us hl=>by obtain⟨x0,x1,x2,x3,x4,rfl⟩:=ar5 hl;rfl
 have F_check_weight:=zd5 (st:=zh8) qV qW cu
 have b_check_weight:=F_check_weight.binds (ps:=["places","weight","taken"]) fun _ _ _ _ _ _ us hl=>by obtain⟨x0,x1,x2,rfl⟩:=ar3 hl;rfl
 have F_check_put:=zd5 (st:=zk7) wd we fR
 have b_check_put:=F_check_put.binds (ps:=["beam","places","taken","put"]) fun _ _ _ _ _ _ us hl=>by obtain⟨x0,x1,x2,x3,rfl⟩:=ar4 hl;rfl
 have F_check_tilts:=zd5 (st:=zi7) sw sx cX
 have b_check_tilts:=F_check_tilts.binds (ps:=["beam","held","added"]) fun _ _ _ _ _ _ us hl=>by obtain⟨x0,x1,x2,rfl⟩:=ar3 hl;rfl
 have F_puts:=zd5 (st:=zt7) afz aga uE
 have b_puts:=F_puts.binds (ps:=["beam","places","weight"]) fun _ _ _ _ _ _ us hl=>by obtain⟨x0,x1,x2,rfl⟩:=ar3 hl;rfl
 have F_Way_init:=zd5 (st:=zl7) yu yv ih
 have b_Way_init:=F_Way_init.binds (ps:=["self","reached","many","row","layers","again","shut"]) fun _ _ _ _ _ _ us hl=>by obtain⟨x0,x1,x2,x3,x4,x5,x6,rfl⟩:=ar7 hl;rfl
 have F_fewest:=zd5 (st:=zq1) aci acj n3
 have b_fewest:=F_fewest.binds (ps:=["beam","start","goal"]) fun _ _ _ _ _ _ us hl=>by obtain⟨x0,x1,x2,rfl⟩:=ar3 hl;rfl
 have F_next_move:=zd5 (st:=zk8) wf wg fS
 have b_next_move:=F_next_move.binds (ps:=["beam","start","goal"]) fun _ _ _ _ _ _ us hl=>by obtain⟨x0,x1,x2,rfl⟩:=ar3 hl;rfl
 have F_search:=zd5 (st:=zq2) ack acl n4
 have b_search:=F_search.binds (ps:=["beam","start","goal"]) fun _ _ _ _ _ _ us hl=>by obtain⟨x0,x1,x2,rfl⟩:=ar3 hl;rfl
 have F_next_layer:=zd5 (st:=zj5) uH uI d6
 have b_next_layer:=F_next_layer.binds (ps:=["beam","layer","led"]) fun _ _ _ _ _ _ us hl=>by obtain⟨x0,x1,x2,rfl⟩:=ar3 hl;rfl
 have F_row_to:=zd5 (st:=zq3) acm acn n5
 have b_row_to:=F_row_to.binds (ps:=["goal","led"]) fun _ _ _ _ _ _ us hl=>by obtain⟨x0,x1,rfl⟩:=ar2 hl;rfl
 have F_moved_again:=zd5 (st:=ze7) sy sz cY
 have b_moved_again:=F_moved_again.binds (ps:=["row"]) fun _ _ _ _ _ _ us hl=>by obtain⟨x0,rfl⟩:=ar1 hl;rfl
 have F_Play_init:=zd5 (st:=zk9) wi wj fT
 have b_Play_init:=F_Play_init.binds (ps:=["self","beam","start"]) fun _ _ _ _ _ _ us hl=>by obtain⟨x0,x1,x2,rfl⟩:=ar3 hl;rfl
 have F_Play_move:=zd5 (st:=zl0) wl wm cy
 have b_Play_move:=F_Play_move.binds (ps:=["self","move"]) fun _ _ _ _ _ _ us hl=>by obtain⟨x0,x1,rfl⟩:=ar2 hl;rfl
 have F_Play_back:=zd5 (st:=zl1) wo wp cz
 have b_Play_back:=F_Play_back.binds (ps:=["self"]) fun _ _ _ _ _ _ us hl=>by obtain⟨x0,rfl⟩:=ar1 hl;rfl
 have F_read_move:=zd5 (st:=zl2) wq wr fU
 have b_read_move:=F_read_move.binds (ps:=["text"]) fun _ _ _ _ _ _ us hl=>by obtain⟨x0,rfl⟩:=ar1 hl;rfl
 have F_w_at:=zd5 (st:=zB1) agb agc uK
 have b_w_at:=F_w_at.binds (ps:=["_law_script","_law_k"]) fun _ _ _ _ _ _ us hl=>by obtain⟨x0,x1,rfl⟩:=ar2 hl;rfl
 have F_w_bring:=zd5 (st:=zn5) aac aad ls
 have b_w_bring:=F_w_bring.binds (ps:=["_law_which","_law_stiff","_law_loose","_law_notch"]) fun _ _ _ _ _ _ us hl=>by obtain⟨x0,x1,x2,x3,rfl⟩:=ar4 hl;rfl
 have F_w_played:=zd5 (st:=zl8) yw yx ii
 have b_w_played:=F_w_played.binds (ps:=["_law_loose","_law_notch"]) fun _ _ _ _ _ _ us hl=>by obtain⟨x0,x1,rfl⟩:=ar2 hl;rfl
 have F_w_flags:=zd5 (st:=zn6) aae aaf lt
 have b_w_flags:=F_w_flags.binds (ps:=["_law_which","_law_stiff","_law_loose","_law_play","_law_notch"]) fun _ _ _ _ _ _ us hl=>by obtain⟨x0,x1,x2,x3,x4,rfl⟩:=ar5 hl;rfl
 have F_law:=zd5 (st:=zJ6) agj agk yz
 have b_law:=F_law.binds (ps:=["_law_script"]) fun _ _ _ _ _ _ us hl=>by obtain⟨x0,rfl⟩:=ar1 hl;rfl
 have T:Txt K mg { ao:=aU,ap:=_,aE:=a4,bb:=_,aJ:=a8,bg:=_,aD:=a1,a9:=_,aO:=be,br:=_,az:=aZ,aZ:=_,aA:=a0,a0:=_,aS:=bj,bz:=_,ax:=aX,aT:=_,aK:=a9,bh:=_,aL:=ba,bi:=_,ay:=aY,aU:=_,aw:=a2,aN:=_,aF:=a5,bc:=_,aG:=a6,bd:=_,aP:=bz,a2:=_,aB:=fA,aH:=_,aC:=bo,aM:=_,a6:=bD,bs:=_,aI:=a7,a1:=_,au:=bE,av:=_,bA:=oR,bK:=_,bL:=oS,bS:=_,bj:=l9,bx:=_,bq:=fC,bE:=_,bM:=ma,bW:=_,bX:=mb,b4:=_,bN:=ib,bY:=_,bk:=ic,bB:=_,bT:=oU,b1:=_,be:=bY,bC:=_,aX:=bp,bl:=_,bm:=cv,bH:=_,a7:=bF,bt:=_,b2:=o3,b5:=_,bv:=bZ,bO:=_,aV:=id,ba:=_,aQ:=cw,a3:=_,bP:=ie,bZ:=_,bf:=b0,bD:=_,bQ:=ig,b0:=_,a8:=bG,bu:=_,a4:=bA,bn:=_,aR:=bB,a5:=_,bo:=bC,bI:=_,bp:=cx,bJ:=_,b3:=o4,b6:=_,bF:=fE,bU:=_,bw:=dr,bR:=_,bG:=fF,bV:=_,b7:=fa,b9:=_,aW:=bb,aY:=bc,ar:=a3,ag:=ag,aj:=aj,ae:=ae,am:=am,ac:=ac,ad:=ad,an:=an,ab:=aa,al:=ak,ak:=al,aa:=ab,af:=af,ah:=ah,ai:=ai,aq:=ao,ca:=co,ce:=fO,cc:=d0,cb:=cp,cf:=fP,b8:=bN,cd:=d1 }:={ fN:=F_BeamError_init,aa:=b_BeamError_init,iN:=bd,f5:=F_NoWeight_init,aJ:=b_NoWeight_init,iO:=b1,gg:=F_NoPlace_init,gh:=b_NoPlace_init,iP:=cq,fO:=F_SamePlace_init,fP:=b_SamePlace_init,iQ:=bO,gA:=F_NoRoom_init,gB:=b_NoRoom_init,iR:=cU,fo:=F_TipsInHand_init,fp:=b_TipsInHand_init,iS:=bv,fq:=F_TipsBehind_init,fr:=b_TipsBehind_init,iT:=bw,gX:=F_NoWay_init,gY:=b_NoWay_init,iU:=d3,eI:=F_NothingBack_init,eJ:=b_NothingBack_init,iV:=bm,gi:=F_BadText_init,gj:=b_BadText_init,iW:=cr,gk:=F_BadBeam_init,gl:=b_BadBeam_init,iX:=cs,eK:=F_BadStanding_init,eL:=b_BadStanding_init,iY:=bn,fQ:=F_StartPast_init,aI:=b_StartPast_init,iZ:=bP,f6:=F_GoalPast_init,f7:=b_GoalPast_init,i0:=b2,f8:=F_PlayFull_init,f9:=b_PlayFull_init,i1:=b3,cd:=F_Beam_init,aE:=b_Beam_init,i2:=fQ,hW:=F_outside,am:=b_outside,an:=W.mg_of X G rn,ao:=lo,aQ:=F_check_bounds,aR:=b_check_bounds,aS:=W.mg_of X G g4,aT:=ct,gC:=F_check_hefts,gD:=b_check_hefts,gE:=W.mg_of X G jp,gF:=cV,fs:=F_check_standings,ft:=b_check_standings,fu:=W.mg_of X G dk,fv:=bx,aX:=F_as_standing,af:=b_as_standing,ag:=W.mg_of X G jq,ah:=cW,gZ:=F_tilt,eM:=b_tilt,eN:=W.mg_of X G z5,eO:=ux,iB:=F_past,aK:=b_past,aL:=W.mg_of X G z6,aM:=uy,iu:=F_keeps,ax:=b_keeps,ay:=W.mg_of X G w1,az:=qS,hX:=F_in_hand,eP:=b_in_hand,eQ:=W.mg_of X G ro,eR:=lp,iv:=F_moved,ar:=b_moved,au:=W.mg_of X G w2,av:=qT,iw:=F_moves,ix:=b_moves,iy:=W.mg_of X G w3,iz:=qU,ib:=F_turned,ic:=b_turned,id:=W.mg_of X G uz,ie:=n1,ig:=F_behind,bg:=b_behind,bh:=W.mg_of X G uA,bi:=n2,iC:=F_full,g0:=b_full,g1:=W.mg_of X G z9,g2:=uB,g3:=F_check_move,g4:=b_check_move,g5:=W.mg_of X G lq,g6:=d5,gm:=F_check_weight,gn:=b_check_weight,go:=W.mg_of X G g5,gp:=cu,hm:=F_check_put,hn:=b_check_put,ho:=W.mg_of X G nh,hp:=fR,gG:=F_check_tilts,gH:=b_check_tilts,gI:=W.mg_of X G jr,gJ:=cX,iD:=F_puts,iE:=b_puts,iF:=W.mg_of X G aaa,iG:=uE,hH:=F_Way_init,dx:=b_Way_init,i3:=ih,bj:=F_fewest,bk:=b_fewest,bl:=W.mg_of X G uF,bm:=n3,ce:=F_next_move,cf:=b_next_move,cg:=W.mg_of X G ni,ch:=fS,ih:=F_search,ii:=b_search,ij:=W.mg_of X G uG,ik:=n4,g7:=F_next_layer,g8:=b_next_layer,g9:=W.mg_of X G lr,ha:=d6,il:=F_row_to,im:=b_row_to,io:=W.mg_of X G uJ,ip:=n5,gK:=F_moved_again,gL:=b_moved_again,gM:=W.mg_of X G js,gN:=cY,hq:=F_Play_init,ci:=b_Play_init,i4:=fT,cj:=F_Play_move,aF:=b_Play_move,i5:=cy,hr:=F_Play_back,hs:=b_Play_back,i6:=cz,ht:=F_read_move,hu:=b_read_move,hv:=W.mg_of X G nm,hw:=fU,iH:=F_w_at,bn:=b_w_at,bo:=W.mg_of X G aab,bp:=uK,hY:=F_w_bring,hZ:=b_w_bring,h0:=W.mg_of X G rp,h1:=ls,hI:=F_w_played,hJ:=b_w_played,hK:=W.mg_of X G pu,hL:=ii,h2:=F_w_flags,h3:=b_w_flags,h4:=W.mg_of X G rq,h5:=lt,iI:=F_law,i7:=b_law,i8:=W.mg_of X G yy,i9:=yz,ac:=⟨aez,afa,afb,afc⟩,eS:=W.mg_of X G afr,cV:=⟨w4,ng,wa,afd⟩,ai:=fJ,aw:=lu,aj:=jt,aC:=ju,aA:=⟨agd,age,agf,agg⟩,hM:=W.mg_of X G agi,hb:=⟨aag,pt,yt,agh⟩,aU:=g6,hx:=nn,hN:=pv,gO:=jv,hc:=lv,hy:=no,ak:=⟨afe,aff,afg,afh⟩,hd:=W.mg_of X G afs,gq:=⟨w5,nj,wh,afi⟩,bq:=lw,gP:=jw,ap:=d7,aq:=lx,aD:=⟨nk,wk,cy⟩,he:=⟨nl,wn,cz⟩,aN:=W.mg_of X G yq,eT:=W.mg_of X G z0,ck:=W.mg_of X G v7,fR:=W.mg_of X G acc,br:=W.mg_of X G ur,bs:=W.mg_of X G ut,gr:=W.mg_of X G aes,aY:=W.mg_of X G sl,eU:=W.mg_of X G z1,eV:=W.mg_of X G z2,aZ:=W.mg_of X G sm,aG:=W.mg_of X G v8,dy:=W.mg_of X G yr,dz:=W.mg_of X G ys,ae:=W.mg_of X G v9,aO:=⟨⟨_,_,_,_,_,_,_,_,_,_,_,_,_,_,_,ws,wt⟩,wu,wv⟩,eW:=⟨⟨_,_,_,_,_,_,_,_,_,_,_,_,_,_,_,yA,yB⟩,yC,yD⟩,cl:=⟨⟨_,_,_,_,_,_,_,_,_,_,_,_,_,_,_,uL,uM⟩,uN,uO⟩,fS:=⟨⟨_,_,_,_,_,_,_,_,_,_,_,_,_,_,_,aah,aai⟩,aaj,aak⟩,bt:=⟨⟨_,_,_,_,_,_,_,_,_,_,_,_,_,_,_,sA,sB⟩,sC,sD⟩,bu:=⟨⟨_,_,_,_,_,_,_,_,_,_,_,_,_,_,_,sE,sF⟩,sG,sH⟩,gs:=⟨⟨_,_,_,_,_,_,_,_,_,_,_,_,_,_,_,aco,acp⟩,acq,acr⟩,a0:=⟨⟨_,_,_,_,_,_,_,_,_,_,_,_,_,_,_,qX,qY⟩,qZ,q0⟩,eX:=⟨⟨_,_,_,_,_,_,_,_,_,_,_,_,_,_,_,yE,yF⟩,yG,yH⟩,eY:=⟨⟨_,_,_,_,_,_,_,_,_,_,_,_,_,_,_,yI,yJ⟩,yK,yL⟩,a1:=⟨⟨_,_,_,_,_,_,_,_,_,_,_,_,_,_,_,q1,q2⟩,q3,q4⟩,aH:=⟨⟨_,_,_,_,_,_,_,_,_,_,_,_,_,_,_,uP,uQ⟩,uR,uS⟩,dA:=⟨⟨_,_,_,_,_,_,_,_,_,_,_,_,_,_,_,ww,wx⟩,wy,wz⟩,dB:=⟨⟨_,_,_,_,_,_,_,_,_,_,_,_,_,_,_,wA,wB⟩,wC,wD⟩,dC:=fG,cm:=pg,eZ:=cN,fT:=d8,h6:=g1,hO:=qG,fw:=dl,ga:=fK,hz:=d2,hf:=nT,ec:=cg,fx:=dm,iq:=jo,h7:=sn,fU:=d9,gt:=g7,hg:=di,gQ:=mE,dD:=b4,e0:=cO,hh:=dj,gR:=mH,dE:=b5,e1:=cP,iA:=lh,ir:=uu,gb:=fL,gS:=jx,gT:=cL,gu:=li,cW:=bQ,ed:=ch,h8:=g2,hP:=qK,fy:=dn,gc:=fM,h9:=g3,hQ:=qN,fz:=dp,gd:=fN,gU:=cM,gv:=ll,cX:=bR,ee:=ci,cn:=d4,bv:=nW,ef:=cj,fA:=dq,hR:=fH,hA:=pm,e2:=cQ,fV:=ea,hS:=fI,hB:=pp,e3:=cR,fW:=eb,aP:=⟨xw1,xw2⟩,hC:=⟨wE,wF,wG,wH,wI,wJ⟩,cY:=zl4 aB (by rw[az];rfl) aA g8,eg:=za3 jQ (by rw[aM];rfl) aN jR,eh:=za3 jS (by rw[aO];rfl) aP jT,bP:=za3 eB (by rw[ap];rfl) aq eC,dF:=zh4,ei:=za3 jU (by rw[aQ];rfl) aR jV,cZ:=za3 g9 (by rw[aC];rfl) aD ha,e4:=za3 ly (by rw[aS];rfl) aT lz,co:=za3 fV (by rw[av];rfl) aw fW,cp:=za3 fX (by rw[ax];rfl) ay fY,c0:=za3 hb (by rw[aE];rfl) aF hc,dG:=za3 ij (by rw[aI];rfl) aJ ik,fB:=za3 mN (by rw[aV];rfl) aW mO,bQ:=za3 eD (by rw[ar];rfl) au eE,dH:=za3 il (by rw[aK];rfl) aL im,cq:=zi8 (by decide +kernel) fZ,hT:=⟨yM,yN,yO,yP,yQ,yR⟩,dI:=zl4 aB (by rw[az];rfl) aA io,e5:=za3 lA (by rw[aM];rfl) aN lB,e6:=za3 lC (by rw[aO];rfl) aP lD,cr:=za3 f0 (by rw[ap];rfl) aq f1,ej:=za3 jW (by rw[aG];rfl) aH jX,e7:=zh4,dJ:=za3 ip (by rw[aC];rfl) aD iq,fC:=za3 mP (by rw[aS];rfl) aT mQ,c1:=za3 hd (by rw[av];rfl) aw he,c2:=za3 hf (by rw[ax];rfl) ay hg,dK:=za3 ir (by rw[aE];rfl) aF it,ek:=za3 jY (by rw[aI];rfl) aJ jZ,fX:=za3 n6 (by rw[aV];rfl) aW n7,cs:=za3 f2 (by rw[ar];rfl) au f3,el:=za3 j0 (by rw[aK];rfl) aL j1,c3:=zi8 (by decide +kernel) hh,hi:=⟨uT,uU,uV,uW,uX,uY⟩,ct:=zl4 aB (by rw[az];rfl) aA f4,dL:=za3 iu (by rw[aM];rfl) aN iv,dM:=za3 iw (by rw[aO];rfl) aP ix,bw:=za3 ec (by rw[ap];rfl) aq ed,c4:=za3 hi (by rw[aG];rfl) aH hj,dN:=za3 iy (by rw[aQ];rfl) aR iz,cu:=zh4,em:=za3 j2 (by rw[aS];rfl) aT j3,bR:=za3 eF (by rw[av];rfl) aw eG,bS:=za3 eH (by rw[ax];rfl) ay eI,cv:=za3 f5 (by rw[aE];rfl) aF f6,c5:=za3 hk (by rw[aI];rfl) aJ hm,e8:=za3 lE (by rw[aV];rfl) aW lF,bx:=za3 ee (by rw[ar];rfl) au ef,c6:=za3 hn (by rw[aK];rfl) aL ho,bT:=zi8 (by decide +kernel) eJ,ia:=⟨aal,aam,aan,aao,aap,aaq⟩,en:=zl4 aB (by rw[az];rfl) aA j4,fD:=za3 mR (by rw[aM];rfl) aN mS,fE:=za3 mT (by rw[aO];rfl) aP mU,c7:=za3 hp (by rw[ap];rfl) aq hq,e9:=za3 lG (by rw[aG];rfl) aH lH,fF:=za3 mV (by rw[aQ];rfl) aR mW,eo:=za3 j5 (by rw[aC];rfl) aD j6,fY:=zh4,dO:=za3 iA (by rw[av];rfl) aw iB,dP:=za3 iC (by rw[ax];rfl) ay iD,ep:=za3 j7 (by rw[aE];rfl) aF j8,fa:=za3 lI (by rw[aI];rfl) aJ lJ,ge:=za3 pw (by rw[aV];rfl) aW px,c8:=za3 hr (by rw[ar];rfl) au hs,fb:=za3 lK (by rw[aK];rfl) aL lL,dQ:=zi8 (by decide +kernel) iE,gV:=⟨sI,sJ,sK,sL,sM,sN⟩,bU:=zl4 aB (by rw[az];rfl) aA eK,c9:=za3 ht (by rw[aM];rfl) aN hu,da:=za3 hv (by rw[aO];rfl) aP hw,a6:=za3 ds (by rw[ap];rfl) aq dt,cw:=za3 f7 (by rw[aG];rfl) aH f8,db:=za3 hx (by rw[aQ];rfl) aR hy,bV:=za3 eL (by rw[aC];rfl) aD eM,dR:=za3 iF (by rw[aS];rfl) aT iG,bz:=zh4,bA:=za3 eg (by rw[ax];rfl) ay eh,bW:=za3 eN (by rw[aE];rfl) aF eO,cx:=za3 f9 (by rw[aI];rfl) aJ ga,eq:=za3 j9 (by rw[aV];rfl) aW ka,a7:=za3 du (by rw[ar];rfl) au dv,cy:=za3 gb (by rw[aK];rfl) aL gc,bB:=zi8 (by decide +kernel) ei,gW:=⟨sO,sP,sQ,sR,sS,sT⟩,bX:=zl4 aB (by rw[az];rfl) aA eP,dc:=za3 hz (by rw[aM];rfl) aN hA,dd:=za3 hB (by rw[aO];rfl) aP hC,a8:=za3 dw (by rw[ap];rfl) aq dx,cz:=za3 gd (by rw[aG];rfl) aH ge,de:=za3 hD (by rw[aQ];rfl) aR hE,bY:=za3 eQ (by rw[aC];rfl) aD eR,dS:=za3 iH (by rw[aS];rfl) aT iI,bC:=za3 ej (by rw[av];rfl) aw ek,bD:=zh4,bZ:=za3 eS (by rw[aE];rfl) aF eT,cA:=za3 gf (by rw[aI];rfl) aJ gg,er:=za3 kb (by rw[aV];rfl) aW kc,a9:=za3 dy (by rw[ar];rfl) au dz,cB:=za3 gh (by rw[aK];rfl) aL gi,bE:=zi8 (by decide +kernel) el,it:=⟨acs,act,acu,acv,acw,acx⟩,fc:=zl4 aB (by rw[az];rfl) aA lM,fZ:=za3 n8 (by rw[aM];rfl) aN n9,f0:=za3 oa (by rw[aO];rfl) aP ob,dT:=za3 iJ (by rw[ap];rfl) aq iK,fG:=za3 mX (by rw[aG];rfl) aH mY,f1:=za3 oc (by rw[aQ];rfl) aR od,fd:=za3 lN (by rw[aC];rfl) aD lO,gf:=za3 py (by rw[aS];rfl) aT pz,es:=za3 kd (by rw[av];rfl) aw ke,et:=za3 kf (by rw[ax];rfl) ay kg,fe:=za3 lP (by rw[aE];rfl) aF lQ,fH:=za3 mZ (by rw[aI];rfl) aJ m0,gw:=zh4,dU:=za3 iL (by rw[ar];rfl) au iM,fI:=za3 m1 (by rw[aK];rfl) aL m2,eu:=zi8 (by decide +kernel) kh,gx:=⟨q5,q6,q7,q8,q9,ra⟩,bF:=zl4 aB (by rw[az];rfl) aA em,cC:=za3 gj (by rw[aM];rfl) aN gk,cD:=za3 gl (by rw[aO];rfl) aP gm,a2:=za3 cZ (by rw[ap];rfl) aq c0,b0:=za3 eU (by rw[aG];rfl) aH eV,cE:=za3 gn (by rw[aQ];rfl) aR go,bG:=za3 en (by rw[aC];rfl) aD eo,df:=za3 hF (by rw[aS];rfl) aT hG,ba:=za3 dA (by rw[av];rfl) aw dB,bb:=za3 dC (by rw[ax];rfl) ay dD,bH:=za3 ep (by rw[aE];rfl) aF eq,b1:=za3 eW (by rw[aI];rfl) aJ eX,dV:=za3 iN (by rw[aV];rfl) aW iO,a3:=zh4,b2:=za3 eY (by rw[aK];rfl) aL eZ,bc:=zi8 (by decide +kernel) dE,hU:=⟨yS,yT,yU,yV,yW,yX⟩,dW:=zl4 aB (by rw[az];rfl) aA iP,ff:=zh4,fg:=za3 lR (by rw[aO];rfl) aP lS,cF:=za3 gp (by rw[ap];rfl) aq gq,ev:=za3 ki (by rw[aG];rfl) aH kj,fh:=za3 lT (by rw[aQ];rfl) aR lU,dX:=za3 iQ (by rw[aC];rfl) aD iR,fJ:=za3 m3 (by rw[aS];rfl) aT m4,dg:=za3 hH (by rw[av];rfl) aw hI,dh:=za3 hJ (by rw[ax];rfl) ay hK,dY:=za3 iS (by rw[aE];rfl) aF iT,ew:=za3 kk (by rw[aI];rfl) aJ kl,f2:=za3 oe (by rw[aV];rfl) aW og,cG:=za3 gr (by rw[ar];rfl) au gs,ex:=za3 km (by rw[aK];rfl) aL kn,di:=zi8 (by decide +kernel) hL,hV:=⟨yY,yZ,y0,y1,y2,y3⟩,dZ:=zl4 aB (by rw[az];rfl) aA iU,fi:=za3 lV (by rw[aM];rfl) aN lW,fj:=zh4,cH:=za3 gt (by rw[ap];rfl) aq gu,ey:=za3 ko (by rw[aG];rfl) aH kp,fk:=za3 lX (by rw[aQ];rfl) aR lY,d0:=za3 iV (by rw[aC];rfl) aD iW,fK:=za3 m5 (by rw[aS];rfl) aT m6,dj:=za3 hM (by rw[av];rfl) aw hN,dk:=za3 hO (by rw[ax];rfl) ay hP,d1:=za3 iX (by rw[aE];rfl) aF iY,ez:=za3 kq (by rw[aI];rfl) aJ kr,f3:=za3 oh (by rw[aV];rfl) aW oi,cI:=za3 gv (by rw[ar];rfl) au gw,eA:=za3 ks (by rw[aK];rfl) aL kt,dl:=zi8 (by decide +kernel) hQ,gy:=⟨rb,rc,rd,re,rf,rg⟩,bI:=zl4 aB (by rw[az];rfl) aA er,cJ:=za3 gx (by rw[aM];rfl) aN gy,cK:=za3 gz (by rw[aO];rfl) aP gA,a4:=zh4,b3:=za3 e0 (by rw[aG];rfl) aH e1,cL:=za3 gB (by rw[aQ];rfl) aR gC,bJ:=za3 es (by rw[aC];rfl) aD et,dm:=za3 hR (by rw[aS];rfl) aT hS,bd:=za3 dF (by rw[av];rfl) aw dG,be:=za3 dH (by rw[ax];rfl) ay dI,bK:=za3 eu (by rw[aE];rfl) aF ev,b4:=za3 e2 (by rw[aI];rfl) aJ e3,d2:=za3 iZ (by rw[aV];rfl) aW i0,a5:=za3 c1 (by rw[ar];rfl) au c2,b5:=za3 e4 (by rw[aK];rfl) aL e5,bf:=zi8 (by decide +kernel) dJ,hj:=⟨uZ,u0,u1,u2,u3,u4⟩,cM:=zl4 aB (by rw[az];rfl) aA gD,d3:=za3 i1 (by rw[aM];rfl) aN i2,d4:=za3 i3 (by rw[aO];rfl) aP i4,bL:=za3 ew (by rw[ap];rfl) aq ex,dn:=za3 hT (by rw[aG];rfl) aH hU,d5:=za3 i5 (by rw[aQ];rfl) aR i6,cN:=za3 gE (by rw[aC];rfl) aD gF,eB:=za3 ku (by rw[aS];rfl) aT kv,b6:=za3 e6 (by rw[av];rfl) aw e7,b7:=za3 e8 (by rw[ax];rfl) ay e9,cO:=zh4,dp:=za3 hV (by rw[aI];rfl) aJ hW,fl:=za3 lZ (by rw[aV];rfl) aW l0,bM:=za3 ey (by rw[ar];rfl) au ez,dq:=za3 hX (by rw[aK];rfl) aL hY,b8:=zi8 (by decide +kernel) fb,hD:=⟨wK,wL,wM,wN,wO,wP⟩,dr:=zl4 aB (by rw[az];rfl) aA hZ,eC:=za3 kw (by rw[aM];rfl) aN kx,eD:=za3 ky (by rw[aO];rfl) aP kz,b9:=za3 fc (by rw[ap];rfl) aq fe,d6:=za3 i7 (by rw[aG];rfl) aH i8,eE:=za3 kA (by rw[aQ];rfl) aR kB,ds:=za3 h0 (by rw[aC];rfl) aD h1,fm:=za3 l1 (by rw[aS];rfl) aT l2,cP:=za3 gG (by rw[av];rfl) aw gH,cQ:=za3 gI (by rw[ax];rfl) ay gJ,dt:=za3 h2 (by rw[aE];rfl) aF h3,d7:=zh4,fL:=za3 m7 (by rw[aV];rfl) aW m8,ca:=za3 ff (by rw[ar];rfl) au fg,d8:=za3 i9 (by rw[aK];rfl) aL ja,cR:=zi8 (by decide +kernel) gK,hE:=⟨wQ,wR,wS,wT,wU,wV⟩,du:=zl4 aB (by rw[az];rfl) aA h4,eF:=za3 kC (by rw[aM];rfl) aN kD,eG:=za3 kE (by rw[aO];rfl) aP kF,cb:=za3 fh (by rw[ap];rfl) aq fi,d9:=za3 jb (by rw[aG];rfl) aH jc,eH:=za3 kG (by rw[aQ];rfl) aR kH,dv:=za3 h5 (by rw[aC];rfl) aD h6,fn:=za3 l3 (by rw[aS];rfl) aT l4,cS:=za3 gL (by rw[av];rfl) aw gM,cT:=za3 gN (by rw[ax];rfl) ay gO,dw:=za3 h7 (by rw[aE];rfl) aF h8,ea:=za3 jd (by rw[aI];rfl) aJ je,fM:=za3 m9 (by rw[aV];rfl) aW na,cc:=za3 fj (by rw[ar];rfl) au fk,eb:=zh4,cU:=zi8 (by decide +kernel) gP,ad:=⟨u5,u6,u7,bd⟩,aV:=W.mg_none_of X G w6,al:=W.mg_none_of X G acy,aB:=W.mg_none_of X G w7,iJ:=W.mg_none_of X G acz,iK:=W.mg_none_of X G ada,iL:=W.mg_none_of X G adb,bN:=W.mg_none_of X G u8,iM:=W.mg_none_of X G adc,ab:=W.mg_none_of X G l5,hk:=W.mg_none_of X G l6,aW:=W.mg_of X G h9,hF:=W.mg_of X G np,hl:=W.mg_of X G l7,gz:=W.mg_of X G ia,hG:=W.mg_of X G nq,f4:=W.mg_of X G eA,bO:=W.mg_of X G l8 }
 exact⟨_,fun s v=>.of_eq rfl,fun base _ _=>ok_law T⟩
theorem walk {l:W.OpenLaw}{q:Program}{loose:List Str}{XP:(Str->Option Value)->Heap->Prop}{YP:World->Heap->Prop}{d:DefRec}{K:Params->W.Frag}(hn:l.most=some 63)(hdf:d.params.defaults=[])
   (hY:∀(w:World) (h:Heap),YP w h->(K w.params).In h)
   (F:∀(w:World) (mg:Str->Option Value) (fa:Addr) (h:Heap),(K w.params).In h->h.Ns mainGlobals mg->mg d.name=some (.ref fa) →
     ∃fd:FuncData,(∀(s:Shared) (u:Value),BindsTo s fd ⟨[u],[]⟩ [("_law_script",u)])/\∀base:Heap,(K w.params).In base->base.Ns mainGlobals mg->FnOk l.prog w (K w.params) mg base CX0 13 fa fd ["_law_script"] (zP1 (K w.params))) :
   W.WalkO q loose XP YP l.row.toRowW d [] (fun f vs=>PySem.call f vs) :=
 L2.walk_of (n:=63) (k:=13) (x:="_law_script") (CX:=fun _=>CX0) (sp:=fun w=>zP1 (K w.params)) hn (by decide) hdf ⟨rfl,by decide,by decide⟩ hY F (fun _ _ a ns hl _ hS=>⟨a,ns,rfl,hS,hl,fun _=>rfl⟩) fun _ _ _ _ _ z=>z
theorem walkZ {l:W.OpenLaw}{q:Program}{loose:List Str}{XP:(Str->Option Value)->Heap->Prop}{d:DefRec}{K:Params->W.Frag}(hn:l.most=some 63)(hdf:d.params.defaults=[])
 (F:∀(w:World) (mg:Str->Option Value) (fa:Addr) (h:Heap),(K w.params).In h->h.Ns mainGlobals mg->mg d.name=some (.ref fa) →
   ∃fd:FuncData,(∀(s:Shared) (u:Value),BindsTo s fd ⟨[u],[]⟩ [("_law_script",u)])/\∀base:Heap,(K w.params).In base->base.Ns mainGlobals mg->FnOk l.prog w (K w.params) mg base CX0 13 fa fd ["_law_script"] (zP1 (K w.params))) :
 W.WalkO q loose XP (fun w h=>(K w.params).In h) l.row.toRowW d [] (fun f vs=>PySem.call f vs):=walk hn hdf (fun _ _ Y=>Y) F
end Bt
open PySem PySem.W PyProof.Rows
set_option maxRecDepth 100000 in
set_option maxHeartbeats 0 in
theorem PySem.Challenge.cw_beamtender_k12_error_classes_holds : PySem.Challenge.rw_beamtender_k12_error_classes.Holds := by
  w_on; o_law; z_head; (case hw => w_witness2)
  k_fill
  intro w0 s0 s1 mg0 mb0 G0 y0 fa0 o0 pm0 cd0 doc0 dV0 kV0 ho0 hd0 hcd0 hD0 hmg0 hg0 args0 vals0 as0 L0 hpre0 hlay0 hrd0 hwl0 hlo0
  z_open y0 L0 KX0 ZH0 ZN0 ZT0
  clear ZH0 ZN0 ZT0
  refine Bt.walkZ (l := PySem.Challenge.rw_beamtender_k12_error_classes) rfl rfl ?F w0 s0 s1 mg0 mb0 G0 KX0 fa0 o0 pm0 cd0 doc0 dV0 kV0 ho0 hd0 hcd0 hD0 hmg0 hg0 args0 vals0 as0 hpre0 hlay0 hrd0 hwl0 hlo0
  case F =>
    clear y0 L0 KX0 G0 ho0 hd0 hcd0 hD0 hmg0 hg0 hpre0 hlay0 hrd0 hwl0 hlo0
    intro w mg fa h KX G hmg
    refine' Bt.all_mk KX G hmg ?aA ?aB ?aC ?aD ?aE ?aF ?aG ?aH ?aI ?aJ ?aK ?aL ?aM ?aN ?aO ?aP ?aQ ?aR ?aS ?aT ?aU ?aV ?aW ?aX ?aY ?aZ ?bA ?bB ?bC ?bD ?bE ?bF ?bG ?bH ?bI ?bJ ?bK ?bL ?bM ?bN ?bO ?bP ?bQ ?bR ?bS ?bT ?bU ?bV ?bW ?bX ?bY ?bZ ?cA ?cB ?cC ?cD ?cE ?cF ?cG ?cH ?cI ?cJ ?cK ?cL ?cM ?cN ?cO ?cP ?cQ ?cR ?cS ?cT ?cU ?cV ?cW ?cX ?cY ?cZ ?dA ?dB ?dC ?dD ?dE ?dF ?dG ?dH ?dI ?dJ ?dK ?dL ?dM ?dN ?dO ?dP ?dQ ?dR ?dS ?dT ?dU ?dV ?dW ?dX ?dY ?dZ ?eA ?eB ?eC ?eD ?eE ?eF ?eG ?eH ?eI ?eJ ?eK ?eL ?eM ?eN ?eO ?eP ?eQ ?eR ?eS ?eT ?eU ?eV ?eW ?eX ?eY ?eZ ?fA ?fB ?fC ?fD ?fE ?fF ?fG ?fH ?fI ?fJ ?fK ?fL ?fM ?fN ?fO ?fP ?fQ ?fR ?fS ?fT ?fU ?fV ?fW ?fX ?fY ?fZ ?gA ?gB ?gC ?gD ?gE ?gF ?gG ?gH ?gI ?gJ ?gK ?gL ?gM ?gN ?gO ?gP ?gQ ?gR ?gS ?gT ?gU ?gV ?gW ?gX ?gY ?gZ ?hA ?hB ?hC ?hD ?hE ?hF ?hG ?hH ?hI ?hJ ?hK ?hL ?hM ?hN ?hO ?hP ?hQ ?hR ?hS ?hT ?hU ?hV ?hW ?hX ?hY ?hZ ?iA ?iB ?iC ?iD ?iE ?iF ?iG ?iH ?iI ?iJ ?iK ?iL ?iM ?iN ?iO ?iP ?iQ ?iR ?iS ?iT ?iU ?iV ?iW ?iX ?iY ?iZ ?jA ?jB ?jC ?jD ?jE ?jF ?jG ?jH ?jI ?jJ ?jK ?jL ?jM ?jN ?jO ?jP ?jQ ?jR ?jS ?jT ?jU ?jV ?jW ?jX ?jY ?jZ ?kA ?kB ?kC ?kD ?kE ?kF ?kG ?kH ?kI ?kJ ?kK ?kL ?kM ?kN ?kO ?kP ?kQ ?kR ?kS ?kT ?kU ?kV ?kW ?kX ?kY ?kZ ?lA ?lB ?lC ?lD ?lE ?lF ?lG ?lH ?lI ?lJ ?lK ?lL ?lM ?lN ?lO ?lP ?lQ ?lR ?lS ?lT ?lU ?lV ?lW ?lX ?lY ?lZ ?mA ?mB ?mC ?mD ?mE ?mF ?mG ?mH ?mI ?mJ ?mK ?mL ?mM ?mN ?mO ?mP ?mQ ?mR ?mS ?mT ?mU ?mV ?mW ?mX ?mY ?mZ ?nA ?nB ?nC ?nD ?nE ?nF ?nG ?nH ?nI ?nJ ?nK ?nL ?nM ?nN ?nO ?nP ?nQ ?nR ?nS ?nT ?nU ?nV ?nW ?nX ?nY ?nZ ?oA ?oB ?oC ?oD ?oE ?oF ?oG ?oH ?oI ?oJ ?oK ?oL ?oM ?oN ?oO ?oP ?oQ ?oR ?oS ?oT ?oU ?oV ?oW ?oX ?oY ?oZ ?pA ?pB ?pC ?pD ?pE ?pF ?pG ?pH ?pI ?pJ ?pK ?pL ?pM ?pN ?pO ?pP ?pQ ?pR ?pS ?pT ?pU ?pV ?pW ?pX ?pY ?pZ ?qA ?qB ?qC ?qD ?qE ?qF ?qG ?qH ?qI ?qJ ?qK ?qL ?qM ?qN ?qO ?qP ?qQ ?qR ?qS ?qT ?qU ?qV ?qW ?qX ?qY ?qZ ?rA ?rB ?rC ?rD ?rE ?rF ?rG ?rH ?rI ?rJ ?rK ?rL ?rM ?rN ?rO ?rP ?rQ ?rR ?rS ?rT ?rU ?rV ?rW ?rX ?rY ?rZ ?sA ?sB ?sC ?sD ?sE ?sF ?sG ?sH ?sI ?sJ ?sK ?sL ?sM ?sN ?sO ?sP ?sQ ?sR ?sS ?sT ?sU ?sV ?sW ?sX ?sY ?sZ ?tA ?tB ?tC ?tD ?tE ?tF ?tG ?tH ?tI ?tJ ?tK ?tL ?tM ?tN ?tO ?tP ?tQ ?tR ?tS ?tT ?tU ?tV ?tW ?tX ?tY ?tZ ?uA ?uB ?uC ?uD ?uE ?uF ?uG ?uH ?uI ?uJ ?uK ?uL ?uM ?uN ?uO ?uP ?uQ ?uR ?uS ?uT ?uU ?uV ?uW ?uX ?uY ?uZ ?vA ?vB ?vC ?vD ?vE ?vF ?vG ?vH ?vI ?vJ ?vK ?vL ?vM ?vN ?vO ?vP ?vQ ?vR ?vS ?vT ?vU ?vV ?vW ?vX ?vY ?vZ ?wA ?wB ?wC ?wD ?wE ?wF ?wG ?wH ?wI ?wJ ?wK ?wL ?wM ?wN ?wO ?wP ?wQ ?wR ?wS ?wT ?wU ?wV ?wW ?wX ?wY ?wZ ?xA ?xB ?xC ?xD ?xE ?xF ?xG ?xH ?xI ?xJ ?xK ?xL ?xM ?xN ?xO ?xP ?xQ ?xR ?xS ?xT ?xU ?xV ?xW ?xX ?xY ?xZ ?yA ?yB ?yC ?yD ?yE ?yF ?yG ?yH ?yI ?yJ ?yK ?yL ?yM ?yN ?yO ?yP ?yQ ?yR ?yS ?yT ?yU ?yV ?yW ?yX ?yY ?yZ ?zA ?zB ?zC ?zD ?zE ?zF ?zG ?zH ?zI ?zJ ?zK ?zL ?zM ?zN ?zO ?zP ?zQ ?zR ?zS ?zT ?zU ?zV ?zW ?zX ?zY ?zZ ?a0 ?a1 ?a2 ?a3 ?a4 ?a5 ?a6 ?a7 ?a8 ?a9 ?b0 ?b1 ?b2 ?b3 ?b4 ?b5 ?b6 ?b7 ?b8 ?b9 ?c0 ?c1 ?c2 ?c3 ?c4 ?c5 ?c6 ?c7 ?c8 ?c9 ?d0 ?d1 ?d2 ?d3 ?d4 ?d5 ?d6 ?d7 ?d8 ?d9 ?e0 ?e1 ?e2 ?e3 ?e4 ?e5 ?e6 ?e7 ?e8 ?e9 ?f0 ?f1 ?f2 ?f3 ?f4 ?f5 ?f6 ?f7 ?f8 ?f9 ?h0 ?h1 ?h2 ?h3 ?h4 ?h5 ?h6 ?h7 ?h8 ?h9 ?i0 ?i1 ?i2 ?i3 ?i4 ?i5 ?i6 ?i7 ?i8 ?i9 ?j0 ?j1 ?j2 ?j3 ?j4 ?j5 ?j6 ?j7 ?j8 ?j9 ?k0 ?k1 ?k2 ?k3 ?k4 ?k5 ?k6 ?k7 ?k8 ?k9 ?l0 ?l1 ?l2 ?l3 ?l4 ?l5 ?l6 ?l7 ?l8 ?l9 ?m0 ?m1 ?m2 ?m3 ?m4 ?m5 ?m6 ?m7 ?m8 ?m9 ?n0 ?n1 ?n2 ?n3 ?n4 ?n5 ?n6 ?n7 ?n8 ?n9 ?o0 ?o1 ?o2 ?o3 ?o4 ?o5 ?o6 ?o7 ?o8 ?o9 ?p0 ?p1 ?p2 ?p3 ?p4 ?p5 ?p6 ?p7 ?p8 ?p9 ?q0 ?q1 ?q2 ?q3 ?q4 ?q5 ?q6 ?q7 ?q8 ?q9 ?r0 ?r1 ?r2 ?r3 ?r4 ?r5 ?r6 ?r7 ?r8 ?r9 ?s0 ?s1 ?s2 ?s3 ?s4 ?s5 ?s6 ?s7 ?s8 ?s9 ?t0 ?t1 ?t2 ?t3 ?t4 ?t5 ?t6 ?t7 ?t8 ?t9 ?u0 ?u1 ?u2 ?u3 ?u4 ?u5 ?u6 ?u7 ?u8 ?u9 ?v0 ?v1 ?v2 ?v3 ?v4 ?v5 ?v6 ?v7 ?v8 ?v9 ?w0 ?w1 ?w2 ?w3 ?w4 ?w5 ?w6 ?w7 ?w8 ?w9 ?x0 ?x1 ?x2 ?x3 ?x4 ?x5
    (case aA|aB|aC|aD|aE|aF|aG|aH|aI|aJ|aK|aL|aM|aN|aO|aP|aQ|aR|aS|aT|aU|aV|aW|aX|aY|aZ|bA|bB|bC|bD|bE|bF|bG|bH|bI|bJ|bK|bL|bM|bN|bO|bP|bQ|bR|bS|bT|bU|bV|bW|bX|bY|bZ|cA|cB|cC|cD|cE|cF|cG|cH|cI|cJ|cK|cL|cM|cN|cO|cP|cQ|cR|cS|cT|cU|cV|cW|cX|cY|cZ|dA|dB|dC|dD|dE|dF|dG|dH|dI|dJ|dK|dL|dM|dN|dO|dP|dQ|dR|dS|dT|dU|dV|dW|dX|dY|dZ|eA|eB|eC|eD|eE|eF|eG|eH|eI|eJ|eK|eL|eM|eN|eO|eP|eQ|eR|eS|eT|eU|eV|eW|eX|eY|eZ|fA|fB|fC|fD|fE|fF|fG|fH|fI|fJ|fK|fL|fM|fN|fO|fP|fQ|fR|fS|fT|fU|fV|fW|fX|fY|fZ|gA|gB|gC|gD|gE|gF|gG|gH|gI|gJ|gK|gL|gM|gN|gO|gP|gQ|gR|gS|gT|gU|gV|gW|gX|gY|gZ|hA|hB|hC|hD|hE|hF|hG|hH|hI|hJ|hK|hL|hM|hN|hO|hP|hQ|hR|hS|hT|hU|hV|hW|hX|hY|hZ|iA|iB|iC|iD|iE|iF|iG|iH|iI|iJ|iK|iL|iM|iN|iO|iP|iQ|iR|iS|iT|iU|iV|iW|iX|iY|iZ|jA|jB|jC|jD|jE|jF|jG|jH|jI|jJ|jK|jL|jM|jN|jO|jP|jQ|jR|jS|jT|jU|jV|jW|jX|jY|jZ|kA|kB|kC|kD|kE|kF|kG|kH|kI|kJ|kK|kL|kM|kN|kO|kP|kQ|kR|kS|kT|kU|kV|kW|kX|kY|kZ|lA|lB|lC|lD=>k_is)
    (case lE=>first | exact Or.inl rfl | exact Or.inr ⟨_, rfl⟩)
    (case lF|lG|lH=>k_is)
    (case lI=>first | exact Or.inl rfl | exact Or.inr ⟨_, rfl⟩)
    (case lJ|lK|lL=>k_is)
    (case lM=>first | exact Or.inl rfl | exact Or.inr ⟨_, rfl⟩)
    (case lN|lO|lP=>k_is)
    (case lQ=>first | exact Or.inl rfl | exact Or.inr ⟨_, rfl⟩)
    (case lR|lS|lT=>k_is)
    (case lU=>first | exact Or.inl rfl | exact Or.inr ⟨_, rfl⟩)
    (case lV|lW|lX=>k_is)
    (case lY=>first | exact Or.inl rfl | exact Or.inr ⟨_, rfl⟩)
    (case lZ|mA|mB=>k_is)
    (case mC=>first | exact Or.inl rfl | exact Or.inr ⟨_, rfl⟩)
    (case mD|mE|mF=>k_is)
    (case mG=>first | exact Or.inl rfl | exact Or.inr ⟨_, rfl⟩)
    (case mH|mI|mJ=>k_is)
    (case mK=>first | exact Or.inl rfl | exact Or.inr ⟨_, rfl⟩)
    (case mL|mM|mN=>k_is)
    (case mO=>first | exact Or.inl rfl | exact Or.inr ⟨_, rfl⟩)
    (case mP|mQ|mR=>k_is)
    (case mS=>first | exact Or.inl rfl | exact Or.inr ⟨_, rfl⟩)
    (case mT|mU|mV=>k_is)
    (case mW=>first | exact Or.inl rfl | exact Or.inr ⟨_, rfl⟩)
    (case mX|mY|mZ=>k_is)
    (case nA=>first | exact Or.inl rfl | exact Or.inr ⟨_, rfl⟩)
    (case nB|nC|nD=>k_is)
    (case nE=>first | exact Or.inl rfl | exact Or.inr ⟨_, rfl⟩)
    (case nF|nG|nH|nI|nJ|nK|nL|nM|nN|nO|nP|nQ|nR|nS|nT|nU|nV|nW|nX|nY|nZ|oA|oB|oC|oD|oE|oF|oG|oH|oI|oJ|oK|oL|oM|oN|oO|oP|oQ|oR|oS|oT|oU|oV|oW|oX|oY|oZ|pA|pB|pC|pD|pE|pF|pG|pH|pI|pJ|pK|pL|pM|pN|pO|pP|pQ|pR|pS|pT|pU|pV|pW=>k_is)
    (case pX=>rfl)
    (case pY=>k_is)
    (case pZ=>rfl)
    (case qA=>k_is)
    (case qB=>rfl)
    (case qC=>k_is)
    (case qD=>rfl)
    (case qE=>k_is)
    (case qF=>rfl)
    (case qG=>k_is)
    (case qH=>rfl)
    (case qI=>k_is)
    (case qJ=>rfl)
    (case qK=>k_is)
    (case qL=>rfl)
    (case qM=>k_is)
    (case qN=>rfl)
    (case qO=>k_is)
    (case qP=>rfl)
    (case qQ=>k_is)
    (case qR=>rfl)
    (case qS=>k_is)
    (case qT=>rfl)
    (case qU=>k_is)
    (case qV=>rfl)
    (case qW|qX|qY|qZ|rA|rB|rC|rD|rE=>k_is)
    (case rF=>rfl)
    (case rG=>k_is)
    (case rH=>rfl)
    (case rI=>k_is)
    (case rJ=>rfl)
    (case rK=>k_is)
    (case rL=>rfl)
    (case rM=>k_is)
    (case rN=>rfl)
    (case rO=>k_is)
    (case rP=>rfl)
    (case rQ=>k_is)
    (case rR=>rfl)
    (case rS=>k_is)
    (case rT=>rfl)
    (case rU=>k_is)
    (case rV=>rfl)
    (case rW=>k_is)
    (case rX=>rfl)
    (case rY=>k_is)
    (case rZ=>rfl)
    (case sA=>k_is)
    (case sB=>rfl)
    (case sC=>k_is)
    (case sD=>rfl)
    (case sE|sF|sG|sH|sI|sJ|sK|sL|sM=>k_is)
    (case sN=>rfl)
    (case sO=>k_is)
    (case sP=>rfl)
    (case sQ=>k_is)
    (case sR=>rfl)
    (case sS=>k_is)
    (case sT=>rfl)
    (case sU=>k_is)
    (case sV=>rfl)
    (case sW=>k_is)
    (case sX=>rfl)
    (case sY=>k_is)
    (case sZ=>rfl)
    (case tA=>k_is)
    (case tB=>rfl)
    (case tC=>k_is)
    (case tD=>rfl)
    (case tE=>k_is)
    (case tF=>rfl)
    (case tG=>k_is)
    (case tH=>rfl)
    (case tI=>k_is)
    (case tJ=>rfl)
    (case tK=>k_is)
    (case tL=>rfl)
    (case tM|tN|tO|tP|tQ|tR|tS|tT|tU=>k_is)
    (case tV=>rfl)
    (case tW=>k_is)
    (case tX=>rfl)
    (case tY=>k_is)
    (case tZ=>rfl)
    (case uA=>k_is)
    (case uB=>rfl)
    (case uC=>k_is)
    (case uD=>rfl)
    (case uE=>k_is)
    (case uF=>rfl)
    (case uG=>k_is)
    (case uH=>rfl)
    (case uI=>k_is)
    (case uJ=>rfl)
    (case uK=>k_is)
    (case uL=>rfl)
    (case uM=>k_is)
    (case uN=>rfl)
    (case uO=>k_is)
    (case uP=>rfl)
    (case uQ=>k_is)
    (case uR=>rfl)
    (case uS=>k_is)
    (case uT=>rfl)
    (case uU|uV|uW|uX|uY|uZ|vA|vB|vC=>k_is)
    (case vD=>rfl)
    (case vE=>k_is)
    (case vF=>rfl)
    (case vG=>k_is)
    (case vH=>rfl)
    (case vI=>k_is)
    (case vJ=>rfl)
    (case vK=>k_is)
    (case vL=>rfl)
    (case vM=>k_is)
    (case vN=>rfl)
    (case vO=>k_is)
    (case vP=>rfl)
    (case vQ=>k_is)
    (case vR=>rfl)
    (case vS=>k_is)
    (case vT=>rfl)
    (case vU=>k_is)
    (case vV=>rfl)
    (case vW=>k_is)
    (case vX=>rfl)
    (case vY=>k_is)
    (case vZ=>rfl)
    (case wA=>k_is)
    (case wB=>rfl)
    (case wC|wD|wE|wF|wG|wH|wI|wJ|wK=>k_is)
    (case wL=>rfl)
    (case wM=>k_is)
    (case wN=>rfl)
    (case wO=>k_is)
    (case wP=>rfl)
    (case wQ=>k_is)
    (case wR=>rfl)
    (case wS=>k_is)
    (case wT=>rfl)
    (case wU=>k_is)
    (case wV=>rfl)
    (case wW=>k_is)
    (case wX=>rfl)
    (case wY=>k_is)
    (case wZ=>rfl)
    (case xA=>k_is)
    (case xB=>rfl)
    (case xC=>k_is)
    (case xD=>rfl)
    (case xE=>k_is)
    (case xF=>rfl)
    (case xG=>k_is)
    (case xH=>rfl)
    (case xI=>k_is)
    (case xJ=>rfl)
    (case xK|xL|xM|xN|xO|xP|xQ|xR|xS=>k_is)
    (case xT=>rfl)
    (case xU=>k_is)
    (case xV=>rfl)
    (case xW=>k_is)
    (case xX=>rfl)
    (case xY=>k_is)
    (case xZ=>rfl)
    (case yA=>k_is)
    (case yB=>rfl)
    (case yC=>k_is)
    (case yD=>rfl)
    (case yE=>k_is)
    (case yF=>rfl)
    (case yG=>k_is)
    (case yH=>rfl)
    (case yI=>k_is)
    (case yJ=>rfl)
    (case yK=>k_is)
    (case yL=>rfl)
    (case yM=>k_is)
    (case yN=>rfl)
    (case yO=>k_is)
    (case yP=>rfl)
    (case yQ=>k_is)
    (case yR=>rfl)
    (case yS|yT|yU|yV|yW|yX|yY|yZ|zA=>k_is)
    (case zB=>rfl)
    (case zC=>k_is)
    (case zD=>rfl)
    (case zE=>k_is)
    (case zF=>rfl)
    (case zG=>k_is)
    (case zH=>rfl)
    (case zI=>k_is)
    (case zJ=>rfl)
    (case zK=>k_is)
    (case zL=>rfl)
    (case zM=>k_is)
    (case zN=>rfl)
    (case zO=>k_is)
    (case zP=>rfl)
    (case zQ=>k_is)
    (case zR=>rfl)
    (case zS=>k_is)
    (case zT=>rfl)
    (case zU=>k_is)
    (case zV=>rfl)
    (case zW=>k_is)
    (case zX=>rfl)
    (case zY=>k_is)
    (case zZ=>rfl)
    (case a0|a1|a2|a3|a4|a5|a6|a7|a8=>k_is)
    (case a9=>rfl)
    (case b0=>k_is)
    (case b1=>rfl)
    (case b2=>k_is)
    (case b3=>rfl)
    (case b4=>k_is)
    (case b5=>rfl)
    (case b6=>k_is)
    (case b7=>rfl)
    (case b8=>k_is)
    (case b9=>rfl)
    (case c0=>k_is)
    (case c1=>rfl)
    (case c2=>k_is)
    (case c3=>rfl)
    (case c4=>k_is)
    (case c5=>rfl)
    (case c6=>k_is)
    (case c7=>rfl)
    (case c8=>k_is)
    (case c9=>rfl)
    (case d0=>k_is)
    (case d1=>rfl)
    (case d2=>k_is)
    (case d3=>rfl)
    (case d4|d5|d6|d7|d8|d9|e0|e1|e2=>k_is)
    (case e3=>rfl)
    (case e4=>k_is)
    (case e5=>rfl)
    (case e6=>k_is)
    (case e7=>rfl)
    (case e8=>k_is)
    (case e9=>rfl)
    (case f0=>k_is)
    (case f1=>rfl)
    (case f2=>k_is)
    (case f3=>rfl)
    (case f4=>k_is)
    (case f5=>rfl)
    (case f6=>k_is)
    (case f7=>rfl)
    (case f8=>k_is)
    (case f9=>rfl)
    (case h0=>k_is)
    (case h1=>rfl)
    (case h2=>k_is)
    (case h3=>rfl)
    (case h4=>k_is)
    (case h5=>rfl)
    (case h6=>k_is)
    (case h7=>rfl)
    (case h8|h9|i0|i1|i2|i3|i4|i5|i6=>k_is)
    (case i7=>rfl)
    (case i8=>k_is)
    (case i9=>rfl)
    (case j0=>k_is)
    (case j1=>rfl)
    (case j2=>k_is)
    (case j3=>rfl)
    (case j4=>k_is)
    (case j5=>rfl)
    (case j6=>k_is)
    (case j7=>rfl)
    (case j8=>k_is)
    (case j9=>rfl)
    (case k0=>k_is)
    (case k1=>rfl)
    (case k2=>k_is)
    (case k3=>rfl)
    (case k4=>k_is)
    (case k5=>rfl)
    (case k6=>k_is)
    (case k7=>rfl)
    (case k8=>k_is)
    (case k9=>rfl)
    (case l0=>k_is)
    (case l1=>rfl)
    (case l2|l3|l4|l5|l6|l7|l8|l9|m0=>k_is)
    (case m1=>rfl)
    (case m2=>k_is)
    (case m3=>rfl)
    (case m4=>k_is)
    (case m5=>rfl)
    (case m6=>k_is)
    (case m7=>rfl)
    (case m8=>k_is)
    (case m9=>rfl)
    (case n0=>k_is)
    (case n1=>rfl)
    (case n2=>k_is)
    (case n3=>rfl)
    (case n4=>k_is)
    (case n5=>rfl)
    (case n6=>k_is)
    (case n7=>rfl)
    (case n8=>k_is)
    (case n9=>rfl)
    (case o0=>k_is)
    (case o1=>rfl)
    (case o2=>k_is)
    (case o3=>rfl)
    (case o4=>k_is)
    (case o5=>rfl)
    (case o6|o7|o8|o9|p0|p1|p2|p3|p4=>k_is)
    (case p5=>rfl)
    (case p6=>k_is)
    (case p7=>rfl)
    (case p8=>k_is)
    (case p9=>rfl)
    (case q0=>k_is)
    (case q1=>rfl)
    (case q2=>k_is)
    (case q3=>rfl)
    (case q4=>k_is)
    (case q5=>rfl)
    (case q6=>k_is)
    (case q7=>rfl)
    (case q8=>k_is)
    (case q9=>rfl)
    (case r0=>k_is)
    (case r1=>rfl)
    (case r2=>k_is)
    (case r3=>rfl)
    (case r4=>k_is)
    (case r5=>rfl)
    (case r6=>k_is)
    (case r7=>rfl)
    (case r8=>k_is)
    (case r9=>rfl)
    (case s0|s1|s2|s3|s4|s5|s6|s7|s8=>k_is)
    (case s9=>rfl)
    (case t0=>k_is)
    (case t1=>rfl)
    (case t2=>k_is)
    (case t3=>rfl)
    (case t4=>k_is)
    (case t5=>rfl)
    (case t6=>k_is)
    (case t7=>rfl)
    (case t8=>k_is)
    (case t9=>rfl)
    (case u0=>k_is)
    (case u1=>rfl)
    (case u2=>k_is)
    (case u3=>rfl)
    (case u4=>k_is)
    (case u5=>rfl)
    (case u6=>k_is)
    (case u7=>rfl)
    (case u8=>k_is)
    (case u9=>rfl)
    (case v0=>k_is)
    (case v1=>rfl)
    (case v2=>k_is)
    (case v3=>rfl)
    (case v4|v5|v6|v7|v8|v9|w0|w1|w2|w3|w4|w5|w6|w7|w8|w9|x0|x1|x2|x3|x4|x5=>k_is)
