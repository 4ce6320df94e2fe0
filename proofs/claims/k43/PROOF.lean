import PyProof.Rows.All
import Wide.All
import OpenK.AllK
import Wide.FinOn
import Open.Tops
import Lean
import PyProof.EqAt
import PyProof.EqKinds
import PyProof.TupleCall
import PyProof.ExcInit
import PyProof.ExcClass3
import PyProof.ExcBaseAll.ValueError
import PyProof.InstStoreFacts
import KE.KTryMore
import PyProof.RulesAs
import PyProof.NsDelKeeps
import PyProof.Rows.SortRuns
import KE.KDictSum
import KE.KSortTup
import PyProof.Rows.SetFrom
import PyProof.Rows.MinMaxN
import KE.KDictOf
import KE.KDictList
import PySem.Challenge.RW_beamtender_k43_whole_renumbered
set_option genSizeOf false
set_option bootstrap.genMatcherCode false
set_option Elab.async false
set_option linter.all false
set_option maxRecDepth 100000
set_option maxHeartbeats 4000000
namespace PySem.W.Fast
def tw1007271653785987816:=()
def tw9897596393144442178:=()
def tw11749843729364669800:=()
def tw14146538520617106257:=()
def tw4784265660889939447:=()
def tw16697556648839344629:=()
def tw13377801196275026434:=()
def tw1475714942496150369:=()
def tw13918070900721017462:=()
def tw2129133981000263587:=()
def tw2757542016783992952:=()
def tw14678072303138634297:=()
def tw1869324414925723995:=()
def tw15097036685280998723:=()
def tw18329013884402498696:=()
def tw7607739336383804299:=()
def tw16177564472515902282:=()
def tw9599814098166041113:=()
def tw10682301958158965649:=()
def tw1423689734286499561:=()
def tw510508489687345004:=()
def tw16496239058014000790:=()
def tw2202985319021082558:=()
def tw8683761304018220842:=()
def tw9716621485308279651:=()
def tw3959295344381382892:=()
def tw11199050923389281160:=()
def tw15500475492585482179:=()
def tw2955376334476329085:=()
def tw3569682346032787453:=()
def tw7081219217070067141:=()
def tw2421380606649744575:=()
def tw17635371195831389510:=()
def tw3907586277253645097:=()
def tw7585699332345302173:=()
def tw5222410140486056405:=()
def tw1011886094808034365:=()
def tw16328061554116807395:=()
def tw6640562318882502786:=()
def tw1435658892294650183:=()
def tw7206778218585899309:=()
def tw9178179058778410696:=()
def tw18267388806484754249:=()
def tw3950208620310107622:=()
def tw946860814155284815:=()
def tw7993358469165024741:=()
def tw10717283139417537689:=()
def tw16919948864608603538:=()
def tw14097661504929121555:=()
def tw4304239475801117149:=()
def tw16569931499038282646:=()
def tw7441907535588193731:=()
def tw15089149639592806085:=()
def tw7714284404807913830:=()
def tw1832620355775954873:=()
def tw15698690082600969019:=()
def tw13656463070701899354:=()
def tw12884345898040493565:=()
def tw7307169189179478989:=()
def tw9254505162750572084:=()
def tw7265332195313137301:=()
def tw2258593686898844636:=()
def tw12679218988453564108:=()
def tw17097572129063985214:=()
def tw12414909999554087841:=()
def tw8073348059362966656:=()
def tw12544126094507759576:=()
def tw13284986261401224365:=()
def tw10891832162847521679:=()
def tw7046939658872891319:=()
def tw17871783018722114982:=()
def tw7757829612694936006:=()
def tw10996526213340549019:=()
def tw5187851378665936109:=()
def tw10404248668069894984:=()
def tw2873906900865933853:=()
def tw364469574641551040:=()
def tw8954937720878738642:=()
def tw9507497468520644574:=()
def tw9010099809741596245:=()
def tw6568488023317353995:=()
def tw4740779726407543000:=()
def tw12124372697101007219:=()
def tw15662631657644082128:=()
def tw11070642299167359730:=()
def tw4741379270892838527:=()
def tw15107956728174687201:=()
def tw2376146251339899467:=()
def tw7463806764515090297:=()
def tw13980391716373973125:=()
def tw345614751814102749:=()
def tw3950468068174259121:=()
def tw7827199926834777277:=()
def tw6749842548173117320:=()
def tw15040187060045286449:=()
def tw6215533152039126534:=()
def tw5099782730629757621:=()
def tw964025291714068046:=()
def tw10636932806721120778:=()
def tw4181922629742367180:=()
def tw1514344064824093552:=()
def tw472602114130254167:=()
def tw5849149631420937180:=()
def tw5899196017250092262:=()
def tw6881704362152558297:=()
def tw8206308077353077152:=()
def tw12967348301036314611:=()
def tw6384380429368410037:=()
def tw4607666237618533621:=()
def tw1887009147814325085:=()
def tw5130573120629034886:=()
def tw7359527180395260068:=()
def tw3830430188680812704:=()
def tw4478221943781944084:=()
def tw320137766859689576:=()
def tw6219350956196092624:=()
def tw9218870538010551065:=()
def tw4258499475166030357:=()
def tw3375057460188321634:=()
def tw2997100427077911204:=()
def tw11047751347631091827:=()
def tw12267645336050823156:=()
def tw16946864209008080458:=()
def tw10903336093356984243:=()
def tw9774171697980739067:=()
def tw6003258108348354880:=()
def tw2791225963907702458:=()
def tw17290972964042678537:=()
def tw3861606038893987337:=()
def tw13727869218938716840:=()
def tw15896862632160443935:=()
def tw11215009313291275738:=()
def tw17257756357986011854:=()
def tw11230721723131433943:=()
def tw13152590778591533176:=()
def tw2420187410074616686:=()
def tw10344600693680649153:=()
def tw15699863016569598264:=()
def tw4710178389734660098:=()
def tw1809605570951312235:=()
def tw18058020925672519607:=()
def tw15408855724385353760:=()
def tw4811901259312654301:=()
def tw2121349194463633830:=()
def tw4098889890243815929:=()
def tw12698112638984492008:=()
def tw17258161852213530925:=()
def tw7060202860672180828:=()
def tw13913515062690201963:=()
def tw6413828415916323946:=()
def tw10773560197866110006:=()
def tw10729357167079503072:=()
def tw5261130503777914796:=()
def tw6391278037306106111:=()
def tw13401354008174147642:=()
def tw11408032075819563114:=()
def tw3933184146734922484:=()
def tw12210542442915399151:=()
def tw10444024752661012937:=()
def tw10768007242653255701:=()
def tw2211392441463003465:=()
def tw13361512355217181844:=()
def tw9640275783446171127:=()
def tw1164921257190385768:=()
def tw7991381263852058442:=()
def tw15384071598392026425:=()
def tw16357710459693451616:=()
def tw16280994126405255005:=()
def tw7913487494982484974:=()
def tw11920347305827331542:=()
def tw6456229382141864479:=()
def tw6221288335226394357:=()
def tw9577353047086436272:=()
def tw17843169904580934029:=()
def tw8358301076202330920:=()
def tw411974920610325560:=()
def tw9955913986758740559:=()
def tw11035741090231338881:=()
def tw2913326399590932868:=()
def tw15690082421701309362:=()
def tw665817556643461201:=()
def tw7665099563914829251:=()
def tw10884504835522081619:=()
def tw8231027407842749250:=()
def tw2660240500735174058:=()
def tw3761220389164215930:=()
def tw5423673438373497237:=()
def tw7471782390009903681:=()
def tw18057817570977750915:=()
def tw9552550088043454955:=()
def tw3212918311393277687:=()
def tw15408887054200226025:=()
def tw14319998673970433405:=()
def tw2585813346120073505:=()
def tw1692130697449344493:=()
def tw14481191599206851054:=()
def tw15934638170662338972:=()
def tw6021518616687916795:=()
def tw15065961505262895010:=()
def tw17805204519472412955:=()
def tw680058372725772241:=()
def tw7541085803411327407:=()
def tw2154145614821177048:=()
def tw8437378167665425292:=()
def tw18395447249889284424:=()
def tw3658717247614812554:=()
def tw942869215506676227:=()
def tw15829547997167673982:=()
def tw7968951724926223929:=()
def tw7919678704030120392:=()
def tw13460348287410352409:=()
def tw17833299349283812095:=()
def tw13937447743923076125:=()
def tw5268945621321606819:=()
def tw7691898122354419227:=()
def tw7828550130083368062:=()
def tw16621055288179733572:=()
def tw16701378434368947881:=()
def tw8388551247895793903:=()
def tw6832014229881987696:=()
def tw15672753558651411490:=()
def tw8653466076819977750:=()
def tw13112545718370287331:=()
def tw1706671325077604251:=()
def tw5618704081367992974:=()
def tw12253003181905998971:=()
def tw12738888062330648496:=()
def tw524048258799688333:=()
def tw8799843197480935225:=()
def tw18093989898940529549:=()
def tw2664406493659040729:=()
def tw15366722540902073359:=()
def tw14793528613841356241:=()
def tw13656641336819677139:=()
def tw3682201383558988232:=()
def tw10519803351992640348:=()
def tw14511448695305008439:=()
def tw11264357567346939185:=()
def tw2621764990835653673:=()
def tw2219824416027681282:=()
def tw4550551621403207681:=()
def tw9660912392891133213:=()
def tw12752150830553017451:=()
def tw3973855673088287084:=()
def tw7176615548978978305:=()
def tw12549439521719691834:=()
def tw2982073985316677885:=()
def tw13354989398945762970:=()
def tw7784344898248670515:=()
def tw108875523471179226:=()
def tw12434623591825852099:=()
def tw6562495770406627015:=()
def tw13195202737579115229:=()
def tw12947404294107896272:=()
def tw14236634364658081537:=()
def tw17732300699792209884:=()
def tw16107666608751028353:=()
def tw10407878547908496803:=()
def tw1439981396252718302:=()
def tw309385545636862894:=()
def tw1773169158880882427:=()
def tw13289688069668668681:=()
def tw5957374806781909904:=()
def tw917337710372036723:=()
def tw1969275052281309186:=()
def tw13202563430854603687:=()
def tw8339506708182586647:=()
def tw9534376928585669338:=()
def tw1495973284965917952:=()
def tw12473246741174196860:=()
def tw2342888240321614952:=()
def tw2011555492112828246:=()
def tw16122719051663199940:=()
def tw5135736572065235579:=()
def tw5299695273483502998:=()
def tw660990302595897368:=()
def tw11314527338411894176:=()
def tw11135430593145654385:=()
def tw5286631185430878847:=()
def tw333248365107832312:=()
def tw3344264856214762453:=()
def tw13051554338707416700:=()
def tw8995606092004679833:=()
def tw9143438935812720737:=()
def tw11674666907471650257:=()
def tw6591068968677951190:=()
def tw18023315080647246177:=()
def tw17095139741727789705:=()
def tw17785670394790641944:=()
def tw15672374552946108175:=()
def tw6400503971435075644:=()
def tw2555765356103515764:=()
def tw8667717744889200915:=()
def tw15382510762436192212:=()
def tw9825204371644591898:=()
def tw12949322264152296818:=()
def tw7235606131348083305:=()
def tw8881223281460589460:=()
def tw14835577465991547960:=()
def tw997224137280953189:=()
def tw13549170709803225205:=()
def tw5858000700953837608:=()
def tw1932415249604858339:=()
def tw11690546079099957906:=()
def tw13320229121842498971:=()
def tw15671616451417279977:=()
def tw3906453053357832964:=()
def tw3813410779409231638:=()
def tw13614203293442473197:=()
def tw8167933767058860124:=()
def tw13946348057117374256:=()
def tw5754295190014058437:=()
def tw7623038827320487181:=()
def tw8935234141450513339:=()
def tw12764176105014554140:=()
def tw4390279131836267088:=()
def tw2016363088339311255:=()
def tw14971496448294665809:=()
def tw7806674954174425568:=()
def tw9540498946416114413:=()
def tw7853900609495582418:=()
def tw9136828040052501912:=()
def tw16837257642275973638:=()
def tw4631826965247420737:=()
def tw13735616093718699836:=()
def tw8125932866786232322:=()
def tw15967668250073076717:=()
def tw17125434211159348184:=()
def tw4947278500923513019:=()
def tw15815772417597510487:=()
def tw7269579759432777280:=()
end PySem.W.Fast
open_shared Tp for PySem.Challenge.pw_beamtender_k43_whole_renumbered leaving 1
namespace L2
open PySem PySem.Spec PyProof.Rows
noncomputable abbrev Key:=Sum Int Str
noncomputable def zN2:Key->Value->Bool
 | .inl k,v=>Value.isInt k v
 | .inr x,v=>Value.isStrOf x v
noncomputable def keyH (w:World):Key->Int
 | .inl k=>hashInt k
 | .inr x=>hashStr w x
theorem zg0:∀ {k:Key} {v:Value},zN2 k v=true->(∃i t,k=Sum.inl i/\v=Value.int i t)\/(∃x t,k=Sum.inr x/\v=Value.str x t)
 | .inl i,v,h=>by
   obtain⟨t,e⟩:=Value.isInt_shape (k:=i) (v:=v) h
   exact .inl ⟨i,t,rfl,e⟩
 | .inr x,v,h=>by
   obtain⟨t,e⟩:=Value.isStrOf_shape (x:=x) (v:=v) h
   exact .inr ⟨x,t,rfl,e⟩
theorem keyIs_int (i:Int)(t:Tok):zN2 (.inl i) (.int i t)=true:=by simp[zN2,Value.isInt]
theorem keyIs_str (x:Str)(t:Tok):zN2 (.inr x) (.str x t)=true:=by simp[zN2,Value.isStrOf]
theorem key_ll (a b:Int):decide ((Sum.inl a:Key)=Sum.inl b)=(a == b):=by
 by_cases e:a=b
 . subst e;simp
 . have h:¬ (Sum.inl a:Key)=Sum.inl b:=fun q=>e (Sum.inl.inj q)
   rw[decide_eq_false h]
   exact(beq_eq_false_iff_ne.mpr e).symm
theorem key_rr (a b:Str):decide ((Sum.inr a:Key)=Sum.inr b)=decide (a=b):=by
 by_cases e:a=b
 . subst e;simp
 . have h:¬ (Sum.inr a:Key)=Sum.inr b:=fun q=>e (Sum.inr.inj q)
   rw[decide_eq_false h,decide_eq_false e]
theorem key_lr (a:Int)(b:Str):decide ((Sum.inl a:Key)=Sum.inr b)=false:=decide_eq_false (fun q=>nomatch q)
theorem key_rl (a:Str)(b:Int):decide ((Sum.inr a:Key)=Sum.inl b)=false:=decide_eq_false (fun q=>nomatch q)
noncomputable def ze8 (prog:Program)(w:World):PySem.KeyKind prog w Key where
 is:=zN2
 hash:=keyH w
 inj:=fun v a b ha hb=>by
   rcases zg0 ha with⟨i,t,rfl,rfl⟩ | ⟨x,t,rfl,rfl⟩
   . rcases zg0 hb with⟨j,u,rfl,e⟩ | ⟨y,u,rfl,e⟩
     . injection e with e1 _;rw[e1]
     . exact nomatch e
   . rcases zg0 hb with⟨j,u,rfl,e⟩ | ⟨y,u,rfl,e⟩
     . exact nomatch e
     . injection e with e1 _;rw[e1]
 byValue:=fun k v h=>by
   rcases zg0 h with⟨i,t,rfl,rfl⟩ | ⟨x,t,rfl,rfl⟩<;>rfl
 pyHash:=fun hv h=>by
   rcases zg0 hv with⟨i,t,rfl,rfl⟩ | ⟨x,t,rfl,rfl⟩
   . exact wpAny_pyHash_int h
   . exact wpAny_pyHash_str h
 eqBool:=fun hu hv h=>by
   rcases zg0 hu with⟨i,t,rfl,rfl⟩ | ⟨x,t,rfl,rfl⟩
   . rcases zg0 hv with⟨j,u,rfl,rfl⟩ | ⟨y,u,rfl,rfl⟩
     . rw[key_ll] at h;exact wpAny_eqBool_int h
     . rw[key_lr] at h;exact SeqAt.EqAt.int_str i t y u _ _ _ _ h
   . rcases zg0 hv with⟨j,u,rfl,rfl⟩ | ⟨y,u,rfl,rfl⟩
     . rw[key_rl] at h;exact SeqAt.EqAt.str_int x t j u _ _ _ _ h
     . rw[key_rr] at h;exact wpAny_eqBool_str h
 «strs»:=fun k x t v h=>by
   rcases zg0 h with⟨i,u,rfl,e⟩ | ⟨y,u,rfl,e⟩
   . exact nomatch e
   . injection e with e1 _
     subst e1
     cases v<;>rfl
theorem mixKind_int (prog:Program)(w:World)(i:Int)(t:Tok):(ze8 prog w).is (.inl i) (.int i t)=true:=keyIs_int i t
theorem mixKind_str (prog:Program)(w:World)(x:Str)(t:Tok):(ze8 prog w).is (.inr x) (.str x t)=true:=keyIs_str x t
inductive V where
 | non | bl (b:Bool) | int (i:Int) | str (x:Str) | byt (b:Array UInt8) | flt (b:UInt64) | ref (a:Addr) | ty (n:String)
 deriving DecidableEq
noncomputable def RelV:V->Value->Prop
 | .non,u=>u=Value.none
 | .bl b,u=>u=Value.bool b
 | .int i,u=>∃t,u=Value.int i t
 | .str x,u=>∃t,u=Value.str x t
 | .byt b,u=>∃t,u=Value.bytes b t
 | .flt b,u=>∃t,u=Value.float b t
 | .ref a,u=>u=Value.ref a
 | .ty n,u=>u=Value.type n
noncomputable abbrev Vals:List V->List Value->Prop:=Paired RelV
theorem Vals.length {xs:List V}{us:List Value}(r:Vals xs us):xs.length=us.length:=Paired.length r
theorem Vals.get:∀ {xs:List V} {us:List Value} {i:Nat} {x:V},Vals xs us->xs[i]?=some x->∃u,us[i]?=some u/\RelV x u
 | _,_,_,_,.nil,e=>by simp at e
 | _,_,0,_,.cons r _,e=>by simp at e;subst e;exact⟨_,rfl,r⟩
 | _,_,i+1,x,.cons _ t,e=>by
   obtain⟨u,h1,h2⟩:=Vals.get (i:=i) (x:=x) t (by simpa using e)
   exact⟨u,by simpa using h1,h2⟩
theorem Vals.set {x:V}{u:Value}(r:RelV x u):∀ {xs:List V} {us:List Value} (i:Nat),Vals xs us->Vals (xs.set i x) (us.set i u)
 | _,_,_,.nil=>.nil
 | _,_,0,.cons _ t=>.cons r t
 | _,_,i+1,.cons q t=>.cons q (Vals.set r i t)
theorem Vals.append:∀ {xs ys:List V} {us ws:List Value},Vals xs us->Vals ys ws->Vals (xs++ys) (us++ws)
 | _,_,_,_,.nil,s=>s
 | _,_,_,_,.cons r t,s=>.cons r (Vals.append t s)
theorem Vals.take:∀ {xs:List V} {us:List Value} (n:Nat),Vals xs us->Vals (xs.take n) (us.take n)
 | _,_,0,_=>.nil
 | _,_,_+1,.nil=>.nil
 | _,_,n+1,.cons r t=>.cons r (Vals.take n t)
theorem Vals.drop:∀ {xs:List V} {us:List Value} (n:Nat),Vals xs us->Vals (xs.drop n) (us.drop n)
 | _,_,0,r=>r
 | _,_,_+1,.nil=>.nil
 | _,_,n+1,.cons _ t=>Vals.drop n t
noncomputable def RelO:Option V->Option Value->Prop
 | some v,some u=>RelV v u
 | none,none=>True
 | _,_=>False
noncomputable def KV {κ:Type}:List (κ×V)->List (κ×Value)->Prop:=Paired fun(p:κ×V) (q:κ×Value)=>p.1=q.1/\RelV p.2 q.2
noncomputable def kV:Key->V
 | .inl i=>.int i
 | .inr x=>.str x
inductive HO where
 | lst (xs:List V)
 | tup (xs:List V)
 | dK (kvs:List (Key×V)) | dT (kvs:List (List Key×V))
 | set (S:Int->Bool) (n:Nat)
 | ins (C dx:Addr) (fs:List (Str×V))
 | own (x:Addr)
 | xd (fs:List (Str×V))
 | met (f x:Addr)
 | rng (lo hi:Int)
 | frz (o:Obj) (u:HO)
 | tbl (ps:Array Value)
 | ext (φ:Heap->Prop)
noncomputable abbrev Hp:=Addr->Option HO
noncomputable def upd (H:Hp)(a:Addr)(o:HO):Hp:=fun b=>if b=a then some o else H b
theorem za1 {H:Hp}{a:Addr}{o:HO}:upd H a o a=some o:=by unfold upd;rw[if_pos rfl]
theorem za9 {H:Hp}{a b:Addr}{o:HO}(h:b≠a):upd H a o b=H b:=by unfold upd;rw[if_neg h]
theorem zk5 {H:Hp}{a:Addr}{o u:HO}:upd (upd H a o) a u=upd H a u:=by
 funext b;unfold upd;split<;>rfl
theorem yg3 {H:Hp}{a b:Addr}{o u:HO}(h:H a=some o)(h':H b=some u)(d:o≠u):a≠b:=by
 intro e;subst e;rw[h] at h';exact d (Option.some.inj h')
theorem zc1 {H:Hp}{a b:Addr}{o:HO}(h:H a=some o)(h':H b=none):a≠b:=by
 intro e;subst e;rw[h] at h';cases h'
noncomputable def TupD (h:Heap) (a:Addr) (items:Array Value):Prop:=∃o,h.get? a=some o/\o.cls = .type "tuple"/\o.dict=none/\∃n,o.data = .seq items n
theorem TupD.isTup {h:Heap}{a:Addr}{items:Array Value}(x:TupD h a items):IsTup h a items:=let⟨o,e,c,_,n,d⟩:=x;⟨o,e,c,n,d⟩
theorem TupD.new (h:Heap) (items:Array Value):TupD (h.push { cls:=.type "tuple",data:=.seq items }) h.objs.size items:=⟨_,Heap.get?_push_size _ rfl,rfl,rfl,_,rfl⟩
section
variable (P:Program) (w:World)
noncomputable def ze9 (H:Hp)(h:Heap)(a:Addr):HO->Prop
 | .lst xs=>xs.length<=sizeLine/\∃(its:List Value) (n:Nat),Vals xs its/\h.get? a=some { cls:=.type "list",data:=.seq its.toArray n }
 | .tup xs=>xs.length<=sizeLine/\∃its:List Value,Vals xs its/\TupD h a its.toArray
 | .dK kvs=>kvs.length<=sizeLine/\(a == sysModules)=false/\∃vs,KV kvs vs/\h.DictOf (ze8 P w) a vs
 | .dT kvs=>kvs.length<=sizeLine/\(a == sysModules)=false/\∃xs:List (List Key×Addr×Value),
     Paired (fun(p:List Key×V) (q:List Key×Addr×Value)=>p.1=q.1/\H q.2.1=some (.tup (p.1.map kV))/\RelV p.2 q.2.2) kvs xs ∧
     ∃o es ep,h.get? a=some o/\o.ExactDict/\o.data = .dict es ep/\es.toList=xs.map (entryOfKey (tupleKind (ze8 P w)))/\(xs.map (·.1)).Nodup
 | .set S n=>h.SetOf (intKind P w) a S n
 | .ins C dx fs=>H dx=some (.own a)/\fs.length<=1000/\dx≠a/\h.get? a=some (W.instObj C dx) ∧
     ∃mA,h.Ns1 dx mA/\(∀f,RelO (fs.lookup f) (mA f))/\PySem.Within mA (fs.map (·.1))
 | .own _=>∃o,h.get? a=some o
 | .xd fs=>fs.length<=1000/\∃mA,h.Ns1 a mA/\(∀f,RelO (fs.lookup f) (mA f))/\PySem.Within mA (fs.map (·.1))
 | .rng lo hi=>∃t u v,h.get? a=some { cls:=.type "range",data:=.fields #[.int lo t,.int hi u,.int 1 v] }
 | .frz o u=>h.get? a=some o/\ze9 H h a u
 | .tbl ps=>h.get? a=some { cls:=.none,data:=.fields ps }
 | .met f x=>h.get? a=some (W.methodObj (.ref f) (.ref x))
 | .ext φ=>φ h/\(∃o,h.get? a=some o)/\∀h1 h2:Heap,φ h1->(∀o,h1.get? a=some o->h2.get? a=some o)->φ h2
noncomputable def HOk (H:Hp)(h:Heap):Prop:=∀a o,H a=some o->ze9 P w H h a o
end
section
variable {P:Program} {w:World} {H H':Hp} {h h':Heap} {a:Addr} {o:HO}
theorem ze9.lt (x:ze9 P w H h a o):a<h.objs.size:=by
 cases o with
 | lst xs=>obtain⟨_,_,_,_,e⟩:=x;exact Heap.lt_size e
 | tup xs=>obtain⟨_,_,_,_,e,_⟩:=x;exact Heap.lt_size e
 | dK kvs=>obtain⟨_,_,_,_,o,_,_,e,_⟩:=x;exact Heap.lt_size e
 | dT kvs=>obtain⟨_,_,_,_,o,_,_,e,_⟩:=x;exact Heap.lt_size e
 | set S n=>obtain⟨o,_,_,_,e,_⟩:=x;exact Heap.lt_size e
 | ins C dx fs=>obtain⟨_,_,_,e,_⟩:=x;exact Heap.lt_size e
 | own y=>obtain⟨_,e⟩:=x;exact Heap.lt_size e
 | xd fs=>obtain⟨_,_,⟨_,_,_,e,_⟩,_⟩:=x;exact Heap.lt_size e
 | rng lo hi=>obtain⟨_,_,_,e⟩:=x;exact Heap.lt_size e
 | frz ob u=>obtain⟨e,_⟩:=x;exact Heap.lt_size e
 | tbl ps=>exact Heap.lt_size (show h.get? a=some _ from x)
 | met f y=>exact Heap.lt_size (show h.get? a=some _ from x)
 | ext φ=>obtain⟨_,⟨_,e⟩,_⟩:=x;exact Heap.lt_size e
theorem Paired.mapP {α β:Type}{F G:α->β->Prop}:∀ {l₁:List α} {l₂:List β},Paired F l₁ l₂->(∀a b,F a b->G a b)->Paired G l₁ l₂
 | _,_,.nil,_=>.nil
 | _,_,.cons r t,f=>.cons (f _ _ r) (Paired.mapP t f)
theorem ze9.stay (x:ze9 P w H h a o)(k:∀b u,(b=a\/H b=some (.own a))->h.get? b=some u->h'.get? b=some u)
   (ho:∀b,H b=some (.own a)->H' b=some (.own a)) (ht:∀b xs,H b=some (.tup xs)->H' b=some (.tup xs)):ze9 P w H' h' a o:=by
 induction o with
 | lst xs=>obtain⟨z,its,n,r,e⟩:=x;exact⟨z,its,n,r,k _ _ (.inl rfl) e⟩
 | tup xs=>obtain⟨z,its,r,ob,e,c⟩:=x;exact⟨z,its,r,ob,k _ _ (.inl rfl) e,c⟩
 | dK kvs=>obtain⟨z,y,vs,r,ob,es,ep,e,c⟩:=x;exact⟨z,y,vs,r,ob,es,ep,k _ _ (.inl rfl) e,c⟩
 | dT kvs =>
   obtain⟨z,y,xs,r,ob,es,ep,e,c⟩:=x
   exact⟨z,y,xs,Paired.mapP r fun p q z=>⟨z.1,ht _ _ z.2.1,z.2.2⟩,ob,es,ep,k _ _ (.inl rfl) e,c⟩
 | set S n=>obtain⟨ob,es,ep,t,e,c⟩:=x;exact⟨ob,es,ep,t,k _ _ (.inl rfl) e,c⟩
 | ins C dx fs =>
   obtain⟨d,z,ne,e,mA,⟨od,es,ep,e2,c⟩,r⟩:=x
   exact⟨ho _ d,z,ne,k _ _ (.inl rfl) e,mA,⟨od,es,ep,k _ _ (.inr d) e2,c⟩,r⟩
 | own y=>obtain⟨ob,e⟩:=x;exact⟨ob,k _ _ (.inl rfl) e⟩
 | xd fs=>obtain⟨z,mA,⟨od,es,ep,e,c⟩,r⟩:=x;exact⟨z,mA,⟨od,es,ep,k _ _ (.inl rfl) e,c⟩,r⟩
 | rng lo hi=>obtain⟨t,u,v,e⟩:=x;exact⟨t,u,v,k _ _ (.inl rfl) e⟩
 | frz ob u ih=>obtain⟨e,q⟩:=x;exact⟨k _ _ (.inl rfl) e,ih q⟩
 | tbl ps =>
   have e:h.get? a=some { cls:=.none,data:=.fields ps }:=x
   show h'.get? a=some { cls:=.none,data:=.fields ps }
   exact k a _ (.inl rfl) e
 | met f y =>
   have e:h.get? a=some (W.methodObj (.ref f) (.ref y)):=x
   show h'.get? a=some (W.methodObj (.ref f) (.ref y))
   exact k a _ (.inl rfl) e
 | ext φ=>obtain⟨p,⟨o,e⟩,st⟩:=x;exact⟨st _ _ p fun o q=>k _ _ (.inl rfl) q,⟨o,k _ _ (.inl rfl) e⟩,st⟩
theorem HOk.lt (x:HOk P w H h)(e:H a=some o):a<h.objs.size:=(x a o e).lt
theorem HOk.fresh (x:HOk P w H h)(e:h.objs.size<=a):H a=none:=by
 cases q:H a with
 | none=>rfl
 | some u=>exact absurd (Nat.lt_of_lt_of_le (x.lt q) e) (Nat.lt_irrefl _)
theorem HOk.kept (x:HOk P w H h)(k:∀b u,h.get? b=some u->h'.get? b=some u):HOk P w H h':=fun a o e =>
 (x a o e).stay (fun b u _ q=>k b u q) (fun _ q=>q) fun _ _ q=>q
theorem HOk.laid (x:HOk P w H h)(k:∀b u,h.get? b=some u->h'.get? b=some u)(hp:h.objs.size<=a)(new:ze9 P w (upd H a o) h' a o):HOk P w (upd H a o) h':=fun b u e=>by
 have hn:=x.fresh hp
 by_cases hb:b=a
 . subst hb;rw[za1] at e;cases e;exact new
 . rw[za9 hb] at e
   exact(x b u e).stay (fun c v _ q=>k c v q) (fun c q=>by rw[za9 (zc1 q hn)];exact q) fun c xs q=>by rw[za9 (zc1 q hn)];exact q
end
noncomputable def Rd (H:Hp)(a:Addr)(u:HO):Prop:=H a=some u\/∃o,H a=some (.frz o u)
theorem Rd.ok {P:Program}{w:World}{H:Hp}{h:Heap}{a:Addr}{u:HO}(r:Rd H a u)(x:HOk P w H h):ze9 P w H h a u:=by
 rcases r with r | ⟨o,r⟩
 . exact x a u r
 . obtain⟨_,q⟩:=x a _ r
   exact q
noncomputable def Mut:Option HO->Prop
 | some (.lst _)=>True
 | some (.dK _)=>True
 | some (.dT _)=>True
 | some (.set _ _)=>True
 | some (.ins _ _ _)=>True
 | some (.ext _)=>True
 | some (.xd _)=>True
 | _=>False
section
variable {P:Program} {w:World} {H:Hp} {h h':Heap} {x e:Addr} {o':HO}
theorem HOk.write (ok:HOk P w H h)(mu:Mut (H x))(he:e=x\/H e=some (.own x))(k:∀b u,b≠e->h.get? b=some u->h'.get? b=some u)(heo:∃u,h'.get? e=some u)
   (new:ze9 P w (upd H x o') h' x o'):HOk P w (upd H x o') h':=fun b u q=>by
 have nown:∀c y,H c=some (.own y)->c≠x:=fun c y r z=>by subst z;rw[r] at mu;exact mu
 have ntup:∀c xs,H c=some (.tup xs)->c≠x:=fun c xs r z=>by subst z;rw[r] at mu;exact mu
 by_cases hb:b=x
 . subst hb;rw[za1] at q;cases q;exact new
 . rw[za9 hb] at q
   by_cases hbe:b=e
   . have q':H b=some (.own x):=by
       rcases he with z | z
       . exact absurd (hbe.trans z) hb
       . rw[hbe];exact z
     rw[q] at q';cases q'
     obtain⟨v,hv⟩:=heo
     exact⟨v,by rw[hbe];exact hv⟩
   . refine(ok b u q).stay (fun c v hc r=>k c v ?_ r) (fun c r=>by rw[za9 (nown c b r)];exact r) fun c xs r=>by rw[za9 (ntup c xs r)];exact r
     rcases hc with rfl | hc
     . exact hbe
     . rintro rfl
       rcases he with z | z
       . exact nown c b hc z
       . rw[hc] at z;cases z;exact hb rfl
end
structure Un (fs ex:List Addr)(H H':Hp)(h h':Heap):Prop where
 keep:∀b o,h.get? b=some o->H b=none->b∉fs->b∉ex->h'.get? b=some o
 slot:∀b o,h.get? b=some o->H b=none->b∈fs->b∉ex->∃sl,h'.get? b=some { o with slots:=sl }
 free:∀b o,h.get? b=some o->H b=none->b∉ex->H' b=none
 there:∀b o,h.get? b=some o->b∉ex->∃o',h'.get? b=some o'
 tups:∀b xs,H b=some (.tup xs)->H' b=some (.tup xs)
 frzs:∀b o u,H b=some (.frz o u)->H' b=some (.frz o u)
 tbls:∀b ps,H b=some (.tbl ps)->∃more,H' b=some (.tbl (ps++more))
section
variable {fs fs' ex ex':List Addr} {H H1 H2:Hp} {h h1 h2 h':Heap} {a x e:Addr} {o:HO}
theorem Un.any (u:Un fs ex H H1 h h1){b:Addr}{ob:Obj}(q:h.get? b=some ob)(n:H b=none)(hx:b∉ex):∃sl,h1.get? b=some { ob with slots:=sl }:=by
 by_cases hb:b∈fs
 . exact u.slot b ob q n hb hx
 . exact⟨ob.slots,u.keep b ob q n hb hx⟩
theorem Un.kept (k:∀b u,h.get? b=some u->h'.get? b=some u):Un fs ex H H h h' :=
 ⟨fun b ob q _ _ _=>k b ob q,fun b ob q _ _ _=>⟨ob.slots,k b ob q⟩,fun _ _ _ n _=>n,fun b ob q _=>⟨ob,k b ob q⟩,fun _ _ q=>q,fun _ _ _ q=>q,fun _ ps q=>⟨#[],by rw[q];simp⟩⟩
theorem Un.refl:Un fs ex H H h h:=Un.kept fun _ _ q=>q
theorem Un.laid (k:∀b u,h.get? b=some u->h'.get? b=some u)(hp:h.objs.size<=a)(hn:H a=none):Un fs ex H (upd H a o) h h' where
 keep:=fun b u q _ _ _=>k b u q
 slot:=fun b u q _ _ _=>⟨u.slots,k b u q⟩
 free:=fun b u q n _=>by rw[za9 (Nat.ne_of_lt (Nat.lt_of_lt_of_le (Heap.lt_size q) hp))];exact n
 there:=fun b u q _=>⟨u,k b u q⟩
 tups:=fun b xs q=>by rw[za9 (zc1 q hn)];exact q
 frzs:=fun b u xs q=>by rw[za9 (zc1 q hn)];exact q
 tbls:=fun b ps q=>⟨#[],by rw[za9 (zc1 q hn),q];simp⟩
theorem Un.write (mu:Mut (H x))(he:e=x\/H e=some (.own x))(k:∀b u,b≠e->h.get? b=some u->h'.get? b=some u)(heo:∃u,h'.get? e=some u):Un fs ex H (upd H x o) h h':=by
 have hx:∀b,H b=none->b≠x:=fun b n z=>by subst z;rw[n] at mu;exact mu
 have hb:∀b,H b=none->b≠e:=fun b n z=>by
   subst z
   rcases he with r | r
   . exact hx b n r
   . rw[n] at r;cases r
 have hm:∀b u,H b=some u->¬ Mut (some u)->b≠x:=fun b u q nm z=>by subst z;rw[q] at mu;exact nm mu
 refine⟨fun b u q n _ _=>k b u (hb b n) q,fun b u q n _ _=>⟨u.slots,k b u (hb b n) q⟩,fun b u q n _=>by rw[za9 (hx b n)];exact n,fun b u q _=>?_,
   fun b xs q=>by rw[za9 (hm b _ q fun z=>z)];exact q,fun b u xs q=>by rw[za9 (hm b _ q fun z=>z)];exact q,fun b ps q=>⟨#[],by rw[za9 (hm b _ q fun z=>z),q];simp⟩⟩
 by_cases hbe:b=e
 . subst hbe;exact heo
 . exact⟨u,k b u hbe q⟩
end
noncomputable def trk (h:Heap)(H:Hp):List Addr:=(List.range h.objs.size).filter fun a=>(H a).isSome
noncomputable def hidT (h:Heap)(H:Hp):Heap:=W.hideAll h (trk h H)
theorem hidT_size (h:Heap)(H:Hp):(hidT h H).objs.size=h.objs.size:=W.hideAll_size _ _
theorem hidT_get {h:Heap}{H:Hp}{b:Addr}{o:Obj}(e:h.get? b=some o)(n:H b=none):(hidT h H).get? b=some o :=
 W.hideAll_get _ e fun hm=>by
   have q:(H b).isSome=true:=(List.mem_filter.mp hm).2
   rw[n] at q;simp at q
theorem of_hidT {h:Heap}{H:Hp}{b:Addr}{o:Obj}(e:(hidT h H).get? b=some o):h.get? b=some o/\H b=none:=by
 have e':h.get? b=some o:=W.of_hideAll (trk h H) e
 refine⟨e',?_⟩
 cases q:H b with
 | none=>rfl
 | some x =>
   have hm:b∈trk h H:=List.mem_filter.mpr ⟨List.mem_range.mpr (Heap.lt_size e'),by simp[q]⟩
   have z:(hidT h H).get? b=none:=W.hideAll_none (trk h H) hm
   rw[z] at e;cases e
structure Mod (K:W.Frag)(mg:Str->Option Value)(base:Heap):Prop where
 kin:K.In base
 glob:base.Ns mainGlobals mg
 blt:∃mb,base.Ns builtinsNs mb/\∀x:Str,x≠"__name__"->mb x=bootBuiltins x
 nolimit:base.NoLimit
structure Cx where
 prog:Program
 w:World
 K:W.Frag
 mg:Str->Option Value
 base:Heap
 A:Around
 N:List Str
 s₀:Shared
 H₀:Hp
 env:Env
 outer:List Env
 stack:List Env
 ex:List Addr
 fn:Str->Bool
 calm:Bool
 pn:List (Addr×Obj)
 xe:Value->Shared->Prop
noncomputable def frs (l:List Env):List Addr:=l.filterMap (·.frame)
noncomputable abbrev Cx.fs (X:Cx):List Addr:=frs X.outer
noncomputable def Vis (sc:Scope)(x:Str):Prop:=sc.names.lookup x=some .local\/sc.names.lookup x=some .cell\/sc.names.lookup x=some .free
noncomputable def Loc (sc:Scope)(x:Str):Prop:=sc.names.lookup x=some .local\/sc.names.lookup x=some .cell
noncomputable def Look (env:Env)(h:Heap)(m:Str->Option Value)(x:Str)(u:Value):Prop :=
 (env.kindOf x=some .local/\m x=some u)\/((env.kindOf x=some .cell\/env.kindOf x=some .free)/\∃c,env.cells.lookup x=some c/\h.IsCell c (some u))
structure Cx.Ok (X:Cx):Prop where
 mod:Mod X.K X.mg X.base
 kind:X.env.scope.kind = .function
 glob:X.env.globals=mainGlobals
 blt:X.env.builtins=builtinsNs
 above:X.s₀.heap.objs.size<=X.env.locals
 inj:∀x y c,X.env.cells.lookup x=some c->X.env.cells.lookup y=some c->x=y
 has:∀x,(X.env.kindOf x=some .cell\/X.env.kindOf x=some .free)->∃c,X.env.cells.lookup x=some c
 cab:∀x c,X.fn x=true->X.env.cells.lookup x=some c->X.s₀.heap.objs.size<=c
 hd:X.calm=true->X.A.handled=none
 frames:X.A.frames=some X.stack
 stk:X.stack=X.outer\/(X.stack=X.env::X.outer/\X.env.frame=some X.env.locals)
 exf:∀b∈X.ex,b≠X.env.locals/\∀x c,X.env.cells.lookup x=some c->c≠b
 bs:∀b o,X.base.get? b=some o->X.s₀.heap.get? b=some o/\X.H₀ b=none
 bsz:X.base.objs.size<=X.s₀.heap.objs.size
 noex:∀b o,X.base.get? b=some o->b∉X.ex
 exfs:∀b∈X.ex,b∉X.fs
 funs:X.s₀.heap.FunFrames X.base X.outer
 frf:∀b∈X.fs,X.H₀ b=none
structure Inv (X:Cx)(pins:List (Addr×Obj))(σ:List (Option V))(H:Hp)(s:Shared):Prop where
 ok:X.Ok
 os:s.os=X.s₀.os
 bare:AllBare s.gens
 base:Un X.fs X.ex X.H₀ H X.s₀.heap s.heap
 loc:∃m,s.heap.Ns X.env.locals m/\∀(i:Nat) (x:Str) (v:V),X.N[i]?=some x->σ[i]?=some (some v)->Vis X.env.scope x->∃u,RelV v u/\Look X.env s.heap m x u
 cell:∀x c,X.env.cells.lookup x=some c->∃v,s.heap.IsCell c v
 free:H X.env.locals=none
 freeC:∀x c,X.env.cells.lookup x=some c->H c=none
 pin:∀p∈X.pn++pins,s.heap.get? p.1=some p.2/\H p.1=none/\p.1≠X.env.locals/\p.1∉X.fs/\∀v,p.2.data≠.cell v
 hok:HOk X.prog X.w H s.heap
 len:σ.length=X.N.length
section
variable {X:Cx} {pins:List (Addr×Obj)} {σ:List (Option V)} {H H':Hp} {s:Shared} {h':Heap}
theorem Cx.Ok.nofr (ok:X.Ok){b:Addr}{o:Obj}(e:X.base.get? b=some o):b∉X.fs:=fun hb=>by
 have:=(ok.funs.mem hb).1
 rw[e] at this;cases this
theorem Inv.bs (I:Inv X pins σ H s):∀b o,X.base.get? b=some o->s.heap.get? b=some o/\H b=none:=fun b o e =>
 ⟨I.base.keep b o (I.ok.bs b o e).1 (I.ok.bs b o e).2 (I.ok.nofr e) (I.ok.noex b o e),I.base.free b o (I.ok.bs b o e).1 (I.ok.bs b o e).2 (I.ok.noex b o e)⟩
theorem Inv.bk (I:Inv X pins σ H s):∀b o,X.base.get? b=some o->s.heap.get? b=some o:=fun b o e=>(I.bs b o e).1
theorem Inv.mod (I:Inv X pins σ H s):Mod X.K X.mg X.base:=I.ok.mod
theorem Inv.kIn (I:Inv X pins σ H s):X.K.In s.heap:=I.ok.mod.kin.keeps I.bk
theorem Inv.lt (I:Inv X pins σ H s):X.env.locals<s.heap.objs.size:=let⟨_,hn,_⟩:=I.loc;hn.lt
theorem Inv.sz (I:Inv X pins σ H s):X.s₀.heap.objs.size<=s.heap.objs.size:=Nat.le_trans I.ok.above (Nat.le_of_lt I.lt)
theorem Inv.nofs (I:Inv X pins σ H s){a:Addr}(h:s.heap.objs.size<=a):a∉X.fs:=fun hb=>by
 obtain⟨_,o,ho,_⟩:=I.ok.funs.mem hb
 exact absurd (Nat.lt_of_lt_of_le (Heap.lt_size ho) (Nat.le_trans I.sz h)) (Nat.lt_irrefl _)
theorem Inv.cne (I:Inv X pins σ H s):∀x c,X.env.cells.lookup x=some c->c≠X.env.locals:=fun x c e z=>by
 obtain⟨v,o,ho,hd⟩:=I.cell x c e
 obtain⟨m,⟨o',es,ep,ho',hd',_⟩,_⟩:=I.loc
 rw[z,ho'] at ho;cases ho;rw[hd'] at hd;cases hd
theorem Inv.funs (I:Inv X pins σ H s):s.heap.FunFrames X.base X.outer:=by
 have all:∀(l:List Env),(∀b∈frs l,b∈X.fs)->X.s₀.heap.FunFrames X.base l->s.heap.FunFrames X.base l:=by
   intro l
   induction l with
   | nil=>intro _ _;trivial
   | cons env r ih =>
     intro hs hl
     obtain⟨hk,⟨L,o,hf,hn,ho,hd⟩,hr⟩:=hl
     have hL:L∈X.fs:=hs L (by unfold frs;rw[List.filterMap_cons,hf];exact List.mem_cons_self)
     obtain⟨sl,e⟩:=I.base.slot L o ho (I.ok.frf L hL) hL fun z=>I.ok.exfs L z hL
     exact⟨hk,⟨L,_,hf,hn,e,hd⟩,ih (fun b hb=>hs b (by unfold frs;rw[List.filterMap_cons,hf];exact List.mem_cons_of_mem _ hb)) hr⟩
 exact all X.outer (fun _ hb=>hb) I.ok.funs
theorem Inv.stack (I:Inv X pins σ H s):s.heap.FunFrames X.base X.stack:=by
 rcases I.ok.stk with e | ⟨e,hf⟩
 . rw[e];exact I.funs
 . rw[e]
   obtain⟨m,hn,_⟩:=I.loc
   refine .cons (by rw[I.ok.kind];decide) hf hn ?_ I.funs
   exact Heap.get?_none_of_le (Nat.le_trans I.ok.bsz I.ok.above)
theorem Inv.stkSub (I:Inv X pins σ H s):∀b∈frs X.stack,b∈X.env.locals::X.fs:=fun b hb=>by
 rcases I.ok.stk with e | ⟨e,hf⟩
 . rw[e] at hb;exact List.mem_cons_of_mem _ hb
 . rw[e] at hb
   unfold frs at hb
   rw[List.filterMap_cons,hf] at hb
   exact hb
theorem Inv.stkFree (I:Inv X pins σ H s):∀b∈frs X.stack,H b=none:=fun b hb=>by
 rcases List.mem_cons.mp (I.stkSub b hb) with e | hb
 . rw[e];exact I.free
 . obtain⟨_,o,ho,_⟩:=I.ok.funs.mem hb
   exact I.base.free b o ho (I.ok.frf b hb) fun z=>I.ok.exfs b z hb
theorem Inv.step {g':Array GenState}{t':Nat}{d':Drawn}{ch:List Addr}(I:Inv X pins σ H s)
   (hch:∀b∈ch,(b∈X.ex\/X.s₀.heap.objs.size<=b)/\b≠X.env.locals/\(∀x c,X.env.cells.lookup x=some c->c≠b)/\∀p∈X.pn++pins,p.1≠b)
   (keep:∀b o,b≠X.env.locals->b∉X.fs->b∉ch->s.heap.get? b=some o->H b=none->h'.get? b=some o)
   (slot:∀b o,b≠X.env.locals->b∈X.fs->b∉ch->s.heap.get? b=some o->H b=none->∃sl,h'.get? b=some { o with slots:=sl }) (free:∀b o,b∉ch->s.heap.get? b=some o->H b=none->H' b=none)
   (there:∀b o,b∉ch->s.heap.get? b=some o->∃o',h'.get? b=some o')
   (tups:∀b xs,H b=some (.tup xs)->H' b=some (.tup xs)) (frzs:∀b o u,H b=some (.frz o u)->H' b=some (.frz o u)) (tbls:∀b ps,H b=some (.tbl ps)->∃more,H' b=some (.tbl (ps++more)))
   (ns:∀m,s.heap.Ns X.env.locals m->h'.Ns X.env.locals m) (hok:HOk X.prog X.w H' h') (hg:AllBare g') :
   Inv X pins σ H' { s with heap:=h',gens:=g',drawn:=d',toks:=t' }:=by
 have neL:∀b o,X.s₀.heap.get? b=some o->b≠X.env.locals:=fun b o e=>Nat.ne_of_lt (Nat.lt_of_lt_of_le (Heap.lt_size e) I.ok.above)
 have neC:∀b o,X.s₀.heap.get? b=some o->b∉X.ex->b∉ch:=fun b o e hx hb=>by
   rcases(hch b hb).1 with z | z
   . exact hx z
   . exact absurd (Nat.lt_of_lt_of_le (Heap.lt_size e) z) (Nat.lt_irrefl _)
 have cellK:∀x c,X.env.cells.lookup x=some c->∀v,s.heap.IsCell c v->h'.IsCell c v:=fun x c e v ⟨o,ho,hd⟩=>by
   have nch:c∉ch:=fun z=>(hch c z).2.2.1 x c e rfl
   by_cases hc:c∈X.fs
   . obtain⟨sl,q⟩:=slot c o (I.cne x c e) hc nch ho (I.freeC x c e)
     exact⟨_,q,hd⟩
   . exact⟨o,keep c o (I.cne x c e) hc nch ho (I.freeC x c e),hd⟩
 refine⟨I.ok,I.os,hg,⟨fun b o e n hb hx=>?_,fun b o e n hb hx=>?_,fun b o e n hx=>?_,fun b o e hx=>?_,fun b xs e=>tups b xs (I.base.tups b xs e),fun b o xs e=>frzs b o xs (I.base.frzs b o xs e),fun b ps e=>?_⟩,?_,fun x c e=>?_,?_,fun x c e=>?_,fun p hp=>?_,hok,I.len⟩
 . exact keep b o (neL b o e) hb (neC b o e hx) (I.base.keep b o e n hb hx) (I.base.free b o e n hx)
 . obtain⟨sl,e1⟩:=I.base.slot b o e n hb hx
   obtain⟨sl',e2⟩:=slot b _ (neL b o e) hb (neC b o e hx) e1 (I.base.free b o e n hx)
   exact⟨sl',e2⟩
 . obtain⟨o',e1⟩:=I.base.there b o e hx
   exact free b o' (neC b o e hx) e1 (I.base.free b o e n hx)
 . obtain⟨o',e1⟩:=I.base.there b o e hx
   exact there b o' (neC b o e hx) e1
 . obtain⟨m1,e1⟩:=I.base.tbls b ps e
   obtain⟨m2,e2⟩:=tbls b _ e1
   exact⟨m1++m2,by rw[e2,Array.append_assoc]⟩
 . obtain⟨m,hn,hl⟩:=I.loc
   refine⟨m,ns m hn,fun i x v e1 e2 e3=>?_⟩
   obtain⟨u,r,l⟩:=hl i x v e1 e2 e3
   refine⟨u,r,?_⟩
   rcases l with l | ⟨k,c,e,z⟩
   . exact .inl l
   . exact .inr ⟨k,c,e,cellK x c e _ z⟩
 . obtain⟨v,z⟩:=I.cell x c e
   exact⟨v,cellK x c e v z⟩
 . obtain⟨m,⟨o,_,_,ho,_⟩,_⟩:=I.loc
   exact free _ o (fun z=>(hch _ z).2.1 rfl) ho I.free
 . obtain⟨v,o,ho,hd⟩:=I.cell x c e
   exact free c o (fun z=>(hch c z).2.2.1 x c e rfl) ho (I.freeC x c e)
 . obtain⟨e,n,ne,nf,d⟩:=I.pin p hp
   have nch:p.1∉ch:=fun z=>(hch p.1 z).2.2.2 p hp rfl
   exact⟨keep p.1 p.2 ne nf nch e n,free p.1 p.2 nch e n,ne,nf,d⟩
theorem Inv.un {t':Nat}(I:Inv X pins σ H s)(u:Un X.fs [] H H' s.heap h')(hok:HOk X.prog X.w H' h'):Inv X pins σ H' { s with heap:=h',toks:=t' }:=by
 obtain⟨m,⟨o,es,ep,ho,r⟩,_⟩:=id I.loc
 obtain⟨sl,hL⟩:=u.any ho I.free (by simp)
 exact I.step (g':=s.gens) (d':=s.drawn) (ch:=[]) (fun _ z=>nomatch z) (fun b o _ hb _ e n=>u.keep b o e n hb (by simp)) (fun b o _ hb _ e n=>u.slot b o e n hb (by simp)) (fun b o _ e n=>u.free b o e n (by simp)) (fun b o _ e=>u.there b o e (by simp)) u.tups u.frzs u.tbls (fun m' hm=>by
   obtain⟨o',es',ep',ho',r'⟩:=hm
   rw[ho] at ho';cases ho'
   exact⟨_,es',ep',hL,r'⟩) hok I.bare
theorem Inv.call {g':Array GenState}{t':Nat}{d':Drawn}{ch:List Addr}(I:Inv X pins σ H s)(u:Un (frs X.stack) ch H H' s.heap h')(hok:HOk X.prog X.w H' h')(hg:AllBare g')
   (hch:∀b∈ch,(b∈X.ex\/X.s₀.heap.objs.size<=b)/\b≠X.env.locals/\(∀x c,X.env.cells.lookup x=some c->c≠b)/\∀p∈X.pn++pins,p.1≠b) :
   Inv X pins σ H' { s with heap:=h',gens:=g',drawn:=d',toks:=t' }:=by
 obtain⟨m,⟨o,es,ep,ho,r⟩,_⟩:=id I.loc
 obtain⟨sl,hL⟩:=u.any ho I.free fun z=>(hch _ z).2.1 rfl
 exact I.step (ch:=ch) hch (fun b o hL hb hc e n=>u.keep b o e n (fun z=>(List.mem_cons.mp (I.stkSub b z)).elim hL hb) hc) (fun b o _ _ hc e n=>u.any e n hc) (fun b o hc e n=>u.free b o e n hc) (fun b o hc e=>u.there b o e hc) u.tups u.frzs u.tbls (fun m' hm=>by
   obtain⟨o',es',ep',ho',r'⟩:=hm
   rw[ho] at ho';cases ho'
   exact⟨_,es',ep',hL,r'⟩) hok hg
theorem Inv.turned {t':Nat}{it:Addr}(I:Inv X pins σ H s)(k:∀b o,b≠it->s.heap.get? b=some o->h'.get? b=some o)(hn:H it=none)(hL:it≠X.env.locals)
   (h1:it∈X.ex\/X.s₀.heap.objs.size<=it) (h2:∀x c,X.env.cells.lookup x=some c->c≠it) (h3:∀p∈X.pn++pins,p.1≠it):Inv X pins σ H { s with heap:=h',toks:=t' }:=by
 have nit:∀b u,H b=some u->b≠it:=fun b u e z=>by rw[z,hn] at e;cases e
 refine I.step (g':=s.gens) (d':=s.drawn) (ch:=[it]) (fun b hb=>?_) (fun b o _ _ hc e _=>k b o (fun z=>hc (by simp[z])) e) (fun b o _ _ hc e _=>⟨o.slots,k b o (fun z=>hc (by simp[z])) e⟩) (fun _ _ _ _ n=>n)
   (fun b o hc e=>⟨o,k b o (fun z=>hc (by simp[z])) e⟩) (fun _ _ e=>e) (fun _ _ _ e=>e) (fun b ps e=>⟨#[],by rw[e];simp⟩) (fun m hm=>?_) (fun b u e=>?_) I.bare
 . have e:b=it:=by simpa using hb
   subst e
   exact⟨h1,hL,h2,h3⟩
 . obtain⟨o,es,ep,ho,r⟩:=hm
   exact⟨o,es,ep,k _ o (Ne.symm hL) ho,r⟩
 . refine(I.hok b u e).stay (fun c v hc q=>k c v ?_ q) (fun _ q=>q) fun _ _ q=>q
   rcases hc with z | z
   . rw[z];exact nit b u e
   . exact nit c _ z
theorem Inv.tok (I:Inv X pins σ H s)(t:Nat):Inv X pins σ H { s with toks:=t }:=I.un (h':=s.heap) (t':=t) Un.refl I.hok
theorem Inv.kept {t':Nat}(I:Inv X pins σ H s)(k:∀b u,s.heap.get? b=some u->h'.get? b=some u):Inv X pins σ H { s with heap:=h',toks:=t' }:=I.un (Un.kept k) (I.hok.kept k)
theorem Inv.laid {a:Addr}{o:HO}{t':Nat}(I:Inv X pins σ H s)(k:∀b u,s.heap.get? b=some u->h'.get? b=some u)(hp:s.heap.objs.size<=a)(new:ze9 X.prog X.w (upd H a o) h' a o) :
 Inv X pins σ (upd H a o) { s with heap:=h',toks:=t' }:=I.un (Un.laid k hp (I.hok.fresh hp)) (I.hok.laid k hp new)
theorem Inv.write {x e:Addr}{o:HO}{t':Nat}(I:Inv X pins σ H s)(mu:Mut (H x))(he:e=x\/H e=some (.own x))(k:∀b u,b≠e->s.heap.get? b=some u->h'.get? b=some u)(heo:∃u,h'.get? e=some u)
 (new:ze9 X.prog X.w (upd H x o) h' x o):Inv X pins σ (upd H x o) { s with heap:=h',toks:=t' }:=I.un (Un.write mu he k heo) (I.hok.write mu he k heo new)
theorem Inv.pins_of {pins':List (Addr×Obj)}(I:Inv X pins σ H s)(h:∀p∈pins',s.heap.get? p.1=some p.2/\H p.1=none/\p.1≠X.env.locals/\p.1∉X.fs/\∀v,p.2.data≠.cell v):Inv X pins' σ H s :=
 ⟨I.ok,I.os,I.bare,I.base,I.loc,I.cell,I.free,I.freeC,fun p hp=>(List.mem_append.mp hp).elim (fun z=>I.pin p (List.mem_append_left _ z)) (h p),I.hok,I.len⟩
theorem zW2 {N:List Str}(hN:N.Nodup){i j:Nat}{x:Str}(a:N[i]?=some x)(b:N[j]?=some x):i=j:=by
 obtain⟨h1,e1⟩:=List.getElem?_eq_some_iff.mp a
 obtain⟨h2,e2⟩:=List.getElem?_eq_some_iff.mp b
 exact(List.getElem_inj hN).mp (e1.trans e2.symm)
theorem zN3 {M:Model}{A:Around}{E:Value->Shared->Prop}{i:Nat}{x:Str}{v:V}{u:Value}{Q:Unit->Shared->Prop}(I:Inv X pins σ H s)(hN:X.N.Nodup)(hi:X.N[i]?=some x)(hx:Loc X.env.scope x)(r:RelV v u)
   (h:∀s',Inv X pins (σ.set i (some v)) H s'->(∃a,Heap.SameBut a s.heap s'.heap/\(a=X.env.locals\/X.env.cells.lookup x=some a))->Q () s') (hf:X.fn x=true\/X.env.scope.names.lookup x=some .local:=by first | exact .inl rfl | exact .inr rfl | assumption):wpAny M A (storeName X.env x u) Q E s:=by
 obtain⟨m,hn,hl⟩:=id I.loc
 have hcls:(X.env.scope.kind == .class || (X.env.scope.kind == .module && X.env.locals != X.env.globals))=false:=by rw[I.ok.kind];rfl
 have hiσ:i<σ.length:=by rw[I.len];exact(List.getElem?_eq_some_iff.mp hi).1
 have cne:=I.cne
 have tracked:∀ {a:Addr} {h':Heap},(∃o,s.heap.get? a=some o/\H a=none)->Heap.SameBut a s.heap h'->HOk X.prog X.w H h':=fun {a h'} ha hs b ob e=>by
   obtain⟨_,_,hfree⟩:=ha
   refine(I.hok b ob e).stay (fun c w' hc q=>(hs.2 c ?_).trans q) (fun _ q=>q) fun _ _ q=>q
   rintro rfl
   rcases hc with rfl | hc
   . rw[hfree] at e;cases e
   . rw[hfree] at hc;cases hc
 rcases hx with hk | hk
 . refine wpAny_storeName_local hk hn (fun h' hn' hs=>?_) hcls
   obtain⟨oL,_,_,hoL,_⟩:=id hn
   refine h _ ⟨I.ok,I.os,I.bare,⟨fun b o e n hb hx=>?_,fun b o e n hb hx=>?_,I.base.free,fun b o e hx=>?_,I.base.tups,I.base.frzs,I.base.tbls⟩,⟨_,hn',fun j y v' e1 e2 e3=>?_⟩,fun y c e=>?_,I.free,I.freeC,fun p hp=>?_,tracked ⟨oL,hoL,I.free⟩ hs,by simpa using I.len⟩ ⟨_,hs,.inl rfl⟩
   . exact(hs.2 b (Nat.ne_of_lt (Nat.lt_of_lt_of_le (Heap.lt_size e) I.ok.above))).trans (I.base.keep b o e n hb hx)
   . obtain⟨sl,e1⟩:=I.base.slot b o e n hb hx
     exact⟨sl,(hs.2 b (Nat.ne_of_lt (Nat.lt_of_lt_of_le (Heap.lt_size e) I.ok.above))).trans e1⟩
   . obtain⟨o',e1⟩:=I.base.there b o e hx
     exact⟨o',(hs.2 b (Nat.ne_of_lt (Nat.lt_of_lt_of_le (Heap.lt_size e) I.ok.above))).trans e1⟩
   . by_cases hj:j=i
     . subst hj
       rw[hi] at e1;cases e1
       rw[List.getElem?_set_self hiσ] at e2
       cases e2
       exact⟨u,r,.inl ⟨hk,by simp⟩⟩
     . rw[List.getElem?_set_ne (Ne.symm hj)] at e2
       obtain⟨u',r',q⟩:=hl j y v' e1 e2 e3
       refine⟨u',r',?_⟩
       rcases q with⟨k,e⟩ | ⟨k,c,e,z⟩
       . refine .inl ⟨k,?_⟩
         have:y≠x:=fun e=>hj (zW2 hN e1 (e▸hi))
         simp[this,e]
       . exact .inr ⟨k,c,e,z.sameBut hs (cne y c e)⟩
   . obtain⟨w',z⟩:=I.cell y c e
     exact⟨w',z.sameBut hs (cne y c e)⟩
   . obtain⟨e,n,ne,nf,d⟩:=I.pin p hp
     exact⟨(hs.2 p.1 ne).trans e,n,ne,nf,d⟩
 . have hfn:X.fn x=true:=by
     rcases hf with z | z
     . exact z
     . rw[z] at hk;cases hk
   obtain⟨c,hc⟩:=I.ok.has x (.inl hk)
   obtain⟨w',z⟩:=I.cell x c hc
   refine wpAny_storeName_cell I.ok.kind hk hc z (fun h' hc' hs=>?_)
   obtain⟨oc,hoc,hocd⟩:=id z
   refine h { s with heap:=h' } ⟨I.ok,I.os,I.bare,⟨fun b o e n hb hx=>?_,fun b o e n hb hx=>?_,I.base.free,fun b o e hx=>?_,I.base.tups,I.base.frzs,I.base.tbls⟩,⟨m,hn.sameBut hs (Ne.symm (cne x c hc)),fun j y v' e1 e2 e3=>?_⟩,fun y c' e=>?_,I.free,I.freeC,fun p hp=>?_,tracked ⟨oc,hoc,I.freeC x c hc⟩ hs,by simpa using I.len⟩ ⟨c,hs,.inr hc⟩
   . exact(hs.2 b (Nat.ne_of_lt (Nat.lt_of_lt_of_le (Heap.lt_size e) (I.ok.cab x c hfn hc)))).trans (I.base.keep b o e n hb hx)
   . obtain⟨sl,e1⟩:=I.base.slot b o e n hb hx
     exact⟨sl,(hs.2 b (Nat.ne_of_lt (Nat.lt_of_lt_of_le (Heap.lt_size e) (I.ok.cab x c hfn hc)))).trans e1⟩
   . obtain⟨o',e1⟩:=I.base.there b o e hx
     exact⟨o',(hs.2 b (Nat.ne_of_lt (Nat.lt_of_lt_of_le (Heap.lt_size e) (I.ok.cab x c hfn hc)))).trans e1⟩
   . by_cases hj:j=i
     . subst hj
       rw[hi] at e1;cases e1
       rw[List.getElem?_set_self hiσ] at e2
       cases e2
       exact⟨u,r,.inr ⟨.inl hk,c,hc,hc'⟩⟩
     . rw[List.getElem?_set_ne (Ne.symm hj)] at e2
       obtain⟨u',r',q⟩:=hl j y v' e1 e2 e3
       refine⟨u',r',?_⟩
       rcases q with q | ⟨k,c',e,z'⟩
       . exact .inl q
       . refine .inr ⟨k,c',e,z'.sameBut hs ?_⟩
         rintro rfl
         exact hj (zW2 hN e1 (I.ok.inj _ _ _ e hc▸hi))
   . by_cases hcc:c'=c
     . subst hcc;exact⟨_,hc'⟩
     . obtain⟨w2,z2⟩:=I.cell y c' e
       exact⟨w2,z2.sameBut hs hcc⟩
   . obtain⟨e,n,ne,nf,d⟩:=I.pin p hp
     refine⟨(hs.2 p.1 ?_).trans e,n,ne,nf,d⟩
     intro q
     rw[q,hoc] at e
     have q':oc=p.2:=Option.some.inj e
     exact d w' (by rw[<-q'];exact hocd)
theorem zB9 {M:Model}{A:Around}{E:Value->Shared->Prop}{i:Nat}{x:Str}{v:V}{u:Value}{Q:Unit->Shared->Prop}(I:Inv X pins σ H s)(hN:X.N.Nodup)(hi:X.N[i]?=some x)(hx:Loc X.env.scope x)(r:RelV v u)
   (h:∀s',Inv X pins (σ.set i (some v)) H s'->Q () s') (hf:X.fn x=true\/X.env.scope.names.lookup x=some .local:=by first | exact .inl rfl | exact .inr rfl | assumption):wpAny M A (storeName X.env x u) Q E s :=
 zN3 I hN hi hx r (fun s' I' _=>h s' I') hf
theorem Inv.call' {s':Shared}{ch:List Addr}(I:Inv X pins σ H s)(ho:s'.os=s.os)(u:Un (frs X.stack) ch H H' s.heap s'.heap)(hok:HOk X.prog X.w H' s'.heap)(hg:AllBare s'.gens)
   (hch:∀b∈ch,(b∈X.ex\/X.s₀.heap.objs.size<=b)/\b≠X.env.locals/\(∀x c,X.env.cells.lookup x=some c->c≠b)/\∀p∈X.pn++pins,p.1≠b):Inv X pins σ H' s':=by
 obtain⟨h',g',d',t',o'⟩:=s'
 have e:o'=s.os:=ho
 subst e
 exact I.call (g':=g') (t':=t') (d':=d') u hok hg hch
end
noncomputable abbrev XK:=Value->Option Addr->Hp->Prop
noncomputable abbrev St:=List (Option V)
noncomputable abbrev VK:=V->Hp->Prop
noncomputable abbrev TE:=St->Hp->VK->Prop
noncomputable abbrev TT:=St->Hp->(Bool->Hp->Prop)->Prop
noncomputable abbrev TA:=St->Hp->(List V->Hp->Prop)->Prop
structure Ends where
 nx:St->Hp->Prop
 rt:VK
 bk:St->Hp->Prop:=fun _ _=>False
 ct:St->Hp->Prop:=fun _ _=>False
noncomputable abbrev TS:=Ends->St->Hp->Prop
noncomputable def EP (X:Cx)(pins:List (Addr×Obj))(σ:St)(Q:VK)(u:Value)(s':Shared):Prop:=∃v H',Inv X pins σ H' s'/\RelV v u/\Q v H'
noncomputable def TP (X:Cx)(pins:List (Addr×Obj))(σ:St)(Q:Bool->Hp->Prop)(b:Bool)(s':Shared):Prop:=∃H',Inv X pins σ H' s'/\Q b H'
noncomputable def AP (X:Cx)(pins:List (Addr×Obj))(σ:St)(Q:List V->Hp->Prop)(us:List Value)(s':Shared):Prop:=∃vs H',Inv X pins σ H' s'/\Vals vs us/\Q vs H'
noncomputable def SP (X:Cx)(pins:List (Addr×Obj))(D:Ends)(f:Flow)(s':Shared):Prop :=
 match f with
 | .next=>∃σ' H',Inv X pins σ' H' s'/\D.nx σ' H'
 | .brk=>∃σ' H',Inv X pins σ' H' s'/\D.bk σ' H'
 | .cont=>∃σ' H',Inv X pins σ' H' s'/\D.ct σ' H'
 | .ret u=>∃v σ' H',Inv X pins σ' H' s'/\RelV v u/\D.rt v H'
noncomputable def PE (X:Cx)(e:Expr)(t:TE):Prop :=
 ∀(pins:List (Addr×Obj)) (s:Shared) (σ:St) (H:Hp) (Q:VK),Inv X pins σ H s->t σ H Q->wpAny (model X.prog X.w) X.A (eval e X.env) (EP X pins σ Q) X.xe s
noncomputable def PT (X:Cx)(e:Expr)(t:TT):Prop :=
 ∀(pins:List (Addr×Obj)) (s:Shared) (σ:St) (H:Hp) (Q:Bool->Hp->Prop),Inv X pins σ H s->t σ H Q->wpAny (model X.prog X.w) X.A (isTrue e X.env (eval e X.env)) (TP X pins σ Q) X.xe s
noncomputable def PW (X:Cx)(e:Expr)(t:TT):Prop :=
 ∀(whole:Sem Value) (pins:List (Addr×Obj)) (s:Shared) (σ:St) (H:Hp) (Q:Bool->Hp->Prop),Inv X pins σ H s->t σ H Q->wpAny (model X.prog X.w) X.A (isTrue e X.env whole) (TP X pins σ Q) X.xe s
theorem PW.pt {X:Cx}{e:Expr}{t:TT}(h:PW X e t):PT X e t:=h _
noncomputable def PA (X:Cx)(es:List Expr)(t:TA):Prop :=
 ∀(pos:Pos) (pins:List (Addr×Obj)) (s:Shared) (σ:St) (H:Hp) (Q:List V->Hp->Prop),Inv X pins σ H s->t σ H Q->wpAny (model X.prog X.w) X.A (spliced (backTo pos (starEach es X.env))) (AP X pins σ Q) X.xe s
noncomputable def PS (X:Cx)(st:Stmt)(t:TS):Prop :=
 ∀(pins:List (Addr×Obj)) (s:Shared) (σ:St) (H:Hp) (D:Ends),Inv X pins σ H s->t D σ H->wpAny (model X.prog X.w) X.A (exec st X.env) (SP X pins D) X.xe s
noncomputable def PSs (X:Cx)(st:List Stmt)(t:TS):Prop :=
 ∀(pins:List (Addr×Obj)) (s:Shared) (σ:St) (H:Hp) (D:Ends),Inv X pins σ H s->t D σ H->wpAny (model X.prog X.w) X.A (execs st X.env) (SP X pins D) X.xe s
theorem thn {α:Type}{t:Sem α}{Q Q':α->Shared->Prop}{M:Model}{A:Around}{E:Value->Shared->Prop}{s:Shared}(h:wpAny M A t Q E s)(hQ:∀a s,Q a s->Q' a s):wpAny M A t Q' E s:=wpAny_mono h hQ fun _ _ x=>x
section
variable {X:Cx}
noncomputable def tVar (i:Nat):TE:=fun σ H Q=>∃v,σ[i]?=some (some v)/\Q v H
noncomputable def tC (v:V):TE:=fun _ H Q=>Q v H
theorem pe_var {i:Nat} {x:Str} {pos:Pos} (hN:X.N[i]?=some x) (hv:Vis X.env.scope x) (hd:(x == ("__debug__" : Str))=false:=by decide) (hcd:(x == ("__classdict__" : Str))=false:=by decide):PE X (.Name x pos) (tVar i):=by
 intro pins s σ H Q I h
 obtain⟨v,e,h⟩:=h
 obtain⟨m,hn,hl⟩:=I.loc
 obtain⟨u,r,l⟩:=hl i x v hN e hv
 have fin:EP X pins σ Q u s:=⟨v,H,I,r,h⟩
 rcases l with⟨hk,hm⟩ | ⟨hk,c,hc,hcell⟩
 . exact wpAny_Name (wpAny_loadName_local I.ok.kind hk hn hm fin) hd
 . rcases hk with hk | hk
   . exact wpAny_Name (wpAny_loadName_cell I.ok.kind hk hc hcell fin) hd
   . exact wpAny_Name (wpAny_loadName_free I.ok.kind hk hc hcell fin hcd) hd
theorem za2 {i j pos}:PE X (.Constant (.int i) j pos) (tC (.int i)):=fun _ _ _ H _ I h=>wpAny_Constant_int ⟨.int i,H,I.tok _,⟨_,rfl⟩,h⟩
theorem zg8 {b j pos}:PE X (.Constant (.bool b) j pos) (tC (.bl b)):=fun _ _ _ H _ I h=>Constant_bool ⟨.bl b,H,I,rfl,h⟩
theorem zE9 {j pos}:PE X (.Constant .none j pos) (tC .non):=fun _ _ _ H _ I h=>Constant_none ⟨.non,H,I,rfl,h⟩
noncomputable def Gl (X:Cx)(x:Str):Prop:=X.env.kindOf x=some .globalImplicit
theorem zT0 {E:Value->Shared->Prop}{pins:List (Addr×Obj)}{s:Shared}{σ:St}{H:Hp}{x:Str}{u:Value}{pos:Pos}{Q:Value->Shared->Prop}(I:Inv X pins σ H s)(hg:Gl X x)(hm:X.mg x=some u)(h:Q u s)
   (hd:(x == ("__debug__" : Str))=false:=by decide):wpAny (model X.prog X.w) X.A (eval (.Name x pos) X.env) Q E s :=
 Calls.Name_function_global I.ok.kind hg (Calls.loadGlobal_global (by rw[I.ok.glob];exact I.mod.glob.keeps I.bk) hm h) hd
theorem zw0 {E:Value->Shared->Prop}{pins:List (Addr×Obj)}{s:Shared}{σ:St}{H:Hp}{x:Str}{u:Value}{pos:Pos}{Q:Value->Shared->Prop}(I:Inv X pins σ H s)(hg:Gl X x)(hm:X.mg x=none)(hv:bootBuiltins x=some u)(h:Q u s)
   (hn:x≠"__name__":=by decide) (hd:(x == ("__debug__" : Str))=false:=by decide):wpAny (model X.prog X.w) X.A (eval (.Name x pos) X.env) Q E s:=by
 obtain⟨mb,h1,h2⟩:=I.mod.blt
 exact Calls.Name_function_global I.ok.kind hg (Calls.loadGlobal_builtin (by rw[I.ok.glob];exact I.mod.glob.keeps I.bk) hm (by rw[I.ok.blt];exact h1.keeps I.bk) ((h2 x hn).trans hv) h) hd
theorem zo3 {x:Str} {v:V} {u:Value} {pos:Pos} (hg:Gl X x) (hm:X.mg x=some u) (r:RelV v u) (hd:(x == ("__debug__" : Str))=false:=by decide):PE X (.Name x pos) (tC v) :=
 fun _ _ _ H _ I h=>zT0 I hg hm ⟨v,H,I,r,h⟩ hd
theorem zq5 {x:Str} {v:V} {u:Value} {pos:Pos} (hg:Gl X x) (hm:X.mg x=none) (hv:bootBuiltins x=some u) (r:RelV v u) (hn:x≠"__name__":=by decide) (hd:(x == ("__debug__" : Str))=false:=by decide):PE X (.Name x pos) (tC v) :=
 fun _ _ _ H _ I h=>zw0 I hg hm hv ⟨v,H,I,r,h⟩ hn hd
variable {a b:Expr} {ta tb:TE} {pos:Pos}
noncomputable def PC (X:Cx)(op:CmpOp)(a b:Expr)(t:TE):Prop :=
 ∀(pins:List (Addr×Obj)) (s:Shared) (σ:St) (H:Hp) (Q:VK),Inv X pins σ H s->t σ H Q →
   wpAny (model X.prog X.w) X.A (eval a X.env) (fun v s₁=>wpAny (model X.prog X.w) X.A (eval b X.env) (fun u s₂=>wpAny (model X.prog X.w) X.A (compareOp op v u) (EP X pins σ Q) X.xe s₂) X.xe s₁) X.xe s
noncomputable def tB (t:TE):TT:=fun σ H Q=>t σ H fun x H1=>∃c,x = .bl c/\Q c H1
theorem yb5 {op:CmpOp}{t:TE}(h:PC X op a b t)(h1:behindInMarks op b=false:=by first | exact nobehind _ (by decide) (by decide) | rfl):PT X (.Compare a [op] [b] pos) (tB t):=by
 intro pins s σ H Q I hw
 refine wpAny_isTrue_Compare1 (thn (h pins s σ H _ I hw) fun v s1 h1=>thn h1 fun u s2 h2=>thn h2 fun c s3 ⟨x,H1,I1,r1,q1⟩=>?_) h1
 obtain⟨d,rfl,q⟩:=q1
 cases r1
 exact wpAny_truthy_bool ⟨H1,I1,q⟩
theorem zd4 {e:Expr}{t:TE}(h:PE X e t)(he:∀whole,isTrue e X.env whole=(do let v <-whole;standAt e.pos;holding [v] (truthy v)):=by intro _;rfl):PT X e (tB t):=by
 intro pins s σ H Q I hw
 refine isTrue_plain (thn (h pins s σ H _ I hw) fun v s1 ⟨x,H1,I1,r1,q1⟩=>?_) (he _)
 obtain⟨d,rfl,q⟩:=q1
 cases r1
 exact wpAny_truthy_bool ⟨H1,I1,q⟩
variable {tA tB':TT} {rest:List Expr}
noncomputable def tAnd (t u:TT):TT:=fun σ H Q=>t σ H fun c H1=>if c=true then u σ H1 Q else Q false H1
noncomputable def tOr (t u:TT):TT:=fun σ H Q=>t σ H fun c H1=>if c=true then Q true H1 else u σ H1 Q
noncomputable def tNot (t:TT):TT:=fun σ H Q=>t σ H fun c H1=>Q (!c) H1
theorem zy3 (ha:PT X a tA):PW X (.BoolOp .And [a] pos) tA:=by
 intro wh pins s σ H Q I h
 refine isTrue_and (thn (ha pins s σ H Q I h) fun c s1 e=>?_)
 cases c with
 | true=>exact isTrue_and_nil e
 | false=>exact e
theorem zl0 (ha:PT X a tA):PW X (.BoolOp .Or [a] pos) tA:=by
 intro wh pins s σ H Q I h
 refine isTrue_or (thn (ha pins s σ H Q I h) fun c s1 e=>?_)
 cases c with
 | false=>exact isTrue_or_nil e
 | true=>exact e
theorem zB3 (ha:PT X a tA)(hb:PW X (.BoolOp .And (b::rest) pos) tB'):PW X (.BoolOp .And (a::b::rest) pos) (tAnd tA tB'):=by
 intro wh pins s σ H Q I h
 refine isTrue_and (thn (ha pins s σ H _ I h) fun c s1 ⟨H1,I1,q1⟩=>?_)
 cases c with
 | true=>exact hb wh pins s1 σ H1 Q I1 q1
 | false=>exact⟨H1,I1,q1⟩
theorem zn1 (ha:PT X a tA)(hb:PW X (.BoolOp .Or (b::rest) pos) tB'):PW X (.BoolOp .Or (a::b::rest) pos) (tOr tA tB'):=by
 intro wh pins s σ H Q I h
 refine isTrue_or (thn (ha pins s σ H _ I h) fun c s1 ⟨H1,I1,q1⟩=>?_)
 cases c with
 | true=>exact⟨H1,I1,q1⟩
 | false=>exact hb wh pins s1 σ H1 Q I1 q1
theorem ze5 (ha:PT X a tA):PT X (.UnaryOp .Not a pos) (tNot tA):=by
 intro pins s σ H Q I h
 exact isTrue_not (ha pins s σ H (fun c H1=>Q (!c) H1) I h)
noncomputable def tAndV (ta tb:TE):TE:=fun σ H Q=>ta σ H fun x H1=>∃c,x = .bl c/\if c=true then tb σ H1 Q else Q (.bl false) H1
noncomputable def tOrV (ta tb:TE):TE:=fun σ H Q=>ta σ H fun x H1=>∃c,x = .bl c/\if c=true then Q (.bl true) H1 else tb σ H1 Q
noncomputable def tNotV (ta:TE):TE:=fun σ H Q=>ta σ H fun x H1=>∃c,x = .bl c/\Q (.bl (!c)) H1
theorem zJ6 {op}{t:TE}(h:PE X a t):PE X (.BoolOp op [a] pos) t:=fun pins s σ H Q I hw=>BoolOp_one (h pins s σ H Q I hw)
theorem zT1 (ha:PE X a ta)(hb:PE X (.BoolOp .And (b::rest) pos) tb):PE X (.BoolOp .And (a::b::rest) pos) (tAndV ta tb):=by
 intro pins s σ H Q I h
 refine BoolOp_and (thn (ha pins s σ H _ I h) fun v s1 ⟨x,H1,I1,r1,q1⟩=>?_)
 obtain⟨c,rfl,q1⟩:=q1
 cases r1
 refine wpAny_truthy_bool ?_
 cases c with
 | true=>exact hb pins s1 σ H1 Q I1 q1
 | false=>exact⟨.bl false,H1,I1,rfl,q1⟩
theorem pe_or (ha:PE X a ta)(hb:PE X (.BoolOp .Or (b::rest) pos) tb):PE X (.BoolOp .Or (a::b::rest) pos) (tOrV ta tb):=by
 intro pins s σ H Q I h
 refine BoolOp_or (thn (ha pins s σ H _ I h) fun v s1 ⟨x,H1,I1,r1,q1⟩=>?_)
 obtain⟨c,rfl,q1⟩:=q1
 cases r1
 refine wpAny_truthy_bool ?_
 cases c with
 | false=>exact hb pins s1 σ H1 Q I1 q1
 | true=>exact⟨.bl true,H1,I1,rfl,q1⟩
theorem yg4 (ha:PE X a ta):PE X (.UnaryOp .Not a pos) (tNotV ta):=by
 intro pins s σ H Q I h
 refine UnaryOp_ (thn (ha pins s σ H _ I h) fun v s1 ⟨x,H1,I1,r1,q1⟩=>?_)
 obtain⟨c,rfl,q1⟩:=q1
 cases r1
 exact not_of (wpAny_truthy_bool ⟨.bl (!c),H1,I1,rfl,q1⟩)
end
noncomputable def SqL (K:W.Frag)(H:Hp)(a:Addr)(xs:List V):Prop :=
 Rd H a (.lst xs) ∨
   ∃(o:Obj) (its:Array Value) (n:Nat),K.lookup a=some o/\o.cls = .type "list"/\o.dict=none/\o.data = .seq its n/\its.size<=sizeLine/\Vals xs its.toList
noncomputable def SqT (K:W.Frag)(H:Hp)(a:Addr)(xs:List V):Prop :=
 Rd H a (.tup xs) ∨
   ∃(o:Obj) (its:Array Value) (n:Nat),K.lookup a=some o/\o.cls = .type "tuple"/\o.data = .seq its n/\its.size<=sizeLine/\Vals xs its.toList
noncomputable def absV:Value->Option V
 | .none=>some .non
 | .bool b=>some (.bl b)
 | .int i _=>some (.int i)
 | .str x _=>some (.str x)
 | .bytes b _=>some (.byt b)
 | .float b _=>some (.flt b)
 | .ref a=>some (.ref a)
 | .type n=>some (.ty n)
 | _=>none
theorem RelV.abs {x:V}{u:Value}(r:RelV x u):absV u=some x:=by
 cases x with
 | non=>cases r;rfl
 | bl _=>cases r;rfl
 | int _=>obtain⟨t,rfl⟩:=r;rfl
 | str _=>obtain⟨t,rfl⟩:=r;rfl
 | byt _=>obtain⟨t,rfl⟩:=r;rfl
 | flt _=>obtain⟨t,rfl⟩:=r;rfl
 | ref _=>cases r;rfl
 | ty _=>cases r;rfl
theorem RelV.inj {x y:V}{u:Value}(r:RelV x u)(q:RelV y u):x=y:=Option.some.inj (r.abs.symm.trans q.abs)
theorem Vals.inj:∀ {xs ys:List V} {us:List Value},Vals xs us->Vals ys us->xs=ys
 | _,_,_,.nil,.nil=>rfl
 | _,_,_,.cons r t,.cons r' t'=>by rw[r.inj r',Vals.inj t t']
section
variable {X:Cx} {pins:List (Addr×Obj)} {σ:St} {H:Hp} {s:Shared} {a:Addr} {xs ys:List V}
theorem SqL.of {K:W.Frag}(h:H a=some (.lst xs)):SqL K H a xs:=.inl (.inl h)
theorem SqT.of {K:W.Frag}(h:H a=some (.tup xs)):SqT K H a xs:=.inl (.inl h)
theorem Inv.list (I:Inv X pins σ H s)(h:SqL X.K H a xs):∃its:List Value,Vals xs its/\PlainL s.heap a its.toArray/\xs.length<=sizeLine:=by
 rcases h with h | ⟨o,its,n,hk,hc,hd,hs,hz,r⟩
 . obtain⟨z,its,n,r,e⟩:=h.ok I.hok
   exact⟨its,r,⟨_,n,e,rfl,rfl,rfl⟩,z⟩
 . refine⟨its.toList,r,⟨o,n,I.kIn a o hk,hc,hd,by simpa using hs⟩,?_⟩
   have e:=r.length
   simp only[Array.length_toList] at e
   omega
theorem Inv.tuple (I:Inv X pins σ H s)(h:SqT X.K H a xs):∃its:List Value,Vals xs its/\IsTup s.heap a its.toArray/\xs.length<=sizeLine:=by
 rcases h with h | ⟨o,its,n,hk,hc,hs,hz,r⟩
 . obtain⟨z,its,r,p⟩:=h.ok I.hok
   exact⟨its,r,p.isTup,z⟩
 . refine⟨its.toList,r,⟨o,I.kIn a o hk,hc,n,by simpa using hs⟩,?_⟩
   have e:=r.length
   simp only[Array.length_toList] at e
   omega
theorem Inv.list_inj (I:Inv X pins σ H s)(h:SqL X.K H a xs)(h':SqL X.K H a ys):xs=ys:=by
 obtain⟨its,r,⟨o,n,e,_,_,d⟩,_⟩:=I.list h
 obtain⟨its',r',⟨o',n',e',_,_,d'⟩,_⟩:=I.list h'
 rw[e] at e';cases e'
 rw[d] at d'
 injection d' with d1 _
 have:its=its':=by simpa using congrArg Array.toList d1
 subst this
 exact r.inj r'
theorem Inv.tuple_inj (I:Inv X pins σ H s)(h:SqT X.K H a xs)(h':SqT X.K H a ys):xs=ys:=by
 obtain⟨its,r,⟨o,e,_,n,d⟩,_⟩:=I.tuple h
 obtain⟨its',r',⟨o',e',_,n',d'⟩,_⟩:=I.tuple h'
 rw[e] at e';cases e'
 rw[d] at d'
 injection d' with d1 _
 have:its=its':=by simpa using congrArg Array.toList d1
 subst this
 exact r.inj r'
end
noncomputable abbrev Cx.wish (X:Cx)(E:Value->Shared->Prop):Cx:={ X with xe:=E }
noncomputable abbrev Cx.nox (X:Cx):Cx:=X.wish fun _ _=>False
theorem Cx.Ok.wish {X:Cx}(ok:X.Ok)(E:Value->Shared->Prop):(X.wish E).Ok :=
 ⟨ok.mod,ok.kind,ok.glob,ok.blt,ok.above,ok.inj,ok.has,ok.cab,ok.hd,ok.frames,ok.stk,ok.exf,ok.bs,ok.bsz,ok.noex,ok.exfs,ok.funs,ok.frf⟩
theorem Cx.Ok.unwish {X:Cx}{E:Value->Shared->Prop}(ok:(X.wish E).Ok):X.Ok :=
 ⟨ok.mod,ok.kind,ok.glob,ok.blt,ok.above,ok.inj,ok.has,ok.cab,ok.hd,ok.frames,ok.stk,ok.exf,ok.bs,ok.bsz,ok.noex,ok.exfs,ok.funs,ok.frf⟩
section
variable {X:Cx} {pins:List (Addr×Obj)} {σ:St} {H:Hp} {s:Shared} {E:Value->Shared->Prop}
theorem Inv.wish (I:Inv X pins σ H s)(E:Value->Shared->Prop):Inv (X.wish E) pins σ H s:=⟨I.ok.wish E,I.os,I.bare,I.base,I.loc,I.cell,I.free,I.freeC,I.pin,I.hok,I.len⟩
theorem Inv.unwish (I:Inv (X.wish E) pins σ H s):Inv X pins σ H s:=⟨I.ok.unwish,I.os,I.bare,I.base,I.loc,I.cell,I.free,I.freeC,I.pin,I.hok,I.len⟩
theorem SP.unwish {D:Ends}{f:Flow}{s':Shared}(h:SP (X.wish E) pins D f s'):SP X pins D f s':=by
 cases f with
 | next=>obtain⟨σ',H',I,q⟩:=h;exact⟨σ',H',I.unwish,q⟩
 | brk=>obtain⟨σ',H',I,q⟩:=h;exact⟨σ',H',I.unwish,q⟩
 | cont=>obtain⟨σ',H',I,q⟩:=h;exact⟨σ',H',I.unwish,q⟩
 | ret u=>obtain⟨v,σ',H',I,r,q⟩:=h;exact⟨v,σ',H',I.unwish,r,q⟩
theorem PSs.nox {st:List Stmt}{t:TS}(h:PSs X.nox st t):PSs X st t:=fun pins s σ H D I hw =>
 wpAny_mono (h pins s σ H D (I.wish _) hw) (fun _ _ q=>q.unwish) fun _ _ z=>False.elim z
end
section
variable {X:Cx} {st:Stmt} {rest:List Stmt} {t u:TS} {e:Expr} {te:TE} {pos:Pos}
noncomputable def yk6:TS:=fun D σ H=>D.nx σ H
noncomputable def tSeq (t u:TS):TS:=fun D σ H=>t { D with nx:=u D } σ H
theorem zb9:PSs X [] yk6:=fun _ _ σ H _ I h=>wpAny_execs_nil ⟨σ,H,I,h⟩
theorem za4 (h1:PS X st t)(h2:PSs X rest u):PSs X (st::rest) (tSeq t u):=by
 intro pins s σ H D I h
 refine wpAny_execs_cons (thn (h1 pins s σ H { D with nx:=u D } I h) fun f s1 q=>?_)
 cases f with
 | next =>
   obtain⟨σ',H',I',q⟩:=q
   exact h2 pins s1 σ' H' D I' q
 | ret v=>exact q
 | brk=>exact q
 | cont=>exact q
theorem za6 (h1:PS X st t):PSs X [st] t:=by
 intro pins s σ H D I h
 refine wpAny_execs_cons (thn (h1 pins s σ H D I h) fun f s1 q=>?_)
 cases f with
 | next=>exact wpAny_execs_nil q
 | ret v=>exact q
 | brk=>exact q
 | cont=>exact q
theorem Inv.quiet {pins:List (Addr×Obj)}{σ:St}{H:Hp}{s:Shared}(I:Inv X pins σ H s):interactive X.env=false:=by simp[interactive,I.ok.kind]
noncomputable def tDrop (te:TE):TS:=fun D σ H=>te σ H fun _ H1=>D.nx σ H1
theorem zi9 (he:PE X e te)(hs:swapsWith e none pos.line X.env=pure false:=by rfl):PS X (.Expr e pos) (tDrop te):=by
 intro pins s σ H D I h
 exact wpAny_Expr_any (thn (he pins s σ H _ I h) fun v s1 ⟨x,H1,I1,r1,q1⟩=>⟨σ,H1,I1,q1⟩) I.quiet hs
noncomputable def tRet (te:TE):TS:=fun D σ H=>te σ H D.rt
theorem zb8 (he:PE X e te):PS X (.Return (some e) pos) (tRet te):=by
 intro pins s σ H D I h
 exact wpAny_Return_some (thn (he pins s σ H _ I h) fun v s1 ⟨x,H1,I1,r1,q1⟩=>⟨x,σ,H1,I1,r1,q1⟩)
noncomputable def tIfS (c:TT)(t u:TS):TS:=fun D σ H=>c σ H fun b H1=>if b=true then t D σ H1 else u D σ H1
theorem zd1 {c:Expr}{a b:List Stmt}{tc:TT}(hc:PT X c tc)(ha:PSs X a t)(hb:PSs X b u):PS X (.If c a b pos) (tIfS tc t u):=by
 intro pins s σ H D I h
 refine wpAny_If (thn (hc pins s σ H _ I h) fun d s1 ⟨H1,I1,q1⟩=>?_)
 cases d with
 | true=>exact ha pins s1 σ H1 D I1 q1
 | false=>exact hb pins s1 σ H1 D I1 q1
noncomputable def tNever:TS:=fun _ _ _=>False
theorem zh6:PS X st tNever:=fun _ _ _ _ _ _ h=>h.elim
end
noncomputable abbrev TG:=V->St->Hp->(St->Hp->Prop)->Prop
noncomputable abbrev TGs:=List V->St->Hp->(St->Hp->Prop)->Prop
noncomputable def PG (X:Cx)(target:Expr)(t:TG):Prop :=
 ∀(pins:List (Addr×Obj)) (s:Shared) (σ:St) (H:Hp) (v:V) (u:Value) (Q:St->Hp->Prop),Inv X pins σ H s->RelV v u->t v σ H Q →
   wpAny (model X.prog X.w) X.A (assign target X.env u) (fun _ s'=>∃σ' H',Inv X pins σ' H' s'/\Q σ' H') X.xe s
noncomputable def PGs (X:Cx)(ts:List Expr)(t:TGs):Prop :=
 ∀(pins:List (Addr×Obj)) (s:Shared) (σ:St) (H:Hp) (vs:List V) (us:List Value) (Q:St->Hp->Prop),Inv X pins σ H s->Vals vs us->t vs σ H Q →
   wpAny (model X.prog X.w) X.A (assignInOrder ((assignEach ts X.env).map (·.2)) us) (fun _ s'=>∃σ' H',Inv X pins σ' H' s'/\Q σ' H') X.xe s
noncomputable abbrev TSet:=V->V->V->Hp->(Hp->Prop)->Prop
noncomputable def PSet (X:Cx)(t:TSet):Prop :=
 ∀(pins:List (Addr×Obj)) (s:Shared) (σ:St) (H:Hp) (o i v:V) (ov iv u:Value) (Q:Hp->Prop),Inv X pins σ H s->RelV o ov->RelV i iv->RelV v u->t o i v H Q →
   wpAny (model X.prog X.w) X.A (setItem ov iv u) (fun _ s'=>∃H',Inv X pins σ H' s'/\Q H') X.xe s
section
variable {X:Cx} {pos:Pos}
noncomputable def zq6 (i:Nat):TG:=fun v σ H Q=>Q (σ.set i (some v)) H
theorem zc4 {i:Nat}{x:Str}(hN:X.N.Nodup)(hi:X.N[i]?=some x)(hx:Loc X.env.scope x)(hf:X.fn x=true\/X.env.scope.names.lookup x=some .local:=by first | exact .inl rfl | exact .inr rfl | assumption):PG X (.Name x pos) (zq6 i):=by
 intro pins s σ H v u Q I r h
 exact wpAny_assign_Name (zB9 I hN hi hx r (fun s' I'=>⟨_,H,I',h⟩) hf)
noncomputable def gNil:TGs:=fun vs σ H Q=>vs=[]/\Q σ H
noncomputable def yg5 (t:TG)(u:TGs):TGs:=fun vs σ H Q=>∃v r,vs=v::r/\t v σ H fun σ' H'=>u r σ' H' Q
theorem zy4:PGs X [] gNil:=by
 intro pins s σ H vs us Q I r h
 obtain⟨e,h⟩:=h
 subst e
 cases r
 exact assignInOrder_nil ⟨σ,H,I,h⟩
theorem ze4 {e:Expr}{es:List Expr}{t:TG}{u:TGs}(h1:PG X e t)(h2:PGs X es u)
   (hs:(assignEach (e::es) X.env).map (·.2)=assign e X.env::(assignEach es X.env).map (·.2):=by rfl):PGs X (e::es) (yg5 t u):=by
 intro pins s σ H vs us Q I r h
 obtain⟨v,vr,e1,h⟩:=h
 subst e1
 cases r with
 | cons r rr =>
   rw[hs]
   refine assignInOrder_cons (thn (h1 pins s σ H _ _ _ I r h) fun _ s1 ⟨σ1,H1,I1,q1⟩=>?_)
   exact h2 pins s1 σ1 H1 _ _ Q I1 rr q1
inductive yg6 (K:W.Frag)(n:Nat)(t:TGs)(v:V)(σ:St)(H:Hp)(Q:St->Hp->Prop):Prop
 | mk (a xs:_)(h0:v = .ref a)(h1:SqT K H a xs)(h2:xs.length=n)(h3:t xs σ H Q):yg6 K n t v σ H Q
noncomputable def gTup (K:W.Frag)(n:Nat)(t:TGs):TG:=fun v σ H Q=>yg6 K n t v σ H Q
theorem yg7 {es:List Expr}{k:Nat}{t:TGs}{n:Nat}(hc:X.calm=true)(h:PGs X es t)
   (hn:(assignEach es X.env).length=n:=by rfl) (hst:(assignEach es X.env).findIdx? (·.1)=none:=by rfl):PG X (.Tuple es k pos) (gTup X.K n t):=by
 intro pins s σ H v u Q I r hw
 obtain⟨a,xs,e1,hq,hl,hw⟩:=hw
 subst e1
 cases r
 obtain⟨its,rv,ht,hz⟩:=I.tuple hq
 refine assign_Tuple_tuple (I.ok.hd hc) ht (by simp[hn,<-hl,rv.length]) hst fun h' hx=>?_
 have I1:Inv X pins σ H { s with heap:=h' }:=I.kept (t':=s.toks) fun b o e=>hx b o (Nat.ne_of_lt (Heap.lt_size e)) e
 exact h pins _ σ H xs _ Q I1 (by simpa using rv) hw
noncomputable def gSub (to ti:TE)(t:TSet):TG:=fun v σ H Q=>to σ H fun o H1=>ti σ H1 fun i H2=>t o i v H2 fun H3=>Q σ H3
theorem pg_sub {o i:Expr}{to ti:TE}{t:TSet}(ho:PE X o to)(hi:PE X i ti)(hs:PSet X t)
   (ha:∀v,assign (.Subscript o i pos) X.env v=(do
     let ov <-holding [v] (eval o X.env)
     let iv <-holding [v,ov] (eval i X.env)
     standAt pos
     holding [v,ov,iv] (setItem ov iv v)
     release [v,ov,iv] []):=by intro _;rfl):PG X (.Subscript o i pos) (gSub to ti t):=by
 intro pins s σ H v u Q I r h
 rw[ha]
 refine wpAny_bind (wpAny_holding (thn (ho pins s σ H _ I h) fun ov s1 ⟨x,H1,I1,r1,q1⟩=>?_))
 refine wpAny_bind (wpAny_holding (thn (hi pins s1 σ H1 _ I1 q1) fun iv s2 ⟨y,H2,I2,r2,q2⟩=>?_))
 refine wpAny_bind (wpAny_standAt (wpAny_bind (wpAny_holding (thn (hs pins s2 σ H2 x y v ov iv u _ I2 r1 r2 r q2) fun _ s3 ⟨H3,I3,q3⟩=>?_))))
 exact wpAny_release ⟨σ,H3,I3,q3⟩
noncomputable def tAsg (te:TE)(g:TG):TS:=fun D σ H=>te σ H fun x H1=>g x σ H1 D.nx
theorem zF0 {tg e:Expr}{te:TE}{g:TG}(he:PE X e te)(hg:PG X tg g)(hs:swapsWithSole [tg] e pos.line X.env=pure false:=by rfl)(hw:swappedStores [tg] e X.env=pure none:=by rfl)
   (h1:(assignEach [tg] X.env).map (·.2)=[assign tg X.env]:=by rfl):PS X (.Assign [tg] e pos) (tAsg te g):=by
 intro pins s σ H D I h
 refine wpAny_Assign_stores (thn (he pins s σ H _ I h) fun v s1 ⟨x,H1,I1,r1,q1⟩=>?_) hs hw
 rw[h1]
 exact thn (hg pins s1 σ H1 x v _ I1 r1 q1) fun _ s2 q=>q
theorem zb3 {i:Nat}{x:Str}{e:Expr}{te:TE}{pos':Pos}(hN:X.N.Nodup)(hi:X.N[i]?=some x)(hx:Loc X.env.scope x)(he:PE X e te)(hs:swapsWith e (some (.Name x pos')) pos.line X.env=pure false:=by rfl)(hf:X.fn x=true\/X.env.scope.names.lookup x=some .local:=by first | exact .inl rfl | exact .inr rfl | assumption) :
   PS X (.Assign [.Name x pos'] e pos) (tAsg te (zq6 i)):=by
 intro pins s σ H D I h
 refine wpAny_Assign_Name (thn (he pins s σ H _ I h) fun v s1 ⟨y,H1,I1,r1,q1⟩=>?_) hs
 exact zB9 I1 hN hi hx r1 (fun s2 I2=>⟨_,H1,I2,q1⟩) hf
noncomputable def tPar (i j:Nat)(ta:TA):TS:=fun D σ H=>ta σ H fun vs H1=>∃v w,vs=[v,w]/\D.nx ((σ.set i (some v)).set j (some w)) H1
theorem ps_par {i j:Nat}{x y:Str}{a b:Expr}{ta:TA}{px py pt:Pos}{kt k2 pt2}(hc:X.calm=true)(hN:X.N.Nodup)(hi:X.N[i]?=some x)(hj:X.N[j]?=some y)(hij:i≠j)
   (hx:X.env.scope.names.lookup x=some .local) (hy:X.env.scope.names.lookup y=some .local) (ha:PA X [a,b] ta)
   (hw:swappedStores [.Tuple [.Name x px,.Name y py] kt pt] (.Tuple [a,b] k2 pt2) X.env=pure (some [x,y]))
   (hs:swapsWithSole [.Tuple [.Name x px,.Name y py] kt pt] (.Tuple [a,b] k2 pt2) pos.line X.env=pure false:=by rfl) :
   PS X (.Assign [.Tuple [.Name x px,.Name y py] kt pt] (.Tuple [a,b] k2 pt2) pos) (tPar i j ta):=by
 intro pins s σ H D I h
 rw[exec_Assign_arm]
 refine wpAny_bind (wpAny_standAt ?_)
 rw[hs]
 refine wpAny_bind (wpAny_pure ?_)
 rw[if_neg (by decide)]
 refine wpAny_bind (Tuple_ (thn (ha _ pins s σ H _ I h) fun us s1 ⟨vs,H1,I1,r1,q1⟩=>?_))
 obtain⟨v,w,e1,q1⟩:=q1
 subst e1
 obtain⟨u1,u2,rfl,rv,rw'⟩:∃u1 u2,us=[u1,u2]/\RelV v u1/\RelV w u2:=by
   cases r1 with
   | cons p q =>
     cases q with
     | cons p' q' =>
       cases q'
       exact⟨_,_,rfl,p,p'⟩
 refine wpAny_newObj_type ?_ (by show 2<=sizeLine;decide)
 have I2:Inv X pins σ H1 { s1 with heap:=s1.heap.push { cls:=.type "tuple",data:=.seq [u1,u2].toArray } }:=I1.kept (t':=s1.toks) fun b o e=>Heap.get?_push_of_some _ e
 rw[hw]
 refine wpAny_bind (wpAny_pure ?_)
 show wpAny (model X.prog X.w) X.A (do rule "assign.swapped-stores";let items <-unpackItems (.ref s1.heap.objs.size) 2 none;assignInOrder [fun v=>bindName X.env y v,fun v=>bindName X.env x v] items.reverse;pure Flow.next) _ _ _
 refine wpAny_bind (wpAny_rule (wpAny_bind (unpackItems_tuple (items:=#[u1,u2]) (I.ok.hd hc) (IsTup.new s1.heap _) fun h' hx'=>?_)))
 have I3:=I2.kept (h':=h') (t':=s1.toks) fun b o e=>hx' b o (Nat.ne_of_lt (Heap.lt_size e)) e
 show wpAny _ _ (assignInOrder [fun v=>bindName X.env y v,fun v=>bindName X.env x v] [u2,u1] >>= fun _=>pure Flow.next) _ _ _
 refine wpAny_bind (assignInOrder_cons (wpAny_bindName (zB9 I3 hN hj (.inl hy) rw' (fun s2 I4=>?_) (.inr hy))))
 refine assignInOrder_cons (wpAny_bindName (zB9 I4 hN hi (.inl hx) rv (fun s3 I5=>assignInOrder_nil (wpAny_pure ?_)) (.inr hx)))
 rw[List.set_comm _ _ (Ne.symm hij)] at I5
 exact⟨_,H1,I5,q1⟩
end
section
variable {X:Cx} {pos:Pos}
noncomputable def yg8 (c:TT)(tb:TS):TS:=fun D σ H=>∃W:Nat->St->Hp->Prop,(∃m,W m σ H)/\∀m σ H,W m σ H →
 c σ H fun b H1=>if b=true then ∃N:St->Hp->Prop,(∀σ' H',N σ' H'->∃m',m'<m/\W m' σ' H')/\tb { D with nx:=N,ct:=N,bk:=D.nx } σ H1 else D.nx σ H1
theorem zJ7 {c:Expr}{body:List Stmt}{tc:TT}{tb:TS}(hp:PassesOwn (model X.prog X.w) X.A X.env X.xe)(hc:PT X c tc)(hb:PSs X body tb):PS X (.While c body [] pos) (yg8 tc tb):=by
 intro pins s σ H D I h
 obtain⟨W,⟨m0,w0⟩,turn⟩:=h
 refine wpAny_While (codeAny_whileLoop (fun n s'=>∃σ' H',Inv X pins σ' H' s'/\W n σ' H') ?_ m0 ⟨σ,H,I,w0⟩)
 rintro n s1 ⟨σ1,H1,I1,w1⟩
 refine wpAny_passesOwn hp (thn (hc pins s1 σ1 H1 _ I1 (turn n σ1 H1 w1)) fun b s2 ⟨H2,I2,q2⟩=>?_)
 cases b with
 | true =>
   obtain⟨N,hN,q2⟩:=q2
   rw[if_pos rfl]
   refine wpAny_passesOwn hp (thn (hb pins s2 σ1 H2 _ I2 q2) fun f s3 q3=>?_)
   cases f with
   | next =>
     obtain⟨σ3,H3,I3,n3⟩:=q3
     obtain⟨m',hm,w3⟩:=hN σ3 H3 n3
     exact⟨m',hm,σ3,H3,I3,w3⟩
   | cont =>
     obtain⟨σ3,H3,I3,n3⟩:=q3
     obtain⟨m',hm,w3⟩:=hN σ3 H3 n3
     exact⟨m',hm,σ3,H3,I3,w3⟩
   | brk=>exact q3
   | ret v=>exact q3
 | false =>
   rw[if_neg Bool.false_ne_true]
   exact wpAny_execs_nil ⟨σ1,H2,I2,q2⟩
end
structure It where
 go:Nat->Hp->Prop
 yld:Nat->Hp->V->Hp->Prop
 stop:Nat->Hp->Prop
noncomputable def FpOk (X:Cx)(pins:List (Addr×Obj))(H:Hp)(b:Addr):Prop :=
 H b=none/\b≠X.env.locals/\b∉X.fs/\(b∈X.ex\/X.s₀.heap.objs.size<=b)/\(∀x c,X.env.cells.lookup x=some c->c≠b)/\∀p∈X.pn++pins,p.1≠b
theorem Inv.fpOk {X:Cx}{pins:List (Addr×Obj)}{σ:St}{H H':Hp}{s:Shared}{b:Addr}(I:Inv X pins σ H s)(hb:s.heap.objs.size<=b)(hn:H' b=none):FpOk X pins H' b:=by
 refine⟨hn,Nat.ne_of_gt (Nat.lt_of_lt_of_le I.lt hb),I.nofs hb,.inr (Nat.le_trans I.sz hb),fun x c e z=>?_,fun p hp z=>?_⟩
 . obtain⟨v,q⟩:=I.cell x c e
   exact absurd (Nat.lt_of_lt_of_le q.lt (by rw[z];exact hb)) (Nat.lt_irrefl _)
 . exact absurd (Nat.lt_of_lt_of_le (Heap.lt_size (I.pin p hp).1) (by rw[z];exact hb)) (Nat.lt_irrefl _)
structure Turn (P:Program)(w:World)(K:W.Frag)(tg:Expr)(J:It)(fp:List Addr)(it:Addr)(tn:Nat->Heap->Prop):Prop where
 mem:it∈fp
 obj:∀i h,tn i h->∀b∈fp,∃o,h.get? b=some o/\∀v,o.data≠.cell v
 keep:∀i h h',tn i h->(∀b∈fp,∀o,h.get? b=some o->h'.get? b=some o)->tn i h'
 item:∀(X:Cx),X.prog=P->X.w=w->X.K=K->X.calm=true->∀(i:Nat) (pins:List (Addr×Obj)) (s:Shared) (σ:St) (H:Hp) (E:Value->Shared->Prop),Inv X pins σ H s->(∀b∈fp,FpOk X pins H b)->tn i s.heap->J.go i H →
   wpAny (model P w) X.A (pyNext (.ref it)) (fun r s1=>∃u,r=some u ∧
     wpAny (model P w) X.A (letOwnedTupleGo tg (.ref it) u) (fun _ s2=>∃x H',Inv X pins σ H' s2/\RelV x u/\J.yld i H x H'/\tn (i+1) s2.heap/\∀b∈fp,H' b=none) E s1) E s
 done:∀(X:Cx),X.prog=P->X.w=w->X.K=K->X.calm=true->∀(i:Nat) (pins:List (Addr×Obj)) (s:Shared) (σ:St) (H:Hp) (E:Value->Shared->Prop),Inv X pins σ H s->(∀b∈fp,FpOk X pins H b)->tn i s.heap->J.stop i H →
   wpAny (model P w) X.A (pyNext (.ref it)) (fun r s1=>r=none/\Inv X pins σ H s1) E s
 self:∀(A:Around) (i:Nat) (s:Shared) (Q:Value->Shared->Prop) (E:Value->Shared->Prop),tn i s.heap->Q (.ref it) s->wpAny (model P w) A (pyIter (.ref it)) Q E s
noncomputable abbrev TI:=St->Hp->(It->Hp->Prop)->Prop
noncomputable def PIE (X:Cx)(pins:List (Addr×Obj))(σ:St)(tg:Expr)(R:It->Hp->Prop)(itv:Value)(s2:Shared):Prop :=
 ∃(it:Addr) (fp:List Addr) (tn:Nat->Heap->Prop) (J:It) (H':Hp),itv = .ref it/\Inv X pins σ H' s2/\Turn X.prog X.w X.K tg J fp it tn/\tn 0 s2.heap/\(∀b∈fp,FpOk X pins H' b)/\R J H'
noncomputable def PI (X:Cx)(tg iter:Expr)(wi:TI):Prop :=
 ∀(pins:List (Addr×Obj)) (s:Shared) (σ:St) (H:Hp) (R:It->Hp->Prop),Inv X pins σ H s->wi σ H R →
   wpAny (model X.prog X.w) X.A (eval iter X.env) (fun v s1=>wpAny (model X.prog X.w) X.A (pyIter v) (PIE X pins σ tg R) X.xe s1) X.xe s
theorem yg9 {M:Model}{A:Around}{E:Value->Shared->Prop}{s:Shared}{tg:Expr}{it:Addr}{u:Value}{o:Obj}{n:String}{vs:Array Value}{Q:Unit->Shared->Prop}(ho:s.heap.get? it=some o)(hc:o.cls = .type n)(hd:o.data = .fields vs)
   (hn:["enumerate","zip","dict_itemiterator","dict_reverseitemiterator","odict_iterator","itertools.zip_longest","itertools.pairwise"].contains n=false) (hQ:Q () s):wpAny M A (letOwnedTupleGo tg (.ref it) u) Q E s:=by
 unfold letOwnedTupleGo
 cases tg<;>first
   | exact wpAny_pure hQ
   | (cases u<;>first
       | exact wpAny_pure hQ
       | (refine wpAny_bind (wpAny_load ho ?_)
          rw[hc,hd]
          show wpAny M A (if (["enumerate","zip","dict_itemiterator","dict_reverseitemiterator","odict_iterator","itertools.zip_longest","itertools.pairwise"].contains n && vs[0]? == some (rawInt _))=true then _ else _) Q E s
          rw[if_neg (by intro h;rw[hn,Bool.false_and] at h;cases h)]
          exact wpAny_pure hQ))
noncomputable def Itl (K:W.Frag)(a:Addr):It :=
 ⟨fun i H=>∃xs x,SqL K H a xs/\xs[i]?=some x,fun i H x H'=>H'=H/\∀xs,SqL K H a xs->xs[i]?=some x,fun i H=>∃xs,SqL K H a xs/\xs.length<=i⟩
noncomputable def Itt (K:W.Frag)(a:Addr):It :=
 ⟨fun i H=>∃xs x,SqT K H a xs/\xs[i]?=some x,fun i H x H'=>H'=H/\∀xs,SqT K H a xs->xs[i]?=some x,fun i H=>∃xs,SqT K H a xs/\xs.length<=i⟩
noncomputable def Itr (lo:Int)(n:Nat):It:=⟨fun i _=>i<n,fun i H x H'=>H'=H/\x = .int (lo+i),fun i _=>n<=i⟩
theorem zN4 {P:Program}{w:World}{K:W.Frag}{tg:Expr}(a it:Addr):Turn P w K tg (Itl K a) [it] it (fun i h=>h.IsListIter it a i) where
 mem:=by simp
 obj:=fun i h st b hb=>by
   have e:b=it:=by simpa using hb
   subst e
   obtain⟨o,e,c,d⟩:=st
   exact⟨o,e,fun v z=>by rw[d] at z;cases z⟩
 keep:=fun i h h' st k=>st.at fun o e=>k it (by simp) o e
 item:=by
   intro X hP hw hK hc i pins s σ H E I hf st hg
   subst hP hw hK
   obtain⟨xs,x,hq,hx⟩:=hg
   obtain⟨its,rv,p,hz⟩:=I.list hq
   obtain⟨u,hu,ru⟩:=rv.get hx
   obtain⟨f0,f1,f2,f3,f4,f5⟩:=hf it (by simp)
   refine wpAny_pyNext_list_item st p.isList (x:=u) (by simpa using hu) fun h' st' sb=>?_
   have I1:Inv X pins σ H { s with heap:=h' }:=I.turned (t':=s.toks) (fun b o hb e=>(sb.2 b hb).trans e) f0 f1 f3 f4 f5
   obtain⟨o,e,c,d⟩:=id st'
   exact⟨u,rfl,yg9 (s:={ s with heap:=h' }) e c d (by decide) ⟨x,H,I1,ru,⟨rfl,fun ys hy=>by rw[I.list_inj hy hq];exact hx⟩,st',fun b hb=>(hf b hb).1⟩⟩
 done:=by
   intro X hP hw hK hc i pins s σ H E I hf st hg
   subst hP hw hK
   obtain⟨xs,hq,hx⟩:=hg
   obtain⟨its,rv,p,hz⟩:=I.list hq
   obtain⟨f0,f1,f2,f3,f4,f5⟩:=hf it (by simp)
   have hl:=rv.length
   exact wpAny_pyNext_list_end (I.ok.hd hc) st p.isList (by simp;omega) fun h' eb=>⟨rfl,I.turned (t':=s.toks) (fun b o hb e=>eb b o hb e) f0 f1 f3 f4 f5⟩
 self:=fun _ _ _ _ _ st h=>wpAny_pyIter_listiter st h
theorem zJ8 {P:Program}{w:World}{K:W.Frag}{tg:Expr}(a it:Addr):Turn P w K tg (Itt K a) [it] it (fun i h=>h.IsTupleIter it a i) where
 mem:=by simp
 obj:=fun i h st b hb=>by
   have e:b=it:=by simpa using hb
   subst e
   obtain⟨o,e,c,d⟩:=st
   exact⟨o,e,fun v z=>by rw[d] at z;cases z⟩
 keep:=fun i h h' st k=>st.at fun o e=>k it (by simp) o e
 item:=by
   intro X hP hw hK hc i pins s σ H E I hf st hg
   subst hP hw hK
   obtain⟨xs,x,hq,hx⟩:=hg
   obtain⟨its,rv,p,hz⟩:=I.tuple hq
   obtain⟨u,hu,ru⟩:=rv.get hx
   obtain⟨f0,f1,f2,f3,f4,f5⟩:=hf it (by simp)
   refine wpAny_pyNext_tuple_item st (show s.heap.IsTuple a its.toArray from p) (x:=u) (by simpa using hu) fun h' st' sb=>?_
   have I1:Inv X pins σ H { s with heap:=h' }:=I.turned (t':=s.toks) (fun b o hb e=>(sb.2 b hb).trans e) f0 f1 f3 f4 f5
   obtain⟨o,e,c,d⟩:=id st'
   exact⟨u,rfl,yg9 (s:={ s with heap:=h' }) e c d (by decide) ⟨x,H,I1,ru,⟨rfl,fun ys hy=>by rw[I.tuple_inj hy hq];exact hx⟩,st',fun b hb=>(hf b hb).1⟩⟩
 done:=by
   intro X hP hw hK hc i pins s σ H E I hf st hg
   subst hP hw hK
   obtain⟨xs,hq,hx⟩:=hg
   obtain⟨its,rv,p,hz⟩:=I.tuple hq
   obtain⟨f0,f1,f2,f3,f4,f5⟩:=hf it (by simp)
   have hl:=rv.length
   exact wpAny_pyNext_tuple_end (I.ok.hd hc) st (show s.heap.IsTuple a its.toArray from p) (by simp;omega) fun h' eb=>⟨rfl,I.turned (t':=s.toks) (fun b o hb e=>eb b o hb e) f0 f1 f3 f4 f5⟩
 self:=fun _ _ _ _ _ st h=>wpAny_pyIter_tupleiter st h
theorem turn_range {P:Program}{w:World}{K:W.Frag}{tg:Expr}(it:Addr)(lo:Int)(n:Nat):Turn P w K tg (Itr lo n) [it] it (fun i h=>IsRangeIter h it (lo+(i:Nat)*1) ((n:Int)-(i:Nat)) 1) where
 mem:=by simp
 obj:=fun i h st b hb=>by
   have e:b=it:=by simpa using hb
   subst e
   exact⟨_,st,fun v z=>by
     have z':Data.fields _=Data.cell v:=z
     cases z'⟩
 keep:=fun i h h' st k=>k it (by simp) _ st
 item:=by
   intro X hP hw hK hc i pins s σ H E I hf st hg
   subst hP hw hK
   obtain⟨f0,f1,f2,f3,f4,f5⟩:=hf it (by simp)
   have W:=Walks.range (prog:=X.prog) (w:=X.w) (I.ok.hd hc) it lo 1 n
   refine W.item i s _ _ hg st fun v h' tk hv st' kk=>?_
   obtain⟨t,rfl⟩:=hv
   have I1:Inv X pins σ H { s with heap:=h',toks:=tk }:=I.turned (fun b o hb e=>kk b o (by simpa using hb) e) f0 f1 f3 f4 f5
   refine⟨_,rfl,yg9 (s:={ s with heap:=h',toks:=tk }) (n:="range_iterator") st' rfl rfl (by decide) ⟨.int (lo+i),H,I1,⟨t,?_⟩,⟨rfl,rfl⟩,st',fun b hb=>(hf b hb).1⟩⟩
   rw[Int.mul_one]
 done:=by
   intro X hP hw hK hc i pins s σ H E I hf st hg
   subst hP hw hK
   obtain⟨f0,f1,f2,f3,f4,f5⟩:=hf it (by simp)
   exact wpAny_pyNext_range_end (I.ok.hd hc) st (by have:n<=i:=hg;omega) fun h' eb=>⟨rfl,I.turned (t':=s.toks) (fun b o hb e=>eb b o hb e) f0 f1 f3 f4 f5⟩
 self:=fun _ _ _ _ _ st h=>wpAny_pyIter_rangeiter st h
section
variable {X:Cx} {tg:Expr}
noncomputable def yk7 (K:W.Frag)(tl:TE):TI:=fun σ H R=>tl σ H fun x H1=>∃a,x = .ref a/\(∃xs,SqL K H1 a xs)/\R (Itl K a) H1
noncomputable def iTup (K:W.Frag)(tl:TE):TI:=fun σ H R=>tl σ H fun x H1=>∃a,x = .ref a/\(∃xs,SqT K H1 a xs)/\R (Itt K a) H1
theorem zg1 {l:Expr}{tl:TE}(hl:PE X l tl):PI X tg l (yk7 X.K tl):=by
 intro pins s σ H R I h
 refine thn (hl pins s σ H _ I h) fun v s1 ⟨x,H1,I1,r1,q1⟩=>?_
 obtain⟨a,e,⟨xs,hq⟩,q⟩:=q1
 subst e
 cases r1
 obtain⟨its,rv,p,hz⟩:=I1.list hq
 refine wpAny_pyIter_list p.isList ?_
 refine⟨s1.heap.objs.size,[s1.heap.objs.size],_,_,H1,rfl,I1.kept (t':=s1.toks) fun b o e=>Heap.get?_push_of_some _ e,zN4 a _,⟨_,Heap.get?_push_size _ rfl,rfl,rfl⟩,fun b hb=>?_,q⟩
 have e:b=s1.heap.objs.size:=by simpa using hb
 subst e
 exact I1.fpOk (Nat.le_refl _) (I1.hok.fresh (Nat.le_refl _))
theorem yh0 {l:Expr}{tl:TE}(hl:PE X l tl):PI X tg l (iTup X.K tl):=by
 intro pins s σ H R I h
 refine thn (hl pins s σ H _ I h) fun v s1 ⟨x,H1,I1,r1,q1⟩=>?_
 obtain⟨a,e,⟨xs,hq⟩,q⟩:=q1
 subst e
 cases r1
 obtain⟨its,rv,p,hz⟩:=I1.tuple hq
 refine wpAny_pyIter_tuple (show s1.heap.IsTuple a its.toArray from p) ?_
 refine⟨s1.heap.objs.size,[s1.heap.objs.size],_,_,H1,rfl,I1.kept (t':=s1.toks) fun b o e=>Heap.get?_push_of_some _ e,zJ8 a _,⟨_,Heap.get?_push_size _ rfl,rfl,rfl⟩,fun b hb=>?_,q⟩
 have e:b=s1.heap.objs.size:=by simpa using hb
 subst e
 exact I1.fpOk (Nat.le_refl _) (I1.hok.fresh (Nat.le_refl _))
theorem zW3 {pins:List (Addr×Obj)}{σ:St}{H:Hp}{s:Shared}{R:It->Hp->Prop}{E:Value->Shared->Prop}{lo hi:Int}{t u v:Tok}{tk:Nat}(I:Inv X pins σ H s)(h1:-(2 ^ 62)<=lo)(h2:lo<2 ^ 62)(h3:-(2 ^ 62)<=hi)(h4:hi<2 ^ 62)
   (q:R (Itr lo (hi-lo).toNat) H):wpAny (model X.prog X.w) X.A (pyIter (.ref s.heap.objs.size)) (PIE X pins σ tg R) E { s with heap:=s.heap.push { cls:=.type "range",data:=.fields #[.int lo t,.int hi u,.int 1 v] },toks:=tk }:=by
 refine wpAny_pyIter_range (IsRange.new ..) (small_one h1 h2 h3 h4) ?_
 have I1:Inv X pins σ H { s with heap:=s.heap.push { cls:=.type "range",data:=.fields #[.int lo t,.int hi u,.int 1 v] },toks:=tk }:=I.kept fun b o e=>Heap.get?_push_of_some _ e
 refine⟨(s.heap.push { cls:=.type "range",data:=.fields #[.int lo t,.int hi u,.int 1 v] }).objs.size,[(s.heap.push { cls:=.type "range",data:=.fields #[.int lo t,.int hi u,.int 1 v] }).objs.size],_,_,H,rfl,
   I1.kept (t':=tk) fun b o e=>Heap.get?_push_of_some _ e,turn_range _ lo (hi-lo).toNat,?_,fun b hb=>?_,q⟩
 . have e1:lo+((0:Nat):Int)*1=lo:=by simp
   have e2:(((hi-lo).toNat:Nat):Int)-((0:Nat):Int)=Builtin.Range.rangeSize lo hi 1:=by rw[rangeSize_one];split<;>omega
   show IsRangeIter _ _ (lo+((0:Nat):Int)*1) ((((hi-lo).toNat:Nat):Int)-((0:Nat):Int)) 1
   rw[e1,e2]
   exact Heap.get?_push_size _ rfl
 . have e:b=(s.heap.push { cls:=.type "range",data:=.fields #[.int lo t,.int hi u,.int 1 v] }).objs.size:=by simpa using hb
   subst e
   exact I1.fpOk (Nat.le_refl _) (I1.hok.fresh (Nat.le_refl _))
noncomputable def iRng1 (ta:TA):TI:=fun σ H R=>ta σ H fun vs H1=>∃j:Int,vs=[.int j]/\-(2 ^ 62)<=j/\j<2 ^ 62/\R (Itr 0 j.toNat) H1
noncomputable def iRng2 (ta:TA):TI:=fun σ H R=>ta σ H fun vs H1=>∃i j:Int,vs=[.int i,.int j]/\(-(2 ^ 62)<=i/\i<2 ^ 62/\-(2 ^ 62)<=j/\j<2 ^ 62)/\R (Itr i (j-i).toNat) H1
theorem zl9 {a:Expr} {ta:TA} {p pos:Pos} (hg:Gl X "range") (hm:X.mg "range" = none) (ha:PA X [a] ta) (hs:starEach [a] X.env=[(false,eval a X.env)]:=by rfl):PI X tg (.Call (.Name "range" p) [a] [] pos) (iRng1 ta):=by
 intro pins s σ H R I h
 refine Call_ (zw0 I hg hm boot_range (PyProof.Rows.callWith_type1 (thn (ha pos pins s σ H _ I h) fun us s1 ⟨vs,H1,I1,r1,q1⟩=>?_) hs rfl))
 obtain⟨j,e,q1,q2,q⟩:=q1
 subst e
 cases r1 with
 | cons r rr =>
   cases rr
   obtain⟨t,rfl⟩:=r
   exact call_range_1 (zW3 I1 (by omega) (by omega) q1 q2 (by simpa using q))
theorem zN5 {a b:Expr} {ta:TA} {p pos:Pos} (hg:Gl X "range") (hm:X.mg "range" = none) (ha:PA X [a,b] ta) (hs:starEach [a,b] X.env=[(false,eval a X.env),(false,eval b X.env)]:=by rfl) (hs2:starEach [b] X.env=[(false,eval b X.env)]:=by rfl) :
   PI X tg (.Call (.Name "range" p) [a,b] [] pos) (iRng2 ta):=by
 intro pins s σ H R I h
 refine Call_ (zw0 I hg hm boot_range (PyProof.Rows.callWith_type1 (thn (ha pos pins s σ H _ I h) fun us s1 ⟨vs,H1,I1,r1,q1⟩=>?_) (by rw[hs,hs2]) (by rw[hs2];rfl)))
 obtain⟨i,j,e,⟨q1,q2,q3,q4⟩,q⟩:=q1
 subst e
 cases r1 with
 | cons r rr =>
   cases rr with
   | cons r' rr =>
     cases rr
     obtain⟨t,rfl⟩:=r
     obtain⟨t',rfl⟩:=r'
     exact call_range_2 (zW3 I1 q1 q2 q3 q4 q)
noncomputable def tFor (wi:TI)(g:TG)(tb:TS):TS:=fun D σ H=>wi σ H fun J H1=>∃W:Nat->Nat->St->Hp->Prop,(∃m,W 0 m σ H1)/\∀i m σ H,W i m σ H →
 (J.stop i H/\D.nx σ H)\/(J.go i H/\∃N:St->Hp->Prop,(∀σ' H',N σ' H'->∃m',m'<m/\W (i+1) m' σ' H')/\∀x H',J.yld i H x H'->g x σ H' fun σ2 H2=>tb { D with nx:=N,ct:=N,bk:=D.nx } σ2 H2)
noncomputable def zw1 (fp:List Addr)(h:Heap):List (Addr×Obj):=fp.filterMap fun b=>(h.get? b).map fun o=>(b,o)
theorem zm0 {fp:List Addr}{h:Heap}{b:Addr}{o:Obj}(hb:b∈fp)(e:h.get? b=some o):(b,o)∈zw1 fp h:=List.mem_filterMap.mpr ⟨b,hb,by rw[e];rfl⟩
theorem of_pinsAt {fp:List Addr}{h:Heap}{p:Addr×Obj}(hp:p∈zw1 fp h):p.1∈fp/\h.get? p.1=some p.2:=by
 obtain⟨b,hb,e⟩:=List.mem_filterMap.mp hp
 cases q:h.get? b with
 | none=>rw[q] at e;cases e
 | some o =>
   rw[q] at e
   have e':(b,o)=p:=Option.some.inj e
   subst e'
   exact⟨hb,q⟩
theorem Inv.pinned {pins:List (Addr×Obj)}{σ:St}{H:Hp}{s:Shared}{fp:List Addr}(I:Inv X pins σ H s)(hf:∀b∈fp,FpOk X pins H b)(ho:∀b∈fp,∃o,s.heap.get? b=some o/\∀v,o.data≠.cell v):Inv X (pins++zw1 fp s.heap) σ H s :=
 I.pins_of fun p hp=>(List.mem_append.mp hp).elim (fun z=>I.pin p (List.mem_append_right _ z)) fun z=>by
   obtain⟨hb,e⟩:=of_pinsAt z
   obtain⟨f0,f1,f2,_⟩:=hf p.1 hb
   obtain⟨o,e',d⟩:=ho p.1 hb
   rw[e] at e';cases e'
   exact⟨e,f0,f1,f2,d⟩
theorem Inv.unpinned {pins pl:List (Addr×Obj)}{σ:St}{H:Hp}{s:Shared}(I:Inv X (pins++pl) σ H s):Inv X pins σ H s:=I.pins_of fun p hp=>I.pin p (List.mem_append_right _ (List.mem_append_left _ hp))
theorem zi3 {iter:Expr}{body:List Stmt}{wi:TI}{g:TG}{tb:TS}{pos:Pos}(hp:PassesOwn (model X.prog X.w) X.A X.env X.xe)(hc:X.calm=true)(hi:PI X tg iter wi)(hg:PG X tg g)(hb:PSs X body tb)
   (hs:∀x,foldedSetIterable iter X.env x=pure x:=by intro _;rfl):PS X (.For tg iter body [] pos) (tFor wi g tb):=by
 intro pins s σ H D I h
 refine wpAny_For (thn (hi pins s σ H _ I h) fun v s1 h1=>thn h1 fun itv s2 h2=>?_) hs
 obtain⟨it,fp,tn,J,H2,e,I2,T,st2,f2,W,⟨m0,w0⟩,turn⟩:=h2
 subst e
 have stat:∀ {H':Hp},(∀b∈fp,H' b=none)->∀b∈fp,FpOk X pins H' b:=fun hn b hb=>⟨hn b hb,(f2 b hb).2⟩
 refine codeAny_forLoop_any (fun n s'=>∃i σ' H',Inv X pins σ' H' s'/\tn i s'.heap/\(∀b∈fp,H' b=none)/\W i n σ' H') ?_ m0 ⟨0,σ,H2,I2,st2,fun b hb=>(f2 b hb).1,w0⟩
 rintro n s3 ⟨i,σ3,H3,I3,st3,fr3,w3⟩
 rcases turn i n σ3 H3 w3 with⟨stop,qn⟩ | ⟨go,N,hN,step⟩
 . refine wpAny_passesOwn hp (thn (T.done X rfl rfl rfl hc i pins s3 σ3 H3 X.xe I3 (stat fr3) st3 stop) fun r s4 ⟨hr,I4⟩=>?_)
   subst hr
   exact wpAny_execs_nil ⟨σ3,H3,I4,qn⟩
 . refine wpAny_passesOwn hp (thn (T.item X rfl rfl rfl hc i pins s3 σ3 H3 X.xe I3 (stat fr3) st3 go) fun r s4 ⟨u,hr,h4⟩=>?_)
   subst hr
   refine wpAny_passesOwn hp (thn h4 fun _ s5 ⟨x,H5,I5,r5,y5,st5,fr5⟩=>?_)
   have I5':=I5.pinned (stat fr5) (T.obj _ _ st5)
   refine wpAny_passesOwn hp (thn (hg _ s5 σ3 H5 x u _ I5' r5 (step x H5 y5)) fun _ s6 ⟨σ6,H6,I6,q6⟩=>?_)
   refine wpAny_passesOwn hp (thn (hb _ s6 σ6 H6 _ I6 q6) fun f s7 q7=>?_)
   have again:∀ {σ7:St} {H7:Hp},Inv X (pins++zw1 fp s5.heap) σ7 H7 s7->N σ7 H7->∃m,m<n/\∃i σ' H',Inv X pins σ' H' s7/\tn i s7.heap/\(∀b∈fp,H' b=none)/\W i m σ' H':=fun {σ7 H7} I7 n7=>by
     obtain⟨m',hm,w7⟩:=hN σ7 H7 n7
     refine⟨m',hm,i+1,σ7,H7,I7.unpinned,T.keep _ _ _ st5 fun b hb o e=>(I7.pin (b,o) (List.mem_append_right _ (List.mem_append_right _ (zm0 hb e)))).1,fun b hb=>?_,w7⟩
     obtain⟨o,e,d⟩:=T.obj _ _ st5 b hb
     exact(I7.pin (b,o) (List.mem_append_right _ (List.mem_append_right _ (zm0 hb e)))).2.1
   cases f with
   | next=>obtain⟨σ7,H7,I7,n7⟩:=q7;exact again I7 n7
   | cont=>obtain⟨σ7,H7,I7,n7⟩:=q7;exact again I7 n7
   | brk=>obtain⟨σ7,H7,I7,q7⟩:=q7;exact⟨σ7,H7,I7.unpinned,q7⟩
   | ret v=>obtain⟨x7,σ7,H7,I7,r7,q7⟩:=q7;exact⟨x7,σ7,H7,I7.unpinned,r7,q7⟩
end
theorem zp7 {K:W.Frag}{a:Addr}{xs:List V}{g:TG}{tb:TS}{D:Ends}{σ:St}{H:Hp}(Pv:Nat->St->Hp->Prop)(h0:Pv 0 σ H)(hl:∀i σ H,i<=xs.length->Pv i σ H->SqL K H a xs)
   (hs:∀i x σ H,xs[i]?=some x->Pv i σ H->g x σ H fun σ2 H2=>tb { D with nx:=Pv (i+1),ct:=Pv (i+1),bk:=D.nx } σ2 H2) (hd:∀σ H,Pv xs.length σ H->D.nx σ H) :
   ∃W:Nat->Nat->St->Hp->Prop,(∃m,W 0 m σ H)/\∀i m σ H,W i m σ H →
     ((Itl K a).stop i H/\D.nx σ H)\/((Itl K a).go i H/\∃N:St->Hp->Prop,(∀σ' H',N σ' H'->∃m',m'<m/\W (i+1) m' σ' H')/\∀x H',(Itl K a).yld i H x H'->g x σ H' fun σ2 H2=>tb { D with nx:=N,ct:=N,bk:=D.nx } σ2 H2):=by
 refine⟨fun i m σ H=>m=xs.length-i/\i<=xs.length/\Pv i σ H,⟨xs.length,by simp,Nat.zero_le _,h0⟩,?_⟩
 rintro i m σ H ⟨rfl,hi,p⟩
 have q:=hl i σ H hi p
 by_cases hlt:i<xs.length
 . refine .inr ⟨⟨xs,xs[i],q,by simp[hlt]⟩,Pv (i+1),fun σ' H' p'=>⟨xs.length-(i+1),by omega,rfl,hlt,p'⟩,fun x H' y=>?_⟩
   obtain⟨e,y⟩:=y
   subst e
   exact hs i x σ _ (y xs q) p
 . have e:i=xs.length:=by omega
   subst e
   exact .inl ⟨⟨xs,q,Nat.le_refl _⟩,hd σ H p⟩
theorem zI2 {K:W.Frag}{a:Addr}{xs:List V}{g:TG}{tb:TS}{D:Ends}{σ:St}{H:Hp}(Pv:Nat->St->Hp->Prop)(h0:Pv 0 σ H)(hl:∀i σ H,i<=xs.length->Pv i σ H->SqT K H a xs)
   (hs:∀i x σ H,xs[i]?=some x->Pv i σ H->g x σ H fun σ2 H2=>tb { D with nx:=Pv (i+1),ct:=Pv (i+1),bk:=D.nx } σ2 H2) (hd:∀σ H,Pv xs.length σ H->D.nx σ H) :
   ∃W:Nat->Nat->St->Hp->Prop,(∃m,W 0 m σ H)/\∀i m σ H,W i m σ H →
     ((Itt K a).stop i H/\D.nx σ H)\/((Itt K a).go i H/\∃N:St->Hp->Prop,(∀σ' H',N σ' H'->∃m',m'<m/\W (i+1) m' σ' H')/\∀x H',(Itt K a).yld i H x H'->g x σ H' fun σ2 H2=>tb { D with nx:=N,ct:=N,bk:=D.nx } σ2 H2):=by
 refine⟨fun i m σ H=>m=xs.length-i/\i<=xs.length/\Pv i σ H,⟨xs.length,by simp,Nat.zero_le _,h0⟩,?_⟩
 rintro i m σ H ⟨rfl,hi,p⟩
 have q:=hl i σ H hi p
 by_cases hlt:i<xs.length
 . refine .inr ⟨⟨xs,xs[i],q,by simp[hlt]⟩,Pv (i+1),fun σ' H' p'=>⟨xs.length-(i+1),by omega,rfl,hlt,p'⟩,fun x H' y=>?_⟩
   obtain⟨e,y⟩:=y
   subst e
   exact hs i x σ _ (y xs q) p
 . have e:i=xs.length:=by omega
   subst e
   exact .inl ⟨⟨xs,q,Nat.le_refl _⟩,hd σ H p⟩
theorem zj0 {lo:Int}{n:Nat}{g:TG}{tb:TS}{D:Ends}{σ:St}{H:Hp}(Pv:Nat->St->Hp->Prop)(h0:Pv 0 σ H)
   (hs:∀i σ H,i<n->Pv i σ H->g (.int (lo+i)) σ H fun σ2 H2=>tb { D with nx:=Pv (i+1),ct:=Pv (i+1),bk:=D.nx } σ2 H2) (hd:∀σ H,Pv n σ H->D.nx σ H) :
   ∃W:Nat->Nat->St->Hp->Prop,(∃m,W 0 m σ H)/\∀i m σ H,W i m σ H →
     ((Itr lo n).stop i H/\D.nx σ H)\/((Itr lo n).go i H/\∃N:St->Hp->Prop,(∀σ' H',N σ' H'->∃m',m'<m/\W (i+1) m' σ' H')/\∀x H',(Itr lo n).yld i H x H'->g x σ H' fun σ2 H2=>tb { D with nx:=N,ct:=N,bk:=D.nx } σ2 H2):=by
 refine⟨fun i m σ H=>m=n-i/\i<=n/\Pv i σ H,⟨n,by simp,Nat.zero_le _,h0⟩,?_⟩
 rintro i m σ H ⟨rfl,hi,p⟩
 by_cases hlt:i<n
 . refine .inr ⟨hlt,Pv (i+1),fun σ' H' p'=>⟨n-(i+1),by omega,rfl,hlt,p'⟩,fun x H' y=>?_⟩
   obtain⟨e,y⟩:=y
   subst e y
   exact hs i σ _ hlt p
 . have e:i=n:=by omega
   subst e
   exact .inl ⟨Nat.le_refl _,hd σ H p⟩
theorem zJ9 {c:TT}{tb:TS}{D:Ends}{σ:St}{H:Hp}(Pv:St->Hp->Prop)(μ:St->Hp->Nat)(h0:Pv σ H)
   (hs:∀σ H,Pv σ H->c σ H fun b H1=>if b=true then tb { D with nx:=fun σ' H'=>Pv σ' H'/\μ σ' H'<μ σ H,ct:=fun σ' H'=>Pv σ' H'/\μ σ' H'<μ σ H,bk:=D.nx } σ H1 else D.nx σ H1)
   (mono:∀σ H Q Q',(∀b H1,Q b H1->Q' b H1)->c σ H Q->c σ H Q'):yg8 c tb D σ H:=by
 refine⟨fun m σ H=>m=μ σ H/\Pv σ H,⟨_,rfl,h0⟩,?_⟩
 rintro m σ H ⟨rfl,p⟩
 refine mono σ H _ _ (fun b H1 q=>?_) (hs σ H p)
 cases b with
 | true=>exact⟨_,fun σ' H' ⟨p',l⟩=>⟨_,l,rfl,p'⟩,q⟩
 | false=>exact q
noncomputable abbrev R2:=V->V->Hp->VK->Prop
noncomputable def OpR (X:Cx)(f:Value->Value->Sem Value)(r:R2):Prop :=
 ∀(pins:List (Addr×Obj)) (s:Shared) (σ:St) (H:Hp) (x y:V) (v u:Value) (Q:VK),Inv X pins σ H s->RelV x v->RelV y u->r x y H Q →
   wpAny (model X.prog X.w) X.A (f v u) (EP X pins σ Q) X.xe s
noncomputable def UnR (X:Cx)(f:Value->Sem Value)(r:V->Hp->VK->Prop):Prop :=
 ∀(pins:List (Addr×Obj)) (s:Shared) (σ:St) (H:Hp) (x:V) (v:Value) (Q:VK),Inv X pins σ H s->RelV x v->r x H Q →
   wpAny (model X.prog X.w) X.A (f v) (EP X pins σ Q) X.xe s
noncomputable def zl1 (X:Cx)(f:Value)(r:List V->Hp->VK->Prop):Prop :=
 ∀(pins:List (Addr×Obj)) (s:Shared) (σ:St) (H:Hp) (xs:List V) (us:List Value) (Q:VK),Inv X pins σ H s->Vals xs us->r xs H Q →
   wpAny (model X.prog X.w) X.A (call f us) (EP X pins σ Q) X.xe s
noncomputable def tOp (r:R2)(ta tb:TE):TE:=fun σ H Q=>ta σ H fun x H1=>tb σ H1 fun y H2=>r x y H2 Q
noncomputable def tUn (r:V->Hp->VK->Prop)(ta:TE):TE:=fun σ H Q=>ta σ H fun x H1=>r x H1 Q
noncomputable def rI (C:Int->Int->Prop)(g:Int->Int->V):R2:=fun x y H Q=>∃i j,x = .int i/\y = .int j/\C i j/\Q (g i j) H
noncomputable def rI0 (g:Int->Int->V):R2:=fun x y H Q=>∃i j,x = .int i/\y = .int j/\Q (g i j) H
noncomputable def rU (g:Int->V):V->Hp->VK->Prop:=fun x H Q=>∃i,x = .int i/\Q (g i) H
section
variable {X:Cx} {a b c:Expr} {ta tb tc:TE} {pos:Pos}
theorem binT (ha:PE X a ta)(hb:PE X b tb){pins:List (Addr×Obj)}{s:Shared}{σ:St}{H:Hp}{R:V->V->Hp->Prop}(I:Inv X pins σ H s)
   (h:ta σ H fun x H1=>tb σ H1 fun y H2=>R x y H2) {Q:Value->Shared->Prop} {f:Value->Value->Sem Value}
   (hf:∀v u s2 x y H2,Inv X pins σ H2 s2->RelV x v->RelV y u->R x y H2->wpAny (model X.prog X.w) X.A (f v u) Q X.xe s2) :
   wpAny (model X.prog X.w) X.A (eval a X.env) (fun v s₁=>wpAny (model X.prog X.w) X.A (eval b X.env) (fun u s₂=>wpAny (model X.prog X.w) X.A (f v u) Q X.xe s₂) X.xe s₁) X.xe s:=by
 refine thn (ha pins s σ H _ I h) fun v s1 ⟨x,H1,I1,r1,q1⟩=>?_
 refine thn (hb pins s1 σ H1 _ I1 q1) fun u s2 ⟨y,H2,I2,r2,q2⟩=>?_
 exact hf v u s2 x y H2 I2 r1 r2 q2
theorem zb6 {op:Operator}{r:R2}(ho:OpR X (binaryOp op) r)(ha:PE X a ta)(hb:PE X b tb):PE X (.BinOp a op b pos) (tOp r ta tb):=by
 intro pins s σ H Q I h
 exact wpAny_BinOp (binT ha hb I h fun v u s2 x y H2 I2 rx ry q=>ho pins s2 σ H2 x y v u Q I2 rx ry q)
theorem zl7 {op:UnaryOp}{r:V->Hp->VK->Prop}(ho:UnR X (unaryOp op) r)(ha:PE X a ta):PE X (.UnaryOp op a pos) (tUn r ta):=by
 intro pins s σ H Q I h
 exact UnaryOp_ (thn (ha pins s σ H _ I h) fun v s1 ⟨x,H1,I1,r1,q1⟩=>ho pins s1 σ H1 x v Q I1 r1 q1)
theorem opI {f:Value->Value->Sem Value}{C:Int->Int->Prop}{g:Int->Int->Int}
   (rule:∀(i j:Int) (t u:Tok) (s:Shared) (Q:Value->Shared->Prop) (E:Value->Shared->Prop),C i j->Q (.int (g i j) s.toks) { s with toks:=s.toks+1 }->wpAny (model X.prog X.w) X.A (f (.int i t) (.int j u)) Q E s) :
   OpR X f (rI C fun i j=>.int (g i j)):=by
 intro pins s σ H x y v u Q I rx ry h
 obtain⟨i,j,rfl,rfl,hc,q⟩:=h
 obtain⟨t,rfl⟩:=rx
 obtain⟨t',rfl⟩:=ry
 exact rule i j t t' s _ _ hc ⟨.int (g i j),H,I.tok _,⟨_,rfl⟩,q⟩
theorem opI0 {f:Value->Value->Sem Value}{g:Int->Int->Int}
   (rule:∀(i j:Int) (t u:Tok) (s:Shared) (Q:Value->Shared->Prop) (E:Value->Shared->Prop),Q (.int (g i j) s.toks) { s with toks:=s.toks+1 }->wpAny (model X.prog X.w) X.A (f (.int i t) (.int j u)) Q E s) :
   OpR X f (rI0 fun i j=>.int (g i j)):=by
 intro pins s σ H x y v u Q I rx ry h
 obtain⟨i,j,rfl,rfl,q⟩:=h
 obtain⟨t,rfl⟩:=rx
 obtain⟨t',rfl⟩:=ry
 exact rule i j t t' s _ _ ⟨.int (g i j),H,I.tok _,⟨_,rfl⟩,q⟩
theorem opB0 {f:Value->Value->Sem Value}{g:Int->Int->Bool}
   (rule:∀(i j:Int) (t u:Tok) (s:Shared) (Q:Value->Shared->Prop) (E:Value->Shared->Prop),Q (.bool (g i j)) s->wpAny (model X.prog X.w) X.A (f (.int i t) (.int j u)) Q E s) :
   OpR X f (rI0 fun i j=>.bl (g i j)):=by
 intro pins s σ H x y v u Q I rx ry h
 obtain⟨i,j,rfl,rfl,q⟩:=h
 obtain⟨t,rfl⟩:=rx
 obtain⟨t',rfl⟩:=ry
 exact rule i j t t' s _ _ ⟨.bl (g i j),H,I,rfl,q⟩
noncomputable def CDiv (i j:Int):Prop:=0<j/\j<1073741824
noncomputable def CMul (i j:Int):Prop:=(-(2 ^ 64)<i/\i<2 ^ 64)\/(-(2 ^ 64)<j/\j<2 ^ 64)
theorem CMul.ok {i j:Int}(h:CMul i j):IntMulOk i j:=by
 rcases h with⟨h1,h2⟩ | ⟨h1,h2⟩
 . exact .of_left (intBits_le_64 h1 h2)
 . exact .of_right (intBits_le_64 h1 h2)
theorem zf6:OpR X (binaryOp .Add) (rI0 fun i j=>.int (i+j)):=opI0 fun _ _ _ _ _ _ _ q=>add_int q
theorem zi4:OpR X (binaryOp .Sub) (rI0 fun i j=>.int (i-j)):=opI0 fun _ _ _ _ _ _ _ q=>sub_int q
theorem zn5:OpR X (binaryOp .Mult) (rI CMul fun i j=>.int (i*j)):=opI fun _ _ _ _ _ _ _ hc q=>mul_int q hc.ok
theorem zl2:OpR X (binaryOp .FloorDiv) (rI CDiv fun i j=>.int (i / j)):=opI fun i j _ _ _ _ _ hc q=>by
 have h1:(0:Int)<j:=hc.1
 have h2:j<1073741824:=hc.2
 exact floordiv_int (by omega) (by rw[Int.fdiv_eq_ediv_of_nonneg i (by omega)];exact q) (.inl (PyProof.noPylong_small (by omega)))
theorem ze1:OpR X (binaryOp .Mod) (rI (fun _ j=>0<j) fun i j=>.int (i % j)):=opI fun i j _ _ _ _ _ hc q=>by
 have h1:(0:Int)<j:=hc
 exact mod_int' (by omega) (by rw[Int.fmod_eq_emod_of_nonneg i (by omega)];exact q)
theorem unI {f:Value->Sem Value}{g:Int->Int}
   (rule:∀(i:Int) (t:Tok) (s:Shared) (Q:Value->Shared->Prop) (E:Value->Shared->Prop),Q (.int (g i) s.toks) { s with toks:=s.toks+1 }->wpAny (model X.prog X.w) X.A (f (.int i t)) Q E s) :
   UnR X f (rU fun i=>.int (g i)):=by
 intro pins s σ H x v Q I rx h
 obtain⟨i,rfl,q⟩:=h
 obtain⟨t,rfl⟩:=rx
 exact rule i t s _ _ ⟨.int (g i),H,I.tok _,⟨_,rfl⟩,q⟩
theorem zi1:UnR X (unaryOp .USub) (rU fun i=>.int (-i)):=unI fun _ _ _ _ _ q=>neg_int q
end
noncomputable def scal:V->V->Bool
 | .non,.non=>true | .non,.int _=>true | .int _,.non=>true | .non,.bl _=>true | .bl _,.non=>true | .non,.str _=>true | .str _,.non=>true
 | .int _,.int _=>true | .bl _,.bl _=>true | .str _,.str _=>true | .byt _,.byt _=>true
 | .int _,.str _=>true | .str _,.int _=>true | .bl _,.str _=>true | .str _,.bl _=>true
 | _,_=>false
noncomputable def rEq:R2:=fun x y H Q=>scal x y=true/\Q (.bl (decide (x=y))) H
noncomputable def rNe:R2:=fun x y H Q=>scal x y=true/\Q (.bl (!decide (x=y))) H
theorem zT2 {i j:Int}:decide (V.int i=V.int j)=(i == j):=by
 rw[Bool.eq_iff_iff]
 simp
theorem yb6 {i j:Bool}:decide (V.bl i=V.bl j)=(i == j):=by
 rw[Bool.eq_iff_iff]
 simp
theorem zT3 {i j:Str}:decide (V.str i=V.str j)=(i == j):=by
 rw[Bool.eq_iff_iff]
 simp
theorem yc0 {i j:Array UInt8}:decide (V.byt i=V.byt j)=(i.toList == j.toList):=by
 rw[Bool.eq_iff_iff]
 cases i
 cases j
 simp
section
variable {X:Cx} {a b c:Expr} {ta tb tc:TE} {pos:Pos}
theorem zd5 {pins:List (Addr×Obj)}{σ:St}{H:Hp}{s:Shared}{Q:VK}{k k':Bool}(I:Inv X pins σ H s)(q:Q (.bl k) H)(e:k=k'):EP X pins σ Q (.bool k') s:=by
 subst e
 exact⟨.bl k,H,I,rfl,q⟩
theorem zl8:OpR X (compareOp .Eq) rEq:=by
 intro pins s σ H x y v u Q I rx ry h
 obtain⟨hs,q⟩:=h
 cases x with
 | non =>
   cases rx
   cases y with
   | non=>cases ry;exact PySem.EqNone.eq_none_none (zd5 I q (by simp))
   | bl j=>cases ry;exact PySem.EqNone.eq_none_bool (zd5 I q (by simp))
   | int j=>obtain⟨t',rfl⟩:=ry;exact PySem.EqNone.eq_none_int (zd5 I q (by simp))
   | str j=>obtain⟨t',rfl⟩:=ry;exact PySem.EqNone.eq_none_str (zd5 I q (by simp))
   | _=>exact absurd (show false=true from hs) Bool.false_ne_true
 | bl i =>
   cases rx
   cases y with
   | non=>cases ry;exact PySem.EqNone.eq_bool_none (zd5 I q (by simp))
   | bl j=>cases ry;exact eq_bool (zd5 I q yb6)
   | str j=>obtain⟨t',rfl⟩:=ry;exact PySem.EqMixed.eq_bool_str (zd5 I q (by simp))
   | _=>exact absurd (show false=true from hs) Bool.false_ne_true
 | int i =>
   obtain⟨t,rfl⟩:=rx
   cases y with
   | non=>cases ry;exact PySem.EqNone.eq_int_none (zd5 I q (by simp))
   | int j=>obtain⟨t',rfl⟩:=ry;exact eq_int (zd5 I q zT2)
   | str j=>obtain⟨t',rfl⟩:=ry;exact PySem.EqMixed.eq_int_str (zd5 I q (by simp))
   | _=>exact absurd (show false=true from hs) Bool.false_ne_true
 | str i =>
   obtain⟨t,rfl⟩:=rx
   cases y with
   | non=>cases ry;exact PySem.EqNone.eq_str_none (zd5 I q (by simp))
   | bl j=>cases ry;exact PySem.EqMixed.eq_str_bool (zd5 I q (by simp))
   | int j=>obtain⟨t',rfl⟩:=ry;exact PySem.EqMixed.eq_str_int (zd5 I q (by simp))
   | str j=>obtain⟨t',rfl⟩:=ry;exact eq_str (zd5 I q zT3)
   | _=>exact absurd (show false=true from hs) Bool.false_ne_true
 | byt i =>
   obtain⟨t,rfl⟩:=rx
   cases y with
   | byt j=>obtain⟨t',rfl⟩:=ry;exact W.eq_bytes (zd5 I q yc0)
   | _=>exact absurd (show false=true from hs) Bool.false_ne_true
 | _=>cases y<;>exact absurd (show false=true from hs) Bool.false_ne_true
theorem zn8:OpR X (compareOp .NotEq) rNe:=by
 intro pins s σ H x y v u Q I rx ry h
 obtain⟨hs,q⟩:=h
 cases x with
 | non =>
   cases rx
   cases y with
   | non=>cases ry;exact PySem.EqNone.ne_none_none (zd5 I q (by simp))
   | bl j=>cases ry;exact PySem.EqNone.ne_none_bool (zd5 I q (by simp))
   | int j=>obtain⟨t',rfl⟩:=ry;exact PySem.EqNone.ne_none_int (zd5 I q (by simp))
   | str j=>obtain⟨t',rfl⟩:=ry;exact PySem.EqNone.ne_none_str (zd5 I q (by simp))
   | _=>exact absurd (show false=true from hs) Bool.false_ne_true
 | bl i =>
   cases rx
   cases y with
   | non=>cases ry;exact PySem.EqNone.ne_bool_none (zd5 I q (by simp))
   | bl j=>cases ry;exact ne_bool (zd5 I q (congrArg not yb6))
   | str j=>obtain⟨t',rfl⟩:=ry;exact PySem.EqMixed.ne_bool_str (zd5 I q (by simp))
   | _=>exact absurd (show false=true from hs) Bool.false_ne_true
 | int i =>
   obtain⟨t,rfl⟩:=rx
   cases y with
   | non=>cases ry;exact PySem.EqNone.ne_int_none (zd5 I q (by simp))
   | int j=>obtain⟨t',rfl⟩:=ry;exact ne_int (zd5 I q (congrArg not zT2))
   | str j=>obtain⟨t',rfl⟩:=ry;exact PySem.EqMixed.ne_int_str (zd5 I q (by simp))
   | _=>exact absurd (show false=true from hs) Bool.false_ne_true
 | str i =>
   obtain⟨t,rfl⟩:=rx
   cases y with
   | non=>cases ry;exact PySem.EqNone.ne_str_none (zd5 I q (by simp))
   | bl j=>cases ry;exact PySem.EqMixed.ne_str_bool (zd5 I q (by simp))
   | int j=>obtain⟨t',rfl⟩:=ry;exact PySem.EqMixed.ne_str_int (zd5 I q (by simp))
   | str j=>obtain⟨t',rfl⟩:=ry;exact ne_str (zd5 I q (congrArg not zT3))
   | _=>exact absurd (show false=true from hs) Bool.false_ne_true
 | byt i =>
   obtain⟨t,rfl⟩:=rx
   cases y with
   | byt j=>obtain⟨t',rfl⟩:=ry;exact W.ne_bytes (zd5 I q (congrArg not yc0))
   | _=>exact absurd (show false=true from hs) Bool.false_ne_true
 | _=>cases y<;>exact absurd (show false=true from hs) Bool.false_ne_true
theorem yc1:OpR X (compareOp .Lt) (rI0 fun i j=>.bl (decide (i<j))):=opB0 fun _ _ _ _ _ _ _ q=>lt_int q
theorem yk8:OpR X (compareOp .LtE) (rI0 fun i j=>.bl (decide (i<=j))):=opB0 fun _ _ _ _ _ _ _ q=>le_int q
theorem zA2:OpR X (compareOp .Gt) (rI0 fun i j=>.bl (decide (j<i))):=opB0 fun _ _ _ _ _ _ _ q=>gt_int q
theorem yh1:OpR X (compareOp .GtE) (rI0 fun i j=>.bl (decide (j<=i))):=opB0 fun _ _ _ _ _ _ _ q=>ge_int q
theorem op_isN:OpR X (compareOp .Is) (fun x y H Q=>y = .non/\Q (.bl (decide (x = .non))) H):=by
 intro pins s σ H x y v u Q I rx ry h
 obtain⟨rfl,q⟩:=h
 cases ry
 refine is_none_gen (zd5 I q ?_)
 cases x<;>first
   | (cases rx;rfl)
   | (obtain⟨t,rfl⟩:=rx;rfl)
theorem op_notN:OpR X (compareOp .IsNot) (fun x y H Q=>y = .non/\Q (.bl (!decide (x = .non))) H):=by
 intro pins s σ H x y v u Q I rx ry h
 obtain⟨rfl,q⟩:=h
 cases ry
 refine isnot_none_gen (zd5 I q ?_)
 cases x<;>first
   | (cases rx;rfl)
   | (obtain⟨t,rfl⟩:=rx;rfl)
theorem zc5 (b:Expr){op:CmpOp}(h:op≠.In:=by decide)(h2:op≠.NotIn:=by decide):behindInMarks op b=false:=by
 have e1:(op == CmpOp.In)=false:=by cases op<;>first | rfl | exact absurd rfl h
 have e2:(op == CmpOp.NotIn)=false:=by cases op<;>first | rfl | exact absurd rfl h2
 cases b<;>simp[behindInMarks,e1,e2]
theorem zj1 {op:CmpOp}{r:R2}(ho:OpR X (compareOp op) r)(ha:PE X a ta)(hb:PE X b tb)(hm:behindInMarks op b=false):PE X (.Compare a [op] [b] pos) (tOp r ta tb):=by
 intro pins s σ H Q I h
 exact wpAny_Compare1 (binT ha hb I h fun v u s2 x y H2 I2 rx ry q=>ho pins s2 σ H2 x y v u Q I2 rx ry q) hm
noncomputable def tTest (t:TE):TT:=fun σ H Q=>t σ H fun x H'=>∃k,x = .bl k/\Q k H'
theorem zc6 {op:CmpOp}{r:R2}(ho:OpR X (compareOp op) r)(ha:PE X a ta)(hb:PE X b tb)(hm:behindInMarks op b=false):PT X (.Compare a [op] [b] pos) (tTest (tOp r ta tb)):=by
 intro pins s σ H Q I h
 refine wpAny_isTrue_Compare1 (thn (ha pins s σ H _ I h) fun v s1 ⟨x,H1,I1,r1,q1⟩=>thn (hb pins s1 σ H1 _ I1 q1) fun u s2 ⟨y,H2,I2,r2,q2⟩ =>
   thn (ho pins s2 σ H2 x y v u _ I2 r1 r2 q2) fun c s3 ⟨z,H3,I3,r3,k,e,q3⟩=>?_) hm
 subst e
 cases r3
 exact wpAny_truthy_bool ⟨H3,I3,q3⟩
theorem zK0:(sizeLine:Nat)<2 ^ 63:=by rw[sizeLine_eq];decide
theorem zr6 {x:V}{us:List Value}(r:Vals [x] us):∃u,us=[u]/\RelV x u:=by
 cases r with
 | cons r1 r2=>cases r2;exact⟨_,rfl,r1⟩
theorem zW4 {x y:V}{us:List Value}(r:Vals [x,y] us):∃u w',us=[u,w']/\RelV x u/\RelV y w':=by
 cases r with
 | cons r1 r2 =>
   cases r2 with
   | cons r3 r4=>cases r4;exact⟨_,_,rfl,r1,r3⟩
theorem zj9:zl1 X (.builtin "abs") (fun xs H Q=>∃i,xs=[.int i]/\Q (.int (if i<0 then -i else i)) H):=by
 intro pins s σ H xs us Q I r h
 obtain⟨i,rfl,q⟩:=h
 obtain⟨u,rfl,t,rfl⟩:=zr6 r
 exact call_abs_int fun u tk=>⟨.int (if i<0 then -i else i),H,I.tok _,⟨_,rfl⟩,q⟩
theorem zy5 (hc:X.calm=true):zl1 X (.builtin "max") (fun xs H Q=>∃i j,xs=[.int i,.int j]/\Q (.int (if j>i then j else i)) H):=by
 intro pins s σ H xs us Q I r h
 obtain⟨i,j,rfl,q⟩:=h
 obtain⟨u,w',rfl,⟨t,rfl⟩,⟨t',rfl⟩⟩:=zW4 r
 refine max_two_ints (I.ok.hd hc) fun h' tk k=>⟨_,H,I.kept k,?_,q⟩
 by_cases hj:j>i
 . rw[if_pos hj,if_pos hj];exact⟨_,rfl⟩
 . rw[if_neg hj,if_neg hj];exact⟨_,rfl⟩
theorem zF1 (hc:X.calm=true):zl1 X (.builtin "min") (fun xs H Q=>∃i j,xs=[.int i,.int j]/\Q (.int (if j<i then j else i)) H):=by
 intro pins s σ H xs us Q I r h
 obtain⟨i,j,rfl,q⟩:=h
 obtain⟨u,w',rfl,⟨t,rfl⟩,⟨t',rfl⟩⟩:=zW4 r
 refine min_two_ints (I.ok.hd hc) fun h' tk k=>⟨_,H,I.kept k,?_,q⟩
 by_cases hj:j<i
 . rw[if_pos hj,if_pos hj];exact⟨_,rfl⟩
 . rw[if_neg hj,if_neg hj];exact⟨_,rfl⟩
end
structure ObjM (h:Heap)(x dx C:Addr)(mA:Str->Option Value):Prop where
 obj:h.get? x=some (W.instObj C dx)
 ns:h.Ns1 dx mA
 ne:dx≠x
theorem lookIn_ns {h:Heap}{dx:Addr}{mA:Str->Option Value}(n:h.Ns1 dx mA):∃od,h.get? dx=some od/\∀name,W.lookIn name od=some (mA name):=by
 obtain⟨o,es,ep,ho,hd,hk,_,hm⟩:=n
 refine⟨o,ho,fun name=>?_⟩
 have e:=hm name
 unfold nsFind findBy at e
 rw[<-Array.find?_toList] at e
 unfold W.lookIn
 rw[hd]
 dsimp only
 split
 . rename_i y q
   rw[q] at e
   exact congrArg some e
 . rename_i q
   rw[q] at e
   have a:es.toList.any (·.refKey)=false:=by
     rw[List.any_eq_false]
     intro y hy
     obtain⟨z,t,hkey⟩:=hk y (Array.mem_toList_iff.mp hy)
     simp[DictEntry.refKey,hkey]
   have a':¬ es.toList.any (·.refKey)=true:=by rw[a];exact Bool.false_ne_true
   rw[if_neg a']
   exact congrArg some e
theorem ObjM.look {h:Heap}{x dx C:Addr}{mA:Str->Option Value}(I:ObjM h x dx C mA):∃od,W.InstAt h x (W.instObj C dx) C (some od)/\∀name,W.lookIn name od=some (mA name) :=
 let⟨od,ho,hl⟩:=lookIn_ns I.ns
 ⟨od,⟨I.obj,rfl,rfl,ho⟩,hl⟩
section
variable {prog:Program} {w:World} {A:Around} {E:Value->Shared->Prop} {s:Shared} {K:W.Frag} {x dx C f:Addr} {mA:Str->Option Value} {name:Str} {v:Value}
theorem get_map {expr:Bool}{Q:Value->Shared->Prop}(X:K.In s.heap)(I:ObjM s.heap x dx C mA)(hg:W.plainGet K C name=true)(hh:W.hasDictIn K C=true)
   (ha:W.findIn K (.ref C) name=some none) (hv:mA name=some v) (hv':W.handedIn v=true) (h:Q v { s with toks:=s.toks+1 }) :
   wpAny (model prog w) A (getAttr (.ref x) name expr) Q E s:=by
 obtain⟨od,J,hl⟩:=I.look
 exact W.get_value X J (W.plainGet_of hg).1 (W.findObj_own hh ha rfl (by rw[hl,hv])) hv' h
theorem set_map {ns:List Str}{Q:Unit->Shared->Prop}(X:K.In s.heap)(I:ObjM s.heap x dx C mA)
   (hs:W.findIn K (.ref C) "__setattr__" = some (some (.builtin "object.__setattr__"))) (hp:W.plainOver K C=true) (ht:W.takerIn K C name=some none) (hh:W.hasDictIn K C=true)
   (hw:PySem.Within mA ns) (hsz:ns.length<=sizeLine)
   (h:∀h',ObjM h' x dx C (fun y=>if y=name then some v else mA y)->Heap.SameBut dx s.heap h'->Q () { s with heap:=h',toks:=s.toks+2 }) :
   wpAny (model prog w) A (setAttr (.ref x) name v) Q E s:=by
 obtain⟨od,J,hl⟩:=I.look
 refine W.set_plain X J hs (W.osa_open (s:={ s with toks:=s.toks+1 }) (r:=none) X J hp ht fun b=>?_)
 obtain⟨cd,hc,hd'⟩:=W.any_some hh
 have hx:s.heap.get? x=some ⟨.ref C,some dx,.plain,#[]⟩:=I.obj
 refine wpAny_bind (wpAny_pure (wpAny_bind (wpAny_bind (wpAny_loadPart hx (wpAny_bind (W.Looks.here (s:={ s with toks:=s.toks+1 }) (W.looks_clsIn X hc) ?_))))))
 rw[hd']
 refine wpAny_pure (a:=some dx) (wpAny_bind (wpAny_pure (wpAny_bind ?_)))
 refine wpAny_nsSet1 (s:={ s with toks:=s.toks+1 }) I.ns fun h' hn2 hs2=>?_
 obtain⟨oD,esD,epD,hoD,hdD,hcD⟩:=hn2.count (PySem.Within.cons name v hw)
 refine wpAny_bind (wpAny_lookBehind hoD (by rw[hdD];exact pastItsLine_dict (Nat.le_trans hcD (by rw[List.length_cons];omega))) ?_)
 exact wpAny_pure (h _ ⟨(hs2.2 _ (Ne.symm I.ne)).trans I.obj,hn2,I.ne⟩ hs2)
theorem make_map {R:Result->Shared->Prop}{vs:List Value}{kw:List (Str×Value)}(X:K.In s.heap)(hm:W.makesIn K C=true)
   (hi:W.findIn K (.ref C) "__init__" = some (some (.ref f))) (hf:W.typeIn K (.ref f)=some (.type "function"))
   (h:codeAny (model prog w) (A.under (.builtin "type.__call__" ⟨.ref C::vs,kw⟩)) (.call (.ref f) ⟨.ref (s.heap.objs.size+1)::vs,kw⟩) (W.InitBack (s.heap.objs.size+1) R)
     { s with heap:=(s.heap.push W.emptyDict).push (W.instObj C s.heap.objs.size) }) :
   codeAny (model prog w) A (.call (.ref C) ⟨vs,kw⟩) R s:=by
 obtain⟨hh,g,d,t,os⟩:=s
 exact W.make_core (W.makes_of X hm) (W.looks_findIn X hi) (fun self=>W.bind_fn X self hf) (.inl rfl) h
end
noncomputable def putF (f:Str)(v:V):List (Str×V)->List (Str×V)
 | []=>[(f,v)]
 | (g,x)::r=>if g=f then(g,v)::r else(g,x)::putF f v r
theorem zb1 (f g:Str)(v:V):∀fs:List (Str×V),(putF f v fs).lookup g=if g=f then some v else fs.lookup g
 | []=>by
   show List.lookup g [(f,v)]=_
   by_cases h:g=f
   . have hb:(g == f)=true:=beq_iff_eq.mpr h
     simp only[List.lookup,hb,if_pos h]
   . have hb:(g == f)=false:=beq_eq_false_iff_ne.mpr h
     simp only[List.lookup,hb,if_neg h]
 | (k,x)::r=>by
   have ih:=zb1 f g v r
   rw[show putF f v ((k,x)::r)=(if k=f then(k,v)::r else(k,x)::putF f v r) from rfl]
   by_cases hk:k=f
   . rw[if_pos hk]
     by_cases h:g=k
     . have hb:(g == k)=true:=beq_iff_eq.mpr h
       simp only[List.lookup,hb,if_pos (h.trans hk)]
     . have hb:(g == k)=false:=beq_eq_false_iff_ne.mpr h
       simp only[List.lookup,hb,if_neg (fun e:g=f=>h (e.trans hk.symm))]
   . rw[if_neg hk]
     by_cases h:g=k
     . have hb:(g == k)=true:=beq_iff_eq.mpr h
       simp only[List.lookup,hb,if_neg (fun e:g=f=>hk (h.symm.trans e))]
     . have hb:(g == k)=false:=beq_eq_false_iff_ne.mpr h
       simp only[List.lookup,hb]
       exact ih
theorem zF2 (f:Str)(v:V):∀fs:List (Str×V),f∈(putF f v fs).map (·.1)/\∀g,g∈fs.map (·.1)->g∈(putF f v fs).map (·.1)
 | []=>⟨by simp[putF],fun g h=>by simp at h⟩
 | (k,x)::r=>by
   obtain⟨i1,i2⟩:=zF2 f v r
   rw[show putF f v ((k,x)::r)=(if k=f then(k,v)::r else(k,x)::putF f v r) from rfl]
   by_cases hk:k=f
   . rw[if_pos hk]
     subst hk
     exact⟨by simp,fun g h=>by simpa using h⟩
   . rw[if_neg hk]
     refine⟨?_,fun g h=>?_⟩
     . rw[List.map_cons]
       exact List.mem_cons_of_mem _ i1
     . rw[List.map_cons] at h ⊢
       rcases List.mem_cons.mp h with e | e
       . exact List.mem_cons.mpr (.inl e)
       . exact List.mem_cons_of_mem _ (i2 g e)
theorem zq7 (f:Str)(v:V):∀fs:List (Str×V),(putF f v fs).length<=fs.length+1
 | []=>by simp[putF]
 | (k,x)::r=>by
   have ih:=zq7 f v r
   rw[show putF f v ((k,x)::r)=(if k=f then(k,v)::r else(k,x)::putF f v r) from rfl]
   by_cases hk:k=f
   . rw[if_pos hk,List.length_cons,List.length_cons];omega
   . rw[if_neg hk,List.length_cons,List.length_cons];omega
theorem RelO.some_of {v:V}{o:Option Value}(r:RelO (some v) o):∃u,o=some u/\RelV v u:=by
 cases o with
 | none=>exact(show False from r).elim
 | some u=>exact⟨u,rfl,r⟩
theorem handed_of {v:V}{u:Value}(r:RelV v u):W.handedIn u=true:=by
 cases v with
 | non=>cases (show u=Value.none from r);rfl
 | bl b=>cases (show u=Value.bool b from r);rfl
 | int i=>obtain⟨t,e⟩:=(show ∃t,u=Value.int i t from r);cases e;rfl
 | str x=>obtain⟨t,e⟩:=(show ∃t,u=Value.str x t from r);cases e;rfl
 | byt b=>obtain⟨t,e⟩:=(show ∃t,u=Value.bytes b t from r);cases e;rfl
 | flt b=>obtain⟨t,e⟩:=(show ∃t,u=Value.float b t from r);cases e;rfl
 | ref a=>cases (show u=Value.ref a from r);rfl
 | ty n=>cases (show u=Value.type n from r);rfl
section
variable {P:Program} {w:World} {H H':Hp} {h h':Heap} {a C dx:Addr} {fs fs':List (Str×V)}
theorem zT4 (hok:HOk P w H h)(e:H a=some (.ins C dx fs)):∃mA,ObjM h a dx C mA/\(∀f,RelO (fs.lookup f) (mA f))/\PySem.Within mA (fs.map (·.1))/\fs.length<=1000/\H dx=some (.own a):=by
 obtain⟨d,z,ne,ob,mA,n,r,q⟩:=(show ze9 P w H h a (.ins C dx fs) from hok a _ e)
 exact⟨mA,⟨ob,n,ne⟩,r,q,z,d⟩
end
structure Cls (K:W.Frag)(C:Addr):Prop where
 pg:W.plainGet K C Str.empty=true
 hd:W.hasDictIn K C=true
 po:W.plainOver K C=true
 sa:W.findIn K (.ref C) "__setattr__" = some (some (.builtin "object.__setattr__"))
theorem Cls.get {K:W.Frag}{C:Addr}(c:Cls K C)(f:Str):W.plainGet K C f=true:=c.pg
noncomputable def zh0 (K:W.Frag)(C:Addr)(f:Str):Prop:=W.findIn K (.ref C) f=some none
theorem zh0.taker {K:W.Frag}{C:Addr}{f:Str}(n:zh0 K C f):W.takerIn K C f=some none:=by
 unfold W.takerIn
 rw[show W.findIn K (.ref C) f=some none from n]
 rfl
section
variable {X:Cx} {pins:List (Addr×Obj)} {σ:St} {H:Hp} {s:Shared} {a C dx:Addr} {fs:List (Str×V)} {f:Str} {v:V} {A:Around} {E:Value->Shared->Prop}
theorem getattr_ok {b:Bool}{Q:Value->Shared->Prop}(I:Inv X pins σ H s)(e:H a=some (.ins C dx fs))(c:Cls X.K C)(n:zh0 X.K C f)(l:fs.lookup f=some v)
   (h:∀u s',Inv X pins σ H s'->RelV v u->Q u s'):wpAny (model X.prog X.w) A (getAttr (.ref a) f b) Q E s:=by
 obtain⟨mA,O,r,_,_,_⟩:=zT4 I.hok e
 obtain⟨u,hu,ru⟩:=RelO.some_of (v:=v) (o:=mA f) (by rw[<-l];exact r f)
 exact get_map I.kIn O (c.get f) c.hd n hu (handed_of ru) (h u _ (I.tok _) ru)
theorem setattr_ok {y:V}{u:Value}{Q:Unit->Shared->Prop}(I:Inv X pins σ H s)(e:H a=some (.ins C dx fs))(c:Cls X.K C)(n:zh0 X.K C f)(hl:fs.length<1000)(ry:RelV y u)
   (h:∀s',Inv X pins σ (upd H a (.ins C dx (putF f y fs))) s'->Q () s'):wpAny (model X.prog X.w) A (setAttr (.ref a) f u) Q E s:=by
 obtain⟨mA,O,r,wi,_,ho⟩:=zT4 I.hok e
 have hz:(fs.map (·.1)).length<=sizeLine:=by rw[List.length_map,sizeLine_eq];omega
 refine set_map I.kIn O c.sa c.po n.taker c.hd wi hz fun h' O' sb=>h _ ?_
 have hd:∃o,h'.get? dx=some o:=let⟨o,_,_,e',_⟩:=O'.ns;⟨o,e'⟩
 refine I.write (x:=a) (e:=dx) (by rw[e];exact True.intro) (.inr ho) (fun b q hb z=>(sb.2 b hb).trans z) hd ?_
 refine⟨by rw[za9 O.ne];exact ho,?_,O.ne,O'.obj,_,O'.ns,fun g=>?_,fun g hg=>?_⟩
 . have:=zq7 f y fs;omega
 . show RelO ((putF f y fs).lookup g) (if g=f then some u else mA g)
   rw[zb1]
   by_cases q:g=f
   . rw[if_pos q,if_pos q];exact ry
   . rw[if_neg q,if_neg q];exact r g
 . by_cases q:g=f
   . rw[q];exact(zF2 f y fs).1
   . refine(zF2 f y fs).2 g (wi g fun z=>hg ?_)
     show(if g=f then some u else mA g)=none
     rw[if_neg q];exact z
theorem Inv.made (I:Inv X pins σ H s):Inv X pins σ (upd (upd H s.heap.objs.size (.own (s.heap.objs.size+1))) (s.heap.objs.size+1) (.ins C s.heap.objs.size []))
   { s with heap:=(s.heap.push W.emptyDict).push (W.instObj C s.heap.objs.size) }:=by
 have e1:(s.heap.push W.emptyDict).get? s.heap.objs.size=some W.emptyDict:=Heap.get?_push_size s.heap rfl
 have e2:((s.heap.push W.emptyDict).push (W.instObj C s.heap.objs.size)).get? (s.heap.objs.size+1)=some (W.instObj C s.heap.objs.size):=by
   have:=Heap.get?_push_size (s.heap.push W.emptyDict) (o:=W.instObj C s.heap.objs.size) rfl
   rwa [Heap.size_push] at this
 have e3:(s.heap.push W.emptyDict).Ns s.heap.objs.size (fun _=>none):=⟨W.emptyDict,#[],_,e1,rfl,(fun e he=>absurd he (by simp)),fun _=>rfl⟩
 have I1:=I.laid (a:=s.heap.objs.size) (o:=.own (s.heap.objs.size+1)) (h':=s.heap.push W.emptyDict) (t':=s.toks) (fun b u q=>Heap.get?_push_of_some _ q) (Nat.le_refl _) ⟨_,e1⟩
 refine I1.laid (a:=s.heap.objs.size+1) (o:=.ins C s.heap.objs.size []) (t':=s.toks) (fun b u q=>Heap.get?_push_of_some _ q) (Nat.le_of_eq (Heap.size_push _ _)) ?_
 have ne:s.heap.objs.size≠s.heap.objs.size+1:=Nat.ne_of_lt (Nat.lt_succ_self _)
 refine⟨by rw[za9 ne,za1],Nat.zero_le _,ne,e2,fun _=>none,(Heap.Ns1.of_empty e3).at fun o q=>Heap.get?_push_of_some _ q,fun _=>True.intro,fun y hy=>absurd rfl hy⟩
theorem attr_of {prog:Program}{w:World}{env:Env}{e:Expr}{f:Str}{pos:Pos}{s:Shared}{Q:Value->Shared->Prop}(hb:attributeBase e f env (eval e env)=eval e env)
   (h:wpAny (model prog w) A (eval e env) (fun o s₁=>wpAny (model prog w) A (getAttr o f true) Q E s₁) E s):wpAny (model prog w) A (eval (.Attribute e f pos) env) Q E s :=
 Attribute_any_ h (by rw[arm_eval_Attribute,hb])
end
inductive yh2 (K:W.Frag)(f:Str)(x:V)(H1:Hp)(Q:VK):Prop
 | mk (a C dx fs v:_)(h0:x = .ref a)(h1:H1 a=some (.ins C dx fs))(h2:Cls K C)(h3:zh0 K C f)(h4:fs.lookup f=some v)(h5:Q v H1):yh2 K f x H1 Q
noncomputable def tFld (K:W.Frag)(ta:TE)(f:Str):TE:=fun σ H Q=>ta σ H fun x H1=>yh2 K f x H1 Q
inductive yh3 (K:W.Frag)(f:Str)(y:V)(D:Ends)(σ:St)(x:V)(H2:Hp):Prop
 | mk (a C dx fs:_)(h0:x = .ref a)(h1:H2 a=some (.ins C dx fs))(h2:Cls K C)(h3:zh0 K C f)(h4:fs.length<1000)(h5:D.nx σ (upd H2 a (.ins C dx (putF f y fs)))):yh3 K f y D σ x H2
noncomputable def sFld (K:W.Frag)(ta tv:TE)(f:Str):TS:=fun D σ H=>tv σ H fun y H1=>ta σ H1 fun x H2=>yh3 K f y D σ x H2
section
variable {X:Cx} {o e value:Expr} {f:Str} {pos pos' tpos:Pos} {ta tv:TE}
theorem zc9 (he:PE X e ta)(hb:attributeBase e f X.env (eval e X.env)=eval e X.env):PE X (.Attribute e f pos) (tFld X.K ta f):=by
 intro pins s σ H Q I h
 refine attr_of hb (thn (he pins s σ H _ I h) fun u s1 ⟨x,H1,I1,rx,a,C,dx,fs,v,ex,ea,c,n,l,q⟩=>?_)
 subst ex
 obtain rfl:u=Value.ref a:=rx
 exact getattr_ok I1 ea c n l fun u' s2 I2 ru=>⟨v,H1,I2,ru,q⟩
theorem zm1 (ha:PE X o ta)(hv:PE X value tv)(hs:swapsWith value (some (.Attribute o f pos')) pos.line X.env=pure false):PS X (.Assign [.Attribute o f pos'] value pos) (sFld X.K ta tv f):=by
 intro pins s σ H D I h
 refine plainObj_wpAny_Assign_Attribute (thn (hv pins s σ H _ I h) fun u s1 ⟨y,H1,I1,ry,q⟩=>thn (ha pins s1 σ H1 _ I1 q) fun ov s2 ⟨x,H2,I2,rx,a,C,dx,fs,ex,ea,c,n,l,q2⟩=>?_) hs
 subst ex
 obtain rfl:ov=Value.ref a:=rx
 exact setattr_ok I2 ea c n l ry fun s3 I3=>⟨σ,_,I3,q2⟩
end
section
variable {X:Cx} {pins:List (Addr×Obj)} {σ:St} {H:Hp} {s:Shared} {A:Around} {E:Value->Shared->Prop} {Q:Value->Shared->Prop} {c:Value} {b:Bool}
inductive TyOf (K:W.Frag)(H:Hp):V->Value->Prop where
 | non:TyOf K H .non (.type "NoneType")
 | bl (x:Bool):TyOf K H (.bl x) (.type "bool")
 | int (i:Int):TyOf K H (.int i) (.type "int")
 | str (x:Str):TyOf K H (.str x) (.type "str")
 | flt (x:UInt64):TyOf K H (.flt x) (.type "float")
 | lst {a:Addr} {xs:List V} (e:H a=some (.lst xs)):TyOf K H (.ref a) (.type "list")
 | frz {a:Addr} {o:Obj} {xs:List V} (e:H a=some (.frz o (.lst xs))):TyOf K H (.ref a) (.type "list")
 | tup {a:Addr} {xs:List V} (e:H a=some (.tup xs)):TyOf K H (.ref a) (.type "tuple")
 | dK {a:Addr} {kvs:List (Key×V)} (e:H a=some (.dK kvs)):TyOf K H (.ref a) (.type "dict")
 | dT {a:Addr} {kvs:List (List Key×V)} (e:H a=some (.dT kvs)):TyOf K H (.ref a) (.type "dict")
 | ins {a C dx:Addr} {fs:List (Str×V)} (e:H a=some (.ins C dx fs)) (cl:Cls K C) (ha:W.findIn K (.ref C) "__class__" = some (some (.builtin "object.__class__")))
     (hn:W.specialIn K (.builtin "object.__class__") "__get__" = some (some (.builtin "getset_descriptor.__get__"))) (htk:W.takesIn K (.builtin "object.__class__")=some true)
     (hm:W.mroIn K C (.type "object")=some true):TyOf K H (.ref a) (.ref C)
theorem isinst_ok {x:V}{u t:Value}(I:Inv X pins σ H s)(rx:RelV x u)(ty:TyOf X.K H x t)(e:W.kitOne X.K t c=some b)(h:∀tk,Q (.bool b) { s with toks:=tk }) :
   wpAny (model X.prog X.w) A (call (.builtin "isinstance") [u,c]) Q E s:=by
 cases ty with
 | non=>cases (show u=Value.none from rx);exact W.kia_one W.kitx_none I.kIn True.intro e (fun z=>nomatch z) h
 | bl y=>cases (show u=Value.bool y from rx);exact W.kia_one W.kitx_bool I.kIn True.intro e (fun z=>nomatch z) h
 | int i=>obtain⟨t,q⟩:=(show ∃t,u=Value.int i t from rx);cases q;exact W.kia_one W.kitx_int I.kIn True.intro e (fun z=>nomatch z) h
 | str y=>obtain⟨t,q⟩:=(show ∃t,u=Value.str y t from rx);cases q;exact W.kia_one W.kitx_str I.kIn True.intro e (fun z=>nomatch z) h
 | flt y=>obtain⟨t,q⟩:=(show ∃t,u=Value.float y t from rx);cases q;exact W.kia_one W.kitx_float I.kIn True.intro e (fun z=>nomatch z) h
 | @lst a xs ea =>
   cases (show u=Value.ref a from rx)
   obtain⟨_,_,n,_,h1⟩:=(show ze9 X.prog X.w H s.heap a (.lst xs) from I.hok a _ ea)
   exact W.kia_one W.kitx_list I.kIn ⟨_,h1,rfl⟩ e (fun z=>nomatch z) h
 | @frz a ob xs ea =>
   cases (show u=Value.ref a from rx)
   obtain⟨_,_,_,n,_,h1⟩:=(show ze9 X.prog X.w H s.heap a (.frz ob (.lst xs)) from I.hok a _ ea)
   exact W.kia_one W.kitx_list I.kIn ⟨_,h1,rfl⟩ e (fun z=>nomatch z) h
 | @tup a xs ea =>
   cases (show u=Value.ref a from rx)
   obtain⟨_,_,_,p⟩:=(show ze9 X.prog X.w H s.heap a (.tup xs) from I.hok a _ ea)
   obtain⟨o,h1,h2,_⟩:=p
   exact W.kia_one W.kitx_tuple I.kIn ⟨o,h1,h2⟩ e (fun z=>nomatch z) h
 | @dK a kvs ea =>
   cases (show u=Value.ref a from rx)
   obtain⟨_,_,vs,_,p⟩:=(show ze9 X.prog X.w H s.heap a (.dK kvs) from I.hok a _ ea)
   obtain⟨o,es,ep,h1,h2,_⟩:=p
   exact W.kia_one W.kitx_dict I.kIn ⟨o,h1,h2.1⟩ e (fun z=>nomatch z) h
 | @dT a kvs ea =>
   cases (show u=Value.ref a from rx)
   obtain⟨_,_,xs,_,o,es,ep,h1,h2,_⟩:=(show ze9 X.prog X.w H s.heap a (.dT kvs) from I.hok a _ ea)
   exact W.kia_one W.kitx_dict I.kIn ⟨o,h1,h2.1⟩ e (fun z=>nomatch z) h
 | @ins a C dx fs ea cl ha hn htk hm =>
   cases (show u=Value.ref a from rx)
   obtain⟨mA,O,_⟩:=zT4 I.hok ea
   obtain⟨od,J,_⟩:=O.look
   exact W.kia_one (W.kitx_own (cl.get _) cl.hd ha hn htk hm) I.kIn J e (fun z=>nomatch z) h
end
structure Room (k:Nat)(A:Around):Prop where
 hd:A.handled=none
 dp:A.depth+3*k+5<recursionLimit
 un:A.units+16*k+200<cLine
theorem Room.mono {j k:Nat}{A:Around}(r:Room k A)(h:j<=k):Room j A:=⟨r.hd,by have:=r.dp;omega,by have:=r.un;omega⟩
theorem Room.deeper {k:Nat}{A:Around}(r:Room (k+1) A)(env:Env):Room k (A.deeper env) :=
 ⟨r.hd,by have:=r.dp;show A.depth+1+3*k+5<_;omega,by have:=r.un;show A.units+3+16*k+200<_;omega⟩
theorem make_depth {A:Around} {C:Addr} {us:List Value} {kw:List (Str×Value)}:(A.under (.builtin "type.__call__" ⟨.ref C::us,kw⟩)).depth=A.depth+1:=by
 first | rfl | simp[Around.under,Code.weight,Code.isCreation,Code.isGuard,Code.isCaller,Code.frames,Code.isFrame,guardIds]
theorem make_units {A:Around} {C:Addr} {us:List Value} {kw:List (Str×Value)}:(A.under (.builtin "type.__call__" ⟨.ref C::us,kw⟩)).units=A.units+1:=by
 first | rfl | simp[Around.under,Code.cUnits,Code.frames,Code.isFrame]
theorem Room.make {k:Nat} {A:Around} (r:Room (k+1) A) (C:Addr) (us:List Value) (kw:List (Str×Value)):Room k (A.under (.builtin "type.__call__" ⟨.ref C::us,kw⟩)) :=
 ⟨r.hd,by have:=r.dp;rw[make_depth];omega,by have:=r.un;rw[make_units];omega⟩
theorem Room.depth {k:Nat}{A:Around}(r:Room k A):A.depth<recursionLimit:=by have:=r.dp;omega
theorem Room.units {k:Nat}{A:Around}(r:Room k A):A.units+64<cLine:=by have:=r.un;omega
noncomputable def tNil:TA:=fun _ H Q=>Q [] H
noncomputable def yh4 (ta:TE)(tr:TA):TA:=fun σ H Q=>ta σ H fun x H1=>tr σ H1 fun xs H2=>Q (x::xs) H2
section
variable {X:Cx} {e:Expr} {es:List Expr} {te:TE} {t:TA} {pos:Pos}
theorem za3:PA X [] tNil:=fun _ _ _ _ H Q I h=>Calls.spliced_nil ⟨[],H,I,.nil,h⟩
theorem za0 (ha:PE X e te)(hr:PA X es t)(hs:starEach (e::es) X.env=(false,eval e X.env)::starEach es X.env:=by rfl):PA X (e::es) (yh4 te t):=by
 intro pos pins s σ H Q I h
 rw[hs]
 show wpAny _ _ (spliced ((false,eval e X.env)::backTo pos (starEach es X.env))) _ _ s
 refine Calls.spliced_cons (thn (ha pins s σ H _ I h) fun u s1 ⟨x,H1,I1,r1,q1⟩=>?_)
 exact thn (hr pos pins s1 σ H1 _ I1 q1) fun us s2 ⟨xs,H2,I2,r2,q2⟩=>⟨x::xs,H2,I2,.cons r1 r2,q2⟩
noncomputable def tTup (t:TA):TE:=fun σ H Q=>t σ H fun xs H1=>xs.length<=sizeLine/\∀p,H1 p=none->Q (.ref p) (upd H1 p (.tup xs))
noncomputable def tLst (t:TA):TE:=fun σ H Q=>t σ H fun xs H1=>xs.length<=sizeLine/\∀p,H1 p=none->Q (.ref p) (upd H1 p (.lst xs))
theorem zF3 {x1}(h:PA X es t):PE X (.Tuple es x1 pos) (tTup t):=by
 intro pins s σ H Q I hq
 refine wpAny_Tuple_spliced (thn (h pos pins s σ H _ I hq) fun us s1 ⟨xs,H1,I1,r,z,q⟩=>⟨by rw[<-r.length];exact z,?_⟩)
 have hf:H1 s1.heap.objs.size=none:=I1.hok.fresh (Nat.le_refl _)
 refine⟨.ref s1.heap.objs.size,upd H1 s1.heap.objs.size (.tup xs),I1.laid (t':=s1.toks) (fun b u e=>Heap.get?_push_of_some _ e) (Nat.le_refl _) ?_,rfl,q _ hf⟩
 exact⟨z,us,r,⟨_,Heap.get?_push_size _ rfl,rfl,rfl,_,rfl⟩⟩
theorem ze6 (h:PA X es t):PE X (.List es pos) (tLst t):=by
 intro pins s σ H Q I hq
 refine wpAny_List_spliced (thn (h pos pins s σ H _ I hq) fun us s1 ⟨xs,H1,I1,r,z,q⟩=>⟨by rw[<-r.length];exact z,?_⟩)
 have hf:H1 s1.heap.objs.size=none:=I1.hok.fresh (Nat.le_refl _)
 refine⟨.ref s1.heap.objs.size,upd H1 s1.heap.objs.size (.lst xs),I1.laid (t':=s1.toks) (fun b u e=>Heap.get?_push_of_some _ e) (Nat.le_refl _) ?_,rfl,q _ hf⟩
 exact⟨z,us,0,r,Heap.get?_push_size _ rfl⟩
end
noncomputable abbrev Sp:=List V->Hp->VK->XK->Prop
noncomputable abbrev CXT:=List Env->Hp->Shared->XK->Value->Shared->Prop
structure Env0 (P:Program)(w:World)(K:W.Frag)(mg:Str->Option Value)(base:Heap)(A:Around)(outer:List Env)(s:Shared)(H:Hp):Prop where
 frames:A.frames=some outer
 mod:Mod K mg base
 bs:∀b o,base.get? b=some o->s.heap.get? b=some o/\H b=none
 bsz:base.objs.size<=s.heap.objs.size
 funs:s.heap.FunFrames base outer
 frf:∀b∈frs outer,H b=none
 hok:HOk P w H s.heap
 bare:AllBare s.gens
noncomputable def CE (outer:List Env)(P:Program)(w:World)(H:Hp)(s:Shared)(Q:VK)(u:Value)(s':Shared):Prop :=
 ∃v H',s'.os=s.os/\AllBare s'.gens/\Un (frs outer) [] H H' s.heap s'.heap/\HOk P w H' s'.heap/\RelV v u/\Q v H'
noncomputable def CR (CX:CXT)(outer:List Env)(P:Program)(w:World)(H:Hp)(s:Shared)(Q:VK)(E:XK)(r:Result)(s':Shared):Prop :=
 match r with
 | .ok (.ret u)=>CE outer P w H s Q u s'
 | .ok _=>False
 | .error e=>CX outer H s E e s'
structure FnOk (P:Program)(w:World)(K:W.Frag)(mg:Str->Option Value)(base:Heap)(CX:CXT)(k:Nat)(f:Addr)(fd:FuncData)(ps:List Str)(sp:Sp):Prop where
 len:∀vs H Q E,sp vs H Q E->vs.length=ps.length
 run:∀(A:Around) (outer:List Env) (s:Shared) (H:Hp) (args:Args) (us:List Value) (vs:List V) (Q:VK) (E:XK),Room k A->Env0 P w K mg base A outer s H->BindsTo s fd args (ps.zip us)->Vals vs us->sp vs H Q E →
   codeAny (model P w) A (.call (.ref f) args) (CR CX outer P w H s Q E) s
theorem Env0.make {P:Program}{w:World}{K:W.Frag}{mg:Str->Option Value}{base:Heap}{A:Around}{outer:List Env}{s:Shared}{H:Hp}(e:Env0 P w K mg base A outer s H)(C:Addr)(us:List Value)(kw:List (Str×Value)) :
 Env0 P w K mg base (A.under (.builtin "type.__call__" ⟨.ref C::us,kw⟩)) outer s H:=⟨by first | exact e.frames | (simpa [Around.under,Code.envs,Code.isFrame,pushEnvs] using e.frames),e.mod,e.bs,e.bsz,e.funs,e.frf,e.hok,e.bare⟩
section
variable {X:Cx} {pins:List (Addr×Obj)} {σ:St} {H:Hp} {s s':Shared}
theorem Inv.env0 (I:Inv X pins σ H s):Env0 X.prog X.w X.K X.mg X.base X.A X.stack s H :=
 ⟨I.ok.frames,I.ok.mod,I.bs,Nat.le_trans I.ok.bsz I.sz,I.stack,I.stkFree,I.hok,I.bare⟩
theorem Inv.after {Q:VK}{u:Value}(I:Inv X pins σ H s)(h:CE X.stack X.prog X.w H s Q u s'):EP X pins σ Q u s':=by
 obtain⟨v,H',os,bare,un,hok,r,q⟩:=h
 obtain⟨hh,g,d,t,os'⟩:=s'
 obtain rfl:os'=s.os:=os
 exact⟨v,H',I.call (h':=hh) (g':=g) (d':=d) (t':=t) (ch:=[]) un hok bare (fun b z=>absurd z (by simp)),r,q⟩
end
noncomputable def tCall (sp:Sp)(dvs:List V)(E:XK)(t:TA):TE:=fun σ H Q=>t σ H fun vs H1=>sp (vs++dvs) H1 Q E
noncomputable def tMake (C:Addr)(sp:Sp)(dvs:List V)(E:XK)(t:TA):TE:=fun σ H Q=>t σ H fun vs H1=>∀x dx,H1 x=none->H1 dx=none->dx≠x →
 sp (.ref x::(vs++dvs)) (upd (upd H1 dx (.own x)) x (.ins C dx [])) (fun v H2=>v = .non/\Q (.ref x) H2) E
noncomputable def zd2 (K:W.Frag)(fd:FuncData)(ps:List Str)(ds:List Value):Prop :=
 ∀(s:Shared) (us:List Value),K.In s.heap->(us++ds).length=ps.length->BindsTo s fd ⟨us,[]⟩ (ps.zip (us++ds))
theorem zd2.all {K:W.Frag}{fd:FuncData}{ps:List Str}(h:∀us:List Value,us.length=ps.length->bindArgs fd ⟨us,[]⟩=pure (ps.zip us)):zd2 K fd ps []:=fun s us _ hl=>by
 rw[List.append_nil] at hl ⊢
 exact .of_eq (h us hl)
noncomputable def zK1 (CX:CXT)(X:Cx)(E:XK):Prop:=∀(pins:List (Addr×Obj)) (σ:St) (H:Hp) (s:Shared) (e:Value) (s':Shared),Inv X pins σ H s->CX X.stack H s E e s'->X.xe e s'
section
variable {X:Cx} {CX:CXT} {k:Nat} {f C:Addr} {fd:FuncData} {ps:List Str} {sp:Sp} {dvs:List V} {ds:List Value} {E:XK} {x m:Str} {p pos apos:Pos} {e o:Expr} {es:List Expr} {ta:TE} {t:TA}
theorem run_fn {pins:List (Addr×Obj)}{σ:St}{H:Hp}{s:Shared}{Q:VK}{us:List Value}{vs:List V}(F:FnOk X.prog X.w X.K X.mg X.base CX k f fd ps sp)(hr:Room k X.A)(hb:zd2 X.K fd ps ds)(hd:Vals dvs ds)(hx:zK1 CX X E)
   (I:Inv X pins σ H s) (r:Vals vs us) (h:sp (vs++dvs) H Q E):wpAny (model X.prog X.w) X.A (call (.ref f) us) (EP X pins σ Q) X.xe s:=by
 have r2:Vals (vs++dvs) (us++ds):=r.append hd
 have hl:(us++ds).length=ps.length:=by rw[<-r2.length];exact F.len _ _ _ _ h
 refine wpAny_call (codeAny_mono (F.run X.A X.stack s H ⟨us,[]⟩ (us++ds) (vs++dvs) Q E hr I.env0 (hb s us I.kIn hl) r2 h) fun r s' hq=>?_)
 cases r with
 | error e=>exact hx pins σ H s e s' I hq
 | ok fl =>
   cases fl with
   | ret u=>exact I.after hq
   | next=>exact False.elim hq
   | brk=>exact False.elim hq
   | cont=>exact False.elim hq
theorem za7 (F:FnOk X.prog X.w X.K X.mg X.base CX k f fd ps sp)(hr:Room k X.A)(hg:Gl X x)(hm:X.mg x=some (.ref f))(hk:W.keepIn X.K (.ref f)=true)(hb:zd2 X.K fd ps ds)(hd:Vals dvs ds)(hx:zK1 CX X E)
   (ha:PA X (e::es) t) (hdb:(x == ("__debug__" : Str))=false:=by decide) (he:starEach (e::es) X.env=(false,eval e X.env)::starEach es X.env:=by rfl) (hpl:(backTo pos (starEach es X.env)).any (·.1)=false:=by rfl) :
   PE X (.Call (.Name x p) (e::es) [] pos) (tCall sp dvs E t):=by
 intro pins s σ H Q I h
 refine wpAny_Call_Name_kw (zT0 I hg hm ?_ hdb)
 refine W.callWith_K (h₀:=X.base) I.ok.mod.kin hk (thn (ha pos pins s σ H _ I h) fun us s1 ⟨vs,H1,I1,r,q⟩=>⟨I1.kIn,?_⟩) he hpl
 exact run_fn F hr hb hd hx I1 r q
structure Mk (K:W.Frag)(C f:Addr):Prop where
 makes:W.makesIn K C=true
 init:W.findIn K (.ref C) "__init__" = some (some (.ref f))
 fn:W.isFn K (.ref f)=true
 kp:W.keepIn K (.ref C)=true
theorem run_make {pins:List (Addr×Obj)}{σ:St}{H:Hp}{s:Shared}{Q:VK}{us:List Value}{vs:List V}(M:Mk X.K C f)(F:FnOk X.prog X.w X.K X.mg X.base CX k f fd ps sp)(hr:Room (k+1) X.A)(hb:zd2 X.K fd ps ds)(hd:Vals dvs ds)
   (hx:zK1 CX X E) (I:Inv X pins σ H s) (r:Vals vs us)
   (h:∀x dx,H x=none->H dx=none->dx≠x->sp (.ref x::(vs++dvs)) (upd (upd H dx (.own x)) x (.ins C dx [])) (fun v H2=>v = .non/\Q (.ref x) H2) E) :
   wpAny (model X.prog X.w) X.A (call (.ref C) us) (EP X pins σ Q) X.xe s:=by
 have hq:=h (s.heap.objs.size+1) s.heap.objs.size (I.hok.fresh (Nat.le_succ _)) (I.hok.fresh (Nat.le_refl _)) (Nat.ne_of_lt (Nat.lt_succ_self _))
 have I2:=Inv.made (C:=C) I
 have r2:Vals (V.ref (s.heap.objs.size+1)::(vs++dvs)) (Value.ref (s.heap.objs.size+1)::(us++ds)):=.cons rfl (r.append hd)
 have hl:(Value.ref (s.heap.objs.size+1)::us++ds).length=ps.length:=by
   have e:=r2.length
   rw[F.len _ _ _ _ hq] at e
   exact e.symm
 refine wpAny_call (make_map (f:=f) I.kIn M.makes M.init (beq_iff_eq.mp M.fn) (codeAny_mono (F.run _ X.stack _ _ ⟨Value.ref (s.heap.objs.size+1)::us,[]⟩ (Value.ref (s.heap.objs.size+1)::(us++ds)) _ _ E (hr.make C us [])
   (I2.env0.make C us []) (hb _ (Value.ref (s.heap.objs.size+1)::us) I2.kIn hl) r2 hq) fun r s' hq'=>?_))
 cases r with
 | error e=>exact hx pins σ _ _ e s' I2 hq'
 | ok fl =>
   cases fl with
   | ret u =>
     obtain⟨v,H',I3,rv,ev,q3⟩:=I2.after hq'
     subst ev
     exact⟨rv,⟨V.ref (s.heap.objs.size+1),H',I3,rfl,q3⟩⟩
   | next=>exact False.elim hq'
   | brk=>exact False.elim hq'
   | cont=>exact False.elim hq'
theorem zC0 (M:Mk X.K C f)(F:FnOk X.prog X.w X.K X.mg X.base CX k f fd ps sp)(hr:Room (k+1) X.A)(hg:Gl X x)(hm:X.mg x=some (.ref C))(hb:zd2 X.K fd ps ds)(hd:Vals dvs ds)(hx:zK1 CX X E)
   (ha:PA X (e::es) t) (hdb:(x == ("__debug__" : Str))=false:=by decide) (he:starEach (e::es) X.env=(false,eval e X.env)::starEach es X.env:=by rfl) (hpl:(backTo pos (starEach es X.env)).any (·.1)=false:=by rfl) :
   PE X (.Call (.Name x p) (e::es) [] pos) (tMake C sp dvs E t):=by
 intro pins s σ H Q I h
 refine wpAny_Call_Name_kw (zT0 I hg hm ?_ hdb)
 refine W.callWith_K (h₀:=X.base) I.ok.mod.kin M.kp (thn (ha pos pins s σ H _ I h) fun us s1 ⟨vs,H1,I1,r,q⟩=>⟨I1.kIn,?_⟩) he hpl
 exact run_make M F hr hb hd hx I1 r q
end
section
variable {X:Cx} {CX:CXT} {k:Nat} {f C:Addr} {fd:FuncData} {ps ks:List Str} {sp:Sp} {E:XK} {x m:Str} {p pos apos kpos:Pos} {e o:Expr} {es:List Expr} {kws:List Keyword} {te ta:TE} {t tk:TA} {nm:Option Str}
variable {g:List Value->List Value->List Value} {gV:List V->List V->List V}
end
structure zc2 (N P:List Str)(sc:Scope):Prop where
 kind:sc.kind = .function:=by rfl
 co:sc.isCoroutine=false:=by rfl
 gen:sc.isGenerator=false:=by rfl
 nd:N.Nodup:=by decide +kernel
 pre:N.take P.length=P:=by rfl
 par:∀x∈P,sc.names.lookup x=some .local\/sc.names.lookup x=some .cell:=by decide +kernel
 nofree:∀y∈sc.names,y.2≠.free:=by decide +kernel
theorem zN6 {kindOf:Str->Option NameKind}{x:Str}:∀ {binds:List (Str×Value)} {m:Str->Option Value},(∀v,(x,v)∉binds)->bindL kindOf binds m x=m x
 | [],_,_=>rfl
 | (n,v)::r,m,h=>by
   unfold bindL
   rw[zN6 fun w hw=>h w (List.mem_cons_of_mem _ hw)]
   split
   . have:x≠n:=by rintro rfl;exact h v List.mem_cons_self
     simp[this]
   . rfl
theorem zN7 {kindOf:Str->Option NameKind}{x:Str}:∀ {binds:List (Str×Value)} {m:Str->Option Value},(∀v,(x,v)∉binds)->bindC kindOf binds m x=m x
 | [],_,_=>rfl
 | (n,v)::r,m,h=>by
   unfold bindC
   rw[zN7 fun w hw=>h w (List.mem_cons_of_mem _ hw)]
   split
   . rfl
   . have:x≠n:=by rintro rfl;exact h v List.mem_cons_self
     simp[this]
theorem zN8 {kindOf:Str->Option NameKind}{x:Str}{v:Value}:∀ {P:List Str} {vs:List Value} {i:Nat} {m:Str->Option Value},P.Nodup->P[i]?=some x->vs[i]?=some v->kindOf x=some .local →
   bindL kindOf (P.zip vs) m x=some v
 | [],_,_,_,_,h,_,_=>by simp at h
 | _::_,[],_,_,_,_,h,_=>by simp at h
 | p::P,w::vs,0,m,nd,h1,h2,hk=>by
   simp at h1 h2;subst h1;subst h2
   show bindL kindOf ((p,w)::P.zip vs) m p=_
   unfold bindL
   rw[zN6 fun v hv=>(List.nodup_cons.mp nd).1 (List.of_mem_zip hv).1,if_pos hk]
   simp
 | p::P,w::vs,i+1,m,nd,h1,h2,hk=>by
   show bindL kindOf ((p,w)::P.zip vs) m x=_
   unfold bindL
   exact zN8 (i:=i) (List.nodup_cons.mp nd).2 (by simpa using h1) (by simpa using h2) hk
theorem zN9 {kindOf:Str->Option NameKind}{x:Str}{v:Value}:∀ {P:List Str} {vs:List Value} {i:Nat} {m:Str->Option Value},P.Nodup->P[i]?=some x->vs[i]?=some v->kindOf x≠some .local →
   bindC kindOf (P.zip vs) m x=some v
 | [],_,_,_,_,h,_,_=>by simp at h
 | _::_,[],_,_,_,_,h,_=>by simp at h
 | p::P,w::vs,0,m,nd,h1,h2,hk=>by
   simp at h1 h2;subst h1;subst h2
   show bindC kindOf ((p,w)::P.zip vs) m p=_
   unfold bindC
   rw[zN7 fun v hv=>(List.nodup_cons.mp nd).1 (List.of_mem_zip hv).1,if_neg hk]
   simp
 | p::P,w::vs,i+1,m,nd,h1,h2,hk=>by
   show bindC kindOf ((p,w)::P.zip vs) m x=_
   unfold bindC
   exact zN9 (i:=i) (List.nodup_cons.mp nd).2 (by simpa using h1) (by simpa using h2) hk
noncomputable def start (N:List Str)(vs:List V):St:=vs.map some++List.replicate (N.length-vs.length) none
noncomputable def cxOf (CX:CXT)(P:Program)(w:World)(K:W.Frag)(mg:Str->Option Value)(base:Heap)(N:List Str)(qual:Str)(scope:Scope)(f:Addr)(cd:Value)(A:Around)(outer:List Env)(s:Shared)(H:Hp)(E:XK):Cx where
 prog:=P
 w:=w
 K:=K
 mg:=mg
 base:=base
 A:=A.deeper (envOfC qual scope s.heap.objs.size f cd)
 N:=N
 s₀:=s
 H₀:=H
 env:=envOfC qual scope s.heap.objs.size f cd
 outer:=outer
 stack:=envOfC qual scope s.heap.objs.size f cd::outer
 ex:=[]
 calm:=true
 fn:=fun _=>true
 pn:=[]
 xe:=fun e s'=>wpAny (model P w) (A.deeper (envOfC qual scope s.heap.objs.size f cd)) («leaving» (envOfC qual scope s.heap.objs.size f cd) e) (fun _ s''=>CX outer H s E e s'') (fun e' s''=>CX outer H s E e' s'') s'
theorem zW5 {sc:Scope}{n:Nat}{x:Str}(h:sc.names.lookup x=some .cell):∃c,(cellsFrom n sc.names []).lookup x=some c:=by
 have q:=W.cellsFrom_some sc.names n [] (.inl h)
 exact Option.isSome_iff_exists.mp q
theorem inv_start {CX:CXT}{P:Program}{w:World}{K:W.Frag}{mg:Str->Option Value}{base:Heap}{N ps:List Str}{qual:Str}{scope:Scope}{f:Addr}{cd:Value}{A:Around}{outer:List Env}{s s1:Shared}{H:Hp}{E:XK}{us:List Value}{vs:List V}
   (S:zc2 N ps scope) (hd:A.handled=none) (e0:Env0 P w K mg base A outer s H) (hl:vs.length=ps.length) (r:Vals vs us)
   (x:InCallC s s.heap.objs.size (bindL (envOfC qual scope s.heap.objs.size f cd).kindOf (ps.zip us) fun _=>none) (cellsFrom (s.heap.objs.size+1) scope.names []) (bindC (envOfC qual scope s.heap.objs.size f cd).kindOf (ps.zip us) fun _=>none) s1) :
   Inv (cxOf CX P w K mg base N qual scope f cd A outer s H E) [] (start N vs) H s1:=by
 have hpl:ps.length<=N.length:=by have:=congrArg List.length S.pre;rw[List.length_take] at this;omega
 obtain⟨h1,tk,rfl,hk⟩:=x.done
 have noA:∀b:Addr,b∉(cxOf CX P w K mg base N qual scope f cd A outer s H E).ex:=fun b z=>absurd (show b∈([]:List Addr) from z) (by simp)
 refine⟨⟨e0.mod,S.kind,rfl,rfl,Nat.le_refl _,fun y z c h1 h2=>?_,fun y hy=>?_,fun y c _ h=>?_,fun _=>hd,Around.frames_deeper e0.frames,.inr ⟨rfl,rfl⟩,fun b z=>absurd z (noA b),e0.bs,e0.bsz,fun b _ _=>noA b,fun b z=>absurd z (noA b),e0.funs,e0.frf⟩,
   rfl,e0.bare,Un.kept hk,⟨_,x.toInCall.ns,fun i y v h1 h2 h3=>?_⟩,fun y c h=>⟨_,x.cell y c h⟩,e0.hok.fresh (Nat.le_refl _),fun y c h=>?_,fun p hp=>absurd (show p∈([]:List (Addr×Obj)) from hp) (by simp),e0.hok.kept hk,?_⟩
 . exact name_of_addr x.apart (PySem.mem_of_lookup h1) (PySem.mem_of_lookup h2)
 . have hy:scope.names.lookup y=some .cell\/scope.names.lookup y=some .free:=hy
   rcases hy with hy | hy
   . exact zW5 hy
   . exact absurd rfl (S.nofree _ (PySem.mem_of_lookup hy))
 . exact Nat.le_of_lt (x.above y c (PySem.mem_of_lookup h))
 . have hi:i<vs.length:=by
     unfold start at h2
     by_cases hi:i<vs.length
     . exact hi
     . rw[List.getElem?_append_right (by simpa using hi)] at h2
       rw[List.getElem?_replicate] at h2
       split at h2<;>cases h2
   have ha:vs[i]?=some v:=by
     unfold start at h2
     rw[List.getElem?_append_left (by simpa using hi),List.getElem?_map] at h2
     cases e:vs[i]? with
     | none=>rw[e] at h2;cases h2
     | some a=>rw[e] at h2;cases h2;rfl
   obtain⟨u,hu,rv⟩:=r.get ha
   have hp:ps[i]?=some y:=by
     rw[<-S.pre,List.getElem?_take_of_lt (by omega)];exact h1
   have ndP:ps.Nodup:=by rw[<-S.pre];exact S.nd.sublist (List.take_sublist _ _)
   refine⟨u,rv,?_⟩
   rcases S.par y (List.mem_of_getElem? hp) with k | k
   . exact .inl ⟨k,zN8 ndP hp hu k⟩
   . obtain⟨c,e⟩:=zW5 (n:=s.heap.objs.size+1) k
     refine .inr ⟨.inl k,c,e,?_⟩
     have q:=x.cell y c e
     rw[zN9 ndP hp hu (by show scope.names.lookup y≠_;rw[k];decide)] at q
     exact q
 . exact e0.hok.fresh (Nat.le_of_lt (x.above y c (PySem.mem_of_lookup h)))
 . unfold start
   show _=N.length
   rw[List.length_append,List.length_map,List.length_replicate]
   omega
theorem fn_of {CX:CXT}{P:Program}{w:World}{K:W.Frag}{mg:Str->Option Value}{base:Heap}{k:Nat}{f:Addr}{name qual:Str}{params:Arguments}{body:List Stmt}{scope:Scope}{dV kV doc pm cdv ct oc:Value}{an od:Option Addr}
   {osl:Array (Option Value)} {N ps:List Str} {sp:Sp} (lk:K.lookup f=some ⟨oc,od,.func (W.fnOf name qual params body scope dV kV doc pm an cdv ct),osl⟩) (hcd:W.codeIn K cdv qual=true) (S:zc2 N ps scope)
   (len:∀vs H Q E,sp vs H Q E->vs.length=ps.length)
   (hbody:∀(A:Around) (outer:List Env) (s:Shared) (H:Hp) (vs:List V) (Q:VK) (E:XK),Room k (A.deeper (envOfC qual scope s.heap.objs.size f cdv))->sp vs H Q E →
     ∃t,PSs (cxOf CX P w K mg base N qual scope f cdv A outer s H E) body t/\t { nx:=fun _ H'=>Q .non H',rt:=Q } (start N vs) H) :
   FnOk P w K mg base CX (k+1) f (W.fnOf name qual params body scope dV kV doc pm an cdv ct) ps sp:=by
 refine⟨len,fun A outer s H args us vs Q E hr e0 hb r hsp=>?_⟩
 have hl:=len _ _ _ _ hsp
 have KX:K.In s.heap:=e0.mod.kin.keeps fun b o e=>(e0.bs b o e).1
 have lim:s.heap.NoLimit:=e0.mod.nolimit.keeps fun b o e=>(e0.bs b o e).1
 have hkind:∀y∈ps.zip us,scope.names.lookup y.1=some .local\/(scope.names.lookup y.1=some .cell/\((cellsFrom (s.heap.objs.size+1) scope.names []).lookup y.1).isSome=true):=fun⟨n,v⟩ hy=>by
   rcases S.par n (List.of_mem_zip hy).1 with q | q
   . exact .inl q
   . exact .inr ⟨q,W.cellsFrom_some _ _ _ (.inl q)⟩
 refine codeAny_call_function hr.depth (KX _ _ lk) rfl S.co S.gen rfl (W.codeRec_of KX hcd) (hb _ _ _ _ ?_)
 refine wpAny_newFunctionEnv_cells S.kind hkind fun env he s1 x=>?_
 subst he
 refine⟨lim.keeps x.toInCall.keep,codeAny_func ?_⟩
 obtain⟨t,ht,hq⟩:=hbody A outer s H vs Q E (hr.deeper _) hsp
 have I:Inv (cxOf CX P w K mg base N qual scope f cdv A outer s H E) [] (start N vs) H s1:=inv_start S hr.hd e0 hl r x
 refine wpAny_mono (ht [] s1 (start N vs) H _ I hq) (fun fl s' hs=>?_) fun e s' hs=>hs
 have fin:∀ {σ':St} {H':Hp} {v:V} {u:Value},Inv (cxOf CX P w K mg base N qual scope f cdv A outer s H E) [] σ' H' s'->RelV v u->Q v H'->CE outer P w H s Q u s' :=
   fun {σ' H' v u} J rv q=>⟨v,H',J.os,J.bare,J.base,J.hok,rv,q⟩
 cases fl with
 | ret u =>
   obtain⟨v,σ',H',J,rv,q⟩:=hs
   exact fin J rv q
 | next =>
   obtain⟨σ',H',J,q⟩:=hs
   exact fin (v:=V.non) (u:=Value.none) J rfl q
 | brk =>
   obtain⟨_,_,_,q⟩:=hs
   exact False.elim q
 | cont =>
   obtain⟨_,_,_,q⟩:=hs
   exact False.elim q
section
variable {X:Cx} {x:Str} {p pos:Pos} {e:Expr} {es:List Expr} {t:TA} {id T:String} {r:List V->Hp->VK->Prop}
noncomputable def tCB (r:List V->Hp->VK->Prop)(t:TA):TE:=fun σ H Q=>t σ H fun vs H1=>r vs H1 Q
theorem zb0 (hc:zl1 X (.builtin id) r) (hg:Gl X x) (hm:X.mg x=none) (hv:bootBuiltins x=some (.builtin id)) (ha:PA X (e::es) t) (hn:x≠"__name__":=by decide) (hdb:(x == ("__debug__" : Str))=false:=by decide)
   (he:starEach (e::es) X.env=(false,eval e X.env)::starEach es X.env:=by rfl) (hpl:(backTo pos (starEach es X.env)).any (·.1)=false:=by rfl):PE X (.Call (.Name x p) (e::es) [] pos) (tCB r t):=by
 intro pins s σ H Q I h
 refine wpAny_Call_Name_kw (zw0 I hg hm hv ?_ hn hdb)
 exact PyProof.Rows.callWith_builtin1 (thn (ha pos pins s σ H _ I h) fun us s1 ⟨vs,H1,I1,r1,q1⟩=>hc pins s1 σ H1 vs us Q I1 r1 q1) he hpl
theorem zg3 (hc:zl1 X (.type T) r) (hg:Gl X x) (hm:X.mg x=none) (hv:bootBuiltins x=some (.type T)) (ha:PA X (e::es) t) (hn:x≠"__name__":=by decide) (hdb:(x == ("__debug__" : Str))=false:=by decide)
   (he:starEach (e::es) X.env=(false,eval e X.env)::starEach es X.env:=by rfl) (hpl:(backTo pos (starEach es X.env)).any (·.1)=false:=by rfl):PE X (.Call (.Name x p) (e::es) [] pos) (tCB r t):=by
 intro pins s σ H Q I h
 refine wpAny_Call_Name_kw (zw0 I hg hm hv ?_ hn hdb)
 exact PyProof.Rows.callWith_type1 (thn (ha pos pins s σ H _ I h) fun us s1 ⟨vs,H1,I1,r1,q1⟩=>hc pins s1 σ H1 vs us Q I1 r1 q1) he hpl
end
end L2
namespace HT
open PySem PyProof.Rows
section
open PySem.SeqAt
open PySem.AutoSeq1 (wpAny_loadPart')
open PySem.MeetsSeq PySem.MeetsSeq2 PySem.MeetsSeq3
end
section
variable {prog:Program} {w:World} {A:Around} {E:Value->Shared->Prop} {s:Shared}
theorem cat_tup {t b:Addr}{vs ws:List Value}{Q:Value->Shared->Prop}(ht:IsTup s.heap t vs.toArray)(hb:IsTup s.heap b ws.toArray)(hv:vs≠[])
   (h1:ws=[]->Q (.ref t) s) (h2:ws≠[]->Q (.ref s.heap.objs.size) { s with heap:=s.heap.push { cls:=.type "tuple",data:=.seq (vs++ws).toArray } })
   (hsz:vs.length+ws.length<=sizeLine):wpAny (model prog w) A (binaryOp .Add (.ref t) (.ref b)) Q E s:=by
 obtain⟨⟨cls,dd,data,sl⟩,ho,hc,n,hd⟩:=id ht
 obtain⟨⟨cls2,dd2,data2,sl2⟩,ho2,hc2,n2,hd2⟩:=id hb
 simp only at hc hd hc2 hd2
 subst hc hd hc2 hd2
 have e:vs.toArray++ws.toArray=(vs++ws).toArray:=by simp
 by_cases hw:ws=[]
 . exact concat_meets ⟨_,ho,rfl⟩ ⟨_,ho2,rfl⟩ noFill_tuple_add seq_tuple_add PySem.F.slot_tuple_add PySem.F.entry_tuple_add (PySem.F.args_tuple_add_2 _ _)
     (tuple_addW1 t b vs.toArray ws.toArray n n2 dd dd2 sl sl2 (by simpa using hv) (by simp[hw])) ⟨ho,ho2,h1 hw⟩
 . refine concat_meets ⟨_,ho,rfl⟩ ⟨_,ho2,rfl⟩ noFill_tuple_add seq_tuple_add PySem.F.slot_tuple_add PySem.F.entry_tuple_add (PySem.F.args_tuple_add_2 _ _)
     (tuple_addW2 t b vs.toArray ws.toArray n n2 dd dd2 sl sl2 (by simpa using hv) (by simpa using hw) (by rw[List.size_toArray,List.size_toArray];exact hsz)) ⟨ho,ho2,?_⟩
   rw[e]
   exact h2 hw
noncomputable def sIx (n d:Nat):Option Int->Nat
 | none=>d
 | some v=>if v<0 then(v+(n:Int)).toNat else min v.toNat n
theorem sIx_none (n d:Nat):sIx n d none=d:=rfl
theorem sIx_nat (n d k:Nat):sIx n d (some (k:Int))=min k n:=by
 show(if (k:Int)<0 then((k:Int)+(n:Int)).toNat else min (k:Int).toNat n)=min k n
 rw[if_neg (by omega),Int.toNat_natCast]
theorem sIx_le (n d:Nat)(hd:d<=n)(o:Option Int):sIx n d o<=n:=by
 cases o with
 | none=>exact hd
 | some v =>
   show(if v<0 then(v+(n:Int)).toNat else min v.toNat n)<=n
   by_cases hv:v<0
   . rw[if_pos hv];omega
   . rw[if_neg hv];exact Nat.min_le_right _ _
theorem yc2 (v:Int)(n d:Nat):(if v<0 then max (v+(n:Int)) 0 else min v (n:Int))=((sIx n d (some v):Nat):Int):=by
 show(if v<0 then max (v+(n:Int)) 0 else min v (n:Int))=(((if v<0 then(v+(n:Int)).toNat else min v.toNat n):Nat):Int)
 by_cases hv:v<0
 . simp only[if_pos hv];omega
 . simp only[if_neg hv];omega
theorem adjust_gen (lo hi:Option Int)(n:Nat):Builtin.Slice.sliceAdjust lo hi 1 (n:Int)=(((sIx n 0 lo:Nat):Int),((sIx n n hi:Nat):Int)):=by
 have h1:¬ ((1:Int)<0):=by omega
 unfold Builtin.Slice.sliceAdjust
 simp only[h1,if_false]
 refine Prod.ext ?_ ?_
 . cases lo with
   | none=>rfl
   | some v=>exact yc2 v n 0
 . cases hi with
   | none=>rfl
   | some v=>exact yc2 v n n
theorem places_gen (i j:Nat):Builtin.Slice.slicePlaces (i:Int) (j:Int) 1=j-i:=by
 unfold Builtin.Slice.slicePlaces
 have h1:(1:Int)>0:=by omega
 simp only[h1,if_true,Int.ediv_one]
 split<;>omega
theorem zK2 {v:Value}{o:Option Int}{Q:Option Int->Shared->Prop}(p:IsPart v o)(h:Q o s):wpAny (model prog w) A (Builtin.Slice.slicePartIndex v) Q E s:=by
 cases p with
 | none=>exact slicePart_none h
 | int i t=>exact slicePart_int h
theorem sliceApplied_gen {sl:Addr}{vl vu:Value}{lo hi:Option Int}{n:Nat}{Q:Int×Int×Nat->Shared->Prop}(hs:s.heap.IsSliceOf sl vl vu .none)(pl:IsPart vl lo)(pu:IsPart vu hi)
   (h:Q (((sIx n 0 lo:Nat):Int),1,sIx n n hi-sIx n 0 lo) s):wpAny (model prog w) A (Builtin.Slice.sliceApplied (.ref sl) (pure (n:Int))) Q E s:=by
 obtain⟨os,hos,hcs,hds⟩:=id hs
 unfold Builtin.Slice.sliceApplied Builtin.Slice.sliceFields
 refine wpAny_bind (wpAny_bind (wpAny_field hos hds (x:=vl) rfl (wpAny_bind (wpAny_field hos hds (x:=vu) rfl (wpAny_bind (wpAny_field hos hds (x:=.none) rfl (wpAny_pure ?_)))))))
 refine wpAny_bind (slicePart_none ?_)
 show wpAny _ _ (if ((1:Int) == 0)=true then _ else _) _ _ s
 rw[if_neg (by decide)]
 refine wpAny_bind (zK2 pl (wpAny_bind (zK2 pu (wpAny_bind (wpAny_pure ?_)))))
 show wpAny _ _ (match Builtin.Slice.sliceAdjust lo hi 1 (n:Int) with | (lo,hi)=>pure (lo,(1:Int),Builtin.Slice.slicePlaces lo hi 1)) _ _ s
 rw[adjust_gen lo hi n]
 show wpAny _ _ (pure (((sIx n 0 lo:Nat):Int),(1:Int),Builtin.Slice.slicePlaces ((sIx n 0 lo:Nat):Int) ((sIx n n hi:Nat):Int) 1)) _ _ s
 rw[places_gen]
 exact wpAny_pure h
theorem pick_gen (xs:Array Value)(i k:Nat):((List.range k).filterMap fun(m:Nat)=>xs[((i:Int)+(m:Int)*1).toNat]?).toArray=((xs.toList.drop i).take k).toArray:=by
 have e:(fun(m:Nat)=>xs[((i:Int)+(m:Int)*1).toNat]?)=fun m=>xs[i+m]?:=by
   funext m
   have:((i:Int)+(m:Int)*1).toNat=i+m:=by omega
   rw[this]
 rw[e]
 have:=pick_run xs i k
 rw[List.filterMap_map] at this
 have e2:((fun x=>xs[x]?) ∘ fun x=>i+x)=fun m=>xs[i+m]?:=rfl
 rw[e2] at this
 rw[this]
theorem getItem_tuple_cut {t sl:Addr}{items:Array Value}{vl vu:Value}{lo hi:Option Int}{Q:Value->Shared->Prop}(ht:IsTup s.heap t items)(hs:s.heap.IsSliceOf sl vl vu .none)(pl:IsPart vl lo)(pu:IsPart vu hi)
   (hw:¬ (sIx items.size 0 lo=0/\sIx items.size items.size hi=items.size))
   (h:Q (.ref s.heap.objs.size) { s with heap:=s.heap.push { cls:=.type "tuple",data:=.seq ((items.toList.drop (sIx items.size 0 lo)).take (sIx items.size items.size hi-sIx items.size 0 lo)).toArray } })
   (hsz:items.size<=sizeLine):wpAny (model prog w) A (getItem (.ref t) (.ref sl)) Q E s:=by
 have htake:sizeOk (.seq ((items.toList.drop (sIx items.size 0 lo)).take (sIx items.size items.size hi-sIx items.size 0 lo)).toArray):=by
   show((items.toList.drop (sIx items.size 0 lo)).take (sIx items.size items.size hi-sIx items.size 0 lo)).toArray.size<=sizeLine
   rw[List.size_toArray,List.length_take,List.length_drop,Array.length_toList]
   omega
 have hj:sIx items.size items.size hi<=items.size:=sIx_le _ _ (Nat.le_refl _) hi
 obtain⟨os,hos,hcs,hds⟩:=id hs
 have hTs:s.TypeIs (.ref sl) "slice":=⟨os,hos,hcs⟩
 unfold getItem
 try with_reducible refine wpAny_holding ?_
 first | refine wpAny_bind (wpAny_pure ?_) | skip
 refine wpAny_bind (wpAny_sequenceKey ht.typeIs (by decide) ?_)
 refine wpAny_bind (wpAny_callSpecial?_slot (name:=Str.ofString "__getitem__") ht.typeIs PyProof.Rows.slot_tuple_getitem
   (wpAny_call_entry PyProof.Rows.slot_tuple_getitem ht.typeIs entry_tuple_getitem ?_ (args_tuple_getitem _ _)))
 show wpAny _ _ (Builtin.Tuple.tupleItemsOf (.ref t) >>= _) _ _ s
 refine wpAny_bind (tupleItemsOf_ ht ?_)
 refine wpAny_bind (wpAny_typeOf hTs ?_)
 rw[if_pos (by decide)]
 refine wpAny_bind (sliceApplied_gen hs pl pu ?_)
 have hno:¬ ((((sIx items.size 0 lo:Nat):Int) == 0 && (1:Int) == 1 && (sIx items.size items.size hi-sIx items.size 0 lo) == items.size)=true):=by
   intro q
   rw[Bool.and_eq_true,Bool.and_eq_true] at q
   have q1:((sIx items.size 0 lo:Nat):Int)=0:=eq_of_beq q.1.1
   have q2:sIx items.size items.size hi-sIx items.size 0 lo=items.size:=eq_of_beq q.2
   exact hw ⟨by omega,by omega⟩
 show wpAny _ _ (if (((sIx items.size 0 lo:Nat):Int) == 0 && (1:Int) == 1 && (sIx items.size items.size hi-sIx items.size 0 lo) == items.size)=true then _ else _) _ _ s
 rw[if_neg hno,pick_gen]
 first
   | exact wpAny_bind (m:=Builtin.Tuple.tupleExact _) (wpAny_newObj_type (wpAny_pure ⟨_,rfl,wpAny_pure h⟩) htake)
   | exact wpAny_bind (m:=Builtin.Tuple.tupleExact _) (wpAny_newObj_type (wpAny_bind (wpAny_pure (wpAny_pure ⟨_,rfl,wpAny_pure h⟩))) htake)
   | exact wpAny_bind (wpAny_bind (m:=Builtin.Tuple.tupleExact _) (wpAny_newObj_type (wpAny_pure (wpAny_pure ⟨_,rfl,wpAny_pure h⟩)) htake))
   | exact wpAny_bind (wpAny_bind (m:=Builtin.Tuple.tupleExact _) (wpAny_newObj_type (wpAny_pure ⟨_,rfl,wpAny_pure h⟩) htake))
end
end HT
namespace L2
open PySem PySem.Spec PyProof.Rows
noncomputable abbrev TO:=St->Hp->(Option Int->Hp->Prop)->Prop
noncomputable def PO (X:Cx)(e:Option Expr)(t:TO):Prop :=
 ∀(pins:List (Addr×Obj)) (s:Shared) (σ:St) (H:Hp) (Q:Option Int->Hp->Prop),Inv X pins σ H s->t σ H Q →
   wpAny (model X.prog X.w) X.A (evalPart e X.env) (fun u s'=>∃o H',Inv X pins σ H' s'/\IsPart u o/\Q o H') X.xe s
noncomputable def tNoPart:TO:=fun _ H Q=>Q none H
noncomputable def tPart (t:TE):TO:=fun σ H Q=>t σ H fun x H1=>∃i,x = .int i/\Q (some i) H1
theorem zm2 {ns:List Int}:∀ {us:List Value},Vals (ns.map V.int) us->IntsAre us ns:=by
 induction ns with
 | nil=>intro us r;rw[List.map_nil] at r;cases r;exact .nil
 | cons n ns ih =>
   intro us r
   rw[List.map_cons] at r
   cases r with
   | cons r1 r2 =>
     obtain⟨t,e⟩:=r1
     subst e
     exact .cons n t (ih r2)
section
variable {X:Cx} {e:Expr} {te:TE} {lo hi:Option Expr} {tl th:TO} {pos p2:Pos}
theorem zC1:PO X none tNoPart:=by
 intro pins s σ H Q I h
 rw[evalPart_none]
 exact wpAny_pure ⟨none,H,I,.none,h⟩
theorem zC2 (h:PE X e te):PO X (some e) (tPart te):=by
 intro pins s σ H Q I hw
 rw[evalPart_some]
 refine thn (h pins s σ H _ I hw) fun u s1 ⟨x,H1,I1,r1,q1⟩=>?_
 obtain⟨i,rfl,q⟩:=q1
 obtain⟨t,rfl⟩:=r1
 exact⟨some i,H1,I1,.int i t,q⟩
noncomputable def SlR (X:Cx)(r:V->Option Int->Option Int->Hp->VK->Prop):Prop :=
 ∀(pins:List (Addr×Obj)) (s:Shared) (σ:St) (H:Hp) (x:V) (v vl vu:Value) (lo hi:Option Int) (sl:Addr) (Q:VK),Inv X pins σ H s->RelV x v->s.heap.IsSliceOf sl vl vu .none->IsPart vl lo->IsPart vu hi->r x lo hi H Q →
   ∃T id,typeLookup (.type T) "__getitem__" = pure (some (.builtin id))/\s.TypeIs v T/\wpAny (model X.prog X.w) X.A (getItem v (.ref sl)) (EP X pins σ Q) X.xe s
noncomputable def tSl (r:V->Option Int->Option Int->Hp->VK->Prop)(te:TE)(tl th:TO):TE:=fun σ H Q=>te σ H fun x H1=>tl σ H1 fun l H2=>th σ H2 fun u H3=>r x l u H3 Q
theorem zw2 {r:V->Option Int->Option Int->Hp->VK->Prop}(hr:SlR X r)(he:PE X e te)(hl:PO X lo tl)(hu:PO X hi th):PE X (.Subscript e (.Slice lo hi none p2) pos) (tSl r te tl th):=by
 intro pins s σ H Q I h
 refine Subscript_ (thn (he pins s σ H _ I h) fun v s1 ⟨x,H1,I1,r1,q1⟩=>?_)
 refine wpAny_Slice (thn (hl pins s1 σ H1 _ I1 q1) fun vl s2 ⟨l,H2,I2,pl,q2⟩=>thn (hu pins s2 σ H2 _ I2 q2) fun vu s3 ⟨u,H3,I3,pu,q3⟩=>?_)
 rw[evalPart_none]
 refine wpAny_pure ?_
 have I4:Inv X pins σ H3 { s3 with heap:=s3.heap.push { cls:=.type "slice",data:=.fields #[vl,vu,.none] } }:=I3.kept (t':=s3.toks) fun b ob q=>Heap.get?_push_of_some _ q
 obtain⟨T,id,hT,ht,hg⟩:=hr pins { s3 with heap:=s3.heap.push { cls:=.type "slice",data:=.fields #[vl,vu,.none] } } σ H3 x v vl vu l u s3.heap.objs.size Q I4 r1 (Heap.IsSliceOf.new ..) pl pu q3
 show wpAny (model X.prog X.w) X.A (subscriptTail e (.Slice lo hi none p2) v (.ref s3.heap.objs.size)) (EP X pins σ Q) X.xe { s3 with heap:=s3.heap.push { cls:=.type "slice",data:=.fields #[vl,vu,.none] } }
 exact tail_any (ops:=[.ref s3.heap.objs.size,v]) ht hT hg (by with_unfolding_all rfl)
noncomputable def cutV (xs:List V)(lo hi:Option Int):List V:=(xs.drop (HT.sIx xs.length 0 lo)).take (HT.sIx xs.length xs.length hi-HT.sIx xs.length 0 lo)
theorem zn2 (xs:List V)(lo hi:Option Int):(cutV xs lo hi).length<=xs.length:=by
 unfold cutV
 rw[List.length_take,List.length_drop]
 omega
inductive yh5 (K:W.Frag)(x:V)(lo:Option Int)(hi:Option Int)(H:Hp)(Q:VK):Prop
 | mk (a xs:_)(h0:x = .ref a)(h1:SqT K H a xs)(h2:¬ (HT.sIx xs.length 0 lo=0/\HT.sIx xs.length xs.length hi=xs.length))(h3:∀p,H p=none->Q (.ref p) (upd H p (.tup (cutV xs lo hi)))):yh5 K x lo hi H Q
noncomputable def rSlT (K:W.Frag):V->Option Int->Option Int->Hp->VK->Prop:=fun x lo hi H Q=>yh5 K x lo hi H Q
theorem zT5:SlR X (rSlT X.K):=by
 intro pins s σ H x v vl vu lo hi sl Q I rx hs pl pu h
 obtain⟨a,xs,rfl,hx,hw,q⟩:=h
 cases rx
 obtain⟨its,r,ht,hz⟩:=I.tuple hx
 have hlen:its.toArray.size=xs.length:=by rw[List.size_toArray];exact r.length.symm
 refine⟨"tuple",_,PyProof.Rows.slot_tuple_getitem.lookup,ht.typeIs,?_⟩
 refine HT.getItem_tuple_cut ht hs pl pu (by rw[hlen];exact hw) ?_ (by rw[hlen];exact hz)
 rw[hlen]
 refine⟨.ref s.heap.objs.size,_,I.laid (t':=s.toks) (o:=.tup (cutV xs lo hi)) (fun b ob q=>Heap.get?_push_of_some _ q) (Nat.le_refl _) ?_,rfl,q _ (I.hok.fresh (Nat.le_refl _))⟩
 exact⟨Nat.le_trans (zn2 xs lo hi) hz,_,(r.drop (HT.sIx xs.length 0 lo)).take (HT.sIx xs.length xs.length hi-HT.sIx xs.length 0 lo),TupD.new _ _⟩
inductive yc3 (K:W.Frag)(x:V)(y:V)(H:Hp)(Q:VK):Prop
 | mk (a b xs ys:_)(h0:x = .ref a)(h1:y = .ref b)(h2:SqT K H a xs)(h3:SqT K H b ys)(h4:xs≠[])(h5:xs.length+ys.length<=sizeLine)(h6:(ys=[]->Q (.ref a) H))(h7:(ys≠[]->∀p,H p=none->Q (.ref p) (upd H p (.tup (xs++ys))))):yc3 K x y H Q
noncomputable def rCatT (K:W.Frag):R2:=fun x y H Q=>yc3 K x y H Q
theorem Vals.nil_iff {xs:List V}{us:List Value}(r:Vals xs us):us=[]↔xs=[]:=by
 cases r with
 | nil=>simp
 | cons _ _=>simp
theorem op_catT:OpR X (binaryOp .Add) (rCatT X.K):=by
 intro pins s σ H x y v u Q I rx ry h
 obtain⟨a,b,xs,ys,rfl,rfl,ha,hb,hx,hz,q1,q2⟩:=h
 cases rx
 cases ry
 obtain⟨its,r1,p1,_⟩:=I.tuple ha
 obtain⟨its2,r2,p2,_⟩:=I.tuple hb
 refine HT.cat_tup p1 p2 (fun z=>hx (r1.nil_iff.mp z)) (fun z=>⟨.ref a,H,I,rfl,q1 (r2.nil_iff.mp z)⟩) (fun z=>?_) (by rw[<-r1.length,<-r2.length];exact hz)
 refine⟨.ref s.heap.objs.size,_,I.laid (t':=s.toks) (o:=.tup (xs++ys)) (fun b ob q=>Heap.get?_push_of_some _ q) (Nat.le_refl _) ?_,rfl,q2 (fun w=>z (r2.nil_iff.mpr w)) _ (I.hok.fresh (Nat.le_refl _))⟩
 exact⟨by rw[List.length_append];exact hz,_,r1.append r2,TupD.new _ _⟩
end
noncomputable def ixN (n:Nat)(i:Int):Option Nat:=if 0<=i then(if i<n then some i.toNat else none) else if -(n:Int)<=i then some (i+n).toNat else none
noncomputable def atI {α:Type}(xs:List α)(i:Int):Option α:=(ixN xs.length i).bind fun j=>xs[j]?
theorem yc4 {n:Nat}{i:Int}{j:Nat}(h:ixN n i=some j):seqIndex? i n=some j/\j<n/\-(n:Int)<=i/\i<n:=by
 unfold ixN at h
 by_cases h0:0<=i
 . rw[if_pos h0] at h
   by_cases h1:i<n
   . rw[if_pos h1] at h
     have e:i.toNat=j:=Option.some.inj h
     exact⟨by rw[seqIndex_of h0 h1,e],by omega,by omega,h1⟩
   . rw[if_neg h1] at h;cases h
 . rw[if_neg h0] at h
   by_cases h1:-(n:Int)<=i
   . rw[if_pos h1] at h
     have e:(i+n).toNat=j:=Option.some.inj h
     exact⟨by rw[seqIndex_neg (by omega) h1,e],by omega,h1,by omega⟩
   . rw[if_neg h1] at h;cases h
theorem zT6 {α:Type}{xs:List α}{i:Int}{v:α}(h:atI xs i=some v):∃j,seqIndex? i xs.length=some j/\xs[j]?=some v/\j<xs.length/\-(xs.length:Int)<=i/\i<xs.length:=by
 unfold atI at h
 cases e:ixN xs.length i with
 | none=>rw[e] at h;cases h
 | some j =>
   rw[e] at h
   obtain⟨h1,h2,h3,h4⟩:=yc4 e
   exact⟨j,h1,h,h2,h3,h4⟩
theorem zC3 {α:Type}{xs:List α}{j:Nat}{v:α}(h:xs[j]?=some v):atI xs (j:Int)=some v:=by
 have hj:j<xs.length:=(List.getElem?_eq_some_iff.mp h).1
 have e:ixN xs.length (j:Int)=some j:=by
   unfold ixN
   rw[if_pos (by omega),if_pos (by omega)];simp
 unfold atI;rw[e];exact h
noncomputable def yc5 (b:Expr):Prop:=∀o i,subscripted b false o i=operate [o,i] (getItem o i)
noncomputable def IxR (X:Cx)(r:R2):Prop :=
 ∀(value slice:Expr) (pins:List (Addr×Obj)) (s:Shared) (σ:St) (H:Hp) (x y:V) (v u:Value) (Q:VK),Inv X pins σ H s->RelV x v->RelV y u->r x y H Q →
   subscripted slice false v u=operate [v,u] (getItem v u)->wpAny (model X.prog X.w) X.A (subscriptTail value slice v u) (EP X pins σ Q) X.xe s
noncomputable def MtR (X:Cx)(id:String)(r:V->List V->Hp->VK->Prop):Prop :=
 ∀(pins:List (Addr×Obj)) (s:Shared) (σ:St) (H:Hp) (x:V) (xs:List V) (v:Value) (us:List Value) (Q:VK),Inv X pins σ H s->RelV x v->Vals xs us->r x xs H Q →
   wpAny (model X.prog X.w) X.A (call (.builtin id) (v::us)) (EP X pins σ Q) X.xe s
section
variable {X:Cx} {a b:Expr} {ta tb:TE} {pos:Pos}
theorem IxR.or {r r':R2}(h:IxR X r)(h':IxR X r'):IxR X (fun x y H Q=>r x y H Q\/r' x y H Q):=by
 intro value slice pins s σ H x y v u Q I rx ry q hs
 rcases q with q | q
 . exact h value slice pins s σ H x y v u Q I rx ry q hs
 . exact h' value slice pins s σ H x y v u Q I rx ry q hs
theorem zd3 {r:R2}(hr:IxR X r)(ha:PE X a ta)(hb:PE X b tb)(hs:yc5 b):PE X (.Subscript a b pos) (tOp r ta tb):=by
 intro pins s σ H Q I h
 exact Subscript_ (binT ha hb I h fun v u s2 x y H2 I2 rx ry q=>hr a b pins s2 σ H2 x y v u Q I2 rx ry q (hs _ _))
inductive yh6 (K:W.Frag)(x:V)(y:V)(H:Hp)(Q:VK):Prop
 | mk (p xs i v:_)(h0:x = .ref p)(h1:y = .int i)(h2:SqL K H p xs)(h3:atI xs i=some v)(h4:Q v H):yh6 K x y H Q
noncomputable def rIxL (K:W.Frag):R2:=fun x y H Q=>yh6 K x y H Q
inductive yh7 (K:W.Frag)(x:V)(y:V)(H:Hp)(Q:VK):Prop
 | mk (p xs i v:_)(h0:x = .ref p)(h1:y = .int i)(h2:SqT K H p xs)(h3:atI xs i=some v)(h4:Q v H):yh7 K x y H Q
noncomputable def rIxT (K:W.Frag):R2:=fun x y H Q=>yh7 K x y H Q
noncomputable def rIxS:R2:=fun x y H Q=>∃z i c,x = .str z/\y = .int i/\z.length<=sizeLine/\atI z.cps.toList i=some c/\Q (.str ⟨#[c]⟩) H
theorem zd6:IxR X (rIxL X.K):=by
 intro value slice pins s σ H x y v u Q I rx ry h hs
 obtain⟨p,xs,i,z,rfl,rfl,hq,he,q⟩:=h
 cases rx
 obtain⟨t,rfl⟩:=ry
 obtain⟨its,r,pl,hz⟩:=I.list hq
 obtain⟨j,h1,h2,h3,h4,h5⟩:=zT6 he
 obtain⟨w,ew,rw'⟩:=r.get h2
 have hl:=r.length
 have hn:=zK0
 have fin:EP X pins σ Q w s:=⟨z,H,I,rw',q⟩
 by_cases h0:0<=i
 . have hj:i.toNat=j:=by
     rw[seqIndex_of h0 h5] at h1
     exact Option.some.inj h1
   exact item_listR pl.isList h0 (by omega) (by rw[hj];simpa using ew) fin hs
 . have hj:(i+(its.toArray.size:Int)).toNat=j:=by
     rw[seqIndex_neg (by omega) h4] at h1
     rw[List.size_toArray,<-hl]
     exact Option.some.inj h1
   exact subscriptTail_builtinR (x:=w) pl.isList.typeIs slot_list_getitem.lookup
     (wpAny_getItem_list_neg (Q:=fun r s'=>r=w/\EP X pins σ Q r s') pl.isList (by omega) (by rw[List.size_toArray]<;>omega) (by omega) (by rw[hj];simpa using ew) ⟨rfl,fin⟩) hs
theorem zp8:IxR X (rIxT X.K):=by
 intro value slice pins s σ H x y v u Q I rx ry h hs
 obtain⟨p,xs,i,z,rfl,rfl,hq,he,q⟩:=h
 cases rx
 obtain⟨t,rfl⟩:=ry
 obtain⟨its,r,pl,hz⟩:=I.tuple hq
 obtain⟨j,h1,h2,h3,h4,h5⟩:=zT6 he
 obtain⟨w,ew,rw'⟩:=r.get h2
 have hl:=r.length
 have hn:=zK0
 have fin:EP X pins σ Q w s:=⟨z,H,I,rw',q⟩
 exact subscriptTail_builtinR (x:=w) pl.typeIs slot_tuple_getitem.lookup
   (getItem_tuple (j:=j) (Q:=fun r s'=>r=w/\EP X pins σ Q r s') pl (by omega) (by omega) (by rw[List.size_toArray,<-hl];exact h1) (by simpa using ew) ⟨rfl,fin⟩) hs
theorem ix_str:IxR X rIxS:=by
 intro value slice pins s σ H x y v u Q I rx ry h hs
 obtain⟨z,i,c,rfl,rfl,hz,he,q⟩:=h
 obtain⟨t,rfl⟩:=rx
 obtain⟨t',rfl⟩:=ry
 obtain⟨j,h1,h2,h3,h4,h5⟩:=zT6 he
 have hl:z.cps.toList.length=z.length:=by simp[Str.length]
 rw[hl] at h1 h4 h5
 have hn:=zK0
 exact tail_any (typeIs_str s z t) slot_str_getitem.lookup (getItem_str (c:=c) (by
   have e1:decide (i < -(2 ^ 63:Int))=false:=decide_eq_false (by omega)
   have e2:decide (i≥2 ^ 63)=false:=decide_eq_false (by omega)
   rw[e1,e2,Bool.or_false]) (by rw[h1];simpa using h2) ⟨.str ⟨#[c]⟩,H,I.tok _,⟨_,rfl⟩,q⟩) hs
noncomputable def rIx (K:W.Frag):R2:=fun x y H Q=>rIxL K x y H Q\/rIxT K x y H Q\/rIxS x y H Q
theorem zr4:IxR X (rIx X.K):=zd6.or (zp8.or ix_str)
theorem mapSeq_set (its:List Value) (n j:Nat) (u:Value):Obj.mapSeq (·.setIfInBounds j u) { cls:=.type "list",data:=.seq its.toArray n } = { cls:=.type "list",data:=.seq (its.set j u).toArray n }:=by
 simp[Obj.mapSeq]
theorem Inv.lst {pins:List (Addr×Obj)}{σ:St}{H:Hp}{s:Shared}{p:Addr}{xs:List V}(I:Inv X pins σ H s)(h:H p=some (.lst xs)) :
   ∃(its:List Value) (n:Nat),Vals xs its/\s.heap.get? p=some { cls:=.type "list",data:=.seq its.toArray n }/\xs.length<=sizeLine:=by
 obtain⟨z,its,n,r,e⟩:=I.hok p _ h
 exact⟨its,n,r,e,z⟩
theorem Inv.lstUpd {pins:List (Addr×Obj)}{σ:St}{H:Hp}{s:Shared}{p:Addr}{xs ys:List V}{its its':List Value}{n n':Nat}{f:Obj->Obj}(I:Inv X pins σ H s)(h:H p=some (.lst xs))
   (ho:s.heap.get? p=some { cls:=.type "list",data:=.seq its.toArray n }) (hf:f { cls:=.type "list",data:=.seq its.toArray n } = { cls:=.type "list",data:=.seq its'.toArray n' }) (r:Vals ys its') (hz:ys.length<=sizeLine) (t:Nat) :
   Inv X pins σ (upd H p (.lst ys)) { s with heap:=s.heap.update p f,toks:=t }:=by
 have e:(s.heap.update p f).get? p=some { cls:=.type "list",data:=.seq its'.toArray n' }:=by
   rw[Heap.get?_update_self f ho (by rw[hf]<;>rfl),hf]
 refine I.write (x:=p) (e:=p) (by rw[h];trivial) (.inl rfl) (fun b u hb q=>(Heap.get?_update_other _ _ (Ne.symm hb)).trans q) ⟨_,e⟩ ?_
 exact⟨hz,its',n',r,e⟩
inductive yc6  (o:V)(i:V)(v:V)(H:Hp)(Q:Hp->Prop):Prop
 | mk (p xs k j:_)(h0:o = .ref p)(h1:i = .int k)(h2:H p=some (.lst xs))(h3:ixN xs.length k=some j)(h4:Q (upd H p (.lst (xs.set j v)))):yc6  o i v H Q
noncomputable def rSetL:V->V->V->Hp->(Hp->Prop)->Prop:=fun o i v H Q=>yc6  o i v H Q
theorem set_list:PSet X rSetL:=by
 intro pins s σ H o i v ov iv u Q I ro ri rv h
 obtain⟨p,xs,k,j,rfl,rfl,hp,hj,q⟩:=h
 cases ro
 obtain⟨t,rfl⟩:=ri
 obtain⟨its,n,r,ho,hz⟩:=I.lst hp
 obtain⟨h1,h2,h3,h4⟩:=yc4 hj
 have hl:=r.length
 have hn:=zK0
 have I':Inv X pins σ (upd H p (.lst (xs.set j v))) { s with heap:=s.heap.update p (Obj.mapSeq (·.setIfInBounds j u)) } :=
   I.lstUpd hp ho (mapSeq_set its n j u) (r.set rv j) (by rw[List.length_set];exact hz) s.toks
 by_cases h0:0<=k
 . have hk:k.toNat=j:=by
     rw[seqIndex_of h0 h4] at h1
     exact Option.some.inj h1
   exact W.ki_setAt ho h0 (by omega) (by rw[List.size_toArray,<-hl];exact h4) (by rw[hk];exact⟨_,I',q⟩)
 . have hk:(k+(its.toArray.size:Int)).toNat=j:=by
     rw[seqIndex_neg (by omega) h3] at h1
     rw[List.size_toArray,<-hl]
     exact Option.some.inj h1
   exact W.ki_setBack ho (by omega) (by rw[List.size_toArray,<-hl];exact h3) (by omega) (by rw[hk];exact⟨_,I',q⟩)
theorem slice_bounds (lo hi:Option Int)(n:Nat):(sliceBounds lo hi none n).1=((HT.sIx n 0 lo:Nat):Int)/\(sliceBounds lo hi none n).2.1=((HT.sIx n n hi:Nat):Int)/\(sliceBounds lo hi none n).2.2=1:=by
 refine⟨?_,?_,rfl⟩
 . cases lo with
   | none=>simp[sliceBounds,HT.sIx]
   | some i =>
     simp only[sliceBounds,HT.sIx,Option.getD_none,show(1:Int)>0 by decide,if_true]
     by_cases h:i<0
     . simp only[h,if_true]<;>omega
     . simp only[h,if_false]<;>omega
 . cases hi with
   | none=>simp[sliceBounds,HT.sIx]
   | some i =>
     simp only[sliceBounds,HT.sIx,Option.getD_none,show(1:Int)>0 by decide,if_true]
     by_cases h:i<0
     . simp only[h,if_true]<;>omega
     . simp only[h,if_false]<;>omega
theorem slicePick_cut (its:List Value)(lo hi:Option Int):slicePick its.toArray lo hi none=((its.drop (HT.sIx its.length 0 lo)).take (HT.sIx its.length its.length hi-HT.sIx its.length 0 lo)).toArray:=by
 obtain⟨h1,h2,h3⟩:=slice_bounds lo hi its.toArray.size
 unfold slicePick
 rw[h1,h2,h3]
 simp only[sliceRange_one,pick_run,List.size_toArray]<;>rfl
inductive yh8 (K:W.Frag)(x:V)(lo:Option Int)(hi:Option Int)(H:Hp)(Q:VK):Prop
 | mk (a xs:_)(h0:x = .ref a)(h1:SqL K H a xs)(h2:∀p,H p=none->Q (.ref p) (upd H p (.lst (cutV xs lo hi)))):yh8 K x lo hi H Q
noncomputable def rSlL (K:W.Frag):V->Option Int->Option Int->Hp->VK->Prop:=fun x lo hi H Q=>yh8 K x lo hi H Q
theorem sl_list:SlR X (rSlL X.K):=by
 intro pins s σ H x v vl vu lo hi sl Q I rx hs pl pu h
 obtain⟨a,xs,rfl,hx,q⟩:=h
 cases rx
 obtain⟨its,r,ht,hz⟩:=I.list hx
 have hlen:=r.length
 refine⟨"list",_,slot_list_getitem.lookup,ht.isList.typeIs,?_⟩
 refine wpAny_getItem_list_slice ht.isList hs pl pu .none (by simp) ?_ (by rw[List.size_toArray]<;>omega)
 rw[slicePick_cut,<-hlen]
 refine⟨.ref s.heap.objs.size,_,I.laid (t':=s.toks) (o:=.lst (cutV xs lo hi)) (fun b ob q=>Heap.get?_push_of_some _ q) (Nat.le_refl _) ?_,rfl,q _ (I.hok.fresh (Nat.le_refl _))⟩
 exact⟨Nat.le_trans (zn2 xs lo hi) hz,_,0,(r.drop (HT.sIx xs.length 0 lo)).take (HT.sIx xs.length xs.length hi-HT.sIx xs.length 0 lo),Heap.get?_push_size _ rfl⟩
theorem zb7:zl1 X (.builtin "len") (fun xs H Q=>∃p ys,xs=[.ref p]/\(SqL X.K H p ys\/SqT X.K H p ys)/\Q (.int ys.length) H):=by
 intro pins s σ H xs us Q I r h
 obtain⟨p,ys,rfl,hq,q⟩:=h
 obtain⟨u,rfl,rx⟩:=zr6 r
 cases rx
 have hn:=zK0
 rcases hq with hq | hq
 . obtain⟨its,r',pl,hz⟩:=I.list hq
   have hlen:=r'.length
   exact Calls.call_len_list pl.isList (by simp only[List.size_toArray]<;>omega) ⟨.int ys.length,H,I.tok _,⟨s.toks+1,by rw[List.size_toArray,hlen]⟩,q⟩
 . obtain⟨its,r',pl,hz⟩:=I.tuple hq
   have hlen:=r'.length
   exact len_tuple pl (by simp only[List.size_toArray]<;>omega) ⟨.int ys.length,H,I.tok _,⟨s.toks+1,by rw[List.size_toArray,hlen]⟩,q⟩
theorem zC4:zl1 X (.type "list") (fun xs H Q=>∃p ys,xs=[.ref p]/\(SqL X.K H p ys\/SqT X.K H p ys)/\∀l,H l=none->Q (.ref l) (upd H l (.lst ys))):=by
 intro pins s σ H xs us Q I r h
 obtain⟨p,ys,rfl,hq,q⟩:=h
 obtain⟨u,rfl,rx⟩:=zr6 r
 cases rx
 have fin:∀(its:List Value),Vals ys its->ys.length<=sizeLine->∀(h':Heap) (c':Nat),(∀b o',s.heap.get? b=some o'->h'.get? b=some o') →
     h'.get? s.heap.objs.size=some { cls:=.type "list",dict:=none,data:=.seq its.toArray c',slots:=#[] }->EP X pins σ Q (.ref s.heap.objs.size) { s with heap:=h' }:=fun its r' hz h' c' kp e =>
   ⟨.ref s.heap.objs.size,_,I.laid (t':=s.toks) kp (Nat.le_refl _) (show ze9 X.prog X.w _ h' _ (.lst ys) from⟨hz,its,c',r',e⟩),rfl,q _ (I.hok.fresh (Nat.le_refl _))⟩
 rcases hq with hq | hq
 . obtain⟨its,r',pl,hz⟩:=I.list hq
   have hlen:=r'.length
   obtain⟨o,ho,hc,n,hd⟩:=pl.isList
   exact call_list_seq p (.inl rfl) ho hc hd (fun h' c' kp e=>fin its r' hz h' c' kp e) (by simp only[List.size_toArray]<;>omega)
 . obtain⟨its,r',pl,hz⟩:=I.tuple hq
   have hlen:=r'.length
   obtain⟨o,ho,hc,n,hd⟩:=pl
   exact call_list_seq p (.inr rfl) ho hc hd (fun h' c' kp e=>fin its r' hz h' c' kp e) (by simp only[List.size_toArray]<;>omega)
theorem zh7:zl1 X (.type "tuple") (fun xs H Q=>∃p ys,xs=[.ref p]/\((SqL X.K H p ys/\∀l,H l=none->Q (.ref l) (upd H l (.tup ys)))\/(SqT X.K H p ys/\Q (.ref p) H))):=by
 intro pins s σ H xs us Q I r h
 obtain⟨p,ys,rfl,h⟩:=h
 obtain⟨u,rfl,rx⟩:=zr6 r
 cases rx
 rcases h with⟨hq,q⟩ | ⟨hq,q⟩
 . obtain⟨its,r',pl,hz⟩:=I.list hq
   have hlen:=r'.length
   refine call_tuple_list pl.isList (fun h' kp=>?_) (by simp only[List.size_toArray]<;>omega)
   have I1:Inv X pins σ H { s with heap:=h' }:=I.kept (t':=s.toks) kp
   have I2:Inv X pins σ (upd H h'.objs.size (.tup ys)) { s with heap:=h'.push { cls:=.type "tuple",data:=.seq its.toArray } } :=
     I1.laid (t':=s.toks) (fun b o e=>Heap.get?_push_of_some _ e) (Nat.le_refl _) (show ze9 X.prog X.w _ _ _ (.tup ys) from⟨hz,its,r',TupD.new _ _⟩)
   exact⟨.ref h'.objs.size,_,I2,rfl,q _ (I1.hok.fresh (Nat.le_refl _))⟩
 . obtain⟨its,r',pl,hz⟩:=I.tuple hq
   exact call_tuple_same pl ⟨.ref p,H,I,rfl,q⟩
noncomputable def tyV (K:W.Frag)(T:String)(x:V)(H:Hp):Prop:=match x with
 | .str _=>T = "str"
 | .int _=>T = "int"
 | .ref p=>(T = "list"/\∃xs,SqL K H p xs)\/(T = "tuple"/\∃o,K.lookup p=some o/\o.cls = .type "tuple"/\o.dict=none) ∨
     (T = "dict"/\((∃kvs,H p=some (.dK kvs))\/∃kvs,H p=some (.dT kvs)))\/(T = "set"/\∃S n,H p=some (.set S n))
 | _=>False
theorem yh9 {pins:List (Addr×Obj)}{σ:St}{H:Hp}{s:Shared}{T:String}{x:V}{v:Value}(I:Inv X pins σ H s)(r:RelV x v)(ty:tyV X.K T x H) :
   s.TypeIs v T/\∀a,v = .ref a->∃ob,s.heap.get? a=some ob/\ob.dict=none:=by
 cases x with
 | str z =>
   obtain⟨t,rfl⟩:=r
   cases (show T = "str" from ty)
   exact⟨typeIs_str s z t,fun _ e=>nomatch e⟩
 | int i =>
   obtain⟨t,rfl⟩:=r
   cases (show T = "int" from ty)
   exact⟨typeIs_int s i t,fun _ e=>nomatch e⟩
 | ref p =>
   cases r
   rcases ty with⟨rfl,xs,hq⟩ | ⟨rfl,o,hk,hc,hd⟩ | ⟨rfl,hk⟩ | ⟨rfl,S,n,hk⟩
   . obtain⟨its,_,pl,_⟩:=I.list hq
     refine⟨pl.isList.typeIs,fun a e=>?_⟩
     cases e
     obtain⟨o,n,e,c,hd,_⟩:=pl
     exact⟨o,e,hd⟩
   . refine⟨⟨o,I.kIn p o hk,hc⟩,fun a e=>?_⟩
     cases e
     exact⟨o,I.kIn _ o hk,hd⟩
   . have z:∃o,s.heap.get? p=some o/\o.ExactDict:=by
       rcases hk with⟨kvs,hk⟩ | ⟨kvs,hk⟩
       . obtain⟨_,_,_,_,o,_,_,e,ex,_⟩:=I.hok p _ hk
         exact⟨o,e,ex⟩
       . obtain⟨_,_,_,_,o,_,_,e,ex,_⟩:=I.hok p _ hk
         exact⟨o,e,ex⟩
     obtain⟨o,e,ex⟩:=z
     refine⟨⟨o,e,ex.1⟩,fun a e2=>?_⟩
     cases e2
     exact⟨o,e,ex.2.1⟩
   . obtain⟨o,_,_,_,e,ex,_⟩:=I.hok p _ hk
     refine⟨⟨o,e,ex.1⟩,fun a e2=>?_⟩
     cases e2
     exact⟨o,e,ex.2.1⟩
 | _=>exact False.elim ty
noncomputable def tBM0 (K:W.Frag)(T:String)(r:V->List V->Hp->VK->Prop)(to:TE):TE:=fun σ H Q=>to σ H fun x H1=>tyV K T x H1/\r x [] H1 Q
noncomputable def tBM (K:W.Frag)(T:String)(r:V->List V->Hp->VK->Prop)(to:TE)(t:TA):TE:=fun σ H Q=>to σ H fun x H1=>tyV K T x H1/\t σ H1 fun xs H2=>r x xs H2 Q
variable {o e:Expr} {es:List Expr} {to:TE} {t:TA} {name:Str} {apos cpos:Pos} {T id:String} {r:V->List V->Hp->VK->Prop}
theorem pe_bm0 (pa:PlainAttrs T) (slot:Slot T name id) (hty:typeOf (.builtin id)=pure (.type "method_descriptor")) (hm:MtR X id r) (ho:PE X o to)
   (hbase:attributeBase o name X.env (eval o X.env)=eval o X.env:=by rfl) (hline:(apos.endLine == cpos.line)=true:=by rfl):PE X (.Call (.Attribute o name apos) [] [] cpos) (tBM0 X.K T r to):=by
 intro pins s σ H Q I h
 refine wpAny_Call_method0_late hbase hline (thn (ho pins s σ H _ I h) fun v s1 ⟨x,H1,I1,r1,ty,q1⟩=>?_)
 obtain⟨h1,h2⟩:=yh9 I1 r1 ty
 exact⟨T,id,pa,slot,hty,h1,h2,Calls.callWith_builtin rfl (PySem.evalArgs_none (hm pins s1 σ H1 x [] v [] Q I1 r1 .nil q1))⟩
theorem zv7 (pa:PlainAttrs T) (slot:Slot T name id) (hty:typeOf (.builtin id)=pure (.type "method_descriptor")) (hm:MtR X id r) (ho:PE X o to) (ha:PA X (e::es) t)
   (hbase:attributeBase o name X.env (eval o X.env)=eval o X.env:=by rfl)
   (hfew:((backTo cpos (starEach (e::es) X.env)).all (fun x=>!x.1) && (backToKw cpos (keywordEach [] X.env)).all (fun x=>x.1.isSome)
     && decide ((e::es).length+([]:List Keyword).length+(if ([]:List Keyword).isEmpty then 0 else 1)<30))=true:=by rfl)
   (hline:(apos.endLine == cpos.line)=true:=by rfl) (hs:starEach (e::es) X.env=(false,eval e X.env)::starEach es X.env:=by rfl) (hplain:(backTo cpos (starEach es X.env)).any (·.1)=false:=by rfl) :
   PE X (.Call (.Attribute o name apos) (e::es) [] cpos) (tBM X.K T r to t):=by
 intro pins s σ H Q I h
 refine wpAny_Call_method_late hbase hfew hline rfl (thn (ho pins s σ H _ I h) fun v s1 ⟨x,H1,I1,r1,ty,q1⟩=>?_)
 obtain⟨h1,h2⟩:=yh9 I1 r1 ty
 refine⟨T,id,pa,slot,hty,h1,h2,?_⟩
 have hA:=ha cpos pins s1 σ H1 _ I1 q1
 rw[hs] at hA ⊢
 refine Calls.callWith_builtin (by show(false || (backTo cpos (starEach es X.env)).any (·.1))=false;rw[hplain]<;>rfl) (Calls.evalArgs_plain ?_)
 exact thn hA fun us s2 ⟨vs,H2,I2,r2,q2⟩=>hm pins s2 σ H2 x vs v us Q I2 r1 r2 q2
/- xs.append(e),list.index on a module's tuple .. are MtR facts of 06m -/
end
noncomputable def MtM (X:Cx)(id:String)(r:V->List V->Hp->VK->Prop):Prop :=
 ∀(pins:List (Addr×Obj)) (s:Shared) (σ:St) (H:Hp) (x:V) (xs:List V) (v:Value) (us:List Value) (Q:VK),Inv X pins σ H s->RelV x v->Vals xs us->r x xs H Q →
   wpAny (model X.prog X.w) X.A (call (.builtin id) (v::us)) (EP X pins σ Q) X.xe s
theorem Vals.one:∀ {x:V} {us:List Value},Vals [x] us->∃u,us=[u]/\RelV x u
 | _,_,.cons r .nil=>⟨_,rfl,r⟩
theorem Vals.zero:∀ {us:List Value},Vals [] us->us=[]
 | _,.nil=>rfl
theorem Vals.eraseIdx:∀ {xs:List V} {us:List Value} (i:Nat),Vals xs us->Vals (xs.eraseIdx i) (us.eraseIdx i)
 | _,_,_,.nil=>.nil
 | _,_,0,.cons _ t=>t
 | _,_,i+1,.cons r t=>.cons r (Vals.eraseIdx i t)
theorem Vals.reverse {xs:List V}{us:List Value}(h:Vals xs us):Vals xs.reverse us.reverse:=by
 induction h with
 | nil=>exact .nil
 | cons r t ih=>rw[List.reverse_cons,List.reverse_cons];exact Vals.append ih (.cons r .nil)
theorem Vals.rep {xs:List V}{us:List Value}(h:Vals xs us):∀k:Nat,Vals (List.replicate k xs).flatten (List.replicate k us).flatten
 | 0=>.nil
 | k+1=>by
   rw[List.replicate_succ,List.replicate_succ,List.flatten_cons,List.flatten_cons]
   exact Vals.append h (Vals.rep h k)
theorem zO0 {α:Type}:∀(l:List α) (i:Nat),(l.eraseIdx i).length<=l.length
 | [],_=>Nat.le_refl _
 | _::_,0=>Nat.le_succ _
 | _::r,i+1=>Nat.succ_le_succ (zO0 r i)
theorem zO1 (its:List Value):∀(k:Nat) (acc:List Value),
   List.foldl (fun x1 x2=>x1++x2) acc.toArray (List.replicate k its.toArray)=(acc++(List.replicate k its).flatten).toArray
 | 0,acc=>by simp
 | k+1,acc=>by
   have e:acc.toArray++its.toArray=(acc++its).toArray:=by simp
   have e2:(acc++its)++(List.replicate k its).flatten=acc++(List.replicate (k+1) its).flatten:=by
     rw[List.replicate_succ,List.flatten_cons,List.append_assoc]
   rw[<-e2,<-zO1 its k (acc++its),<-e,List.replicate_succ,List.foldl_cons]
section
variable {X:Cx} {pins:List (Addr×Obj)} {σ:St} {H:Hp} {s:Shared} {l b:Addr} {xs ys zs:List V}
theorem Inv.lset {its its':List Value}{n:Nat}{f:Array Value->Array Value}{t':Nat}(I:Inv X pins σ H s)(hH:H l=some (.lst xs))
   (e:s.heap.get? l=some { cls:=.type "list",data:=.seq its.toArray n }) (hf:f its.toArray=its'.toArray) (hv:Vals ys its') (hz:ys.length<=sizeLine) :
   Inv X pins σ (upd H l (.lst ys)) { s with heap:=s.heap.update l (Obj.mapSeq f),toks:=t' }:=by
 have q:=PySem.IsL.update e f
 rw[hf] at q
 refine I.write (x:=l) (e:=l) (by rw[hH];exact trivial) (.inl rfl) (fun b' u hb hu=>(Heap.get?_update_other s.heap (Obj.mapSeq f) (Ne.symm hb)).trans hu) ⟨_,q⟩ ?_
 exact⟨hz,its',_,hv,q⟩
theorem Inv.lnew {its:List Value}{t':Nat}(I:Inv X pins σ H s)(hv:Vals ys its)(hz:ys.length<=sizeLine) :
   Inv X pins σ (upd H s.heap.objs.size (.lst ys)) { s with heap:=s.heap.push { cls:=.type "list",data:=.seq its.toArray },toks:=t' } :=
 I.laid (fun _ _ q=>Heap.get?_push_of_some _ q) (Nat.le_refl _) ⟨hz,its,0,hv,Heap.get?_push_size _ rfl⟩
theorem Inv.fresh (I:Inv X pins σ H s):H s.heap.objs.size=none:=I.hok.fresh (Nat.le_refl _)
theorem Inv.lstM (I:Inv X pins σ H s) (hH:H l=some (.lst xs)):xs.length<=sizeLine/\∃(its:List Value) (n:Nat),Vals xs its/\xs.length=its.length/\s.heap.get? l=some { cls:=.type "list",data:=.seq its.toArray n }:=by
 obtain⟨z,its,n,r,e⟩:=I.hok l _ hH
 exact⟨z,its,n,r,r.length,e⟩
theorem zW6 {n:Nat}(h:n<=sizeLine):Builtin.List.listTooLong n=false:=by
 unfold Builtin.List.listTooLong
 exact decide_eq_false (by omega)
end
section
variable {X:Cx}
inductive zO2  (x:V)(vs:List V)(H:Hp)(Q:VK):Prop
 | mk (l xs y:_)(h0:x = .ref l)(h1:vs=[y])(h2:H l=some (.lst xs))(h3:xs.length<sizeLine)(h4:Q .non (upd H l (.lst (xs++[y])))):zO2  x vs H Q
noncomputable def rAppend:V->List V->Hp->VK->Prop:=fun x vs H Q=>zO2  x vs H Q
theorem zk6:MtM X "list.append" rAppend:=by
 intro pins s σ H x vs v us Q I rx rv h
 obtain⟨l,xs,y,rfl,rfl,hH,hz,q⟩:=h
 cases rx
 obtain⟨u,rfl,ru⟩:=rv.one
 obtain⟨z,its,n,r,hl,e⟩:=I.lstM hH
 refine call_meets F.slot_list_append ⟨_,e,rfl⟩ F.entry_list_append (F.args_list_append_2 _ _) (PySem.list_append l its.toArray n u (by rw[List.size_toArray];omega)) ⟨e,?_⟩
 refine⟨.non,_,I.lset (its':=its++[u]) hH e (by simp) (r.append (.cons ru .nil)) ?_,rfl,q⟩
 rw[List.length_append,List.length_singleton]
 omega
noncomputable def rExtend:V->List V->Hp->VK->Prop:=fun x vs H Q=>∃l b xs zs,x = .ref l/\vs=[.ref b]/\H l=some (.lst xs)/\H b=some (.lst zs)/\xs.length+zs.length<=sizeLine/\Q .non (upd H l (.lst (xs++zs)))
theorem mt_extend:MtM X "list.extend" rExtend:=by
 intro pins s σ H x vs v us Q I rx rv h
 obtain⟨l,b,xs,zs,rfl,rfl,hH,hB,hz,q⟩:=h
 cases rx
 obtain⟨u,rfl,ru⟩:=rv.one
 cases ru
 obtain⟨z,its,n,r,hl,e⟩:=I.lstM hH
 obtain⟨z2,its2,n2,r2,hl2,e2⟩:=I.lstM hB
 have hsz:its.toArray.size+its2.toArray.size<=sizeLine:=by rw[List.size_toArray,List.size_toArray];omega
 have hlong:¬ (!its.toArray.isEmpty && Builtin.List.listTooLong (its.toArray.size+its2.toArray.size))=true:=by
   rw[zW6 hsz,Bool.and_false]
   exact Bool.false_ne_true
 refine call_meets F.slot_list_extend ⟨_,e,rfl⟩ F.entry_list_extend (F.args_list_extend_2 _ _)
   (AutoSeq1.list_extend_list_list_0 l its.toArray n b its2.toArray n2 hlong (by rw[List.size_toArray];omega) (by omega)) ⟨e,e2,?_⟩
 refine⟨.non,_,I.lset (its':=its++its2) hH e (by simp) (r.append r2) ?_,rfl,q⟩
 rw[List.length_append]
 omega
noncomputable def rPopAt:V->List V->Hp->VK->Prop:=fun x vs H Q=>∃l xs i k y,x = .ref l/\vs=[.int i]/\H l=some (.lst xs)/\-(2 ^ 63)<=i/\i<2 ^ 63/\seqIndex? i xs.length=some k/\xs[k]?=some y/\Q y (upd H l (.lst (xs.eraseIdx k)))
theorem mt_popAt:MtM X "list.pop" rPopAt:=by
 intro pins s σ H x vs v us Q I rx rv h
 obtain⟨l,xs,i,k,y,rfl,rfl,hH,h1,h2,hk,hy,q⟩:=h
 cases rx
 obtain⟨u,rfl,ru⟩:=rv.one
 obtain⟨t,rfl⟩:=ru
 obtain⟨z,its,n,r,hl,e⟩:=I.lstM hH
 obtain⟨w,hw,rw'⟩:=r.get hy
 refine call_meets F.slot_list_pop ⟨_,e,rfl⟩ F.entry_list_pop (F.args_list_pop_2 _ _)
   (MeetsSeq.list_pop_at l its.toArray n i t k w (fitsIndex_both h1 h2) (by rw[List.size_toArray,<-hl];exact hk) (by rw[<-Array.getElem?_toList];exact hw) (by rw[List.size_toArray];omega)) ⟨e,?_⟩
 refine⟨y,_,I.lset (its':=its.eraseIdx k) hH e ?_ (r.eraseIdx k) ?_,rw',q⟩
 . show its.toArray.eraseIdxIfInBounds k=(its.eraseIdx k).toArray
   rw[List.eraseIdxIfInBounds_toArray]
 . have:=zO0 xs k
   omega
noncomputable def rReverse:V->List V->Hp->VK->Prop:=fun x vs H Q=>∃l xs,x = .ref l/\vs=[]/\H l=some (.lst xs)/\Q .non (upd H l (.lst xs.reverse))
theorem mt_reverse:MtM X "list.reverse" rReverse:=by
 intro pins s σ H x vs v us Q I rx rv h
 obtain⟨l,xs,rfl,rfl,hH,q⟩:=h
 cases rx
 have hus:=rv.zero
 subst hus
 obtain⟨z,its,n,r,hl,e⟩:=I.lstM hH
 refine call_meets F.slot_list_reverse ⟨_,e,rfl⟩ F.entry_list_reverse (F.args_list_reverse_1 _) (AutoSeq1.list_reverse_list_0 l its.toArray n (by rw[List.size_toArray];omega)) ⟨e,?_⟩
 refine⟨.non,_,I.lset (its':=its.reverse) hH e (by simp) r.reverse ?_,rfl,q⟩
 rw[List.length_reverse]
 omega
inductive yi0  (x:V)(y:V)(H:Hp)(Q:VK):Prop
 | mk (l b xs zs:_)(h0:x = .ref l)(h1:y = .ref b)(h2:H l=some (.lst xs))(h3:H b=some (.lst zs))(h4:xs.length+zs.length<=sizeLine)(h5:∀p,H p=none->Q (.ref p) (upd H p (.lst (xs++zs)))):yi0  x y H Q
noncomputable def rCat:R2:=fun x y H Q=>yi0  x y H Q
theorem op_cat:OpR X (binaryOp .Add) rCat:=by
 intro pins s σ H x y v u Q I rx ry h
 obtain⟨l,b,xs,zs,rfl,rfl,hH,hB,hz,q⟩:=h
 cases rx
 cases ry
 obtain⟨z,its,n,r,hl,e⟩:=I.lstM hH
 obtain⟨z2,its2,n2,r2,hl2,e2⟩:=I.lstM hB
 refine PySem.P.add_list e e2 ?_ (by rw[List.size_toArray,List.size_toArray];omega)
 have ea:its.toArray++its2.toArray=(its++its2).toArray:=by simp
 rw[ea]
 exact⟨.ref _,_,I.lnew (t':=s.toks) (r.append r2) (by rw[List.length_append];omega),rfl,q _ I.fresh⟩
noncomputable def rRep:R2:=fun x y H Q=>∃l k xs,x = .ref l/\y = .int k/\H l=some (.lst xs)/\-(2 ^ 63)<=k/\k<2 ^ 63/\xs.length*k.toNat<=sizeLine ∧
 ∀p,H p=none->Q (.ref p) (upd H p (.lst (List.replicate k.toNat xs).flatten))
theorem zT7 {α:Type}(xs:List α)(k:Nat):(List.replicate k xs).flatten.length=k*xs.length:=by
 induction k with
 | zero=>simp
 | succ k ih=>rw[List.replicate_succ,List.flatten_cons,List.length_append,ih,Nat.succ_mul,Nat.add_comm]
theorem zT8:OpR X (binaryOp .Mult) rRep:=by
 intro pins s σ H x y v u Q I rx ry h
 obtain⟨l,k,xs,rfl,rfl,hH,h1,h2,hz,q⟩:=h
 cases rx
 obtain⟨t,rfl⟩:=ry
 obtain⟨z,its,n,r,hl,e⟩:=I.lstM hH
 have hlen:its.toArray.size*k.toNat<=sizeLine:=by rw[List.size_toArray,<-hl];exact hz
 have hcap:¬ its.toArray.size*k.toNat>(2 ^ 63-1) / 8:=by
   have:(sizeLine:Nat)<=(2 ^ 63-1) / 8:=by decide
   omega
 have hfit:¬ (!Builtin.List.listFitsIndex k)=true:=by
   rw[fitsIndex_both h1 h2]
   exact Bool.false_ne_true
 have hlong:¬ Builtin.List.listTooLong (its.toArray.size*k.toNat)=true:=by
   rw[zW6 hlen]
   exact Bool.false_ne_true
 have hnew:List.foldl (fun x1 x2=>x1++x2) #[] (List.replicate (if its.toArray.isEmpty=true then 0 else k.toNat) its.toArray)=(List.replicate k.toNat its).flatten.toArray:=by
   have f0:∀m:Nat,List.foldl (fun x1 x2=>x1++x2) #[] (List.replicate m its.toArray)=(List.replicate m its).flatten.toArray:=fun m=>by
     have:=zO1 its m []
     rw[List.nil_append] at this
     exact this
   rw[f0]
   cases its with
   | nil=>simp
   | cons a r'=>rw[if_neg (by simp)]
 refine wpAny_binaryOp_repeat_ref (T:="list") (U:="int") (by decide) ⟨_,e,rfl⟩ (fun s'=>typeIs_int s' k t) noFill_list_mul F.fills_int_mul F.slot_int_rmul repeat_list F.slot_int_index.lookup
   (call_meets F.slot_int_rmul (typeIs_int s k t) F.entry_int_rmul (F.args_int_rmul_2 _ _) (int___rmul___int_list k t l its.toArray n)
     ⟨e,rfl,⟨_,e,rfl⟩,call_meets F.slot_list_mul ⟨_,e,rfl⟩ F.entry_list_mul (F.args_list_mul_2 _ _) (AutoListH.list___mul___list_int_3 l its.toArray n k t hfit hcap hlong) ⟨e,?_⟩⟩)
 rw[hnew]
 exact⟨.ref _,_,I.lnew (t':=s.toks) (r.rep k.toNat) (by rw[zT7,Nat.mul_comm];exact hz),rfl,q _ I.fresh⟩
end
section
variable {prog:Program} {w:World} {A:Around} {E:Value->Shared->Prop} {s:Shared}
end
section
variable {X:Cx}
end
end L2
namespace Att
open PySem PySem.W PySem.Calls PyProof.Rows
theorem ints_of_wellAll {P:Params}{h:Heap}:∀(ns:List Int) (vs:List Value),WellAll P h vs (ns.map WData.int)->IntsAre vs ns:=by
 intro ns
 induction ns with
 | nil =>
   intro vs w
   rw[List.map_nil] at w
   cases w
   exact .nil
 | cons n ns ih =>
   intro vs w
   rw[List.map_cons] at w
   cases w with
   | cons a b =>
     cases a
     exact .cons _ _ (ih _ b)
theorem script_of {l:OpenLaw}{n:Nat}(hn:l.most=some n){P:Params}{h:Heap}{args:List WData}{vals:List Value}
   (hpre:l.row.toRowW.claim.pre args=true) (hwl:WellAll P h vals args) :
   ∃a vs ns,vals=[Value.ref a]/\args=[WData.list (ns.map WData.int)]/\h.get? a=some { cls:=.type "list",data:=.seq vs.toArray }/\IntsAre vs ns/\ns.length<=n:=by
 have hsh:WShape.hasAll [] args [.list .int]=true:=(pre_splitW hpre).1
 have hc:l.pre.holds [] { args:=args }=true:=(pre_splitW hpre).2
 obtain⟨d,r,rfl,h1,h2⟩:=hasAllW_cons hsh
 obtain rfl:=hasAllW_nil h2
 obtain⟨xs,rfl,h3⟩:=hasW_list h1
 obtain⟨ns,rfl⟩:=items_int h3
 have hlen:ns.length<=n:=by
   unfold OpenLaw.pre at hc
   have h4:(WTm.not (.lt (.lit (.int (n:Int))) (.len (.arg 0)))).holds [] { args:=[.list (ns.map .int)] }=true:=by
     have h4:=(holds_andW hc).1
     rw[hn] at h4
     exact h4
   have h5:=condW_of h4 (w_not (w_lt w_lit (w_len_list (w_arg rfl))))
   rw[List.length_map] at h5
   refine Nat.le_of_not_lt fun q=>?_
   have q':(n:Int)<((ns.length:Nat):Int):=by omega
   first
     | (rw[decide_eq_true q'] at h5;exact absurd h5 (by decide))
     | (simp at h5;omega)
 cases hwl with
 | cons w1 w2 =>
   cases w2
   cases w1 with
   | list ho hall=>exact⟨_,_,ns,rfl,rfl,ho,ints_of_wellAll ns _ hall,hlen⟩
theorem post_true (l:OpenLaw)(args:List WData):l.row.toRowW.claim.post args (.bool true) args=true :=
 postW_of (r:=l.row.toRowW) (X:=(true == true))
   (show WShape.has [] (.bool true) .bool=true by first | rfl | decide | simp[WShape.has,WShape.arms,WShape.armsAll])
   (show(WTm.eq .res (.lit (.bool true))).value [] { args:=args,res:=some (.bool true),after:=args }=some (.bool (true == true)) from w_eq_bool (w_res rfl) w_lit) rfl
theorem attach_call {l:OpenLaw}{n:Nat}{q:Program}{loose:List Str}{XP:(Str->Option Value)->Heap->Prop}{YP:World->Heap->Prop}{d:DefRec}
   (hn:l.most=some n) (hdf:d.params.defaults=[])
   (call:∀(w:World) (s₀ s₁:Shared) (mg mb:Str->Option Value) (fa:Addr) (o:Obj) (pm cd doc:Value) (a:Addr) (vs:List Value) (ns:List Int),
     Ground q loose [] XP w s₀ mg mb s₁.heap->YP w s₁.heap →
     s₁.heap.get? fa=some o->o.data = .func (docDef d.name d.params d.body d.scope pm cd doc)->s₁.heap.CodeRec cd d.name->mg d.name=some (.ref fa) →
     s₁.heap.get? a=some { cls:=.type "list",data:=.seq vs.toArray }->IntsAre vs ns->ns.length<=n->s₁.gens = #[] →
     codeAny (model l.prog w) callerA (.call (.ref fa) ⟨[.ref a],[]⟩) (fun r s'=>r = .ok (.ret (.bool true))/\OldK s₁.heap s'.heap/\s'.os=s₁.os/\AllBare s'.gens) s₁) :
   WalkO q loose XP YP l.row.toRowW d [] (fun f vs=>PySem.call f vs):=by
 intro w s₀ s₁ mg mb G Y fa o pm cd doc dV kV ho hd hcd hD hmg hg args vals as hpre hlay hrd hwl hlo
 obtain rfl:dV = .none:=Dflts.none hD hdf
 obtain rfl:kV = .none:=Dflts.noKw hD
 obtain⟨a,vs,ns,rfl,rfl,hobj,hints,hlen⟩:=script_of hn hpre hwl
 refine enter_call (codeAny_mono (call w s₀ s₁ mg mb fa o pm cd doc a vs ns G Y ho (fd_plain hd) hcd hmg hobj hints hlen hg) fun r s' hq=>?_)
 obtain⟨rfl,h2,h3,h4⟩:=hq
 exact⟨.inl ⟨.bool true,.bool true,[],rfl,fun _=>rfl,.bool true,post_true l _,fun _=>⟨List.Pairwise.nil,fun _ hm=>(nomatch hm)⟩⟩,h2,h3,h4⟩
section
variable {prog:Program} {w:World} {A:Around} {E:Value->Shared->Prop} {s:Shared} {K:Frag}
end
end Att
namespace L2
open PySem PySem.Spec PyProof.Rows
theorem zF4:∀ {vs:List Value} {ns:List Int},IntsAre vs ns->Vals (ns.map V.int) vs
 | _,_,.nil=>.nil
 | _,_,.cons n t h=>.cons ⟨t,rfl⟩ (zF4 h)
noncomputable def Only (H:Hp):Prop:=∀b,H b=none\/∃o xs,H b=some (.frz o (.lst xs))
theorem law_call {P:Program}{w:World}{K:W.Frag}{mg mb:Str->Option Value}{CX:CXT}{k:Nat}{fa a:Addr}{fd:FuncData}{x:Str}{sp:Sp}{s₁:Shared}{vs:List Value}{ns:List Int}
   (KX:K.In s₁.heap) (hns:s₁.heap.Ns mainGlobals mg) (hb:s₁.heap.Ns builtinsNs mb) (hbb:∀x:Str,x≠"__name__"->mb x=bootBuiltins x) (hlim:s₁.heap.NoLimit) (hg:s₁.gens = #[])
   (ha:s₁.heap.get? a=some { cls:=.type "list",data:=.seq vs.toArray }) (hi:IntsAre vs ns) (hl:ns.length<=sizeLine) (hr:Room k callerA)
   (F:∀base:Heap,K.In base->base.Ns mainGlobals mg->FnOk P w K mg base CX k fa fd [x] sp) (hbind:∀(s:Shared) (u:Value),BindsTo s fd ⟨[u],[]⟩ [(x,u)])
   (hsp:∀H:Hp,Only H->SqL K H a (ns.map V.int)->sp [.ref a] H (fun v _=>v = .bl true) fun _ _ _=>False)
   (hCX:∀H e s',CX [] H s₁ (fun _ _ _=>False) e s'->False) :
   codeAny (model P w) callerA (.call (.ref fa) ⟨[.ref a],[]⟩) (fun r s'=>r = .ok (.ret (.bool true))/\OldK s₁.heap s'.heap/\s'.os=s₁.os/\AllBare s'.gens) s₁:=by
 have rv:=zF4 hi
 have lenV:=hi.length
 have core:∀H:Hp,Only H->SqL K H a (ns.map V.int)->HOk P w H s₁.heap->(∀b,H b≠none->b=a)->(H a≠none->K.lookup a=none) →
     codeAny (model P w) callerA (.call (.ref fa) ⟨[.ref a],[]⟩) (fun r s'=>r = .ok (.ret (.bool true))/\OldK s₁.heap s'.heap/\s'.os=s₁.os/\AllBare s'.gens) s₁:=by
   intro H hO hS hok hA hK
   have base_of:∀ {b:Addr} {o:Obj},s₁.heap.get? b=some o->H b=none->(hidT s₁.heap H).get? b=some o:=fun e n=>hidT_get e n
   have noA:∀ {b:Addr} {o:Obj} {es:Array DictEntry} {ep:Nat},s₁.heap.get? b=some o->o.data = .dict es ep->H b=none:=fun {b o es ep} e d=>by
     cases q:H b with
     | none=>rfl
     | some u =>
       have e':b=a:=hA b (by rw[q];simp)
       subst e'
       rw[ha] at e;cases e
       have d':Data.seq vs.toArray _=Data.dict es ep:=d
       cases d'
   have nsK:∀ {b:Addr} {m:Str->Option Value},s₁.heap.Ns b m->(hidT s₁.heap H).Ns b m:=fun {b m} ⟨o,es,ep,e,d,r⟩=>⟨o,es,ep,base_of e (noA e d),d,r⟩
   have hKb:K.In (hidT s₁.heap H):=fun b o e=>base_of (KX b o e) (by
     cases q:H b with
     | none=>rfl
     | some u =>
       have e':b=a:=hA b (by rw[q];simp)
       subst e'
       rw[hK (by rw[q];simp)] at e;cases e)
   have hM:Mod K mg (hidT s₁.heap H):=⟨hKb,nsK hns,⟨mb,nsK hb,hbb⟩,let⟨mc,h1,h2⟩:=hlim;⟨mc,nsK h1,h2⟩⟩
   have e0:Env0 P w K mg (hidT s₁.heap H) callerA [] s₁ H:=⟨rfl,hM,fun b o e=>of_hidT e,Nat.le_of_eq (hidT_size _ _),trivial,fun b hb=>absurd (show b∈([]:List Addr) from hb) (by simp),hok,.of_eq hg⟩
   refine codeAny_mono ((F _ hKb (nsK hns)).run callerA [] s₁ H ⟨[.ref a],[]⟩ [.ref a] [.ref a] _ _ hr e0 (hbind s₁ (.ref a)) (.cons rfl .nil) (hsp H hO hS)) fun r s' h=>?_
   cases r with
   | error e=>exact(hCX H e s' h).elim
   | ok fl =>
     cases fl with
     | next=>exact False.elim h
     | brk=>exact False.elim h
     | cont=>exact False.elim h
     | ret u =>
       obtain⟨v,H',os,bare,un,hok',r',q⟩:=h
       have q':v = .bl true:=q
       subst q'
       obtain rfl:u=Value.bool true:=r'
       refine⟨rfl,OldK.of_keep fun b o e=>?_,os,bare⟩
       cases q:H b with
       | none=>exact un.keep b o e q (by intro z;exact absurd (show b∈([]:List Addr) from z) (by simp)) (by simp)
       | some u =>
         rcases hO b with z | ⟨ob,xs,z⟩
         . rw[q] at z;cases z
         . have z2:=un.frzs b ob _ z
           obtain⟨e1,_⟩:=hok b _ z
           obtain⟨e2,_⟩:=hok' b _ z2
           rw[e] at e1;cases e1
           exact e2
 cases hk:K.lookup a with
 | some o =>
   have e:=KX a o hk
   rw[ha] at e
   cases e
   refine core (fun _=>none) (fun _=>.inl rfl) (.inr ⟨_,vs.toArray,_,hk,rfl,rfl,rfl,by rw[List.size_toArray,lenV];exact hl,by simpa using rv⟩) (fun b u z=>by have z':(none:Option HO)=some u:=z;cases z') (fun b z=>absurd rfl z) fun z=>absurd rfl z
 | none =>
   refine core (fun b=>if b=a then some (.frz { cls:=.type "list",data:=.seq vs.toArray } (.lst (ns.map V.int))) else none) (fun b=>?_) (.inl (.inr ⟨{ cls:=.type "list",data:=.seq vs.toArray },if_pos rfl⟩)) (fun b u z=>?_) (fun b z=>?_) fun _=>hk
   . by_cases hb:b=a
     . exact .inr ⟨_,_,if_pos hb⟩
     . exact .inl (if_neg hb)
   . by_cases hb:b=a
     . have z':=(if_pos hb).symm.trans z
       cases z'
       subst hb
       exact⟨ha,by rw[List.length_map];exact hl,vs,_,rv,ha⟩
     . have z':=(if_neg hb).symm.trans z
       cases z'
   . by_cases hb:b=a
     . exact hb
     . exact absurd (if_neg hb) z
theorem walk_of {l:W.OpenLaw}{n k:Nat}{q:Program}{loose:List Str}{XP:(Str->Option Value)->Heap->Prop}{YP:World->Heap->Prop}{d:DefRec}{K:Params->W.Frag}{CX:World->CXT}{sp:World->Sp}{x:Str}
   (hn:l.most=some n) (hn2:n<=sizeLine) (hdf:d.params.defaults=[]) (hr:Room k callerA)
   (hY:∀(w:World) (h:Heap),YP w h->(K w.params).In h)
   (F:∀(w:World) (mg:Str->Option Value) (fa:Addr) (h:Heap),(K w.params).In h->h.Ns mainGlobals mg->mg d.name=some (.ref fa) →
     ∃fd:FuncData,(∀(s:Shared) (u:Value),BindsTo s fd ⟨[u],[]⟩ [(x,u)]) ∧
       ∀base:Heap,(K w.params).In base->base.Ns mainGlobals mg->FnOk l.prog w (K w.params) mg base (CX w) k fa fd [x] (sp w))
   (hsp:∀(w:World) (H:Hp) (a:Addr) (ns:List Int),ns.length<=n->Only H->SqL (K w.params) H a (ns.map V.int)->sp w [.ref a] H (fun v _=>v = .bl true) fun _ _ _=>False)
   (hCX:∀(w:World) (H:Hp) (s:Shared) (e:Value) (s':Shared),CX w [] H s (fun _ _ _=>False) e s'->False) :
   W.WalkO q loose XP YP l.row.toRowW d [] (fun f vs=>PySem.call f vs):=by
 refine Att.attach_call hn hdf fun w s₀ s₁ mg mb fa o pm cd doc a vs ns G Y ho hd hcd hmg hobj hints hlen hg=>?_
 have KX:=hY w _ Y
 obtain⟨fd,hb,hF⟩:=F w mg fa _ KX G.T.g hmg
 exact law_call KX G.T.g G.T.b G.T.builtins G.T.nolimit hg hobj hints (Nat.le_trans hlen hn2) hr hF hb (fun H hO hS=>hsp w H a ns hlen hO hS) fun H e s'=>hCX w H s₁ e s'
noncomputable def zT9 (s:Stmt)(j:Nat):Stmt:=match s with
 | .ClassDef _ _ _ body _ _ _ _ _ _ _=>body.getD j (.Pass ⟨0,0,0,0⟩)
 | _=>.Pass ⟨0,0,0,0⟩
noncomputable def zc0 (s:Stmt):Arguments:=match s with
 | .FunctionDef _ a _ _ _ _ _ _ _ _=>a
 | _=>{ posonlyargs:=[],args:=[],vararg:=none,kwonlyargs:=[],kw_defaults:=[],kwarg:=none,defaults:=[] }
noncomputable def zb2 (s:Stmt):List Stmt:=match s with
 | .FunctionDef _ _ b _ _ _ _ _ _ _=>b
 | _=>[]
noncomputable def za5 (s:Stmt):Scope:=match s with
 | .FunctionDef _ _ _ _ _ _ sc _ _ _=>sc
 | _=>{ kind:=.function,names:=[],isGenerator:=false,isCoroutine:=false }
noncomputable abbrev CX0:CXT:=fun _ _ _ _ _ _=>False
noncomputable abbrev E0:XK:=fun _ _ _=>False
theorem zb4 {X:Cx}:zK1 CX0 X E0:=fun _ _ _ _ _ _ _ h=>h.elim
structure Fun (K:W.Frag)(x qual:Str)(st:Stmt)(f:Addr)(fd:FuncData):Prop where
 ex:∃(oc:Value) (od:Option Addr) (kV doc pm:Value) (an:Option Addr) (cdv ct:Value) (osl:Array (Option Value)),
   fd=W.fnOf x qual (zc0 st) (zb2 st) (za5 st) .none kV doc pm an cdv ct/\K.lookup f=some ⟨oc,od,.func fd,osl⟩/\W.codeIn K cdv qual=true
 kp:W.keepIn K (.ref f)=true
section
variable {P:Program} {w:World} {K:W.Frag} {mg:Str->Option Value} {base:Heap}
theorem Fun.ok {x qual:Str}{st:Stmt}{f:Addr}{fd:FuncData}{N ps:List Str}{k:Nat}{sp:Sp}(F:Fun K x qual st f fd)(S:zc2 N ps (za5 st))(len:∀vs H Q E,sp vs H Q E->vs.length=ps.length)
   (hbody:∀(cdv:Value) (A:Around) (outer:List Env) (s:Shared) (H:Hp) (vs:List V) (Q:VK) (E:XK),Room k (A.deeper (envOfC qual (za5 st) s.heap.objs.size f cdv))->sp vs H Q E →
     ∃t,PSs (cxOf CX0 P w K mg base N qual (za5 st) f cdv A outer s H E).nox (zb2 st) t/\t { nx:=fun _ H'=>Q .non H',rt:=Q } (start N vs) H):FnOk P w K mg base CX0 (k+1) f fd ps sp:=by
 obtain⟨oc,od,kV,doc,pm,an,cdv,ct,osl,rfl,lk,hcd⟩:=F.ex
 refine fn_of lk hcd S len fun A outer s H vs Q E hr hsp=>?_
 obtain⟨t,h,q⟩:=hbody cdv A outer s H vs Q E hr hsp
 exact⟨t,h.nox,q⟩
theorem Fun.binds {x qual:Str}{st:Stmt}{f:Addr}{fd:FuncData}{ps:List Str}(F:Fun K x qual st f fd)
   (h:∀(kV doc pm:Value) (an:Option Addr) (cdv ct:Value) (us:List Value),us.length=ps.length->bindArgs (W.fnOf x qual (zc0 st) (zb2 st) (za5 st) .none kV doc pm an cdv ct) ⟨us,[]⟩=pure (ps.zip us)):zd2 K fd ps []:=by
 obtain⟨oc,od,kV,doc,pm,an,cdv,ct,osl,rfl,lk,hcd⟩:=F.ex
 exact .all (h kV doc pm an cdv ct)
theorem zd0 {x qual:Str}{st:Stmt}{f:Addr}{oc:Value}{od an:Option Addr}{osl:Array (Option Value)}{kV doc pm cdv ct:Value}(l:K.lookup f=some ⟨oc,od,.func (W.fnOf x qual (zc0 st) (zb2 st) (za5 st) .none kV doc pm an cdv ct),osl⟩)
 (c:W.codeIn K cdv qual=true) (k:W.keepIn K (.ref f)=true):Fun K x qual st f (W.fnOf x qual (zc0 st) (zb2 st) (za5 st) .none kV doc pm an cdv ct):=⟨⟨oc,od,kV,doc,pm,an,cdv,ct,osl,rfl,l,c⟩,k⟩
end
theorem zv8 {A:Around}{k:Nat}(hr:Room k A):A.units+1<cLine:=Nat.lt_of_le_of_lt (Nat.add_le_add_left (by decide:1<=64) _) hr.units
theorem zc7 {n:Nat}(h:n<=1000):n<sizeLine:=Nat.lt_of_le_of_lt h (by decide)
section
variable {X:Cx}
theorem pv (i:Nat) {x:Str} {pos:Pos} (hN:X.N[i]?=some x:=by rfl) (hv:Vis X.env.scope x:=by first | exact Or.inl rfl | exact Or.inr (Or.inl rfl) | exact Or.inr (Or.inr rfl)) (hd:(x == ("__debug__" : Str))=false:=by decide)
 (hcd:(x == ("__classdict__" : Str))=false:=by decide):PE X (.Name x pos) (tVar i):=pe_var hN hv hd hcd
end
theorem iteF {A B:Prop}(h:B):if false=true then A else B:=by
 rw[if_neg Bool.false_ne_true]
 exact h
theorem iteT {A B:Prop}(h:A):if true=true then A else B:=by
 rw[if_pos rfl]
 exact h
theorem ite2 {c A B:Prop}[Decidable c](h1:c->A)(h2:¬ c->B):if c then A else B:=by
 by_cases h:c
 . rw[if_pos h]
   exact h1 h
 . rw[if_neg h]
   exact h2 h
noncomputable def Same (H H':Hp):Prop:=∀b o,H b=some o->H' b=some o
theorem Same.refl (H:Hp):Same H H:=fun _ _ h=>h
theorem Same.trans {H H1 H2:Hp}(a:Same H H1)(b:Same H1 H2):Same H H2:=fun c o h=>b c o (a c o h)
theorem Same.free {H H':Hp}(e:Same H H'){l:Addr}(h:H' l=Option.none):H l=Option.none:=by
 cases q:H l with
 | none=>rfl
 | some o =>
   rw[e l o q] at h
   cases h
theorem Same.seq {K:W.Frag}{H H':Hp}{a:Addr}{xs:List V}(e:Same H H')(h:SqL K H a xs):SqL K H' a xs:=by
 rcases h with(h | ⟨o,h⟩) | h
 . exact .inl (.inl (e _ _ h))
 . exact .inl (.inr ⟨o,e _ _ h⟩)
 . exact .inr h
theorem cut3 {s1 s2 s3:TS}{D:Ends}{σ:St}{H:Hp}(h:let r3:=s3;let r2:=tSeq s2 r3;tSeq s1 r2 D σ H):(tSeq s1 (tSeq s2 (s3))) D σ H:=h
theorem cut4 {s1 s2 s3 s4:TS}{D:Ends}{σ:St}{H:Hp}(h:let r4:=s4;let r3:=tSeq s3 r4;let r2:=tSeq s2 r3;tSeq s1 r2 D σ H):(tSeq s1 (tSeq s2 (tSeq s3 (s4)))) D σ H:=h
theorem cut5 {s1 s2 s3 s4 s5:TS}{D:Ends}{σ:St}{H:Hp}(h:let r5:=s5;let r4:=tSeq s4 r5;let r3:=tSeq s3 r4;let r2:=tSeq s2 r3;tSeq s1 r2 D σ H):(tSeq s1 (tSeq s2 (tSeq s3 (tSeq s4 (s5))))) D σ H:=h
theorem cut6 {s1 s2 s3 s4 s5 s6:TS}{D:Ends}{σ:St}{H:Hp}(h:let r6:=s6;let r5:=tSeq s5 r6;let r4:=tSeq s4 r5;let r3:=tSeq s3 r4;let r2:=tSeq s2 r3;tSeq s1 r2 D σ H):(tSeq s1 (tSeq s2 (tSeq s3 (tSeq s4 (tSeq s5 (s6)))))) D σ H:=h
theorem cut7 {s1 s2 s3 s4 s5 s6 s7:TS}{D:Ends}{σ:St}{H:Hp}(h:let r7:=s7;let r6:=tSeq s6 r7;let r5:=tSeq s5 r6;let r4:=tSeq s4 r5;let r3:=tSeq s3 r4;let r2:=tSeq s2 r3;tSeq s1 r2 D σ H):(tSeq s1 (tSeq s2 (tSeq s3 (tSeq s4 (tSeq s5 (tSeq s6 (s7))))))) D σ H:=h
theorem cut9 {s1 s2 s3 s4 s5 s6 s7 s8 s9:TS}{D:Ends}{σ:St}{H:Hp}(h:let r9:=s9;let r8:=tSeq s8 r9;let r7:=tSeq s7 r8;let r6:=tSeq s6 r7;let r5:=tSeq s5 r6;let r4:=tSeq s4 r5;let r3:=tSeq s3 r4;let r2:=tSeq s2 r3;tSeq s1 r2 D σ H):(tSeq s1 (tSeq s2 (tSeq s3 (tSeq s4 (tSeq s5 (tSeq s6 (tSeq s7 (tSeq s8 (s9))))))))) D σ H:=h
theorem cut10 {s1 s2 s3 s4 s5 s6 s7 s8 s9 s10:TS}{D:Ends}{σ:St}{H:Hp}(h:let r10:=s10;let r9:=tSeq s9 r10;let r8:=tSeq s8 r9;let r7:=tSeq s7 r8;let r6:=tSeq s6 r7;let r5:=tSeq s5 r6;let r4:=tSeq s4 r5;let r3:=tSeq s3 r4;let r2:=tSeq s2 r3;tSeq s1 r2 D σ H):(tSeq s1 (tSeq s2 (tSeq s3 (tSeq s4 (tSeq s5 (tSeq s6 (tSeq s7 (tSeq s8 (tSeq s9 (s10)))))))))) D σ H:=h
theorem cut18 {s1 s2 s3 s4 s5 s6 s7 s8 s9 s10 s11 s12 s13 s14 s15 s16 s17 s18:TS}{D:Ends}{σ:St}{H:Hp}(h:let r18:=s18;let r17:=tSeq s17 r18;let r16:=tSeq s16 r17;let r15:=tSeq s15 r16;let r14:=tSeq s14 r15;let r13:=tSeq s13 r14;let r12:=tSeq s12 r13;let r11:=tSeq s11 r12;let r10:=tSeq s10 r11;let r9:=tSeq s9 r10;let r8:=tSeq s8 r9;let r7:=tSeq s7 r8;let r6:=tSeq s6 r7;let r5:=tSeq s5 r6;let r4:=tSeq s4 r5;let r3:=tSeq s3 r4;let r2:=tSeq s2 r3;tSeq s1 r2 D σ H):(tSeq s1 (tSeq s2 (tSeq s3 (tSeq s4 (tSeq s5 (tSeq s6 (tSeq s7 (tSeq s8 (tSeq s9 (tSeq s10 (tSeq s11 (tSeq s12 (tSeq s13 (tSeq s14 (tSeq s15 (tSeq s16 (tSeq s17 (s18)))))))))))))))))) D σ H:=h
section
variable {prog:Program} {w:World} {A:Around} {R:Result->Shared->Prop} {s:Shared}
theorem zH5 {elt target iter:Expr}{ifs:List Expr}{scope:Scope}{pos:Pos}{it acc:Value}{env:Env}(I:Nat->Shared->Prop)
   (turn:∀n s,I n s->wpAny (model prog w) A (pyNext it) (fun r s1=>match r with
     | none=>R (.ok .next) s1
     | some v=>wpAny (model prog w) A (letOwnedTupleGo target it v) (fun _ s1'=>wpAny (model prog w) A (assign target env v) (fun _ s2 =>
         wpAny (model prog w) A (forIn ifs true fun c r=>if r=true then do let ok <-isTrue c env (eval c env);pure (ForInStep.yield ok) else pure (ForInStep.yield r)) (fun ok s3 =>
           if ok=true then wpAny (model prog w) A (eval elt env) (fun x s4 =>
             wpAny (model prog w) A (call (.builtin "list.append") [acc,x]) (fun _ s5=>∃m,m<n/\I m s5) (fun _ _=>False) s4) (fun _ _=>False) s3
           else ∃m,m<n/\I m s3) (fun _ _=>False) s2) (fun _ _=>False) s1') (fun _ _=>False) s1) (fun _ _=>False) s)
   (n:Nat) (h:I n s) :
   codeAny (model prog w) A (.compLoop (.ListComp elt [⟨target,iter,ifs,0⟩] scope pos) 0 it acc env) R s:=by
 refine codeAny_loop rfl I (fun n s hI=>?_) n h
 show wpAny _ A ((compTurn (.ListComp elt [⟨target,iter,ifs,0⟩] scope pos) 0 it acc env).onRaise (fun x=>do noteFrame x env;theTreesLotGoes x)) _ _ s
 refine wpAny_noted ?_
 rw[compTurn_list]
 refine wpAny_bind (wpAny_standAt (wpAny_bind (wpAny_mono (turn n s hI) (fun r s1 h1=>?_) fun _ _ h'=>h'.elim)))
 cases r with
 | none=>exact wpAny_pure h1
 | some v =>
   refine wpAny_bind (wpAny_mono h1 (fun _ s1' h1'=>?_) fun _ _ h'=>h'.elim)
   refine wpAny_bind (wpAny_mono h1' (fun _ s2 h2=>wpAny_bind (wpAny_mono h2 (fun ok s3 h3=>?_) fun _ _ h'=>h'.elim)) fun _ _ h'=>h'.elim)
   cases ok with
   | false=>exact wpAny_pure ⟨rfl,h3⟩
   | true=>exact wpAny_bind (wpAny_bind (wpAny_mono h3 (fun x s4 h4=>wpAny_bind (wpAny_mono h4 (fun _ s5 h5=>wpAny_pure (wpAny_pure ⟨rfl,h5⟩)) fun _ _ h'=>h'.elim)) fun _ _ h'=>h'.elim))
end
theorem zB4 {scope:Scope}{env:Env}(h:∀y∈scope.names,y.2 = .free->∃c,env.cells.lookup y.1=some c) :
   ∃cl,closureFor scope env=pure cl/\(∀x c,cl.lookup x=some c->env.cells.lookup x=some c)/\∀y∈scope.names,y.2 = .free->∃c,cl.lookup y.1=some c:=by
 have all:∀(names:List (Str×NameKind)) (acc:List (Str×Addr)) (f:Str×NameKind->List (Str×Addr)->Sem (ForInStep (List (Str×Addr)))),
     (∀n k c,f (n,k) c=if k == .free then(do let a <-cellOf env n;pure (.yield ((n,a)::c))) else pure (.yield c)) →
     (∀y∈names,y.2 = .free->∃c,env.cells.lookup y.1=some c)->(∀x c,acc.lookup x=some c->env.cells.lookup x=some c) →
     ∃cl,forIn names acc f=pure cl/\(∀x c,cl.lookup x=some c->env.cells.lookup x=some c)/\(∀x c,acc.lookup x=some c->∃c',cl.lookup x=some c')/\∀y∈names,y.2 = .free->∃c,cl.lookup y.1=some c:=by
   intro names
   induction names with
   | nil=>intro acc f _ _ ha;exact⟨acc,by rw[List.forIn_nil],ha,fun x c e=>⟨c,e⟩,fun y hy=>nomatch hy⟩
   | cons y r ih =>
     intro acc f hf hy ha
     obtain⟨n,k⟩:=y
     rw[List.forIn_cons,hf]
     by_cases hk:k = .free
     . subst hk
       obtain⟨c,hc⟩:=hy (n,.free) List.mem_cons_self rfl
       have hc':env.cells.lookup n=some c:=hc
       have ec:cellOf env n=pure c:=by unfold cellOf;rw[hc']
       rw[if_pos (by decide),ec,pure_bind,pure_bind]
       obtain⟨cl,e,h1,h2,h3⟩:=ih ((n,c)::acc) f hf (fun y hy'=>hy y (List.mem_cons_of_mem _ hy')) (fun x c' e=>by
         rw[List.lookup_cons] at e
         cases hx:x == n with
         | true=>rw[hx] at e;cases e;rw[eq_of_beq hx];exact hc'
         | false=>rw[hx] at e;exact ha x c' e)
       refine⟨cl,e,h1,fun x c' e'=>?_,fun y hy' hk'=>?_⟩
       . cases hx:x == n with
         | true=>exact h2 x c (by rw[List.lookup_cons,hx])
         | false=>exact h2 x c' (by rw[List.lookup_cons,hx];exact e')
       . rcases List.mem_cons.mp hy' with z | z
         . subst z;exact h2 n c (by rw[List.lookup_cons];simp)
         . exact h3 y z hk'
     . have hb:(k == NameKind.free)=false:=by simpa using hk
       rw[hb]
       rw[if_neg (by decide),pure_bind]
       obtain⟨cl,e,h1,h2,h3⟩:=ih acc f hf (fun y hy'=>hy y (List.mem_cons_of_mem _ hy')) ha
       refine⟨cl,e,h1,h2,fun y hy' hk'=>?_⟩
       rcases List.mem_cons.mp hy' with z | z
       . subst z;exact absurd hk' hk
       . exact h3 y z hk'
 have fin:∀f:Str×NameKind->List (Str×Addr)->Sem (ForInStep (List (Str×Addr))),
     (∀n k c,f (n,k) c=if k == .free then(do let a <-cellOf env n;pure (.yield ((n,a)::c))) else pure (.yield c)) →
     ∃cl,(forIn scope.names [] f >>= fun r=>pure r)=pure cl/\(∀x c,cl.lookup x=some c->env.cells.lookup x=some c)/\∀y∈scope.names,y.2 = .free->∃c,cl.lookup y.1=some c:=fun f hf=>by
   obtain⟨cl,e,h1,_,h3⟩:=all scope.names [] f hf h (fun x c e=>by cases e)
   exact⟨cl,by rw[e,pure_bind],h1,h3⟩
 unfold closureFor
 exact fin _ (fun n k c=>by cases hk:k == NameKind.free<;>simp[hk])
noncomputable def Cx.comp (X:Cx)(scope:Scope)(cl:List (Str×Addr))(C:Addr)(N':List Str)(s0:Shared)(H0:Hp)(fp:List Addr):Cx :=
 { X with N:=N',s₀:=s0,H₀:=H0,env:=compEnvC scope cl C X.env,outer:=X.stack,ex:=fp,fn:=fun _=>false,pn:=[],xe:=fun _ _=>False }
noncomputable def selS (ix:List (Option Nat))(σ:St):St:=ix.map fun o=>o.bind fun j=>(σ[j]?).join
structure zd7 (ON:List Str)(osc scope:Scope)(N':List Str)(ix:List (Option Nat)):Prop where
 kind:scope.kind = .function
 nocell:∀y∈scope.names,y.2≠.cell
 names:∀y∈scope.names,y.2 = .local->scope.names.lookup y.1=some .local
 frees:∀y∈scope.names,y.2 = .free->osc.names.lookup y.1=some .cell
 len:ix.length=N'.length
 nd:N'.Nodup
 chk:((ix.zip N').all fun p=>match p.1 with | none=>true | some j=>decide (ON[j]?=some p.2) && decide (scope.names.lookup p.2=some .free))=true
theorem zd7.sel {ON:List Str}{osc scope:Scope}{N':List Str}{ix:List (Option Nat)}(S:zd7 ON osc scope N' ix)(i j:Nat)(x:Str)(h1:ix[i]?=some (some j))(h2:N'[i]?=some x):ON[j]?=some x/\scope.names.lookup x=some .free:=by
 have hz:(ix.zip N')[i]?=some (some j,x):=by rw[List.getElem?_zip_eq_some];exact⟨h1,h2⟩
 have:=List.all_eq_true.mp S.chk _ (List.mem_of_getElem? hz)
 simp only[Bool.and_eq_true,decide_eq_true_eq] at this
 exact this
theorem zu8 {env:Env}:∀ {names:List (Str×NameKind)} {x:Str},names.lookup x=some .free →
   ((names.map fun(n,k)=>if (k == NameKind.free && env.scope.kind == .function && env.kindOf n == some .cell) then(n,NameKind.cell) else(n,k)).lookup x=some .cell ∨
    (names.map fun(n,k)=>if (k == NameKind.free && env.scope.kind == .function && env.kindOf n == some .cell) then(n,NameKind.cell) else(n,k)).lookup x=some .free)
 | [],_,h=>by simp at h
 | (n,k)::r,x,h=>by
   have ih:=@zu8 env r x
   rw[List.map_cons]
   cases hx:x == n with
   | true =>
     rw[List.lookup_cons,hx] at h
     cases h
     by_cases hc:(NameKind.free == NameKind.free && env.scope.kind == .function && env.kindOf n == some .cell)=true
     . left;simp only[hc,if_true,List.lookup_cons,hx]
     . right
       have hc':(NameKind.free == NameKind.free && env.scope.kind == .function && env.kindOf n == some .cell)=false:=by simpa using hc
       simp only[hc',Bool.false_eq_true,if_false,List.lookup_cons,hx]
   | false =>
     rw[List.lookup_cons,hx] at h
     have ih':=ih h
     by_cases hc:(k == NameKind.free && env.scope.kind == .function && env.kindOf n == some .cell)=true
     . simp only[hc,if_true,List.lookup_cons,hx];exact ih'
     . have hc':(k == NameKind.free && env.scope.kind == .function && env.kindOf n == some .cell)=false:=by simpa using hc
       simp only[hc',Bool.false_eq_true,if_false,List.lookup_cons,hx];exact ih'
theorem zC5 {env:Env}:∀ {names:List (Str×NameKind)} {x:Str},(∀y∈names,y.2≠.cell) →
   ((names.map fun(n,k)=>if (k == NameKind.free && env.scope.kind == .function && env.kindOf n == some .cell) then(n,NameKind.cell) else(n,k)).lookup x=some .cell ∨
    (names.map fun(n,k)=>if (k == NameKind.free && env.scope.kind == .function && env.kindOf n == some .cell) then(n,NameKind.cell) else(n,k)).lookup x=some .free)->(x,NameKind.free)∈names
 | [],_,_,h=>by simp at h
 | (n,k)::r,x,hn,h=>by
   have ih:=@zC5 env r x fun y hy=>hn y (List.mem_cons_of_mem _ hy)
   rw[List.map_cons] at h
   cases hx:x == n with
   | true =>
     have e:=eq_of_beq hx
     subst e
     by_cases hc:(k == NameKind.free && env.scope.kind == .function && env.kindOf x == some .cell)=true
     . have hk:k = .free:=by
         have:=(Bool.and_eq_true_iff.mp (Bool.and_eq_true_iff.mp hc).1).1
         exact eq_of_beq this
       subst hk;exact List.mem_cons_self
     . have hc':(k == NameKind.free && env.scope.kind == .function && env.kindOf x == some .cell)=false:=by simpa using hc
       simp only[hc',Bool.false_eq_true,if_false,List.lookup_cons,beq_self_eq_true] at h
       rcases h with h | h
       . have hk:k = .cell:=Option.some.inj h
         exact absurd hk (hn (x,k) List.mem_cons_self)
       . have hk:k = .free:=Option.some.inj h
         subst hk;exact List.mem_cons_self
   | false =>
     refine List.mem_cons_of_mem _ (ih ?_)
     by_cases hc:(k == NameKind.free && env.scope.kind == .function && env.kindOf n == some .cell)=true
     . simp only[hc,if_true,List.lookup_cons,hx] at h;exact h
     . have hc':(k == NameKind.free && env.scope.kind == .function && env.kindOf n == some .cell)=false:=by simpa using hc
       simp only[hc',Bool.false_eq_true,if_false,List.lookup_cons,hx] at h;exact h
section
variable {X:Cx} {pins:List (Addr×Obj)} {σ:St} {H:Hp} {s:Shared}
theorem Inv.comp {scope:Scope}{N':List Str}{ix:List (Option Nat)}{cl:List (Str×Addr)}{fp:List Addr}{h':Heap}{t':Nat}(I:Inv X pins σ H s)(S:zd7 X.N X.env.scope scope N' ix)(hfp:∀b∈fp,FpOk X pins H b)(hlt:∀b∈fp,b<s.heap.objs.size)
   (c1:∀x c,cl.lookup x=some c->X.env.cells.lookup x=some c) (c2:∀y∈scope.names,y.2 = .free->∃c,cl.lookup y.1=some c)
   (ns:h'.Ns s.heap.objs.size fun _=>none) (sb:∀b o,s.heap.get? b=some o->h'.get? b=some o) :
   Inv (X.comp scope cl s.heap.objs.size N' s H fp) [] (selS ix σ) H { s with heap:=h',toks:=t' }:=by
 have fpne:∀b∈fp,b≠s.heap.objs.size:=fun b hb=>Nat.ne_of_lt (hlt b hb)
 have cin:∀x c,cl.lookup x=some c->∃v,s.heap.IsCell c v:=fun x c e=>I.cell x c (c1 x c e)
 refine⟨⟨I.ok.mod,S.kind,I.ok.glob,I.ok.blt,Nat.le_refl _,fun x y c e1 e2=>I.ok.inj x y c (c1 x c e1) (c1 y c e2),fun x hx=>?_,fun x c z=>(by cases z),I.ok.hd,I.ok.frames,.inl rfl,fun b hb=>⟨fpne b hb,fun x c e=>?_⟩,I.bs,Nat.le_trans I.ok.bsz I.sz,fun b o e hb=>?_,fun b hb hf=>?_,I.stack,I.stkFree⟩,
   rfl,I.bare,Un.kept sb,⟨_,ns,fun i x v e1 e2 e3=>?_⟩,fun x c e=>?_,I.hok.fresh (Nat.le_refl _),fun x c e=>I.freeC x c (c1 x c e),fun p hp=>(by cases hp),I.hok.kept sb,?_⟩
 . obtain⟨c,e⟩:=c2 (x,.free) (zC5 S.nocell hx) rfl
   exact⟨c,e⟩
 . exact(hfp b hb).2.2.2.2.1 x c (c1 x c e)
 . rcases(hfp b hb).2.2.2.1 with z | z
   . exact I.ok.noex b o e z
   . exact absurd (Nat.lt_of_lt_of_le (Heap.lt_size (I.ok.bs b o e).1) z) (Nat.lt_irrefl _)
 . rcases List.mem_cons.mp (I.stkSub b hf) with z | z
   . exact(hfp b hb).2.1 z
   . exact(hfp b hb).2.2.1 z
 . -- what the block sees
   have e2':ix[i]?.map (fun o=>o.bind fun j=>(σ[j]?).join)=some (some v):=by
     have:=e2
     unfold selS at this
     rwa [List.getElem?_map] at this
   cases hi:ix[i]? with
   | none=>rw[hi] at e2';cases e2'
   | some o =>
     rw[hi] at e2'
     cases o with
     | none=>cases e2'
     | some j =>
       have e4:(σ[j]?).join=some v:=Option.some.inj e2'
       have e5:σ[j]?=some (some v):=by
         cases q:σ[j]? with
         | none=>rw[q] at e4;cases e4
         | some z=>rw[q] at e4;have:z=some v:=e4;rw[this]
       obtain⟨hN,hfr⟩:=S.sel i j x hi e1
       have hk:=S.frees (x,.free) (PySem.mem_of_lookup hfr) rfl
       obtain⟨m,_,hl⟩:=I.loc
       obtain⟨u,r,lk⟩:=hl j x v hN e5 (.inr (.inl hk))
       refine⟨u,r,.inr ?_⟩
       rcases lk with⟨k1,_⟩ | ⟨_,c,ec,hc⟩
       . exact absurd (k1.symm.trans hk) (by decide)
       . obtain⟨c',ec'⟩:=c2 (x,.free) (PySem.mem_of_lookup hfr) rfl
         have:=c1 x c' ec'
         rw[ec] at this
         cases this
         refine⟨zu8 hfr,c,ec',?_⟩
         obtain⟨o,ho,hd⟩:=hc
         exact⟨o,sb c o ho,hd⟩
 . obtain⟨v,o,ho,hd⟩:=cin x c e
   exact⟨v,o,sb c o ho,hd⟩
 . show(selS ix σ).length=N'.length
   unfold selS
   rw[List.length_map]
   exact S.len
theorem Inv.uncomp {scope:Scope}{N':List Str}{cl:List (Str×Addr)}{fp:List Addr}{C:Addr}{σ':St}{H':Hp}{s':Shared}(I:Inv X pins σ H s)(hfp:∀b∈fp,FpOk X pins H b)(hC:s.heap.objs.size<=C)
   (J:Inv (X.comp scope cl C N' s H fp) [] σ' H' s'):Inv X pins σ H' s' :=
 I.call' (ch:=fp) J.os J.base J.hok J.bare fun b hb=>by
   obtain⟨f0,f1,f2,f3,f4,f5⟩:=hfp b hb
   exact⟨f3,f1,f4,f5⟩
end
noncomputable def zn9 (D:Addr)(telt:TE)(N:St->Hp->Prop):St->Hp->Prop:=fun σ H=>telt σ H fun v H1=>∃acc,H1 D=some (.lst acc)/\acc.length<sizeLine/\N σ (upd H1 D (.lst (acc++[v])))
noncomputable def yi1 (wi:TI)(ix:List (Option Nat))(g:TG)(tif:TT)(telt:TE):TE:=fun σ H Q=>wi σ H fun J H1=>∀D,H1 D=none->∃W:Nat->Nat->St->Hp->Prop,(∃m,W 0 m (selS ix σ) (upd H1 D (.lst []))) ∧
 ∀i m σ' H',W i m σ' H'->(J.stop i H'/\Q (.ref D) H')\/(J.go i H'/\∃N:St->Hp->Prop,(∀σ2 H2,N σ2 H2->∃m',m'<m/\W (i+1) m' σ2 H2) ∧
   ∀x H2,J.yld i H' x H2->g x σ' H2 fun σ3 H3=>tif σ3 H3 fun b H4=>if b=true then zn9 D telt N σ3 H4 else N σ3 H4)
noncomputable def PIfs (X:Cx)(ifs:List Expr)(t:TT):Prop :=
 ∀(pins:List (Addr×Obj)) (s:Shared) (σ:St) (H:Hp) (Q:Bool->Hp->Prop),Inv X pins σ H s->t σ H Q →
   wpAny (model X.prog X.w) X.A (forIn ifs true fun c r=>if r=true then do let ok <-isTrue c X.env (eval c X.env);pure (ForInStep.yield ok) else pure (ForInStep.yield r)) (TP X pins σ Q) X.xe s
noncomputable def zw3:TT:=fun _ H Q=>Q true H
theorem zi5 {X:Cx}:PIfs X [] zw3:=fun _ _ _ H _ I h=>wpAny_tests_nil ⟨H,I,h⟩
theorem zW7 {X:Cx}{c:Expr}{t:TT}(hc:PT X c t):PIfs X [c] t:=fun pins s σ H Q I h=>wpAny_tests_one (hc pins s σ H Q I h)
section
variable {X:Cx} {scope:Scope} {N':List Str} {ix:List (Option Nat)} {tg iter elt:Expr} {ifs:List Expr} {pos:Pos} {wi:TI} {g:TG} {tif:TT} {telt:TE}
theorem zK3 {RR:Value->Addr->Result->Shared->Prop}{pins:List (Addr×Obj)}{σ:St}{s2:Shared}{H2:Hp}{it:Addr}{fp:List Addr}{tn:Nat->Heap->Prop}{J:It}{cl:List (Str×Addr)}{Q:VK}{E:Value->Shared->Prop}
   (hc:X.calm=true) (S:zd7 X.N X.env.scope scope N' ix)
   (c1:∀x c,cl.lookup x=some c->X.env.cells.lookup x=some c) (c2:∀y∈scope.names,y.2 = .free->∃c,cl.lookup y.1=some c)
   (hg:∀cl C s0 H0 fp,PG (X.comp scope cl C N' s0 H0 fp) tg g) (hif:∀cl C s0 H0 fp,PIfs (X.comp scope cl C N' s0 H0 fp) ifs tif) (he:∀cl C s0 H0 fp,PE (X.comp scope cl C N' s0 H0 fp) elt telt)
   (I2:Inv X pins σ H2 s2) (T:Turn X.prog X.w X.K tg J fp it tn) (st2:tn 0 s2.heap) (f2:∀b∈fp,FpOk X pins H2 b)
   (body:∀D,H2 D=none->∃W:Nat->Nat->St->Hp->Prop,(∃m,W 0 m (selS ix σ) (upd H2 D (.lst []))) ∧
     ∀i m σ' H',W i m σ' H'->(J.stop i H'/\Q (.ref D) H')\/(J.go i H'/\∃N:St->Hp->Prop,(∀σ2 H2,N σ2 H2->∃m',m'<m/\W (i+1) m' σ2 H2) ∧
       ∀x H2,J.yld i H' x H2->g x σ' H2 fun σ3 H3=>tif σ3 H3 fun b H4=>if b=true then zn9 D telt N σ3 H4 else N σ3 H4))
   (hRR:∀D C s3 s' H' m,Inv X pins σ H' s'->s2.heap.objs.size<=s3->s3<=C->s'.heap.Ns C m->FpOk X pins H' C->HOk X.prog X.w H' s'.heap->Q (.ref D) H'->RR (.ref D) C (.ok .next) s') :
   wpAny (model X.prog X.w) X.A (newList []) (fun acc s3=>wpAny (model X.prog X.w) X.A (newFunctionEnv scope X.env.globals cl [] X.env.qual none .none (some X.env)) (fun cenv s4 =>
     codeAny (model X.prog X.w) X.A (.compStart (.ListComp elt [⟨tg,iter,ifs,0⟩] scope pos) 0 (.ref it) acc { cenv with scope:=relabel scope X.env }) (RR acc cenv.locals) s4) E s3) E s2:=by
 have hlt2:∀b∈fp,b<s2.heap.objs.size:=fun b hb=>by
   obtain⟨o,e,_⟩:=T.obj _ _ st2 b hb
   exact Heap.lt_size e
 obtain⟨W,⟨m0,w0⟩,turn⟩:=body s2.heap.objs.size I2.fresh
 refine wpAny_newObj_type (wpAny_newFunctionEnv S.nocell (by intro y hy;simp at hy) (fun h1 hns1 hsb1=>?_) S.kind)
 dsimp only at hns1 hsb1 ⊢
 have I3:Inv X pins σ (upd H2 s2.heap.objs.size (.lst [])) { s2 with heap:=s2.heap.push { cls:=.type "list",dict:=none,data:=.seq ([]:List Value).toArray } } :=
   Inv.lnew (its:=[]) (t':=s2.toks) I2 .nil (Nat.zero_le _)
 generalize hs3:({ s2 with heap:=s2.heap.push { cls:=.type "list",dict:=none,data:=.seq ([]:List Value).toArray } }:Shared)=s3 at I3
 have hh3:s3.heap=s2.heap.push { cls:=.type "list",dict:=none,data:=.seq ([]:List Value).toArray }:=by rw[<-hs3]
 have hsz3:s3.heap.objs.size=s2.heap.objs.size+1:=by rw[hh3,Heap.size_push]
 have hsh:({ s2 with heap:=h1,toks:=s2.toks+([]:List (Str×Value)).length }:Shared) = { s3 with heap:=h1,toks:=s2.toks+([]:List (Str×Value)).length }:=by rw[<-hs3]
 rw[<-hh3] at hns1 hsb1 ⊢
 have fpD:∀b∈fp,b≠s2.heap.objs.size:=fun b hb=>Nat.ne_of_lt (hlt2 b hb)
 have f3:∀b∈fp,FpOk X pins (upd H2 s2.heap.objs.size (.lst [])) b:=fun b hb=>⟨by rw[za9 (fpD b hb)];exact(f2 b hb).1,(f2 b hb).2⟩
 have old:∀b o,s3.heap.get? b=some o->h1.get? b=some o:=fun b o e=>hsb1.extBut b o (Nat.ne_of_lt (Heap.lt_size e)) (Heap.get?_push_of_some _ e)
 have J4:Inv (X.comp scope cl s3.heap.objs.size N' s3 (upd H2 s2.heap.objs.size (.lst [])) fp) [] (selS ix σ) (upd H2 s2.heap.objs.size (.lst [])) { s3 with heap:=h1,toks:=s2.toks+([]:List (Str×Value)).length } :=
   I3.comp S f3 (fun b hb=>Nat.lt_of_lt_of_le (hlt2 b hb) (by rw[hsz3];exact Nat.le_succ _)) c1 c2 hns1 old
 have st4:tn 0 h1:=T.keep _ _ _ st2 fun b hb o e=>old b o (by rw[hh3];exact Heap.get?_push_of_some _ e)
 generalize hCC:s3.heap.objs.size=C at *
 generalize hX':X.comp scope cl C N' s3 (upd H2 s2.heap.objs.size (.lst [])) fp=X' at J4
 have stat:∀ {H':Hp},(∀b∈fp,H' b=none)->∀b∈fp,FpOk X' [] H' b:=fun {H'} hn b hb=>by
   subst hX'
   refine⟨hn b hb,(J4.ok.exf b hb).1,J4.ok.exfs b hb,.inl hb,(J4.ok.exf b hb).2,fun p hp=>(by cases hp)⟩
 rw[hsh]
 have loop:codeAny (model X.prog X.w) X.A (.compLoop (.ListComp elt [⟨tg,iter,ifs,0⟩] scope pos) 0 (.ref it) (.ref s2.heap.objs.size) (compEnvC scope cl C X.env)) (RR (.ref s2.heap.objs.size) C) { s3 with heap:=h1,toks:=s2.toks+([]:List (Str×Value)).length }:=by
   refine zH5 (fun n s'=>∃i σ' H',Inv X' [] σ' H' s'/\tn i s'.heap/\(∀b∈fp,H' b=none)/\W i n σ' H') ?_ m0 ⟨0,_,_,J4,st4,fun b hb=>(f3 b hb).1,w0⟩
   rintro n s5 ⟨i,σ5,H5,I5,st5,fr5,w5⟩
   rcases turn i n σ5 H5 w5 with⟨stop,qn⟩ | ⟨go,N,hN,step⟩
   . have td:=T.done X' (by subst hX';rfl) (by subst hX';rfl) (by subst hX';rfl) (by subst hX';exact hc) i [] s5 σ5 H5 (fun _ _=>False) I5 (stat fr5) st5 stop
     have eA:X'.A=X.A:=by subst hX';rfl
     rw[eA] at td
     refine thn td fun r s6 ⟨hr,I6⟩=>?_
     subst hr
     subst hX'
     obtain⟨m,hnm,_⟩:=I6.loc
     have I7:Inv X pins σ H5 s6:=I3.uncomp f3 (Nat.le_of_eq hCC) I6
     refine hRR s2.heap.objs.size C s3.heap.objs.size s6 H5 m I7 (by omega) (by omega) hnm ?_ I6.hok qn
     have q:=I3.fpOk (H':=H5) (b:=C) (by omega) I6.free
     exact q
   . have ti:=T.item X' (by subst hX';rfl) (by subst hX';rfl) (by subst hX';rfl) (by subst hX';exact hc) i [] s5 σ5 H5 (fun _ _=>False) I5 (stat fr5) st5 go
     have eA:X'.A=X.A:=by subst hX';rfl
     rw[eA] at ti
     refine thn ti fun r s6 ⟨u,hr,h6⟩=>?_
     subst hr
     refine thn h6 fun _ s7 ⟨x,H7,I7,r7,y7,st7,fr7⟩=>?_
     have I7':=I7.pinned (stat fr7) (T.obj _ _ st7)
     have again:∀ {pl:List (Addr×Obj)} {σ8:St} {H8:Hp} {s8:Shared},Inv X' ([]++zw1 fp s7.heap) σ8 H8 s8->N σ8 H8->∃m,m<n/\∃i σ' H',Inv X' [] σ' H' s8/\tn i s8.heap/\(∀b∈fp,H' b=none)/\W i m σ' H':=fun {pl σ8 H8 s8} I8 n8=>by
       obtain⟨m',hm,w8⟩:=hN σ8 H8 n8
       refine⟨m',hm,i+1,σ8,H8,I8.unpinned,T.keep _ _ _ st7 fun b hb o e=>(I8.pin (b,o) (List.mem_append_right _ (List.mem_append_right _ (zm0 hb e)))).1,fun b hb=>?_,w8⟩
       obtain⟨o,e,d⟩:=T.obj _ _ st7 b hb
       exact(I8.pin (b,o) (List.mem_append_right _ (List.mem_append_right _ (zm0 hb e)))).2.1
     have eE:X'.env=compEnvC scope cl C X.env:=by subst hX';rfl
     have eP:X'.prog=X.prog:=by subst hX';rfl
     have eW:X'.w=X.w:=by subst hX';rfl
     have eX:X'.xe=fun _ _=>False:=by subst hX';rfl
     have hg':PG X' tg g:=by subst hX';exact hg _ _ _ _ _
     have hif':PIfs X' ifs tif:=by subst hX';exact hif _ _ _ _ _
     have he':PE X' elt telt:=by subst hX';exact he _ _ _ _ _
     have a1:=hg' _ s7 σ5 H7 x u _ I7' r7 (step x H7 y7)
     rw[eE,eP,eW,eA,eX] at a1
     refine thn a1 fun _ s8 ⟨σ8,H8,I8,q8⟩=>?_
     have a2:=hif' _ s8 σ8 H8 _ I8 q8
     rw[eE,eP,eW,eA,eX] at a2
     refine thn a2 fun ok s9 ⟨H9,I9,q9⟩=>?_
     cases ok with
     | false=>exact again (pl:=[]) I9 q9
     | true =>
       have q9':zn9 s2.heap.objs.size telt N σ8 H9:=q9
       have a3:=he' _ s9 σ8 H9 _ I9 q9'
       rw[eE,eP,eW,eA,eX] at a3
       show wpAny _ _ _ _ _ _
       refine thn a3 fun y s10 ⟨v,H10,I10,r10,acc,hD,hl,n10⟩=>?_
       obtain⟨hz,its,k,rv,hgD⟩:=I10.hok s2.heap.objs.size _ hD
       have hlen:=rv.length
       refine wpAny_list_append_plain (hsz:=by rw[List.size_toArray,<-hlen];exact Nat.le_of_lt hl) ⟨k,hgD⟩ fun h11 hl11 hs11=>?_
       obtain⟨k',hk'⟩:=hl11
       have ep:(its.toArray.push y)=(its++[y]).toArray:=by simp
       rw[ep] at hk'
       have I11:Inv X' ([]++zw1 fp s7.heap) σ8 (upd H10 s2.heap.objs.size (.lst (acc++[v]))) { s10 with heap:=h11 } :=
         I10.write (x:=s2.heap.objs.size) (e:=s2.heap.objs.size) (t':=s10.toks) (by rw[hD];exact trivial) (.inl rfl) (fun b o hb e=>hs11.extBut b o hb e) ⟨_,hk'⟩ ⟨by rw[List.length_append];exact hl,its++[y],k',rv.append (.cons r10 .nil),hk'⟩
       exact again (pl:=[]) I11 n10
 exact codeAny_compStart_list loop (T.self _ 0 _ _ _ st4 loop)
theorem zm9 (hc:X.calm=true)(S:zd7 X.N X.env.scope scope N' ix)(hi:PI X tg iter wi)
   (hg:∀cl C s0 H0 fp,PG (X.comp scope cl C N' s0 H0 fp) tg g) (hif:∀cl C s0 H0 fp,PIfs (X.comp scope cl C N' s0 H0 fp) ifs tif) (he:∀cl C s0 H0 fp,PE (X.comp scope cl C N' s0 H0 fp) elt telt)
   (hs:∀x,foldedSetIterable iter X.env x=pure x:=by intro _;rfl):PE X (.ListComp elt [⟨tg,iter,ifs,0⟩] scope pos) (yi1 wi ix g tif telt):=by
 intro pins s σ H Q I h
 obtain⟨cl,hcl,c1,c2⟩:=zB4 (scope:=scope) (env:=X.env) fun y hy hk=>I.ok.has y.1 (.inl (S.frees y hy hk))
 rw[eval_ListComp]
 refine wpAny_comprehension_free (use:=none) rfl hs hcl S.kind S.names (thn (hi pins s σ H _ I h) fun xv s1 h1=>thn h1 fun itv s2 h2=>?_)
 obtain⟨it,fp,tn,J,H2,e,I2,T,st2,f2,body⟩:=h2
 subst e
 refine zK3 (RR:=fun acc C=>compPost (model X.prog X.w) X.A X.xe none (EP X pins σ Q) acc C) (Q:=Q) hc S c1 c2 hg hif he I2 T st2 f2 body ?_
 intro D C s3 s' H' m I' h1 h2 hm hf hok q
 obtain⟨f0,f1,f2',f3,f4,f5⟩:=hf
 refine⟨m,hm,fun h' sb=>⟨.ref D,H',?_,rfl,q⟩⟩
 exact I'.turned (t':=s'.toks) (fun b o hb e=>sb.extBut b o hb e) f0 f1 f3 f4 f5
theorem yc7 {i:Nat}{y:Str}{py spos:Pos}(hc:X.calm=true)(S:zd7 X.N X.env.scope scope N' ix)(hi:PI X tg iter wi)
   (hg:∀cl C s0 H0 fp,PG (X.comp scope cl C N' s0 H0 fp) tg g) (hif:∀cl C s0 H0 fp,PIfs (X.comp scope cl C N' s0 H0 fp) ifs tif) (he:∀cl C s0 H0 fp,PE (X.comp scope cl C N' s0 H0 fp) elt telt)
   (hN:X.N.Nodup) (hy:X.N[i]?=some y) (hx:X.env.scope.names.lookup y=some .local)
   (hsw:swapsWith (.ListComp elt [⟨tg,iter,ifs,0⟩] scope pos) (some (.Name y py)) spos.line X.env=pure true:=by rfl)
   (hs:∀x,foldedSetIterable iter X.env x=pure x:=by intro _;rfl):PS X (.Assign [.Name y py] (.ListComp elt [⟨tg,iter,ifs,0⟩] scope pos) spos) (tAsg (yi1 wi ix g tif telt) (zq6 i)):=by
 intro pins s σ H D0 I h
 obtain⟨cl,hcl,c1,c2⟩:=zB4 (scope:=scope) (env:=X.env) fun y hy hk=>I.ok.has y.1 (.inl (S.frees y hy hk))
 rw[exec_Assign_Name_used _ _ _ _ hsw]
 refine wpAny_bind (wpAny_standAt (wpAny_bind ?_))
 show wpAny _ _ (do let _ <-comprehension (.ListComp elt [⟨tg,iter,ifs,0⟩] scope pos) scope X.env _ (newList []) false (eval iter X.env) (some (assign (.Name y py) X.env))) _ _ s
 refine wpAny_bind (wpAny_mono (wpAny_comprehension_free (use:=some (assign (.Name y py) X.env)) (Q:=fun _ s'=>SP X pins D0 .next s') rfl hs hcl S.kind S.names
   (thn (hi pins s σ H _ I h) fun xv s1 h1=>thn h1 fun itv s2 h2=>?_)) (fun _ s' hq=>wpAny_pure (wpAny_pure hq)) fun _ _ e=>e)
 obtain⟨it,fp,tn,J,H2,e,I2,T,st2,f2,body⟩:=h2
 subst e
 refine zK3 (RR:=fun acc C=>compPost (model X.prog X.w) X.A X.xe (some (assign (.Name y py) X.env)) (fun _ s'=>SP X pins D0 .next s') acc C) (Q:=fun v H1=>zq6 i v σ H1 D0.nx) hc S c1 c2 hg hif he I2 T st2 f2 body ?_
 intro D C s3 s' H' m I' h1 h2 hm hf hok q
 obtain⟨f0,f1,f2',f3,f4,f5⟩:=hf
 show wpAny _ _ (assign (.Name y py) X.env (.ref D)) _ _ _
 refine wpAny_assign_Name (zN3 I' hN hy (.inl hx) (v:=.ref D) rfl (fun s4 I4 ⟨a,sb,ha⟩=>?_) (.inr hx))
 have hCa:C≠a:=by
   rcases ha with z | z
   . rw[z];exact f1
   . exact Ne.symm (f4 y a z)
 refine⟨m,hm.sameBut sb hCa,fun h' sb'=>⟨_,H',?_,q⟩⟩
 exact I4.turned (t':=s4.toks) (fun b o hb e=>sb'.extBut b o hb e) f0 f1 f3 f4 f5
end
section
variable {X:Cx}
inductive zO3 (K:W.Frag)(x:V)(vs:List V)(H:Hp)(Q:VK):Prop
 | mk (l:Addr)(ns:List Int)(k:Int)(h0:x = .ref l)(h1:vs=[.int k])(h2:SqL K H l (ns.map V.int))(h3:Q (.int (ns.count k:Nat)) H):zO3 K x vs H Q
noncomputable def yc8 (K:W.Frag):V->List V->Hp->VK->Prop:=fun x vs H Q=>zO3 K x vs H Q
theorem zO4:MtR X "list.count" (yc8 X.K):=by
 intro pins s σ H x vs v us Q I rx rv h
 obtain⟨l,ns,k,rfl,rfl,hS,q⟩:=h
 cases rx
 obtain⟨u,rfl,t,rfl⟩:=rv.one
 obtain⟨its,r,p,hz⟩:=I.list hS
 exact count_list_ints p.isList (zm2 r) ⟨.int (ns.count k:Nat),H,I.tok _,⟨_,rfl⟩,q⟩
inductive zO5 (K:W.Frag)(x:V)(vs:List V)(H:Hp)(Q:VK):Prop
 | mk (l:Addr)(ns:List Int)(k:Int)(h0:x = .ref l)(h1:vs=[.int k])(h2:SqT K H l (ns.map V.int))(h3:Q (.int (ns.count k:Nat)) H):zO5 K x vs H Q
noncomputable def rCountT (K:W.Frag):V->List V->Hp->VK->Prop:=fun x vs H Q=>zO5 K x vs H Q
theorem zF5:MtR X "tuple.count" (rCountT X.K):=by
 intro pins s σ H x vs v us Q I rx rv h
 obtain⟨l,ns,k,rfl,rfl,hS,q⟩:=h
 cases rx
 obtain⟨u,rfl,t,rfl⟩:=rv.one
 obtain⟨its,r,⟨⟨cls,dd,data,sl⟩,ho,hc,n,hd⟩,hz⟩:=I.tuple hS
 simp only at hc hd
 subst hc hd
 have hi:=zm2 r
 refine call_meets PySem.F.slot_tuple_count ⟨_,ho,rfl⟩ PySem.F.entry_tuple_count (PySem.F.args_tuple_count_2 _ _) (SeqAt.tuple_countAt l its.toArray n dd sl (.int k t) (isInt k)) ⟨ho,fun y hy=>(eq_isInt k t hi y (by simpa using hy)).at _ _,?_⟩
 rw[show its.toArray.toList=its from rfl,countP_isInt k hi]
 exact⟨.int (ns.count k:Nat),H,I.tok _,⟨_,rfl⟩,q⟩
noncomputable def tTM (r:V->List V->Hp->VK->Prop)(to:TE)(t:TA):TE:=fun σ H Q=>to σ H fun x H1=>(∃p ys,x = .ref p/\H1 p=some (.tup ys))/\t σ H1 fun xs H2=>r x xs H2 Q
variable {o e:Expr} {es:List Expr} {to:TE} {t:TA} {name:Str} {apos cpos:Pos} {id:String} {r:V->List V->Hp->VK->Prop}
theorem yi2 (slot:Slot "tuple" name id) (hty:typeOf (.builtin id)=pure (.type "method_descriptor")) (hm:MtR X id r) (ho:PE X o to) (ha:PA X (e::es) t)
   (hbase:attributeBase o name X.env (eval o X.env)=eval o X.env:=by rfl)
   (hfew:((backTo cpos (starEach (e::es) X.env)).all (fun x=>!x.1) && (backToKw cpos (keywordEach [] X.env)).all (fun x=>x.1.isSome)
     && decide ((e::es).length+([]:List Keyword).length+(if ([]:List Keyword).isEmpty then 0 else 1)<30))=true:=by rfl)
   (hline:(apos.endLine == cpos.line)=true:=by rfl) (hs:starEach (e::es) X.env=(false,eval e X.env)::starEach es X.env:=by rfl) (hplain:(backTo cpos (starEach es X.env)).any (·.1)=false:=by rfl) :
   PE X (.Call (.Attribute o name apos) (e::es) [] cpos) (tTM r to t):=by
 intro pins s σ H Q I h
 refine wpAny_Call_method_late hbase hfew hline rfl (thn (ho pins s σ H _ I h) fun v s1 ⟨x,H1,I1,r1,⟨p,ys,ex,hp⟩,q1⟩=>?_)
 subst ex
 cases r1
 obtain⟨_,its,_,ob,eo,ec,ed,_⟩:=I1.hok p _ hp
 refine⟨"tuple",id,PySem.F.plainAttrs_tuple,slot,hty,⟨ob,eo,ec⟩,fun a ea=>by cases ea;exact⟨ob,eo,ed⟩,?_⟩
 have hA:=ha cpos pins s1 σ H1 _ I1 q1
 rw[hs] at hA ⊢
 refine Calls.callWith_builtin (by show(false || (backTo cpos (starEach es X.env)).any (·.1))=false;rw[hplain]<;>rfl) (Calls.evalArgs_plain ?_)
 exact thn hA fun us s2 ⟨vs,H2,I2,r2,q2⟩=>hm pins s2 σ H2 (.ref p) vs _ us Q I2 rfl r2 q2
inductive ClsV:V->Value->Prop where
 | ty (n:String):ClsV (.ty n) (.type n)
 | own (C:Addr):ClsV (.ref C) (.ref C)
inductive yi3 (K:W.Frag)(xs:List V)(H:Hp)(Q:VK):Prop
 | mk (x cv t c b:_)(h0:xs=[x,cv])(h1:ClsV cv c)(h2:TyOf K H x t)(h3:W.kitOne K t c=some b)(h4:Q (.bl b) H):yi3 K xs H Q
noncomputable def rIsi (K:W.Frag):List V->Hp->VK->Prop:=fun xs H Q=>yi3 K xs H Q
theorem zk0:zl1 X (.builtin "isinstance") (rIsi X.K):=by
 intro pins s σ H xs us Q I r h
 obtain⟨x,cv,t,c,b,rfl,hc,ty,e,q⟩:=h
 obtain⟨u,w',rfl,ru,rw'⟩:=zW4 r
 have ew:w'=c:=by
   cases hc with
   | ty n=>exact rw'
   | own C=>exact rw'
 subst ew
 exact isinst_ok I ru ty e fun tk=>⟨.bl b,H,I.tok tk,rfl,q⟩
theorem zO6 {prog:Program}{w:World}{A:Around}{E:Value->Shared->Prop}{it t:Addr}{items:Array Value}(hne:t≠it):∀(n i:Nat) (s:Shared) (Q:List Value->Shared->Prop),s.heap.IsListIter it t i->s.heap.IsList t items->i+n<=items.size →
   (∀h',h'.IsListIter it t (i+n)->Heap.SameBut it s.heap h'->Q ((items.toList.drop i).take n) { s with heap:=h' })->wpAny (model prog w) A (draw (.ref it) n) Q E s
 | 0,i,s,Q,hit,_,_,hQ=>by
   show wpAny _ _ (pure []) Q E s
   exact wpAny_pure (by simpa using hQ s.heap hit (Heap.SameBut.refl ..))
 | n+1,i,s,Q,hit,ht,hle,hQ=>by
   have hlt:i<items.size:=by omega
   show wpAny _ _ (pyNext (.ref it) >>= _) Q E s
   refine wpAny_bind (wpAny_pyNext_list_item hit ht (x:=items[i]) (by simp[hlt]) fun h1 hit1 hs1=>?_)
   refine wpAny_bind (wpAny_holding (zO6 hne n (i+1) _ _ hit1 (ht.extBut hs1.extBut hne) (by omega) fun h2 hit2 hs2=>wpAny_pure ?_))
   have hd:items.toList.drop i=items[i]::items.toList.drop (i+1):=by simp[List.drop_eq_getElem_cons,hlt]
   have:=hQ h2 (by rw[show i+(n+1)=i+1+n by omega];exact hit2) (hs1.trans hs2)
   rw[hd,List.take_succ_cons] at this
   exact this
theorem unpackItems_list {prog:Program}{w:World}{A:Around}{E:Value->Shared->Prop}{s:Shared}{t:Addr}{items:Array Value}{Q:List Value->Shared->Prop}(hh:A.handled=none)(ht:s.heap.IsList t items)
   (hQ:∀h',Heap.ExtBut s.heap.objs.size s.heap h'->Q items.toList { s with heap:=h' }):wpAny (model prog w) A (unpackItems (.ref t) items.size none) Q E s:=by
 have hlt:t≠s.heap.objs.size:=by obtain⟨o,ho,_⟩:=ht;exact Nat.ne_of_lt (Heap.lt_size ho)
 unfold unpackItems
 refine wpAny_bind ?_
 . unfold notIterableAtAll
   refine wpAny_bind (wpAny_specialOf ht.typeIs slot_list_iter.lookup ?_)
   refine wpAny_pure ?_
   simp only[Bool.false_eq_true,if_false]
   refine wpAny_bind (wpAny_holding (wpAny_pyIter_list ht ?_))
   refine wpAny_bind (wpAny_holding (zO6 hlt items.size 0 _ _ ⟨_,Heap.get?_push_size _ rfl,rfl,rfl⟩ (ht.push _) (by omega) fun h1 hit1 hs1=>?_))
   have hall:List.take items.size (List.drop 0 items.toList)=items.toList:=by
     rw[List.drop_zero];exact List.take_of_length_le (by simp)
   rw[hall]
   rw[if_neg (by simp)]
   have ht1:h1.IsList t items:=(ht.push _).extBut hs1.extBut hlt
   refine wpAny_bind (wpAny_holding (wpAny_pyNext_list_end hh hit1 ht1 (by simp) fun h2 he2=>?_))
   simp only[Option.isSome_none,Bool.false_eq_true,if_false]
   refine wpAny_pure (hQ h2 fun b o hb e=>he2 b o hb (hs1.extBut b o hb (Heap.get?_push_of_some _ e)))
inductive yi4 (K:W.Frag)(n:Nat)(t:TGs)(v:V)(σ:St)(H:Hp)(Q:St->Hp->Prop):Prop
 | mk (a xs:_)(h0:v = .ref a)(h1:SqL K H a xs)(h2:xs.length=n)(h3:t xs σ H Q):yi4 K n t v σ H Q
noncomputable def gLst (K:W.Frag)(n:Nat)(t:TGs):TG:=fun v σ H Q=>yi4 K n t v σ H Q
theorem zU0 {es:List Expr}{k:Nat}{t:TGs}{n:Nat}{pos:Pos}(hc:X.calm=true)(h:PGs X es t)
   (hn:(assignEach es X.env).length=n:=by rfl) (hst:(assignEach es X.env).findIdx? (·.1)=none:=by rfl):PG X (.Tuple es k pos) (gLst X.K n t):=by
 intro pins s σ H v u Q I r hw
 obtain⟨a,xs,e1,hq,hl,hw⟩:=hw
 subst e1
 cases r
 obtain⟨its,rv,ht,hz⟩:=I.list hq
 have hln:=rv.length
 rw[assign_Tuple]
 refine wpAny_bind (wpAny_standAt ?_)
 unfold unpack
 have esz:(assignEach es X.env).length=its.toArray.size:=by rw[hn,<-hl,hln,List.size_toArray]
 rw[esz,hst]
 refine wpAny_bind (wpAny_holding (unpackItems_list (I.ok.hd hc) ht.isList fun h' hx=>?_))
 have I1:Inv X pins σ H { s with heap:=h' }:=I.kept (t':=s.toks) fun b o e=>hx b o (Nat.ne_of_lt (Heap.lt_size e)) e
 exact h pins _ σ H xs _ Q I1 (by simpa using rv) hw
theorem zA3:∀ {us:List Value} {ns:List Int},IntsAre us ns->∃ps:List (Int×Tok),us=ps.map (fun p=>Value.int p.1 p.2)/\ps.map (·.1)=ns
 | _,_,.nil=>⟨[],rfl,rfl⟩
 | _,_,.cons n t h=>by
   obtain⟨ps,e1,e2⟩:=zA3 h
   exact⟨(n,t)::ps,by rw[List.map_cons,e1],by rw[List.map_cons,e2]⟩
noncomputable def iSeq (K:W.Frag)(tl:TE):TI:=fun σ H R=>tl σ H fun x H1=>∃a,x = .ref a/\(((∃xs,SqL K H1 a xs)/\R (Itl K a) H1)\/((∃xs,SqT K H1 a xs)/\R (Itt K a) H1))
theorem pi_seq {tg l:Expr}{tl:TE}(hl:PE X l tl):PI X tg l (iSeq X.K tl):=by
 intro pins s σ H R I h
 refine thn (hl pins s σ H _ I h) fun v s1 ⟨x,H1,I1,r1,q1⟩=>?_
 obtain⟨a,e,q⟩:=q1
 subst e
 cases r1
 rcases q with⟨⟨xs,hq⟩,q⟩ | ⟨⟨xs,hq⟩,q⟩
 . obtain⟨its,rv,p,hz⟩:=I1.list hq
   refine wpAny_pyIter_list p.isList ?_
   refine⟨s1.heap.objs.size,[s1.heap.objs.size],_,_,H1,rfl,I1.kept (t':=s1.toks) fun b o e=>Heap.get?_push_of_some _ e,zN4 a _,⟨_,Heap.get?_push_size _ rfl,rfl,rfl⟩,fun b hb=>?_,q⟩
   have e:b=s1.heap.objs.size:=by simpa using hb
   subst e
   exact I1.fpOk (Nat.le_refl _) (I1.hok.fresh (Nat.le_refl _))
 . obtain⟨its,rv,p,hz⟩:=I1.tuple hq
   refine wpAny_pyIter_tuple (show s1.heap.IsTuple a its.toArray from p) ?_
   refine⟨s1.heap.objs.size,[s1.heap.objs.size],_,_,H1,rfl,I1.kept (t':=s1.toks) fun b o e=>Heap.get?_push_of_some _ e,zJ8 a _,⟨_,Heap.get?_push_size _ rfl,rfl,rfl⟩,fun b hb=>?_,q⟩
   have e:b=s1.heap.objs.size:=by simpa using hb
   subst e
   exact I1.fpOk (Nat.le_refl _) (I1.hok.fresh (Nat.le_refl _))
noncomputable def stE:Stmt->Expr
 | .Assign _ v _=>v
 | .Return (some v) _=>v
 | .Expr v _=>v
 | _=>.Constant .none 0 ⟨0,0,0,0⟩
noncomputable def zw4 (e:Expr)(j:Nat):Expr:=match e with
 | .Call _ as _ _=>as.getD j (.Constant .none 0 ⟨0,0,0,0⟩)
 | _=>.Constant .none 0 ⟨0,0,0,0⟩
noncomputable def zi2:Expr->Scope
 | .ListComp _ _ sc _=>sc
 | _=>{ kind:=.function,names:=[],isGenerator:=false,isCoroutine:=false }
noncomputable def stAt (l:List Stmt)(i:Nat):Stmt:=l.getD i (.Pass ⟨0,0,0,0⟩)
noncomputable def stBody:Stmt->List Stmt
 | .If _ b _ _=>b
 | .For _ _ b _ _=>b
 | .While _ b _ _=>b
 | _=>[]
end
theorem iteB {c:Bool}{A B:Prop}(e:c=false)(h:B):if c=true then A else B:=by
 subst e;exact iteF h
theorem iteA {c:Bool}{A B:Prop}(e:c=true)(h:A):if c=true then A else B:=by
 subst e;exact iteT h
theorem zw5 {a lo hi:Int}(h1:lo<=a)(h2:a<=hi):(decide (a<lo) || decide (hi<a))=false:=by
 rw[decide_eq_false (by omega),decide_eq_false (by omega)];rfl
theorem zU1 {a b:Int}(h:b<=a):decide (a<b)=false:=decide_eq_false (by omega)
theorem fl0 {f:Str}{v:V}:(putF f v []).length<=1:=zq7 f v []
theorem flS {f:Str}{v:V}{fs:List (Str×V)}{k:Nat}(h:fs.length<=k):(putF f v fs).length<=k+1:=Nat.le_trans (zq7 f v fs) (Nat.succ_le_succ h)
theorem zn6 {fs:List (Str×V)}{k:Nat}(h:fs.length<=k)(hk:k<1000:=by decide):fs.length<1000:=Nat.lt_of_le_of_lt h hk
noncomputable def zg9 (p:Addr)(H H':Hp):Prop:=∀b o,H b=some o->b≠p->H' b=some o
theorem Same.upd {H:Hp}{l:Addr}{o:HO}(h:H l=none):Same H (upd H l o):=fun b u e=>by
 rw[za9 (zc1 e h)];exact e
theorem Same.updT {H H1:Hp}{l:Addr}{o:HO}(s:Same H H1)(h:H1 l=none):Same H (L2.upd H1 l o):=s.trans (Same.upd h)
theorem Same.put {H H1:Hp}{l:Addr}{o:HO}(s:Same H H1)(h:H l=none):Same H (L2.upd H1 l o):=fun b u e=>by
 rw[za9 (zc1 e h)];exact s b u e
theorem upd_id {H:Hp}{m:Addr}{o:HO}(h:H m=some o):L2.upd H m o=H:=by
 funext b
 by_cases hb:b=m
 . subst hb;rw[za1,h]
 . rw[za9 hb]
theorem mt_countLK {X:Cx} (K:W.Frag) (h:X.K=K):MtR X "list.count" (yc8 K):=h▸zO4
theorem zW8 {X:Cx}(K:W.Frag)(h:X.K=K):IxR X (rIxL K):=h▸zd6
theorem zq8 {X:Cx}(K:W.Frag)(h:X.K=K):IxR X (rIxT K):=h▸zp8
theorem int_at {xs:List Int}{i:Nat}{v:V}(h:(xs.map V.int)[i]?=some v):∃z,v = .int z/\xs[i]?=some z:=by
 rw[List.getElem?_map] at h
 cases e:xs[i]? with
 | none=>rw[e] at h;cases h
 | some z=>rw[e] at h;exact⟨z,(Option.some.inj h).symm,rfl⟩
theorem zI3 {xs:List Int}{j:Nat}{z:Int}(h:xs[j]?=some z):atI (xs.map V.int) (j:Int)=some (V.int z):=zC3 (by rw[List.getElem?_map,h];rfl)
theorem zg4 {xs:List Int}{i:Int}(h0:0<=i)(h1:i<xs.length):atI (xs.map V.int) i=some (.int (xs.getD i.toNat 0)):=by
 obtain⟨j,rfl⟩:∃j:Nat,i=j:=⟨i.toNat,by omega⟩
 have hj:j<xs.length:=by omega
 rw[zI3 (z:=xs[j]) (by simp[hj])]
 simp[hj]
theorem zf7 {a b:Int}:decide (V.int a=V.int b)=decide (a=b):=by
 by_cases h:a=b
 . subst h;simp
 . rw[decide_eq_false h,decide_eq_false];intro e;cases e;exact h rfl
theorem comp_map {J:It}{H1:Hp}{D:Addr}{n:Nat}{x:Nat->V}{f:Nat->V}{j:Nat}{σc:St}{telt:TE}{Q:Hp->Prop}(hn:n<=sizeLine)
   (go:∀i acc,i<n->J.go i (upd H1 D (.lst acc))) (st:∀acc,J.stop n (upd H1 D (.lst acc))) (yl:∀i acc v H',i<n->J.yld i (upd H1 D (.lst acc)) v H'->H'=upd H1 D (.lst acc)/\v=x i)
   (el:∀i acc R,i<n->R (f i) (upd H1 D (.lst acc))->telt (σc.set j (some (x i))) (upd H1 D (.lst acc)) R) (q:Q (upd H1 D (.lst ((List.range n).map f)))) :
   ∃W:Nat->Nat->St->Hp->Prop,(∃m,W 0 m σc (upd H1 D (.lst []))) ∧
     ∀i m σ' H',W i m σ' H'->(J.stop i H'/\Q H')\/(J.go i H'/\∃N:St->Hp->Prop,(∀σ2 H2,N σ2 H2->∃m',m'<m/\W (i+1) m' σ2 H2) ∧
       ∀v H2,J.yld i H' v H2->zq6 j v σ' H2 fun σ3 H3=>zw3 σ3 H3 fun b H4=>if b=true then zn9 D telt N σ3 H4 else N σ3 H4):=by
 refine⟨fun i m σ' H'=>m=n-i/\i<=n/\(∀v,σ'.set j (some v)=σc.set j (some v))/\H'=upd H1 D (.lst ((List.range i).map f)),⟨n,by simp,Nat.zero_le _,fun _=>rfl,rfl⟩,?_⟩
 rintro i m σ' H' ⟨rfl,hi,hσ,rfl⟩
 by_cases hlt:i<n
 . refine .inr ⟨go i _ hlt,fun σ2 H2=>(∀v,σ2.set j (some v)=σc.set j (some v))/\H2=upd H1 D (.lst ((List.range (i+1)).map f)),fun σ2 H2 ⟨h1,h2⟩=>⟨n-(i+1),by omega,rfl,hlt,h1,h2⟩,fun v H2 y=>?_⟩
   obtain⟨rfl,rfl⟩:=yl i _ v H2 hlt y
   dsimp only[zq6,zw3]
   refine iteT ?_
   dsimp only[zn9]
   rw[hσ]
   refine el i _ _ hlt ⟨_,za1,?_,?_,?_⟩
   . rw[List.length_map,List.length_range];omega
   . intro v;simp
   . rw[zk5,List.range_succ,List.map_append];rfl
 . have e:i=n:=by omega
   subst e
   exact .inl ⟨st _,q⟩
theorem zU2 {K:W.Frag}{H:Hp}{a D:Addr}{xs:List V}{o:HO}(h:SqL K H a xs)(n:H D=none):SqL K (upd H D o) a xs:=(Same.upd n).seq h
theorem map_range_get {α β:Type}(xs:List α)(d:α)(f:α->β):(List.range xs.length).map (fun i=>f (xs.getD i d))=xs.map f:=by
 apply List.ext_getElem
 . simp
 . intro i h1 h2
   simp at h1 h2
   simp[h1]
theorem zr7 {K:W.Frag}{H1:Hp}{a D:Addr}{xs:List V}{f:V->V}{j:Nat}{σc:St}{telt:TE}{Q:Hp->Prop}(h:SqL K H1 a xs)(hD:H1 D=none)(hn:xs.length<=sizeLine)
   (el:∀x acc R,x∈xs->R (f x) (upd H1 D (.lst acc))->telt (σc.set j (some x)) (upd H1 D (.lst acc)) R) (q:Q (upd H1 D (.lst (xs.map f)))) :
   ∃W:Nat->Nat->St->Hp->Prop,(∃m,W 0 m σc (upd H1 D (.lst []))) ∧
     ∀i m σ' H',W i m σ' H'->((Itl K a).stop i H'/\Q H')\/((Itl K a).go i H'/\∃N:St->Hp->Prop,(∀σ2 H2,N σ2 H2->∃m',m'<m/\W (i+1) m' σ2 H2) ∧
       ∀v H2,(Itl K a).yld i H' v H2->zq6 j v σ' H2 fun σ3 H3=>zw3 σ3 H3 fun b H4=>if b=true then zn9 D telt N σ3 H4 else N σ3 H4):=by
 refine comp_map (J:=Itl K a) (n:=xs.length) (x:=fun i=>xs.getD i .non) (f:=fun i=>f (xs.getD i .non)) hn (fun i acc hi=>⟨xs,xs[i],zU2 h hD,by simp[hi]⟩) (fun acc=>⟨xs,zU2 h hD,Nat.le_refl _⟩) (fun i acc v H' hi y=>?_) (fun i acc R hi r=>?_) ?_
 . obtain⟨e,y⟩:=y
   have:=y xs (zU2 h hD)
   exact⟨e,by rw[List.getD_eq_getElem?_getD,this];rfl⟩
 . refine el _ acc R ?_ r
   rw[List.getD_eq_getElem?_getD,List.getElem?_eq_getElem hi]
   exact List.getElem_mem hi
 . rw[map_range_get];exact q
section
variable {prog:Program} {w:World} {A:Around} {E:Value->Shared->Prop} {s:Shared}
theorem zK4 {it l:Addr}{i:Nat}{its:Array Value}{x:Value}{Q:Value->Shared->Prop}(hit:s.heap.IsTupleIter it l i)(hl:s.heap.IsTuple l its)(hx:its[i]?=some x)
   (hQ:∀h',h'.IsTupleIter it l (i+1)->Heap.SameBut it s.heap h'->Q x { s with heap:=h' }):wpAny (model prog w) A (Builtin.SmallTypes.nextOf (.ref it)) Q E s:=by
 obtain⟨oi,hoi,hci,hdi⟩:=id hit
 obtain⟨os,hos,_,ns,hds⟩:=hl
 unfold Builtin.SmallTypes.nextOf
 refine wpAny_bind (wpAny_callSpecial?_slot (name:=Str.ofString "__next__") hit.typeIs F.slot_tuple_iterator_next (wpAny_call_entry F.slot_tuple_iterator_next hit.typeIs F.entry_tuple_iterator_next ?_ (F.args_tuple_iterator_next_1 _)))
 show wpAny _ _ (field (.ref it) 0 >>= _) _ _ s
 refine wpAny_bind (wpAny_field hoi hdi (x:=.ref l) rfl ?_);show wpAny _ _ (if (Value.ref l == Value.none)=true then _ else _) _ _ s
 rw[if_neg (show ¬ ((Value.ref l == Value.none)=true) from Bool.false_ne_true)];show wpAny _ _ (field (.ref it) 1 >>= _) _ _ s
 refine wpAny_bind (wpAny_field hoi hdi (x:=.int i 0) rfl ?_);show wpAny _ _ (seqItems? (.ref l) >>= _) _ _ s
 refine wpAny_bind (wpAny_seqItems hos hds ?_);simp only[Int.toNat_natCast,hx]
 refine wpAny_bind (wpAny_setField hoi hdi (by simp) (wpAny_pure ⟨x,rfl,wpAny_pure (hQ _ ?_ (Heap.SameBut.update ..))⟩))
 refine⟨_,Heap.get?_update_self _ hoi (Obj.isFreed_of_fields (Obj.data_mapFields hdi _)),(Obj.cls_mapFields ..).trans hci,?_⟩;rw[Obj.data_mapFields hdi];simp[rawInt]
theorem nextOf_tup_end {it l:Addr}{i:Nat}{its:Array Value}{Q:Value->Shared->Prop}(hh:A.handled=none)(hit:s.heap.IsTupleIter it l i)(hl:s.heap.IsTuple l its)(hx:its[i]?=none)
   (hE:∀h' e,Heap.ExtBut it s.heap h'->(∃o,h'.get? e=some o/\o.cls = .type "StopIteration")->E (.ref e) { s with heap:=h' }):wpAny (model prog w) A (Builtin.SmallTypes.nextOf (.ref it)) Q E s:=by
 obtain⟨oi,hoi,hci,hdi⟩:=id hit
 obtain⟨os,hos,_,ns,hds⟩:=hl
 unfold Builtin.SmallTypes.nextOf
 refine wpAny_bind (wpAny_callSpecial?_slot (name:=Str.ofString "__next__") hit.typeIs F.slot_tuple_iterator_next (wpAny_call_entry F.slot_tuple_iterator_next hit.typeIs F.entry_tuple_iterator_next ?_ (F.args_tuple_iterator_next_1 _)))
 show wpAny _ _ (field (.ref it) 0 >>= _) _ _ s
 refine wpAny_bind (wpAny_field hoi hdi (x:=.ref l) rfl ?_);show wpAny _ _ (if (Value.ref l == Value.none)=true then _ else _) _ _ s
 rw[if_neg (show ¬ ((Value.ref l == Value.none)=true) from Bool.false_ne_true)];show wpAny _ _ (field (.ref it) 1 >>= _) _ _ s
 refine wpAny_bind (wpAny_field hoi hdi (x:=.int i 0) rfl ?_);show wpAny _ _ (seqItems? (.ref l) >>= _) _ _ s
 refine wpAny_bind (wpAny_seqItems hos hds ?_);simp only[Int.toNat_natCast,hx]
 refine wpAny_bind (wpAny_rule (wpAny_bind (wpAny_setField hoi hdi (by simp) ?_)));show wpAny _ _ (newExc (.type "StopIteration") [] >>= _) _ _ _
 refine wpAny_bind ?_;simp only[newExc,newTuple]
 refine wpAny_bind (wpAny_newObj_type ?_ (by size_fits))
 refine wpAny_bind (m:=firstArgMember _ _) (wpAny_of_eq (a:=Value.none) (by first | rfl | (simp only[firstArgMember];rfl)) ?_)
 refine wpAny_newObj_type ?_ (by size_fits);simp only[raiseNew]
 refine wpAny_bind (wpAny_handled ?_);first | rw[show A.in1.handled=none from hh] | rw[hh]
 refine wpAny_bind (wpAny_pure (wpAny_throw ?_))
 exact hE _ _ (((Heap.SameBut.update ..).extBut.push _).push _) ⟨_,Heap.get?_push_size _ rfl,rfl⟩
structure yb7 (z TI TO i1 i2:Addr):Prop where
 TIz:TI≠z
 TOz:TO≠z
 i1z:i1≠z
 i2z:i2≠z
 TITO:TI≠TO
 TIi1:TI≠i1
 TIi2:TI≠i2
 TOi1:TO≠i1
 TOi2:TO≠i2
 i12:i1≠i2
structure ZAt (h:Heap)(z TI TO i1 i2 l1 l2:Addr)(f0:Value)(i:Nat):Prop where
 hz:IsZip h z TI TO f0
 hTI:IsPair h TI (.ref i1) (.ref i2)
 hTO:∃a b,IsPair h TO a b
 h1:h.IsTupleIter i1 l1 i
 h2:h.IsTupleIter i2 l2 i
theorem zip_item {z TI TO i1 i2 l1 l2:Addr}{k:Nat}{xs ys:Array Value}{x y:Value}{Q:Option Value->Shared->Prop}(D:yb7 z TI TO i1 i2)(L:∀l,l=l1\/l=l2->l≠z/\l≠TO/\l≠i1/\l≠i2)(Z:ZAt s.heap z TI TO i1 i2 l1 l2 .none k)
   (hl1:s.heap.IsTuple l1 xs) (hl2:s.heap.IsTuple l2 ys) (hx:xs[k]?=some x) (hy:ys[k]?=some y)
   (hQ:∀h',ZAt h' z TI TO i1 i2 l1 l2 (rawInt s.heap.objs.size) (k+1)->IsPair h' s.heap.objs.size x y →
     (∀c o,c≠z->c≠TO->c≠i1->c≠i2->s.heap.get? c=some o->h'.get? c=some o)->Q (some (.ref s.heap.objs.size)) { s with heap:=h' }) :
   wpAny (model prog w) A (pyNext (.ref z)) Q E s:=by
 obtain⟨hz,hTI,⟨a,b,hTO⟩,h1,h2⟩:=Z
 obtain⟨l1z,l1TO,l1i1,l1i2⟩:=L l1 (.inl rfl)
 obtain⟨l2z,l2TO,l2i1,l2i2⟩:=L l2 (.inr rfl)
 have hT:s.TypeIs (.ref z) "zip":=⟨_,hz,rfl⟩
 unfold pyNext
 refine wpAny_bind (wpAny_attempt (wpAny_callSpecial?_slot (name:=Str.ofString "__next__") hT F.slot_zip_next (wpAny_call_entry F.slot_zip_next hT F.entry_zip_next ?_ (F.args_zip_next_1 _))))
 show wpAny _ _ (field (.ref z) 2 >>= _) _ _ _
 refine wpAny_bind (wpAny_field hz rfl (x:=.bool false) rfl ?_);show wpAny _ _ (field (.ref z) 3 >>= _) _ _ _
 refine wpAny_bind (wpAny_field hz rfl (x:=.ref TI) rfl ?_)
 refine wpAny_bind (wpAny_seqItems hTI rfl ?_);show wpAny _ _ (Builtin.SmallTypes.ownedTupleIsFree (.ref z) >>= _) _ _ _
 refine wpAny_bind ?_;unfold Builtin.SmallTypes.ownedTupleIsFree
 refine wpAny_bind (wpAny_field hz rfl (x:=.none) rfl (wpAny_pure ?_));simp only[if_true]
 refine wpAny_bind (wpAny_rule (wpAny_bind (wpAny_field hz rfl (x:=.ref TO) rfl ?_)))
 refine wpAny_bind (wpAny_setField_rec hz (by simp) fun g1 z1 e1=>?_)
 replace z1:IsZip g1 z TI TO .ellipsis:=z1
 refine wpAny_bind ?_;simp only[List.zipIdx_cons,List.zipIdx_nil,List.forIn_cons,List.forIn_nil]
 refine wpAny_bind (wpAny_bind (wpAny_onRaise ?_));show wpAny _ _ (Builtin.SmallTypes.nextOf (.ref i1) >>= _) _ _ _
 refine wpAny_bind (zK4 (h1.extBut e1.extBut D.i1z) (hl1.extBut e1.extBut l1z) hx fun g2 j1 e2=>wpAny_pure ?_)
 have t2:IsPair g2 TO a b:=e2.extBut _ _ D.TOi1 (e1.extBut _ _ D.TOz hTO)
 refine wpAny_bind (wpAny_seqItems t2 rfl (wpAny_bind (wpAny_updateSeq_pair t2 fun g3 t3 e3=>?_)))
 replace t3:IsPair g3 TO x b:=t3
 refine wpAny_bind (wpAny_letGo (wpAny_pure ?_))
 refine wpAny_bind (wpAny_bind (wpAny_onRaise ?_));show wpAny _ _ (Builtin.SmallTypes.nextOf (.ref i2) >>= _) _ _ _
 refine wpAny_bind (zK4 (((h2.extBut e1.extBut D.i2z).extBut e2.extBut D.i12.symm).extBut e3.extBut D.TOi2.symm) (((hl2.extBut e1.extBut l2z).extBut e2.extBut l2i1).extBut e3.extBut l2TO) hy fun g4 j2 e4=>wpAny_pure ?_)
 have t4:IsPair g4 TO x b:=e4.extBut _ _ D.TOi2 t3
 refine wpAny_bind (wpAny_seqItems t4 rfl (wpAny_bind (wpAny_updateSeq_pair t4 fun g5 t5 e5=>?_)))
 replace t5:IsPair g5 TO x y:=t5
 refine wpAny_bind (wpAny_letGo (wpAny_pure (wpAny_pure ?_)))
 refine wpAny_bind (wpAny_seqItems t5 rfl (wpAny_bind (wpAny_newTuple ?_)))
 have sz:g5.objs.size=s.heap.objs.size:=by rw[e5.1,e4.1,e3.1,e2.1,e1.1]
 have z5:IsZip g5 z TI TO .ellipsis:=e5.extBut _ _ D.TOz.symm (e4.extBut _ _ D.i2z.symm (e3.extBut _ _ D.TOz.symm (e2.extBut _ _ D.i1z.symm z1)))
 have k5:∀c o,c≠z->c≠TO->c≠i1->c≠i2->s.heap.get? c=some o->g5.get? c=some o:=fun c o c1 c2 c3 c4 e=>e5.extBut _ _ c2 (e4.extBut _ _ c4 (e3.extBut _ _ c2 (e2.extBut _ _ c3 (e1.extBut _ _ c1 e))))
 have m1:g5.IsTupleIter i1 l1 (k+1):=((j1.extBut e3.extBut D.TOi1.symm).extBut e4.extBut D.i12).extBut e5.extBut D.TOi1.symm
 have m2:g5.IsTupleIter i2 l2 (k+1):=j2.extBut e5.extBut D.TOi2.symm
 have zl:z<g5.objs.size:=Heap.lt_size z5
 show wpAny _ _ (Builtin.SmallTypes.ownedTupleHandOut (.ref z) (.ref g5.objs.size) >>= _) _ _ _
 refine wpAny_bind ?_;unfold Builtin.SmallTypes.ownedTupleHandOut
 have z6:IsZip (g5.push { cls:=.type "tuple",data:=.seq #[x,y] }) z TI TO .ellipsis:=Heap.get?_push_of_some _ z5
 refine wpAny_bind (wpAny_setField_rec z6 (by simp) fun g7 z7 e7=>?_)
 replace z7:IsZip g7 z TI TO (rawInt g5.objs.size):=z7
 refine wpAny_setField_rec z7 (by simp) fun g8 z8 e8=>?_
 replace z8:IsZip g8 z TI TO (rawInt g5.objs.size):=z8
 have up:∀c o,c≠z->g5.get? c=some o->g8.get? c=some o:=fun c o c1 e=>e8.extBut _ _ c1 (e7.extBut _ _ c1 (Heap.get?_push_of_some _ e))
 have t8:IsPair g8 g5.objs.size x y:=e8.extBut _ _ (Nat.ne_of_gt zl) (e7.extBut _ _ (Nat.ne_of_gt zl) (Heap.get?_push_size _ rfl))
 rw[sz] at z8 t8
 refine wpAny_pure ⟨_,rfl,wpAny_pure ?_⟩
 show Q (some (.ref g5.objs.size)) _
 rw[sz]
 have at1:∀ {it l:Addr} {i:Nat},g5.IsTupleIter it l i->it≠z->g8.IsTupleIter it l i:=fun q ne=>let⟨o,ho,r⟩:=q;⟨o,up _ o ne ho,r⟩
 exact hQ g8 ⟨z8,up _ _ D.TIz (k5 _ _ D.TIz D.TITO D.TIi1 D.TIi2 hTI),⟨x,y,up _ _ D.TOz t5⟩,at1 m1 D.i1z,at1 m2 D.i2z⟩ t8 fun c o c1 c2 c3 c4 e=>up c o c1 (k5 c o c1 c2 c3 c4 e)
theorem zip_end {z TI TO i1 i2 l1 l2:Addr}{k:Nat}{xs:Array Value}{Q:Option Value->Shared->Prop}(hh:A.handled=none)(D:yb7 z TI TO i1 i2)(L:l1≠z)(Z:ZAt s.heap z TI TO i1 i2 l1 l2 .none k)
   (hl1:s.heap.IsTuple l1 xs) (hx:xs[k]?=none)
   (hQ:∀h',(∀c o,c≠z->c≠TO->c≠i1->c≠i2->s.heap.get? c=some o->h'.get? c=some o)->Q none { s with heap:=h' }):wpAny (model prog w) A (pyNext (.ref z)) Q E s:=by
 obtain⟨hz,hTI,⟨a,b,hTO⟩,h1,h2⟩:=Z
 have hT:s.TypeIs (.ref z) "zip":=⟨_,hz,rfl⟩
 unfold pyNext
 refine wpAny_bind (wpAny_attempt (wpAny_callSpecial?_slot (name:=Str.ofString "__next__") hT F.slot_zip_next (wpAny_call_entry F.slot_zip_next hT F.entry_zip_next ?_ (F.args_zip_next_1 _))))
 show wpAny _ _ (field (.ref z) 2 >>= _) _ _ _
 refine wpAny_bind (wpAny_field hz rfl (x:=.bool false) rfl ?_);show wpAny _ _ (field (.ref z) 3 >>= _) _ _ _
 refine wpAny_bind (wpAny_field hz rfl (x:=.ref TI) rfl ?_)
 refine wpAny_bind (wpAny_seqItems hTI rfl ?_);show wpAny _ _ (Builtin.SmallTypes.ownedTupleIsFree (.ref z) >>= _) _ _ _
 refine wpAny_bind ?_;unfold Builtin.SmallTypes.ownedTupleIsFree
 refine wpAny_bind (wpAny_field hz rfl (x:=.none) rfl (wpAny_pure ?_));simp only[if_true]
 refine wpAny_bind (wpAny_rule (wpAny_bind (wpAny_field hz rfl (x:=.ref TO) rfl ?_)))
 refine wpAny_bind (wpAny_setField_rec hz (by simp) fun g1 z1 e1=>?_)
 replace z1:IsZip g1 z TI TO .ellipsis:=z1
 refine wpAny_bind ?_;simp only[List.zipIdx_cons,List.zipIdx_nil,List.forIn_cons,List.forIn_nil]
 refine wpAny_bind (wpAny_bind (wpAny_onRaise ?_));show wpAny _ _ (Builtin.SmallTypes.nextOf (.ref i1) >>= _) _ _ _
 refine wpAny_bind (nextOf_tup_end hh (h1.extBut e1.extBut D.i1z) (hl1.extBut e1.extBut L) hx fun g2 e e2 he=>?_)
 obtain⟨oe,hoe,hce⟩:=he
 have z2:IsZip g2 z TI TO .ellipsis:=e2 _ _ D.i1z.symm z1
 have nez:e≠z:=fun q=>by subst q;rw[z2] at hoe;cases hoe;simp at hce
 refine wpAny_setField_rec z2 (by simp) fun g3 _ e3=>?_
 refine wpAny_bind (wpAny_isInstance (T:="StopIteration") (b:=true) ⟨oe,e3.extBut _ _ nez hoe,hce⟩ isSubtype_stop ?_)
 exact wpAny_pure (hQ _ fun c o c1 _ c3 _ q=>e3.extBut _ _ c1 (e2 _ _ c3 (e1.extBut _ _ c1 q)))
noncomputable abbrev zp1 (h:Heap) (l1:Addr):Heap:=h.push { cls:=.type "tuple_iterator",data:=.fields #[.ref l1,.int 0 0] }
noncomputable abbrev zp2 (h:Heap) (l1 l2:Addr):Heap:=(zp1 h l1).push { cls:=.type "tuple_iterator",data:=.fields #[.ref l2,.int 0 0] }
noncomputable abbrev zp3 (h:Heap) (l1 l2:Addr):Heap:=(zp2 h l1 l2).push { cls:=.type "tuple",data:=.seq #[.ref h.objs.size,.ref (zp1 h l1).objs.size] }
noncomputable abbrev zp4 (h:Heap) (l1 l2:Addr):Heap:=(zp3 h l1 l2).push { cls:=.type "tuple",data:=.seq #[.none,.none] }
noncomputable abbrev zp5 (h:Heap) (l1 l2:Addr):Heap:=(zp4 h l1 l2).push { cls:=.type "zip",data:=.fields #[.none,.bool false,.bool false,.ref (zp2 h l1 l2).objs.size,.ref (zp3 h l1 l2).objs.size] }
theorem zip_made (l1 l2:Addr)(xs ys:Array Value) :
   Meets (Builtin.«zip.__new__» ⟨[.type "zip",.ref l1,.ref l2],[]⟩) (fun _ R s=>s.heap.IsTuple l1 xs/\s.heap.IsTuple l2 ys/\R (.ok (.ret (.ref (zp4 s.heap l1 l2).objs.size))) { s with heap:=zp5 s.heap l1 l2 }) :=
 .of_wp fun prog w A R s h=>by
   obtain⟨hp,g,d,tk,os⟩:=s
   obtain⟨hl1,hl2,h⟩:=h
   have hsub:=sub_zip
   have q1:Heap.IsTuple (Shared.heap ⟨hp,g,d,tk,os⟩) l1 xs:=hl1
   have q2:Heap.IsTuple (Shared.heap ⟨hp.push { cls:=.type "tuple_iterator",data:=.fields #[.ref l1,.int 0 0] },g,d,tk,os⟩) l2 ys:=Heap.IsTuple.push hl2 _
   wp_walk using wpAny_pyIter_tuple q1,wpAny_pyIter_tuple q2
   exact⟨_,rfl,h⟩
theorem zip_call {l1 l2:Addr}{xs ys:Array Value}{Q:Value->Shared->Prop}(hl1:s.heap.IsTuple l1 xs)(hl2:s.heap.IsTuple l2 ys)
   (h:∀h',ZAt h' (s.heap.objs.size+4) (s.heap.objs.size+2) (s.heap.objs.size+3) s.heap.objs.size (s.heap.objs.size+1) l1 l2 .none 0 →
     (∀c o,s.heap.get? c=some o->h'.get? c=some o)->Q (.ref (s.heap.objs.size+4)) { s with heap:=h' }):wpAny (model prog w) A (call (.type "zip") [.ref l1,.ref l2]) Q E s:=by
 refine callType_new F.called_zip (by decide) (F.typeCall_zip_2 _ _) (F.newCall_zip_2 _ _) (fun obj=>F.args_object_init_3 obj _ _) F.entry_zip_new (zip_made l1 l2 xs ys) ⟨hl1,hl2,?_⟩
 have n1:(zp1 s.heap l1).objs.size=s.heap.objs.size+1:=Heap.size_push ..
 have n2:(zp2 s.heap l1 l2).objs.size=s.heap.objs.size+2:=by rw[Heap.size_push,n1]
 have n3:(zp3 s.heap l1 l2).objs.size=s.heap.objs.size+3:=by rw[Heap.size_push,n2]
 have n4:(zp4 s.heap l1 l2).objs.size=s.heap.objs.size+4:=by rw[Heap.size_push,n3]
 have p5:(zp5 s.heap l1 l2).get? (zp4 s.heap l1 l2).objs.size=some _:=Heap.get?_push_size _ rfl
 have p4:(zp5 s.heap l1 l2).get? (zp3 s.heap l1 l2).objs.size=some _:=Heap.get?_push_of_some _ (Heap.get?_push_size _ rfl)
 have p3:(zp5 s.heap l1 l2).get? (zp2 s.heap l1 l2).objs.size=some _:=Heap.get?_push_of_some _ (Heap.get?_push_of_some _ (Heap.get?_push_size _ rfl))
 have p2:(zp5 s.heap l1 l2).get? (zp1 s.heap l1).objs.size=some _:=Heap.get?_push_of_some _ (Heap.get?_push_of_some _ (Heap.get?_push_of_some _ (Heap.get?_push_size _ rfl)))
 have p1:(zp5 s.heap l1 l2).get? s.heap.objs.size=some _:=Heap.get?_push_of_some _ (Heap.get?_push_of_some _ (Heap.get?_push_of_some _ (Heap.get?_push_of_some _ (Heap.get?_push_size _ rfl))))
 show _/\_
 rw[n2,n3,n4] at p5
 rw[n1,n2] at p3
 rw[n3] at p4
 rw[n1] at p2
 rw[n4]
 refine⟨⟨_,p5,rfl⟩,h _ ⟨p5,p3,⟨_,_,p4⟩,⟨_,p1,rfl,rfl⟩,⟨_,p2,rfl,rfl⟩⟩ fun c o x=>?_⟩
 exact Heap.get?_push_of_some _ (Heap.get?_push_of_some _ (Heap.get?_push_of_some _ (Heap.get?_push_of_some _ (Heap.get?_push_of_some _ x))))
end
noncomputable def Itz (l1 l2:Addr):It :=
 ⟨fun i H=>∃xs ys x y,H l1=some (.tup xs)/\H l2=some (.tup ys)/\xs[i]?=some x/\ys[i]?=some y,
  fun i H v H'=>∃p xs ys x y,H p=none/\v = .ref p/\H l1=some (.tup xs)/\H l2=some (.tup ys)/\xs[i]?=some x/\ys[i]?=some y/\H'=upd H p (.tup [x,y]),
  fun i H=>∃xs ys,H l1=some (.tup xs)/\H l2=some (.tup ys)/\xs.length<=i⟩
theorem turn_zip {P:Program}{w:World}{K:W.Frag}{es:List Expr}{k0:Nat}{tp:Pos}{l1 l2 z TI TO i1 i2:Addr}(D:yb7 z TI TO i1 i2) :
   Turn P w K (.Tuple es k0 tp) (Itz l1 l2) [z,TI,TO,i1,i2] z (fun i h=>ZAt h z TI TO i1 i2 l1 l2 .none i) where
 mem:=by simp
 obj:=fun i h Z b hb=>by
   obtain⟨hz,hTI,⟨a,c,hTO⟩,⟨o1,e1,c1,d1⟩,⟨o2,e2,c2,d2⟩⟩:=Z
   simp only[List.mem_cons,List.not_mem_nil,or_false] at hb
   rcases hb with rfl | rfl | rfl | rfl | rfl
   . exact⟨_,hz,fun v q=>by cases (show Data.fields _=Data.cell v from q)⟩
   . exact⟨_,hTI,fun v q=>by cases (show Data.seq _ _=Data.cell v from q)⟩
   . exact⟨_,hTO,fun v q=>by cases (show Data.seq _ _=Data.cell v from q)⟩
   . exact⟨o1,e1,fun v q=>by rw[d1] at q;cases q⟩
   . exact⟨o2,e2,fun v q=>by rw[d2] at q;cases q⟩
 keep:=fun i h h' Z k=>by
   obtain⟨hz,hTI,⟨a,c,hTO⟩,⟨o1,e1,r1⟩,⟨o2,e2,r2⟩⟩:=Z
   exact⟨k z (by simp) _ hz,k TI (by simp) _ hTI,⟨a,c,k TO (by simp) _ hTO⟩,⟨o1,k i1 (by simp) _ e1,r1⟩,⟨o2,k i2 (by simp) _ e2,r2⟩⟩
 item:=by
   intro X hP hw hK hc i pins s σ H E I hf Z hg
   subst hP hw hK
   obtain⟨xs,ys,x,y,hx,hy,ex,ey⟩:=hg
   obtain⟨_,vx,rx,tx⟩:=I.hok l1 _ hx
   obtain⟨_,vy,ry,ty⟩:=I.hok l2 _ hy
   obtain⟨u,hu,ru⟩:=rx.get ex
   obtain⟨v,hv,rv⟩:=ry.get ey
   have hfree:∀b∈[z,TI,TO,i1,i2],H b=none:=fun b hb=>(hf b hb).1
   have L:∀l,l=l1\/l=l2->l≠z/\l≠TO/\l≠i1/\l≠i2:=fun l hl=>by
     have hs:∃o,H l=some o:=by
       rcases hl with e | e
       . exact⟨_,by rw[e];exact hx⟩
       . exact⟨_,by rw[e];exact hy⟩
     obtain⟨o,ho⟩:=hs
     exact⟨zc1 ho (hfree z (by simp)),zc1 ho (hfree TO (by simp)),zc1 ho (hfree i1 (by simp)),zc1 ho (hfree i2 (by simp))⟩
   refine zip_item D L Z (show s.heap.IsTuple l1 vx.toArray from tx.isTup) (show s.heap.IsTuple l2 vy.toArray from ty.isTup) (x:=u) (y:=v) (by simpa using hu) (by simpa using hv) fun h' Z' hp kk=>?_
   refine⟨_,rfl,wpAny_letOwnedTupleGo_zip Z'.hz fun h2 hz2 sb=>?_⟩
   have kk2:∀c o,c∉[z,TO,i1,i2]->s.heap.get? c=some o->h2.get? c=some o:=fun c o hc e=>sb.extBut _ _ (fun q=>hc (by simp[q])) (kk c o (fun q=>hc (by simp[q])) (fun q=>hc (by simp[q])) (fun q=>hc (by simp[q])) (fun q=>hc (by simp[q])) e)
   have nb:∀c o,H c=some o->c∉[z,TO,i1,i2]:=fun c o e hm=>by
     have:H c=none:=hfree c (by simp only[List.mem_cons,List.not_mem_nil,or_false] at hm ⊢;rcases hm with q | q | q | q<;>simp[q])
     rw[this] at e;cases e
   have zlt:z<s.heap.objs.size:=Heap.lt_size Z.hz
   have hp2:IsPair h2 s.heap.objs.size u v:=sb.extBut _ _ (Nat.ne_of_gt zlt) hp
   have fr:H s.heap.objs.size=none:=I.fresh
   have I2:Inv X pins σ (upd H s.heap.objs.size (.tup [x,y])) { s with heap:=h2 }:=by
     refine I.step (g':=s.gens) (d':=s.drawn) (t':=s.toks) (ch:=[z,TO,i1,i2]) (fun b hb=>?_) (fun b o _ _ hc e _=>kk2 b o hc e) (fun b o _ _ hc e _=>⟨o.slots,kk2 b o hc e⟩)
       (fun b o _ e n=>by rw[za9 (Nat.ne_of_lt (Heap.lt_size e))];exact n)
       (fun b o hc e=>⟨o,kk2 b o hc e⟩) (fun b zs e=>by rw[za9 (zc1 e fr)];exact e) (fun b o zs e=>by rw[za9 (zc1 e fr)];exact e) (fun b ps e=>⟨#[],by rw[za9 (zc1 e fr),e];simp⟩) (fun m hm=>?_) (fun b o e=>?_) I.bare
     . obtain⟨f0,f1,f2,f3,f4,f5⟩:=hf b (by simp only[List.mem_cons,List.not_mem_nil,or_false] at hb ⊢;rcases hb with q | q | q | q<;>simp[q])
       exact⟨f3,f1,f4,f5⟩
     . obtain⟨o,es',ep,ho,r⟩:=hm
       refine⟨o,es',ep,kk2 _ o (fun hm=>?_) ho,r⟩
       exact(hf X.env.locals (by simp only[List.mem_cons,List.not_mem_nil,or_false] at hm ⊢;rcases hm with q | q | q | q<;>simp[q])).2.1 rfl
     . by_cases hb:b=s.heap.objs.size
       . subst hb
         rw[za1] at e
         cases e
         exact⟨(by show 2<=sizeLine;decide),[u,v],.cons ru (.cons rv .nil),⟨_,hp2,rfl,rfl,_,rfl⟩⟩
       . rw[za9 hb] at e
         refine(I.hok b o e).stay (fun c v hc q=>kk2 c v ?_ q) (fun c q=>by rw[za9 (zc1 q fr)];exact q) fun c zs q=>by rw[za9 (zc1 q fr)];exact q
         rcases hc with rfl | hc
         . exact nb _ _ e
         . exact nb _ _ hc
   exact⟨.ref s.heap.objs.size,_,I2,rfl,⟨_,xs,ys,x,y,fr,rfl,hx,hy,ex,ey,rfl⟩,⟨hz2,sb.extBut _ _ D.TIz Z'.hTI,(let⟨a,c,q⟩:=Z'.hTO;⟨a,c,sb.extBut _ _ D.TOz q⟩),Z'.h1.extBut sb.extBut D.i1z,Z'.h2.extBut sb.extBut D.i2z⟩,fun b hb=>by
     rw[za9]
     . exact hfree b hb
     . obtain⟨o,e,_⟩:∃o,s.heap.get? b=some o/\True:=by
         simp only[List.mem_cons,List.not_mem_nil,or_false] at hb
         obtain⟨hz,hTI,⟨a,c,hTO⟩,⟨o1,e1,_⟩,⟨o2,e2,_⟩⟩:=Z
         rcases hb with rfl | rfl | rfl | rfl | rfl
         . exact⟨_,hz,trivial⟩
         . exact⟨_,hTI,trivial⟩
         . exact⟨_,hTO,trivial⟩
         . exact⟨_,e1,trivial⟩
         . exact⟨_,e2,trivial⟩
       exact Nat.ne_of_lt (Heap.lt_size e)⟩
 done:=by
   intro X hP hw hK hc i pins s σ H E I hf Z hg
   subst hP hw hK
   obtain⟨xs,ys,hx,hy,hle⟩:=hg
   obtain⟨_,vx,rx,tx⟩:=I.hok l1 _ hx
   have hln:=rx.length
   have hfree:∀b∈[z,TI,TO,i1,i2],H b=none:=fun b hb=>(hf b hb).1
   refine zip_end (I.ok.hd hc) D (zc1 hx (hfree z (by simp))) Z (show s.heap.IsTuple l1 vx.toArray from tx.isTup) (by simp;omega) fun h' kk=>⟨rfl,?_⟩
   have kk2:∀c o,c∉[z,TO,i1,i2]->s.heap.get? c=some o->h'.get? c=some o:=fun c o hc e=>kk c o (fun q=>hc (by simp[q])) (fun q=>hc (by simp[q])) (fun q=>hc (by simp[q])) (fun q=>hc (by simp[q])) e
   have nb:∀c o,H c=some o->c∉[z,TO,i1,i2]:=fun c o e hm=>by
     have:H c=none:=hfree c (by simp only[List.mem_cons,List.not_mem_nil,or_false] at hm ⊢;rcases hm with q | q | q | q<;>simp[q])
     rw[this] at e;cases e
   refine I.step (g':=s.gens) (d':=s.drawn) (t':=s.toks) (ch:=[z,TO,i1,i2]) (fun b hb=>?_) (fun b o _ _ hc e _=>kk2 b o hc e) (fun b o _ _ hc e _=>⟨o.slots,kk2 b o hc e⟩) (fun _ _ _ _ n=>n)
     (fun b o hc e=>⟨o,kk2 b o hc e⟩) (fun _ _ e=>e) (fun _ _ _ e=>e) (fun b ps e=>⟨#[],by rw[e];simp⟩) (fun m hm=>?_) (fun b o e=>?_) I.bare
   . obtain⟨f0,f1,f2,f3,f4,f5⟩:=hf b (by simp only[List.mem_cons,List.not_mem_nil,or_false] at hb ⊢;rcases hb with q | q | q | q<;>simp[q])
     exact⟨f3,f1,f4,f5⟩
   . obtain⟨o,es',ep,ho,r⟩:=hm
     refine⟨o,es',ep,kk2 _ o (fun hm=>?_) ho,r⟩
     exact(hf X.env.locals (by simp only[List.mem_cons,List.not_mem_nil,or_false] at hm ⊢;rcases hm with q | q | q | q<;>simp[q])).2.1 rfl
   . refine(I.hok b o e).stay (fun c v hc q=>kk2 c v ?_ q) (fun _ q=>q) fun _ _ q=>q
     rcases hc with rfl | hc
     . exact nb _ _ e
     . exact nb _ _ hc
 self:=fun _ _ _ _ _ Z h=>wpAny_pyIter_zip Z.hz h
section
variable {X:Cx} {es:List Expr} {k0:Nat} {tp:Pos}
noncomputable def iZip (ta:TA):TI:=fun σ H R=>ta σ H fun vs H1=>∃l1 l2 xs ys,vs=[.ref l1,.ref l2]/\H1 l1=some (.tup xs)/\H1 l2=some (.tup ys)/\R (Itz l1 l2) H1
theorem pi_zip {a b:Expr} {ta:TA} {p pos:Pos} (hg:Gl X "zip") (hm:X.mg "zip" = none) (ha:PA X [a,b] ta) (hs:starEach [a,b] X.env=[(false,eval a X.env),(false,eval b X.env)]:=by rfl) (hs2:starEach [b] X.env=[(false,eval b X.env)]:=by rfl) :
   PI X (.Tuple es k0 tp) (.Call (.Name "zip" p) [a,b] [] pos) (iZip ta):=by
 intro pins s σ H R I h
 refine Call_ (zw0 I hg hm boot_zip (PyProof.Rows.callWith_type1 (thn (ha pos pins s σ H _ I h) fun us s1 ⟨vs,H1,I1,r1,q1⟩=>?_) (by rw[hs,hs2]) (by rw[hs2];rfl)))
 obtain⟨l1,l2,xs,ys,e,hx,hy,q⟩:=q1
 subst e
 obtain⟨u1,u2,rfl,r1',r2'⟩:=zW4 r1
 cases r1'
 cases r2'
 obtain⟨_,vx,rx,tx⟩:=I1.hok l1 _ hx
 obtain⟨_,vy,ry,ty⟩:=I1.hok l2 _ hy
 refine zip_call (show s1.heap.IsTuple l1 vx.toArray from tx.isTup) (show s1.heap.IsTuple l2 vy.toArray from ty.isTup) fun h' Z kk=>?_
 refine wpAny_pyIter_zip Z.hz ?_
 have I2:Inv X pins σ H1 { s1 with heap:=h' }:=I1.kept (t':=s1.toks) kk
 have ne:∀i j:Nat,i≠j->s1.heap.objs.size+i≠s1.heap.objs.size+j:=fun i j hij=>by omega
 refine⟨_,_,_,_,H1,rfl,I2,turn_zip (es:=es) (k0:=k0) (tp:=tp) (TI:=s1.heap.objs.size+2) (TO:=s1.heap.objs.size+3) (i1:=s1.heap.objs.size) (i2:=s1.heap.objs.size+1) ⟨ne 2 4 (by decide),ne 3 4 (by decide),ne 0 4 (by decide),ne 1 4 (by decide),ne 2 3 (by decide),ne 2 0 (by decide),ne 2 1 (by decide),ne 3 0 (by decide),ne 3 1 (by decide),ne 0 1 (by decide)⟩,Z,fun b hb=>?_,q⟩
 have hge:s1.heap.objs.size<=b:=by
   simp only[List.mem_cons,List.not_mem_nil,or_false] at hb
   rcases hb with rfl | rfl | rfl | rfl | rfl<;>first | exact Nat.le_add_right _ _ | exact Nat.le_refl _
 exact I1.fpOk hge (I1.hok.fresh hge)
theorem call_sum (hc:X.calm=true):zl1 X (.builtin "sum") (fun xs H Q=>∃l ns,xs=[.ref l]/\SqL X.K H l (ns.map V.int)/\PySem.SumFits ns/\Q (.int ns.sum) H):=by
 intro pins s σ H xs us Q I r h
 obtain⟨l,ns,rfl,hS,hfit,q⟩:=h
 obtain⟨u,rfl,ru⟩:=zr6 r
 cases ru
 obtain⟨its,rv,p,hz⟩:=I.list hS
 obtain⟨ps,e1,e2⟩:=zA3 (zm2 rv)
 have ei:its.toArray=intItems ps.toArray:=by
   unfold intItems
   rw[e1]
   simp
 have hl:=p.isList
 rw[ei] at hl
 have num:∀j,numAt ps.toArray j=ns.getD j 0:=fun j=>by
   unfold numAt
   rw[<-e2]
   simp[List.getD_eq_getElem?_getD,List.getElem?_map]
 have pre:∀j,j<=ns.length->preSum (numAt ps.toArray) j=(ns.take j).sum:=by
   intro j
   induction j with
   | zero=>intro _;rfl
   | succ j ih =>
     intro hj
     show preSum (numAt ps.toArray) j+numAt ps.toArray j=_
     rw[ih (by omega),num,List.take_succ,List.sum_append]
     have:ns[j]?=some (ns[j]'(by omega)):=by simp
     rw[List.getD_eq_getElem?_getD,this]
     simp
 have hlen:ps.toArray.size=ns.length:=by rw[<-e2];simp
 refine sum_intList (I.ok.hd hc) hl (fun j hj=>?_) fun h' tk t' kk=>?_
 . have hj':j<ns.length:=by omega
   obtain⟨f1,f2⟩:=hfit j hj'
   rw[num,pre (j+1) (by omega)]
   exact⟨f1,f2⟩
 . rw[hlen,pre ns.length (Nat.le_refl _),List.take_length]
   exact⟨.int ns.sum,H,I.kept kk,⟨_,rfl⟩,q⟩
theorem pg_tupK {es:List Expr}{k:Nat}{t:TGs}{n:Nat}{pos:Pos}(K:W.Frag)(hK:X.K=K)(hc:X.calm=true)(h:PGs X es t)
 (hn:(assignEach es X.env).length=n:=by rfl) (hst:(assignEach es X.env).findIdx? (·.1)=none:=by rfl):PG X (.Tuple es k pos) (gTup K n t):=hK▸yg7 hc h hn hst
end
theorem comp_zip {K:W.Frag}{H1:Hp}{l1 l2 D:Addr}{xs ys:List V}{f:V->V->V}{rest:St}{telt:TE}{Q:Hp->Prop}(hx:H1 l1=some (.tup xs))(hy:H1 l2=some (.tup ys))(hl:xs.length=ys.length)(hD:H1 D=none)(hn:xs.length<=sizeLine)
   (el:∀(i:Nat) x y H' R,xs[i]?=some x->ys[i]?=some y->Same H1 H'->R (f x y) H'->telt (some x::some y::rest) H' R) (q:∀H',Same H1 H'->H' D=some (.lst (List.zipWith f xs ys))->Q H') :
   ∃W:Nat->Nat->St->Hp->Prop,(∃m,W 0 m (none::none::rest) (upd H1 D (.lst []))) ∧
     ∀i m σ' H',W i m σ' H'->((Itz l1 l2).stop i H'/\Q H')\/((Itz l1 l2).go i H'/\∃N:St->Hp->Prop,(∀σ2 H2,N σ2 H2->∃m',m'<m/\W (i+1) m' σ2 H2) ∧
       ∀v H2,(Itz l1 l2).yld i H' v H2->gTup K 2 (yg5 (zq6 0) (yg5 (zq6 1) gNil)) v σ' H2 fun σ3 H3=>zw3 σ3 H3 fun b H4=>if b=true then zn9 D telt N σ3 H4 else N σ3 H4):=by
 have hz:(List.zipWith f xs ys).length=xs.length:=by rw[List.length_zipWith,hl,Nat.min_self]
 refine⟨fun i m σ' H'=>m=xs.length-i/\i<=xs.length/\(∃a b,σ'=a::b::rest)/\Same H1 H'/\H' D=some (.lst ((List.zipWith f xs ys).take i)),⟨xs.length,by simp,Nat.zero_le _,⟨_,_,rfl⟩,Same.upd hD,by rw[za1];rfl⟩,?_⟩
 rintro i m σ' H' ⟨rfl,hi,⟨a,b,rfl⟩,s,hd⟩
 by_cases hlt:i<xs.length
 . have ex:xs[i]?=some xs[i]:=by simp[hlt]
   have ey:ys[i]?=some (ys[i]'(by omega)):=by simp
   refine .inr ⟨⟨xs,ys,_,_,s _ _ hx,s _ _ hy,ex,ey⟩,fun σ2 H2=>(∃a b,σ2=a::b::rest)/\Same H1 H2/\H2 D=some (.lst ((List.zipWith f xs ys).take (i+1))),fun σ2 H2 h=>⟨xs.length-(i+1),by omega,rfl,hlt,h.1,h.2.1,h.2.2⟩,?_⟩
   rintro v H2 ⟨p,xs',ys',x',y',fp,rfl,hx',hy',ex',ey',rfl⟩
   have e1:xs'=xs:=by have:=(s _ _ hx).symm.trans hx';cases this;rfl
   have e2:ys'=ys:=by have:=(s _ _ hy).symm.trans hy';cases this;rfl
   subst e1 e2
   have nDp:D≠p:=fun z=>by rw[z,fp] at hd;cases hd
   refine⟨p,_,rfl,SqT.of za1,rfl,_,_,rfl,_,_,rfl,rfl,?_⟩
   dsimp only[zw3]
   refine iteT ?_
   show zn9 D telt _ (some x'::some y'::rest) _
   refine el i x' y' _ _ ex' ey' (s.updT fp) ⟨_,by rw[za9 nDp];exact hd,?_,⟨_,_,rfl⟩,(s.updT fp).put hD,?_⟩
   . rw[List.length_take];omega
   . rw[za1,List.take_succ,List.getElem?_zipWith,ex',ey']
     rfl
 . have e:i=xs.length:=by omega
   subst e
   refine .inl ⟨⟨xs,ys,s _ _ hx,s _ _ hy,Nat.le_refl _⟩,q H' s ?_⟩
   rw[hd,<-hz,List.take_length]
section
variable {prog:Program} {w:World} {A:Around} {E:Value->Shared->Prop} {R:Result->Shared->Prop} {h:Heap} {g:Array GenState} {d:Drawn} {t:Nat} {os:OsState}
variable {nm q:Str} {C N:Addr} {bs bm:List Value} {hdct:Bool} {sn:List Str} {sub:List Value} {ab:Bool} {col:Option Bool} {dd:Option Addr} {k0 k1 k2 k3 k5:Option Value}
end
open PySem.Builtin PySem.Builtin.ObjectAttr
section
variable {prog:Program} {w:World} {A:Around} {E:Value->Shared->Prop} {h:Heap} {g:Array GenState} {d:Drawn} {t:Nat} {os:OsState}
variable {nm q:Str} {C N x:Addr} {bs bm:List Value} {sn:List Str} {sub:List Value} {ab:Bool} {col:Option Bool} {dd:Option Addr} {k0 k1 k2 k3 k5:Option Value} {newId:String} {mA:Str->Option Value} {name:Str} {v:Value} {K:W.Frag}
end
section
variable {X:Cx} {pins:List (Addr×Obj)} {σ:St} {H:Hp} {s:Shared} {C x:Addr} {od:Option Addr}
end
section
variable {X:Cx} {o value:Expr} {f:Str} {pos pos':Pos} {ta tv:TE}
end
section
variable {X:Cx} {CX:CXT} {k:Nat} {f C:Addr} {fd:FuncData} {ps:List Str} {sp:Sp} {dvs:List V} {ds:List Value} {E:XK} {x m:Str} {p pos apos:Pos} {e:Expr} {es:List Expr} {t:TA}
end
section
variable {X:Cx} {pins:List (Addr×Obj)} {σ:St} {H H':Hp} {s s':Shared} {C x a:Addr} {od:Option Addr} {cls a0:Value}
end
section
variable {P:Program} {w:World} {K:W.Frag} {mg:Str->Option Value} {base:Heap} {N:List Str} {qual:Str} {scope:Scope} {f:Addr} {cd:Value} {A:Around} {outer:List Env} {s:Shared} {H:Hp} {E:XK}
end
section
variable {M:Model} {A:Around} {E:Value->Shared->Prop} {env:Env}
variable {nm q:Str} {C N:Addr} {bs bm:List Value} {hdct:Bool} {sn:List Str} {sub:List Value} {ab:Bool} {col:Option Bool} {dd:Option Addr} {k0 k1 k2 k3 k5:Option Value} {newId:String}
end
section
variable {X:Cx} {CX:CXT} {k:Nat} {f C:Addr} {fd:FuncData} {ps:List Str} {sp:Sp} {dvs:List V} {ds:List Value} {E Ei:XK} {x m:Str} {p pos cpos apos:Pos} {e:Expr} {es:List Expr} {t:TA}
end
section
variable {X:Cx} {pins pins':List (Addr×Obj)} {σ:St} {H:Hp} {s:Shared} {E:XK} {e:Value} {D:Ends} {f:Flow}
end
section
variable {X:Cx} {C:Addr} {E:XK} {x:Str} {p pos hpos:Pos} {body suite:List Stmt} {b₀:Stmt} {tb th:TS}
end
section
variable {P:Program} {w:World} {K:W.Frag} {mg:Str->Option Value} {base:Heap} {CX:CXT}
end
section
variable {X:Cx} {pins pins':List (Addr×Obj)} {σ:St} {H:Hp} {s:Shared} {Ex:St->XK} {D:Ends} {fl:Flow}
end
section
variable {X:Cx} {CX:CXT} {k:Nat} {f C:Addr} {fd:FuncData} {ps:List Str} {sp:Sp} {dvs:List V} {ds:List Value} {Ex:St->XK} {x m:Str} {p pos apos:Pos} {e o:Expr} {es:List Expr} {ta:TE} {t:TA}
end
section
variable {X:Cx} {D:Addr} {Ex:St->XK} {x:Str} {p pos hpos:Pos} {body suite:List Stmt} {b₀:Stmt} {tb th:TS}
end
section
variable {X:Cx} {pins:List (Addr×Obj)} {σ:St} {H:Hp} {s:Shared}
end
section
variable {X:Cx} {D:Addr} {Ex:St->XK} {x n:Str} {i:Nat} {p pos hpos:Pos} {body suite:List Stmt} {b₀:Stmt} {tb th:TS}
end
section
variable {X:Cx}
inductive yc9  (x:V)(y:V)(H:Hp)(Q:VK):Prop
 | mk (a b xs ys:_)(h0:x = .ref a)(h1:y = .ref b)(h2:H a=some (.tup xs))(h3:H b=some (.tup ys))(h4:xs.length+ys.length<=sizeLine)(h5:∀p H',Same H H'->H' p=some (.tup (xs++ys))->Q (.ref p) H'):yc9  x y H Q
noncomputable def rCatU:R2:=fun x y H Q=>yc9  x y H Q
theorem zI4:OpR X (binaryOp .Add) rCatU:=by
 intro pins s σ H x y v u Q I rx ry h
 obtain⟨a,b,xs,ys,rfl,rfl,ha,hb,hz,q⟩:=h
 by_cases hx:xs=[]
 . subst hx
   cases rx
   cases ry
   obtain⟨its,r1,p1,_⟩:=I.tuple (SqT.of ha)
   obtain⟨its2,r2,p2,_⟩:=I.tuple (SqT.of hb)
   have e0:its=[]:=r1.nil_iff.mpr rfl
   subst e0
   obtain⟨⟨cls,dd,data,sl⟩,ho,hc,n,hd⟩:=id p1
   obtain⟨⟨cls2,dd2,data2,sl2⟩,ho2,hc2,n2,hd2⟩:=id p2
   simp only at hc hd hc2 hd2
   subst hc hd hc2 hd2
   exact concat_meets ⟨_,ho,rfl⟩ ⟨_,ho2,rfl⟩ noFill_tuple_add seq_tuple_add PySem.F.slot_tuple_add PySem.F.entry_tuple_add (PySem.F.args_tuple_add_2 _ _)
     (tuple_addW0 _ _ _ _ _ _ _ _ _ _ (by simp)) ⟨ho,ho2,.ref b,H,I,rfl,q b H (Same.refl _) hb⟩
 . refine op_catT pins s σ H _ _ v u Q I rx ry ⟨a,b,xs,ys,rfl,rfl,SqT.of ha,SqT.of hb,hx,hz,fun e=>?_,fun _ p hp=>q p _ (Same.upd hp) za1⟩
   subst e
   exact q a H (Same.refl _) (by rw[List.append_nil];exact ha)
end
theorem zW9 {J:It}{H1:Hp}{D:Addr}{n:Nat}{x:Nat->V}{j:Nat}{σc:St}{tif:TT}{telt:TE}{Q:Hp->Prop}(Iv:Nat->Hp->Prop)(h0:Iv 0 (upd H1 D (.lst [])))
   (go:∀i H',i<n->Iv i H'->J.go i H') (st:∀H',Iv n H'->J.stop n H') (yl:∀i v H' H2,i<n->Iv i H'->J.yld i H' v H2->H2=H'/\v=x i)
   (step:∀i H' (N:St->Hp->Prop),i<n->Iv i H'->(∀H2,Iv (i+1) H2->N (σc.set j (some (x i))) H2)->tif (σc.set j (some (x i))) H' fun b H4=>if b=true then zn9 D telt N (σc.set j (some (x i))) H4 else N (σc.set j (some (x i))) H4)
   (q:∀H',Iv n H'->Q H') :
   ∃W:Nat->Nat->St->Hp->Prop,(∃m,W 0 m σc (upd H1 D (.lst []))) ∧
     ∀i m σ' H',W i m σ' H'->(J.stop i H'/\Q H')\/(J.go i H'/\∃N:St->Hp->Prop,(∀σ2 H2,N σ2 H2->∃m',m'<m/\W (i+1) m' σ2 H2) ∧
       ∀v H2,J.yld i H' v H2->zq6 j v σ' H2 fun σ3 H3=>tif σ3 H3 fun b H4=>if b=true then zn9 D telt N σ3 H4 else N σ3 H4):=by
 refine⟨fun i m σ' H'=>m=n-i/\i<=n/\(∀v,σ'.set j (some v)=σc.set j (some v))/\Iv i H',⟨n,by simp,Nat.zero_le _,fun _=>rfl,h0⟩,?_⟩
 rintro i m σ' H' ⟨rfl,hi,hσ,iv⟩
 by_cases hlt:i<n
 . refine .inr ⟨go i _ hlt iv,fun σ2 H2=>(∀v,σ2.set j (some v)=σc.set j (some v))/\Iv (i+1) H2,fun σ2 H2 ⟨h1,h2⟩=>⟨n-(i+1),by omega,rfl,hlt,h1,h2⟩,fun v H2 y=>?_⟩
   obtain⟨rfl,rfl⟩:=yl i v _ H2 hlt iv y
   dsimp only[zq6]
   rw[hσ]
   exact step i _ _ hlt iv fun H2 h2=>⟨fun v=>by simp,h2⟩
 . have e:i=n:=by omega
   subst e
   exact .inl ⟨st _ iv,q _ iv⟩
theorem comp_rangeI {H1:Hp}{D:Addr}{lo:Int}{n:Nat}{j:Nat}{σc:St}{tif:TT}{telt:TE}{Q:Hp->Prop}(Iv:Nat->Hp->Prop)(h0:Iv 0 (upd H1 D (.lst [])))
   (step:∀i H' (N:St->Hp->Prop),i<n->Iv i H'->(∀H2,Iv (i+1) H2->N (σc.set j (some (.int (lo+i)))) H2)->tif (σc.set j (some (.int (lo+i)))) H' fun b H4=>if b=true then zn9 D telt N (σc.set j (some (.int (lo+i)))) H4 else N (σc.set j (some (.int (lo+i)))) H4)
   (q:∀H',Iv n H'->Q H') :
   ∃W:Nat->Nat->St->Hp->Prop,(∃m,W 0 m σc (upd H1 D (.lst []))) ∧
     ∀i m σ' H',W i m σ' H'->((Itr lo n).stop i H'/\Q H')\/((Itr lo n).go i H'/\∃N:St->Hp->Prop,(∀σ2 H2,N σ2 H2->∃m',m'<m/\W (i+1) m' σ2 H2) ∧
       ∀v H2,(Itr lo n).yld i H' v H2->zq6 j v σ' H2 fun σ3 H3=>tif σ3 H3 fun b H4=>if b=true then zn9 D telt N σ3 H4 else N σ3 H4) :=
 zW9 (J:=Itr lo n) (x:=fun i=>.int (lo+i)) Iv h0 (fun i H' hi _=>hi) (fun H' _=>Nat.le_refl _) (fun i v H' H2 hi _ y=>y) step q
theorem zm3 {K:W.Frag}{H1:Hp}{D a:Addr}{xs:List V}{j:Nat}{σc:St}{tif:TT}{telt:TE}{Q:Hp->Prop}(Iv:Nat->Hp->Prop)(h0:Iv 0 (upd H1 D (.lst [])))
   (hs:∀i H',Iv i H'->SqL K H' a xs)
   (step:∀i x H' (N:St->Hp->Prop),xs[i]?=some x->Iv i H'->(∀H2,Iv (i+1) H2->N (σc.set j (some x)) H2)->tif (σc.set j (some x)) H' fun b H4=>if b=true then zn9 D telt N (σc.set j (some x)) H4 else N (σc.set j (some x)) H4)
   (q:∀H',Iv xs.length H'->Q H') :
   ∃W:Nat->Nat->St->Hp->Prop,(∃m,W 0 m σc (upd H1 D (.lst []))) ∧
     ∀i m σ' H',W i m σ' H'->((Itl K a).stop i H'/\Q H')\/((Itl K a).go i H'/\∃N:St->Hp->Prop,(∀σ2 H2,N σ2 H2->∃m',m'<m/\W (i+1) m' σ2 H2) ∧
       ∀v H2,(Itl K a).yld i H' v H2->zq6 j v σ' H2 fun σ3 H3=>tif σ3 H3 fun b H4=>if b=true then zn9 D telt N σ3 H4 else N σ3 H4):=by
 refine zW9 (J:=Itl K a) (n:=xs.length) (x:=fun i=>xs.getD i .non) Iv h0 (fun i H' hi iv=>⟨xs,xs[i],hs _ _ iv,by simp[hi]⟩) (fun H' iv=>⟨xs,hs _ _ iv,Nat.le_refl _⟩) (fun i v H' H2 hi iv y=>?_) (fun i H' N hi iv hN=>?_) q
 . obtain⟨e,y⟩:=y
   have:=y xs (hs _ _ iv)
   exact⟨e,by rw[List.getD_eq_getElem?_getD,this];rfl⟩
 . have e:xs[i]?=some (xs.getD i .non):=by rw[List.getD_eq_getElem?_getD,List.getElem?_eq_getElem hi];rfl
   exact step i _ H' N e iv hN
section
variable {M:Model} {A:Around} {E:Value->Shared->Prop} {s:Shared} {base:Heap} {env:Env} {outer l:List Env} {L e:Addr} {cls fl:Value} {od:Option Addr} {Q:Unit->Shared->Prop}
end
section
variable {P:Program} {w:World} {K:W.Frag} {mg:Str->Option Value} {base:Heap} {N:List Str} {qual:Str} {scope:Scope} {f:Addr} {cd:Value} {A:Around} {outer:List Env} {s:Shared} {H:Hp} {E:XK}
end
section
variable {X:Cx} {CX:CXT} {k:Nat} {f C:Addr} {fd:FuncData} {ps:List Str} {sp:Sp} {dvs:List V} {ds:List Value} {E Ei:XK} {x m:Str} {p pos cpos apos:Pos} {e:Expr} {es:List Expr} {t:TA}
end
section
variable {X:Cx} {pins pins':List (Addr×Obj)} {σ:St} {H:Hp} {s:Shared} {Ex:St->XK} {D:Ends} {fl:Flow}
end
section
variable {X:Cx} {D:Addr} {Ex:St->XK} {x n:Str} {i:Nat} {p pos hpos:Pos} {body suite:List Stmt} {b₀:Stmt} {tb th:TS}
end
section
variable {X:Cx} {pins:List (Addr×Obj)} {σ:St} {H:Hp} {s:Shared}
theorem kit_self {K:W.Frag}{C:Addr}:W.kitOne K (.ref C) (.ref C)=some true:=by
 unfold W.kitOne
 rw[if_pos (by simp)]
end
section
variable {X:Cx}
inductive yi5 (K:W.Frag)(x:V)(y:V)(H:Hp)(Q:VK):Prop
 | mk (a b xs:_)(h0:x = .ref a)(h1:y = .ref b)(h2:SqL K H a xs)(h3:SqL K H b [])(h4:Q (.bl xs.isEmpty) H):yi5 K x y H Q
noncomputable def rEqE (K:W.Frag):R2:=fun x y H Q=>yi5 K x y H Q
theorem op_eqE {X:Cx}(hu:X.A.units<cLine):OpR X (compareOp .Eq) (rEqE X.K):=by
 intro pins s σ H x y v u Q I rx ry h
 obtain⟨a,b,xs,rfl,rfl,ha,hb,q⟩:=h
 cases rx
 cases ry
 obtain⟨its,r,⟨o1,n1,g1,g2,_,g3⟩,hz⟩:=I.list ha
 obtain⟨its2,r2,⟨o2,n2,g4,g5,_,g6⟩,hz2⟩:=I.list hb
 have ht:s.heap.IsList a its.toArray:=⟨o1,g1,g2,n1,g3⟩
 have ht2:s.heap.IsList b its2.toArray:=⟨o2,g4,g5,n2,g6⟩
 obtain rfl:its2=[]:=by cases r2;rfl
 cases xs with
 | nil =>
   obtain rfl:its=[]:=by cases r;rfl
   exact(PySem.SeqAt.RcAt.lists (e:=fun _=>true) ht ht2 rfl hu (fun i hi=>absurd hi (by simp))) _ _ _ _ ⟨.bl true,H,I,rfl,q⟩
 | cons x xs =>
   have hl:=r.length
   refine(PySem.SeqAt.RcAt.lists_lengths ht ht2 ?_ hu) _ _ _ _ ⟨.bl false,H,I,rfl,q⟩
   simp only[List.size_toArray,List.length_nil,<-hl,List.length_cons]
   simp
end
end L2
namespace L2
open PySem PySem.NumText
end L2
namespace L2
open PySem PySem.Spec PyProof.Rows
section
variable {prog:Program} {w:World} {A:Around} {R:Result->Shared->Prop} {s:Shared}
end
section
variable {X:Cx} {scope:Scope} {cl:List (Str×Addr)} {C:Addr} {N':List Str} {s0:Shared} {H0:Hp} {fp:List Addr} {Ex:XK} {pins:List (Addr×Obj)} {σ:St} {H:Hp} {s:Shared}
end
section
variable {X:Cx} {scope:Scope} {N':List Str} {ix:List (Option Nat)} {tg iter elt:Expr} {ifs:List Expr} {pos:Pos} {wi:TI} {g:TG} {tif:TT} {telt:TE}
end
section
variable {M:Model} {A:Around} {E:Value->Shared->Prop} {s:Shared}
end
section
variable {P:Program} {w:World} {K:W.Frag} {mg:Str->Option Value} {base:Heap} {N:List Str} {qual:Str} {scope:Scope} {f:Addr} {cd:Value} {A:Around} {outer:List Env} {s:Shared} {H:Hp} {E:XK}
end
section
variable {P:Program} {w:World} {K:W.Frag} {mg:Str->Option Value} {base:Heap} {N:List Str} {qual:Str} {fsc:Scope} {f:Addr} {cd:Value} {A:Around} {outer:List Env} {ss:Shared} {HH:Hp} {E:XK}
variable {scope:Scope} {N':List Str} {ix:List (Option Nat)} {tg iter elt:Expr} {ifs:List Expr} {pos:Pos} {wi:TI} {g:TG} {tif:TT} {telt:TE}
end
section
variable {X:Cx} {C1 C2:Addr} {E:XK} {x1 x2:Str} {p1 p2 pos hp1 hp2:Pos} {body su1 su2:List Stmt} {b₁ b₂:Stmt} {tb th1 th2:TS}
end
end L2
namespace Sx
open PySem PyProof.Rows
noncomputable abbrev SM (α:Type):=StateT SortSt Sem α
noncomputable def zC6:Bool->Keyed->Array Keyed->Nat->Nat->Nat->SM (Option Nat):=sortPriv% PySem.Builtin.gallop
noncomputable def zX0:Array Keyed->Array Keyed->SM (Array Keyed):=sortPriv% PySem.Builtin.mergeLo
noncomputable def zX1:Array Keyed->Array Keyed->SM (Array Keyed):=sortPriv% PySem.Builtin.mergeHi
noncomputable def yd0:Nat->SM Unit:=sortPriv% PySem.Builtin.setMinGallop
noncomputable def yk9 (left:Bool)(key:Keyed)(arr:Array Keyed)(base i:Nat):SM (Option Bool):=do
 let x <-elem' arr (base+i)
 if left=true then lt' x key else do
   let r <-lt' key x
   pure (r.map fun t=>!t)
noncomputable abbrev GS:=Option (Option Nat)×Nat×Nat
section
variable {M:Model} {A:Around} {E:Value->Shared->Prop} {s:Shared}
theorem zX2 {p:Nat->Bool}{f:Nat->GS->SM (ForInStep GS)}{n lo hi:Nat}{st:SortSt}{Q:GS->SortSt->Prop}(mono:∀i j,i<j->j<n->p j=true->p i=true)
   (hf:∀x l r (R:ForInStep GS->SortSt->Prop),(l≥r->R (.done (none,l,r)) st)->(l<r->p (l+(r-l) / 2)=true->R (.yield (none,l+(r-l) / 2+1,r)) st)->(l<r->p (l+(r-l) / 2)=false->R (.yield (none,l,l+(r-l) / 2)) st) →
     r<=n->wpS M A E s (f x (none,l,r)) R st)
   (h1:lo<=hi) (h2:hi<=n) (h3:∀i,i<lo->p i=true) (h4:∀i,hi<=i->i<n->p i=false)
   (h:∀k,k<=n->(∀i,i<k->p i=true)->(∀i,k<=i->i<n->p i=false)->Q (none,k,k) st):wpS M A E s (forIn [0:n] ((none,lo,hi):GS) f) Q st:=by
 refine wpS_forRange (I:=fun x c st'=>st'=st/\∃l r,c=(none,l,r)/\l<=r/\r<=n/\r-l<=n-x/\(∀i,i<l->p i=true)/\∀i,r<=i->i<n->p i=false)
   ?step ?fin ⟨rfl,lo,hi,rfl,h1,h2,by omega,h3,h4⟩
 case fin =>
   rintro c st' ⟨rfl,l,r,rfl,a1,a2,a3,a4,a5⟩
   obtain rfl:l=r:=by omega
   exact h l a2 a4 a5
 case step =>
   rintro x c st' _ hx ⟨rfl,l,r,rfl,a1,a2,a3,a4,a5⟩
   refine hf x l r _ (fun hge=>?_) (fun hlt e=>⟨rfl,_,_,rfl,by omega,a2,by omega,fun i hi=>?_,a5⟩) (fun hlt e=>⟨rfl,_,_,rfl,by omega,by omega,by omega,a4,fun i hi hn=>?_⟩) a2
   . obtain rfl:l=r:=by omega
     exact h l a2 a4 a5
   . rcases Nat.lt_or_ge i (l+(r-l) / 2) with z | z
     . exact mono i _ z (by omega) e
     . obtain rfl:i=l+(r-l) / 2:=by omega
       exact e
   . cases ei:p i with
     | false=>rfl
     | true =>
       rcases Nat.lt_or_ge (l+(r-l) / 2) i with z | z
       . have:=mono _ i z hn ei
         rw[e] at this;cases this
       . obtain rfl:i=l+(r-l) / 2:=by omega
         rw[e] at ei;cases ei
theorem wp_gallop {left:Bool}{key:Keyed}{arr:Array Keyed}{base:Nat}{p:Nat->Bool}{n hint:Nat}{st:SortSt}{Q:Option Nat->SortSt->Prop}
   (hq:∀i,i<n->∀R:Option Bool->SortSt->Prop,R (some (p i)) st->wpS M A E s (yk9 left key arr base i) R st) (mono:∀i j,i<j->j<n->p j=true->p i=true) (hh:hint<n)
   (h:∀k,k<=n->(∀i,i<k->p i=true)->(∀i,k<=i->i<n->p i=false)->Q (some k) st):wpS M A E s (zC6 left key arr base n hint) Q st:=by
 have dn:∀i j,i<j->j<n->p i=false->p j=false:=fun i j hij hj e=>by
   cases ej:p j with
   | false=>rfl
   | true=>rw[mono i j hij hj ej] at e;cases e
 have up:∀j,j<n->p j=true->∀i,i<=j->p i=true:=fun j hj e i hi=>by
   rcases Nat.lt_or_eq_of_le hi with z | rfl
   . exact mono i j z hj e
   . exact e
 have dn':∀i,p i=false->∀j,i<=j->j<n->p j=false:=fun i e j hi hj=>by
   rcases Nat.lt_or_eq_of_le hi with z | rfl
   . exact dn i j z hj e
   . exact e
 unfold zC6
 refine wpS_bind (hq hint hh _ ?_)
 cases e:p hint with
 | true =>
   dsimp only
   rw[if_pos rfl]
   refine wpS_bind (wpS_mono (wpS_forRange (I:=fun x c st'=>st'=st/\∃l o,c=(none,l,o)/\l<o/\x+1<=o/\hint+l<n/\p (hint+l)=true)
     (Q:=fun c st'=>st'=st/\∃l o,c=(none,l,o)/\l<o/\hint+l<n/\p (hint+l)=true/\(n-hint<=o\/p (hint+o)=false)) ?step ?fin ⟨rfl,0,1,rfl,by omega,by omega,by omega,e⟩) ?post)
   case fin =>
     rintro c st' ⟨rfl,l,o,rfl,a1,a2,a3,a4⟩
     exact⟨rfl,l,o,rfl,a1,a3,a4,.inl (by omega)⟩
   case step =>
     rintro x c st' _ hx ⟨rfl,l,o,rfl,a1,a2,a3,a4⟩
     dsimp only
     by_cases hge:o≥n-hint
     . rw[if_pos hge]
       exact wpS_pure ⟨rfl,l,o,rfl,a1,a3,a4,.inl hge⟩
     . rw[if_neg hge]
       refine wpS_bind (hq _ (by omega) _ ?_)
       cases eo:p (hint+o) with
       | true =>
         dsimp only
         rw[if_neg (by decide)]
         exact wpS_pure ⟨rfl,_,_,rfl,by omega,by omega,by omega,eo⟩
       | false =>
         dsimp only
         rw[if_pos (by decide)]
         exact wpS_pure ⟨rfl,l,o,rfl,a1,a3,a4,.inr eo⟩
   case post =>
     rintro c st' ⟨rfl,l,o,rfl,a1,a2,a3,a4⟩
     dsimp only
     have f1:hint+l+1<=hint+min o (n-hint):=by omega
     have f2:hint+min o (n-hint)<=n:=by omega
     have f3:∀i,i<hint+l+1->p i=true:=fun i hi=>up _ a2 a3 i (by omega)
     have f4:∀i,hint+min o (n-hint)<=i->i<n->p i=false:=fun i h1 h2=>by
       rcases a4 with z | z
       . omega
       . exact dn' _ z _ (by omega) h2
     refine wpS_bind (zX2 mono (fun x l r R g0 g1 g2 hr=>?_) f1 f2 f3 f4 fun k k1 k2 k3=>wpS_pure (h k k1 k2 k3))
     dsimp only
     by_cases hge:l≥r
     . rw[if_pos hge]
       exact wpS_pure (g0 hge)
     . rw[if_neg hge]
       refine wpS_bind (hq _ (by omega) _ ?_)
       cases eo:p (l+(r-l) / 2) with
       | true =>
         dsimp only
         rw[if_pos rfl]
         exact wpS_pure (g1 (by omega) eo)
       | false =>
         dsimp only
         rw[if_neg (by decide)]
         exact wpS_pure (g2 (by omega) eo)
 | false =>
   dsimp only
   rw[if_neg (by decide)]
   refine wpS_bind (wpS_mono (wpS_forRange (I:=fun x c st'=>st'=st/\∃l o,c=(none,l,o)/\l<o/\x+1<=o/\l<=hint/\p (hint-l)=false)
     (Q:=fun c st'=>st'=st/\∃l o,c=(none,l,o)/\l<o/\l<=hint/\p (hint-l)=false/\(hint+1<=o\/(o<=hint/\p (hint-o)=true))) ?step ?fin ⟨rfl,0,1,rfl,by omega,by omega,by omega,e⟩) ?post)
   case fin =>
     rintro c st' ⟨rfl,l,o,rfl,a1,a2,a3,a4⟩
     exact⟨rfl,l,o,rfl,a1,a3,a4,.inl (by omega)⟩
   case step =>
     rintro x c st' _ hx ⟨rfl,l,o,rfl,a1,a2,a3,a4⟩
     dsimp only
     by_cases hge:o≥hint+1
     . rw[if_pos hge]
       exact wpS_pure ⟨rfl,l,o,rfl,a1,a3,a4,.inl hge⟩
     . rw[if_neg hge]
       refine wpS_bind (hq _ (by omega) _ ?_)
       cases eo:p (hint-o) with
       | true =>
         dsimp only
         rw[if_pos rfl]
         exact wpS_pure ⟨rfl,l,o,rfl,a1,a3,a4,.inr ⟨by omega,eo⟩⟩
       | false =>
         dsimp only
         rw[if_neg (by decide)]
         exact wpS_pure ⟨rfl,_,_,rfl,by omega,by omega,by omega,eo⟩
   case post =>
     rintro c st' ⟨rfl,l,o,rfl,a1,a2,a3,a4⟩
     dsimp only
     have f1:hint+1-min o (hint+1)<=hint-l:=by
       rcases a4 with z | ⟨z,z'⟩
       . omega
       . omega
     have f2:hint-l<=n:=by omega
     have f3:∀i,i<hint+1-min o (hint+1)->p i=true:=fun i hi=>by
       rcases a4 with z | ⟨z,z'⟩
       . omega
       . exact up _ (by omega) z' i (by omega)
     have f4:∀i,hint-l<=i->i<n->p i=false:=fun i h1 h2=>dn' _ a3 _ h1 h2
     refine wpS_bind (zX2 mono (fun x l r R g0 g1 g2 hr=>?_) f1 f2 f3 f4 fun k k1 k2 k3=>wpS_pure (h k k1 k2 k3))
     dsimp only
     by_cases hge:l≥r
     . rw[if_pos hge]
       exact wpS_pure (g0 hge)
     . rw[if_neg hge]
       refine wpS_bind (hq _ (by omega) _ ?_)
       cases eo:p (l+(r-l) / 2) with
       | true =>
         dsimp only
         rw[if_pos rfl]
         exact wpS_pure (g1 (by omega) eo)
       | false =>
         dsimp only
         rw[if_neg (by decide)]
         exact wpS_pure (g2 (by omega) eo)
end
section
variable {α:Type} {R:α->α->Prop} {T out A B A1 A2 B1 B2:List α} {z:α}
structure MLo (R:α->α->Prop)(T out A B:List α):Prop where
 perm:(out++(A++B)).Perm T
 so:out.Pairwise R
 sa:A.Pairwise R
 sb:B.Pairwise R
 lo:∀x∈out,∀y∈A++B,R x y
 la:∀z,A.getLast?=some z->∀y∈B,R y z
theorem MLo.takeA (m:MLo R T out (A1++A2) B)(h:∀x∈A1,∀y∈B,R x y):MLo R T (out++A1) A2 B:=by
 have sa:=List.pairwise_append.mp m.sa
 refine⟨by simpa [List.append_assoc] using m.perm,List.pairwise_append.mpr ⟨m.so,sa.1,fun x hx y hy=>m.lo x hx y (by simp[hy])⟩,sa.2.1,m.sb,fun x hx y hy=>?_,fun z hz y hy=>m.la z (by rw[List.getLast?_append,hz];rfl) y hy⟩
 rcases List.mem_append.mp hx with hx | hx
 . exact m.lo x hx y (by rcases List.mem_append.mp hy with q | q<;>simp[q])
 . rcases List.mem_append.mp hy with q | q
   . exact sa.2.2 x hx y q
   . exact h x hx y q
theorem MLo.takeB (m:MLo R T out A (B1++B2))(h:∀y∈B1,∀x∈A,R y x):MLo R T (out++B1) A B2:=by
 have sb:=List.pairwise_append.mp m.sb
 refine⟨.trans ?_ m.perm,List.pairwise_append.mpr ⟨m.so,sb.1,fun x hx y hy=>m.lo x hx y (by simp[hy])⟩,m.sa,sb.2.1,fun x hx y hy=>?_,fun z hz y hy=>m.la z hz y (by simp[hy])⟩
 . rw[List.append_assoc]
   refine List.Perm.append_left out ?_
   rw[<-List.append_assoc,<-List.append_assoc]
   exact List.Perm.append_right B2 List.perm_append_comm
 . rcases List.mem_append.mp hx with hx | hx
   . exact m.lo x hx y (by rcases List.mem_append.mp hy with q | q<;>simp[q])
   . rcases List.mem_append.mp hy with q | q
     . exact h x hx y q
     . exact sb.2.2 x hx y q
theorem MLo.len (m:MLo R T out A B):out.length+(A.length+B.length)=T.length:=by
 have:=m.perm.length_eq
 simpa using this
theorem MLo.dis (m:MLo R T out A B)(d:T.Pairwise fun x y=>R x y\/R y x){x y:α}(hx:x∈A)(hy:y∈B):R x y\/R y x:=by
 have d':=(m.perm.pairwise_iff (R:=fun x y=>R x y\/R y x) (fun h=>h.symm)).mpr d
 exact(List.pairwise_append.mp (List.pairwise_append.mp d').2.1).2.2 x hx y hy
theorem MLo.memA (m:MLo R T out A B){x:α}(hx:x∈A):x∈T:=m.perm.mem_iff.mp (by simp[hx])
theorem MLo.memB (m:MLo R T out A B){x:α}(hx:x∈B):x∈T:=m.perm.mem_iff.mp (by simp[hx])
noncomputable def Mer (R:α->α->Prop)(T m:List α):Prop:=m.Perm T/\m.Pairwise R
theorem MLo.doneA (m:MLo R T out A []):Mer R T (out++A) :=
 ⟨by simpa using m.perm,List.pairwise_append.mpr ⟨m.so,m.sa,fun x hx y hy=>m.lo x hx y (by simp[hy])⟩⟩
theorem MLo.doneB (m:MLo R T out [] B):Mer R T (out++B) :=
 ⟨by simpa using m.perm,List.pairwise_append.mpr ⟨m.so,m.sb,fun x hx y hy=>m.lo x hx y (by simp[hy])⟩⟩
theorem MLo.last (m:MLo R T out [z] B):Mer R T (out++(B++[z])):=by
 refine⟨.trans (List.Perm.append_left out List.perm_append_comm) m.perm,List.pairwise_append.mpr ⟨m.so,List.pairwise_append.mpr ⟨m.sb,List.pairwise_singleton _ _,fun x hx y hy=>?_⟩,fun x hx y hy=>m.lo x hx y ?_⟩⟩
 . obtain rfl:y=z:=by simpa using hy
   exact m.la y rfl x hx
 . rcases List.mem_append.mp hy with q | q
   . simp[q]
   . simp at q;simp[q]
end
section
variable {α:Type} {R:α->α->Prop} {T:List α}
theorem zf8 {a:Array α}{i:Nat}(h:i<a.size):a.toList.drop i=a[i]::a.toList.drop (i+1):=by
 have h':i<a.toList.length:=by simpa using h
 rw[List.drop_eq_getElem_cons h']
 simp
theorem zK5 {a:Array α}{i:Nat}(h:a.size<=i):a.toList.drop i=[]:=List.drop_eq_nil_of_le (by simpa using h)
theorem zC7 (a:Array α)(i:Nat):(a.extract i).toList=a.toList.drop i:=by
 rw[Array.toList_extract,List.extract_eq_drop_take]
 exact List.take_of_length_le (by simp)
theorem zn3 (a:Array α)(i k:Nat):(a.extract i (i+k)).toList=(a.toList.drop i).take k:=by
 rw[Array.toList_extract,List.extract_eq_drop_take]
 congr 1
 omega
theorem zI5 {out a b:Array α}{ia ib:Nat}(m:MLo R T out.toList (a.toList.drop ia) (b.toList.drop ib))(h:b.size<=ib\/a.size<=ia):Mer R T (out++a.extract ia++b.extract ib).toList:=by
 rw[Array.toList_append,Array.toList_append,zC7,zC7]
 rcases h with h | h
 . rw[zK5 h] at m ⊢
   simpa using m.doneA
 . rw[zK5 h] at m ⊢
   simpa using m.doneB
theorem zI6 {out a b:Array α}{ia ib:Nat}(m:MLo R T out.toList (a.toList.drop ia) (b.toList.drop ib))(h:ia+1=a.size):Mer R T (out++b.extract ib++a.extract ia).toList:=by
 rw[Array.toList_append,Array.toList_append,zC7,zC7]
 rw[zf8 (a:=a) (i:=ia) (by omega),zK5 (a:=a) (i:=ia+1) (by omega)] at m ⊢
 simpa using m.last
theorem zX3 {out a b : Array α} {ia ib : Nat} (m : MLo R T out.toList (a.toList.drop ia) (b.toList.drop ib)) (h : ia < a.size) (hb : ∀ y ∈ b.toList.drop ib, R a[ia] y) : MLo R T (out.push a[ia]).toList (a.toList.drop (ia + 1)) (b.toList.drop ib) := by
  rw [zf8 h] at m
  rw [Array.toList_push]
  exact MLo.takeA (A1 := [a[ia]]) m fun x hx y hy => by obtain rfl : x = a[ia] := by simpa using hx
                                                        exact hb y hy
theorem zK6 {out a b : Array α} {ia ib : Nat} (m : MLo R T out.toList (a.toList.drop ia) (b.toList.drop ib)) (h : ib < b.size) (ha : ∀ x ∈ a.toList.drop ia, R b[ib] x) : MLo R T (out.push b[ib]).toList (a.toList.drop ia) (b.toList.drop (ib + 1)) := by
  rw [zf8 h] at m
  rw [Array.toList_push]
  exact MLo.takeB (B1 := [b[ib]]) m fun x hx y hy => by obtain rfl : x = b[ib] := by simpa using hx
                                                        exact ha y hy
theorem lo_runA {out a b:Array α}{ia ib k:Nat}(m:MLo R T out.toList (a.toList.drop ia) (b.toList.drop ib))(h:∀x∈(a.toList.drop ia).take k,∀y∈b.toList.drop ib,R x y):MLo R T (out++a.extract ia (ia+k)).toList (a.toList.drop (ia+k)) (b.toList.drop ib):=by
 rw[Array.toList_append,zn3,<-List.drop_drop]
 rw[<-List.take_append_drop k (a.toList.drop ia)] at m
 exact m.takeA h
theorem lo_runB {out a b:Array α}{ia ib k:Nat}(m:MLo R T out.toList (a.toList.drop ia) (b.toList.drop ib))(h:∀y∈(b.toList.drop ib).take k,∀x∈a.toList.drop ia,R y x):MLo R T (out++b.extract ib (ib+k)).toList (a.toList.drop ia) (b.toList.drop (ib+k)):=by
 rw[Array.toList_append,zn3,<-List.drop_drop]
 rw[<-List.take_append_drop k (b.toList.drop ib)] at m
 exact m.takeB h
end
structure Cmp (M:Model)(A:Around)(s:Shared)(κ:SortKind)(lt:Keyed->Keyed->Bool)(T:List Keyed):Prop where
 ask:∀x∈T,∀y∈T,wpAny M A (keyLt' κ x.1 y.1) (fun b s'=>s'=s/\b=lt x y) (fun _ _=>False) s
 tr:∀x y z,lt x y=true->lt y z=true->lt x z=true
 as:∀x y,lt x y=true->lt y x=false
 di:T.Pairwise fun x y=>lt x y=true\/lt y x=true
noncomputable abbrev LtR (lt:Keyed->Keyed->Bool):Keyed->Keyed->Prop:=fun x y=>lt x y=true
section
variable {M:Model} {A:Around} {E:Value->Shared->Prop} {s:Shared} {κ:SortKind} {lt:Keyed->Keyed->Bool} {T T':List Keyed}
theorem Cmp.sub (c:Cmp M A s κ lt T)(h:T'.Sublist T):Cmp M A s κ lt T':=⟨fun x hx y hy=>c.ask x (h.subset hx) y (h.subset hy),c.tr,c.as,c.di.sublist h⟩
theorem Cmp.perm (c:Cmp M A s κ lt T)(h:T'.Perm T):Cmp M A s κ lt T':=⟨fun x hx y hy=>c.ask x (h.mem_iff.mp hx) y (h.mem_iff.mp hy),c.tr,c.as,(h.pairwise_iff (fun z=>z.symm)).mpr c.di⟩
theorem zX4 {x y:Keyed}{st:SortSt}{Q:Option Bool->SortSt->Prop}(c:Cmp M A s κ lt T)(hx:x∈T)(hy:y∈T)(hk:kindOf st=κ)(h:Q (some (lt x y)) st):wpS M A E s (lt' x y) Q st:=by
 rw[lt'_eq]
 refine wpS_bind (wpS_get ?_)
 rw[hk]
 refine wpS_bind (wpS_lift (wpAny_attempt (wpAny_mono (c.ask x hx y hy) (fun b s' z=>⟨z.1,?_⟩) fun _ _ f=>f.elim)))
 rw[z.2]
 exact wpS_pure h
theorem ze2 {arr:Array Keyed}{i:Nat}{st:SortSt}{Q:Keyed->SortSt->Prop}(hi:i<arr.size)(h:Q arr[i] st):wpS M A E s (elem' arr i) Q st:=by
 rw[elem'_eq,getElem?_pos arr i hi]
 exact wpS_pure h
theorem zI7 {st:SortSt}{g:Nat}{Q:Unit->SortSt->Prop}(h:Q () (SortSt.mk' (kindOf st) (arrOf st) (pendingOf st) g (failedOf st))):wpS M A E s (yd0 g) Q st:=by
 unfold yd0
 exact wpS_modify h
theorem zU3 {left:Bool}{key:Keyed}{arr:Array Keyed}{base hint:Nat}{L:List Keyed}{st:SortSt}{Q:Option Nat->SortSt->Prop}(c:Cmp M A s κ lt T)(hk:kindOf st=κ)(hkey:key∈T)(hT:∀x∈L,x∈T)
   (hL:∀i (h:i<L.length),arr[base+i]?=some L[i]) (hs:L.Pairwise (LtR lt)) (hh:hint<L.length)
   (h:∀k,k<=L.length->(∀x∈L.take k,(if left=true then lt x key else !lt key x)=true)->(∀x∈L.drop k,(if left=true then lt x key else !lt key x)=false)->Q (some k) st) :
   wpS M A E s (zC6 left key arr base L.length hint) Q st:=by
 refine wp_gallop (p:=fun i=>match L[i]? with | some x=>if left=true then lt x key else !lt key x | none=>false) (fun i hi R hR=>?_) (fun i j hij hj e=>?_) hh fun k hk1 h1 h2=>h k hk1 (fun x hx=>?_) fun x hx=>?_
 . unfold yk9
   obtain⟨hb,e⟩:=Array.getElem?_eq_some_iff.mp (hL i hi)
   refine wpS_bind (ze2 hb ?_)
   rw[e]
   have hm:L[i]∈T:=hT _ (List.getElem_mem hi)
   rw[List.getElem?_eq_getElem hi] at hR
   dsimp only at hR
   cases left with
   | true =>
     rw[if_pos rfl]
     exact zX4 c hm hkey hk hR
   | false =>
     rw[if_neg (by decide)]
     exact wpS_bind (zX4 c hkey hm hk (wpS_pure hR))
 . have hi:i<L.length:=by omega
   rw[List.getElem?_eq_getElem hj] at e
   rw[List.getElem?_eq_getElem hi]
   have hR:lt L[i] L[j]=true:=List.pairwise_iff_getElem.mp hs i j hi hj hij
   cases left with
   | true =>
     dsimp only at e ⊢
     rw[if_pos rfl] at e ⊢
     exact c.tr _ _ _ hR e
   | false =>
     dsimp only at e ⊢
     rw[if_neg (by decide)] at e ⊢
     cases z:lt key L[i] with
     | false=>rfl
     | true=>rw[c.tr _ _ _ z hR] at e;cases e
 . obtain⟨i,hi,rfl⟩:=List.mem_iff_getElem.mp hx
   have hi':i<k:=by simp at hi;omega
   have hi2:i<L.length:=by simp at hi;omega
   have:=h1 i hi'
   rw[List.getElem?_eq_getElem hi2] at this
   simpa using this
 . obtain⟨i,hi,rfl⟩:=List.mem_iff_getElem.mp hx
   have hi2:k+i<L.length:=by simp at hi;omega
   have:=h2 (k+i) (by omega) hi2
   rw[List.getElem?_eq_getElem hi2] at this
   simpa using this
theorem yd1 {left:Bool}{key:Keyed}{a:Array Keyed}{i:Nat}{st:SortSt}{Q:Option Nat->SortSt->Prop}(c:Cmp M A s κ lt T)(hk:kindOf st=κ)(hkey:key∈T)(hT:∀x∈a.toList.drop i,x∈T)
   (hs:(a.toList.drop i).Pairwise (LtR lt)) (hi:i<a.size)
   (h:∀k,k<=a.size-i->(∀x∈(a.toList.drop i).take k,(if left=true then lt x key else !lt key x)=true)->(∀x∈a.toList.drop (i+k),(if left=true then lt x key else !lt key x)=false)->Q (some k) st) :
   wpS M A E s (zC6 left key a i (a.size-i) 0) Q st:=by
 have e:(a.toList.drop i).length=a.size-i:=by simp
 have:=zU3 (E:=E) (left:=left) (key:=key) (arr:=a) (base:=i) (hint:=0) (L:=a.toList.drop i) (Q:=Q) c hk hkey hT (fun j hj=>by
   have hj':i+j<a.size:=by rw[e] at hj;omega
   rw[getElem?_pos a (i+j) hj']
   simp) hs (by rw[e];omega) fun k h0 h1 h2=>h k (by rw[e] at h0;exact h0) h1 (fun x hx=>h2 x (by rw[List.drop_drop];exact hx))
 rw[e] at this
 exact this
end
end Sx
namespace Sx
inductive Aa6 (p0 p1 p2 p3 p4 p5:Prop):Prop | mk (h0:p0) (h1:p1) (h2:p2) (h3:p3) (h4:p4) (h5:p5):Aa6 p0 p1 p2 p3 p4 p5
inductive Aa8 (p0 p1 p2 p3 p4 p5 p6 p7:Prop):Prop | mk (h0:p0) (h1:p1) (h2:p2) (h3:p3) (h4:p4) (h5:p5) (h6:p6) (h7:p7):Aa8 p0 p1 p2 p3 p4 p5 p6 p7
inductive Ex4 {α β γ δ:Type}(p:α->β->γ->δ->Prop):Prop | mk (a0:α) (a1:β) (a2:γ) (a3:δ) (h:p a0 a1 a2 a3):Ex4 p
inductive Ex5 {α β γ δ ε:Type}(p:α->β->γ->δ->ε->Prop):Prop | mk (a0:α) (a1:β) (a2:γ) (a3:δ) (a4:ε) (h:p a0 a1 a2 a3 a4):Ex5 p
inductive Ex7 {α β γ δ ε ζ η:Type}(p:α->β->γ->δ->ε->ζ->η->Prop):Prop | mk (a0:α) (a1:β) (a2:γ) (a3:δ) (a4:ε) (a5:ζ) (a6:η) (h:p a0 a1 a2 a3 a4 a5 a6):Ex7 p
open PySem PyProof.Rows
section
variable {M:Model} {A:Around} {E:Value->Shared->Prop} {s:Shared} {κ:SortKind} {lt:Keyed->Keyed->Bool} {T:List Keyed}
theorem zf0 {a b:Nat}(h:a=b):(a == b)=true:=by simpa using h
theorem ze7 {a b:Nat}(h:¬ a=b):¬ (a == b)=true:=by simpa using h
theorem yd2 {R:Nat->Prop}{G:Prop}(main:(∀o,R o)->G)(fin:∀o,R o):G:=main fin
theorem zU4 {R S:Array Keyed->Nat->Prop}{G:Prop}(main:(∀o j,S o j->R o j)->G)(fin:∀o j,S o j->R o j):G:=main fin
inductive Ex1 (p q r s t:Prop):Prop
 | mk (a:p)(b:q)(c:r)(d:s)(e:t)
theorem wp_mergeLo {a b:Array Keyed}{ar:Array Keyed}{pd:Array (Nat×Nat×Nat)}{g:Nat}{Q:Array Keyed->SortSt->Prop}(c:Cmp M A s κ lt T)(hT:(a.toList++b.toList).Perm T)
   (sa:a.toList.Pairwise (LtR lt)) (sb:b.toList.Pairwise (LtR lt)) (ha:0<a.size) (hb:0<b.size) (first:∀x∈a.toList,lt b[0] x=true) (last:∀z,a.toList.getLast?=some z->∀y∈b.toList,lt y z=true)
   (h:∀m g',Mer (LtR lt) T m.toList->Q m (SortSt.mk' κ ar pd g' none)):wpS M A E s (zX0 a b) Q (SortSt.mk' κ ar pd g none):=by
 unfold zX0
 refine wpS_bind (wpS_lift (wpAny_rule ⟨rfl,?_⟩))
 refine wpS_bind (ze2 hb ?_)
 have m0:MLo (LtR lt) T (#[]:Array Keyed).toList (a.toList.drop 0) (b.toList.drop 0):=⟨by simpa using hT,by simp,by simpa using sa,by simpa using sb,by simp,by simpa using last⟩
 have m1:MLo (LtR lt) T (#[b[0]]:Array Keyed).toList (a.toList.drop 0) (b.toList.drop 1):=zK6 m0 hb (by simpa using first)
 dsimp only
 by_cases h1:1=b.size
 . rw[if_pos (zf0 h1)]
   exact wpS_pure (h _ _ (zI5 m1 (.inl (by omega))))
 rw[if_neg (ze7 h1)]
 by_cases h2:0+1=a.size
 . rw[if_pos (zf0 h2)]
   exact wpS_pure (h _ _ (zI6 m1 h2))
 rw[if_neg (ze7 h2)]
 refine wpS_bind (wpS_get ?_)
 have tot:∀ {out:Array Keyed} {ia ib:Nat},MLo (LtR lt) T out.toList (a.toList.drop ia) (b.toList.drop ib)->ib<b.size->out.size<a.size+b.size:=fun {out ia ib} m hib=>by
   have e:=m.len
   have e':=hT.length_eq
   simp at e e'
   omega
 refine wpS_bind (wpS_mono (wpS_forRange
   (I:=fun x v st'=>Ex5 fun out ia ib mg g'=>Aa6 (v=(none,out,ia,ib,mg)) (st'=SortSt.mk' κ ar pd g' none) (MLo (LtR lt) T out.toList (a.toList.drop ia) (b.toList.drop ib)) (ia+1<a.size) (ib<b.size) (x<=out.size))
   (Q:=fun v st'=>∃r g',v.1=some r/\Mer (LtR lt) T r.toList/\st'=SortSt.mk' κ ar pd g' none) ?step ?fin ⟨_,0,1,_,g,rfl,rfl,m1,by omega,by omega,by simp⟩) ?post)
 case post =>
   rintro⟨r0,v⟩ st' ⟨r,g',e,hm,rfl⟩
   obtain rfl:r0=some r:=e
   exact wpS_pure (h r g' hm)
 case fin =>
   rintro v st' ⟨out,ia,ib,mg,g',rfl,rfl,m,hia,hib,hx⟩
   have:=tot m hib
   omega
 case step =>
   rintro x v st' _ hx ⟨out,ia,ib,mg,g',rfl,rfl,m,hia,hib,hxo⟩
   dsimp only
   refine wpS_bind (wpS_mono (wpS_forRange
     (I:=fun y v st'=>Ex5 fun o ja jb ac bc=>Aa6 (v=(none,o,ja,jb,ac,bc)) (st'=SortSt.mk' κ ar pd g' none) (MLo (LtR lt) T o.toList (a.toList.drop ja) (b.toList.drop jb)) (ja+1<a.size) (jb<b.size) (out.size+y<=o.size))
     (Q:=fun v st'=>st'=SortSt.mk' κ ar pd g' none/\((∃r,v.1=some r/\Mer (LtR lt) T r.toList)\/∃o ja jb ac bc,v=(none,o,ja,jb,ac,bc)/\MLo (LtR lt) T o.toList (a.toList.drop ja) (b.toList.drop jb)/\ja+1<a.size/\jb<b.size/\out.size+1<=o.size))
     ?step1 ?fin1 ⟨out,ia,ib,_,_,rfl,rfl,m,hia,hib,by omega⟩) ?post1)
   case fin1 =>
     rintro v st' ⟨o,ja,jb,ac,bc,rfl,rfl,m,h3,h4,h5⟩
     exact⟨rfl,.inr ⟨o,ja,jb,ac,bc,rfl,m,h3,h4,by omega⟩⟩
   case step1 =>
     rintro y v st' _ hy ⟨o,ja,jb,ac,bc,rfl,rfl,m,h3,h4,h5⟩
     dsimp only
     have hja:ja<a.size:=by omega
     have ma:a[ja]∈a.toList.drop ja:=by rw[zf8 hja];exact .head _
     have mb:b[jb]∈b.toList.drop jb:=by rw[zf8 h4];exact .head _
     refine wpS_bind (ze2 h4 (wpS_bind (ze2 hja ?_)))
     refine wpS_bind (zX4 c (m.memB mb) (m.memA ma) rfl ?_)
     cases e:lt b[jb] a[ja] with
     | true =>
       dsimp only
       rw[if_pos rfl]
       refine wpS_bind (ze2 h4 ?_)
       have m':=zK6 m h4 fun x hx=>by
         have q:=m.sa
         rw[zf8 hja] at hx q
         rcases List.mem_cons.mp hx with rfl | hx
         . exact e
         . exact c.tr _ _ _ e ((List.pairwise_cons.mp q).1 x hx)
       try dsimp only
       by_cases h6:jb+1=b.size
       . rw[if_pos (zf0 h6)]
         exact wpS_pure ⟨rfl,.inl ⟨_,rfl,zI5 m' (.inl (by omega))⟩⟩
       rw[if_neg (ze7 h6)]
       split
       . exact wpS_pure ⟨rfl,.inr ⟨_,_,_,_,_,rfl,m',h3,by omega,by simp;omega⟩⟩
       . exact wpS_pure ⟨_,_,_,_,_,rfl,rfl,m',h3,by omega,by simp;omega⟩
     | false =>
       dsimp only
       rw[if_neg (by decide)]
       refine wpS_bind (ze2 hja ?_)
       have e':lt a[ja] b[jb]=true:=(m.dis c.di ma mb).resolve_right (by show ¬ lt _ _=true;rw[e];decide)
       have m':=zX3 m hja fun x hx=>by
         have q:=m.sb
         rw[zf8 h4] at hx q
         rcases List.mem_cons.mp hx with rfl | hx
         . exact e'
         . exact c.tr _ _ _ e' ((List.pairwise_cons.mp q).1 x hx)
       try dsimp only
       by_cases h6:ja+1+1=a.size
       . rw[if_pos (zf0 h6)]
         exact wpS_pure ⟨rfl,.inl ⟨_,rfl,zI6 m' h6⟩⟩
       rw[if_neg (ze7 h6)]
       split
       . exact wpS_pure ⟨rfl,.inr ⟨_,_,_,_,_,rfl,m',by omega,h4,by simp;omega⟩⟩
       . exact wpS_pure ⟨_,_,_,_,_,rfl,rfl,m',by omega,h4,by simp;omega⟩
   case post1 =>
     rintro⟨r0,v⟩ st' ⟨rfl,⟨r,e,hm⟩ | ⟨o,ja,jb,ac,bc,e,m,h3,h4,h5⟩⟩
     . obtain rfl:r0=some r:=e
       exact wpS_pure ⟨r,g',rfl,hm,rfl⟩
     obtain⟨rfl,rfl⟩:=Prod.mk.inj e
     dsimp only
     refine wpS_bind (wpS_lift (wpAny_rule ⟨rfl,?_⟩))
     refine wpS_bind (wpS_mono (wpS_forRange
       (I:=fun y v st'=>Ex7 fun o ja jb mg ac bc g'=>Aa6 (v=(none,o,ja,jb,mg,ac,bc)) (st'=SortSt.mk' κ ar pd g' none) (MLo (LtR lt) T o.toList (a.toList.drop ja) (b.toList.drop jb)) (ja+1<a.size) (jb<b.size) (out.size+1<=o.size))
       (Q:=fun v st'=>∃g',st'=SortSt.mk' κ ar pd g' none/\((∃r,v.1=some r/\Mer (LtR lt) T r.toList)\/∃o ja jb mg ac bc,v=(none,o,ja,jb,mg,ac,bc)/\MLo (LtR lt) T o.toList (a.toList.drop ja) (b.toList.drop jb)/\ja+1<a.size/\jb<b.size/\out.size+1<=o.size))
       ?step2 ?fin2 ⟨o,ja,jb,_,_,_,g',rfl,rfl,m,h3,h4,h5⟩) ?post2)
     case fin2 =>
       rintro v st' ⟨o,ja,jb,mg,ac,bc,g',rfl,rfl,m,h3,h4,h5⟩
       exact⟨g',rfl,.inr ⟨o,ja,jb,mg,ac,bc,rfl,m,h3,h4,h5⟩⟩
     case post2 =>
       rintro⟨r0,v⟩ st' ⟨g',rfl,⟨r,e,hm⟩ | ⟨o,ja,jb,mg,ac,bc,e,m,h3,h4,h5⟩⟩
       . obtain rfl:r0=some r:=e
         exact wpS_pure ⟨r,g',rfl,hm,rfl⟩
       obtain⟨rfl,rfl⟩:=Prod.mk.inj e
       dsimp only
       exact wpS_bind (zI7 (wpS_pure ⟨o,ja,jb,_,_,rfl,rfl,m,h3,h4,by omega⟩))
     case step2 =>
       clear m h3 h4 h5 hxo hia hib
       rintro y v st' _ hy ⟨o,ja,jb,mg,ac,bc,g',rfl,rfl,m,h3,h4,h5⟩
       dsimp only
       have key:∀mg',wpS M A E s (yd0 mg') (fun _ st'=>st'=SortSt.mk' κ ar pd mg' none) (SortSt.mk' κ ar pd g' none):=fun mg'=>zI7 rfl
       refine yd2 (R:=?R0) (fun fin0=>?main0) ?fin0
       case main0 =>
         by_cases hmg:mg>1
         . rw[if_pos hmg]
           generalize mg-1=mg'
           exact fin0 mg'
         . rw[if_neg hmg]
           exact fin0 mg
       case fin0 =>
         intro mg'
         refine wpS_bind (wpS_mono (key _) fun _ st' e=>?_)
         subst e
         clear key
         refine wpS_bind (ze2 h4 ?_)
         have mb:b[jb]∈b.toList.drop jb:=by rw[zf8 h4];exact .head _
         refine wpS_bind (yd1 c rfl (m.memB mb) (fun x hx=>m.memA hx) m.sa (by omega) fun k hk k1 k2=>?_)
         dsimp only
         refine zU4 (R:=?R1) (S:=fun o' ja'=>Ex1 (MLo (LtR lt) T o'.toList (a.toList.drop ja') (b.toList.drop jb)) (out.size+1<=o'.size) (∀x∈a.toList.drop ja',lt b[jb] x=true) (ja'+1<a.size) True) (fun fin1=>?main1) ?fin1
         case main1 =>
           have k1':∀x∈(a.toList.drop ja).take k,∀y∈b.toList.drop jb,lt x y=true:=fun x hx y hy=>by
             have q:=k1 x hx
             rw[if_neg (by decide)] at q
             have e:lt x b[jb]=true:=(m.dis c.di (List.mem_of_mem_take hx) mb).resolve_right (by simpa using q)
             have q':=m.sb
             rw[zf8 h4] at hy q'
             rcases List.mem_cons.mp hy with rfl | hy
             . exact e
             . exact c.tr _ _ _ e ((List.pairwise_cons.mp q').1 y hy)
           have m2:=lo_runA m k1'
           have o2:out.size+1<=(o++a.extract ja (ja+k)).size:=by simp;omega
           have k2':∀x∈a.toList.drop (ja+k),lt b[jb] x=true:=fun x hx=>by
             have q:=k2 x hx
             rw[if_neg (by decide)] at q
             simpa using q
           have hend:¬ ja+k=a.size:=fun z=>by
             obtain⟨w,hw⟩:∃w,(a.toList.drop ja).getLast?=some w:=by
               rw[zf8 (show ja<a.size by omega)]
               exact⟨_,List.getLast?_eq_getLast (by simp)⟩
             have w1:lt _ _=true:=m.la w hw _ mb
             have w2:w∈(a.toList.drop ja).take k:=by
               rw[List.take_of_length_le (by simp;omega)]
               exact List.mem_of_getLast? hw
             rw[c.as _ _ (k1' w w2 _ mb)] at w1
             cases w1
           by_cases hk':k>0
           . rw[if_pos hk']
             by_cases h6:ja+k+1=a.size
             . rw[if_pos (zf0 h6)]
               exact wpS_pure ⟨_,rfl,.inl ⟨_,rfl,zI6 m2 h6⟩⟩
             rw[if_neg (ze7 h6),if_neg (ze7 hend)]
             have h3':ja+k+1<a.size:=by omega
             clear k1' hend h6 hk'
             generalize o++a.extract ja (ja+k)=o' at m2 o2 ⊢
             generalize ja+k=ja' at m2 k2' h3' ⊢
             exact fin1 o' ja' ⟨m2,o2,k2',h3',trivial⟩
           . rw[if_neg hk']
             have ek:ja+k=ja:=by omega
             rw[ek] at k2'
             exact fin1 o ja ⟨m,h5,k2',h3,trivial⟩
         case fin1 =>
           clear k1 k2 hk mb h3 h5 m
           rintro o' ja' ⟨m2,o2,k2',h3',_⟩
           refine wpS_bind (ze2 h4 ?_)
           have m3:=zK6 m2 h4 k2'
           try dsimp only
           by_cases h7:jb+1=b.size
           . rw[if_pos (zf0 h7)]
             exact wpS_pure ⟨_,rfl,.inl ⟨_,rfl,zI5 m3 (.inl (by omega))⟩⟩
           rw[if_neg (ze7 h7)]
           have h8:ja'<a.size:=by omega
           have ma:a[ja']∈a.toList.drop ja':=by rw[zf8 h8];exact .head _
           have o3:out.size+1<=(o'.push b[jb]).size:=by simp;omega
           have h7':jb+1<b.size:=by omega
           clear m2 o2 k2' h7
           generalize o'.push b[jb]=o1 at m3 o3 ⊢
           refine wpS_bind (ze2 h8 ?_)
           refine wpS_bind (yd1 c rfl (m3.memA ma) (fun x hx=>m3.memB hx) m3.sb (by omega) fun n hn n1 n2=>?_)
           dsimp only
           refine zU4 (R:=?R2) (S:=fun o2 jb2=>Ex1 (MLo (LtR lt) T o2.toList (a.toList.drop ja') (b.toList.drop jb2)) (out.size+1<=o2.size) (∀y∈b.toList.drop jb2,lt a[ja'] y=true) (jb2<b.size) True) (fun fin2=>?main2) ?fin2'
           case main2 =>
             have n1':∀y∈(b.toList.drop (jb+1)).take n,∀x∈a.toList.drop ja',lt y x=true:=fun y hy x hx=>by
               have q:=n1 y hy
               rw[if_pos rfl] at q
               have q':=m3.sa
               rw[zf8 h8] at hx q'
               rcases List.mem_cons.mp hx with rfl | hx
               . exact q
               . exact c.tr _ _ _ q ((List.pairwise_cons.mp q').1 x hx)
             have m4:=lo_runB m3 n1'
             have o4:out.size+1<=(o1++b.extract (jb+1) (jb+1+n)).size:=by simp;omega
             have n2':∀y∈b.toList.drop (jb+1+n),lt a[ja'] y=true:=fun y hy=>by
               have q:=n2 y hy
               rw[if_pos rfl] at q
               exact(m4.dis c.di ma hy).resolve_right (by show ¬ lt _ _=true;rw[q];decide)
             by_cases hn':n>0
             . rw[if_pos hn']
               by_cases h9:jb+1+n=b.size
               . rw[if_pos (zf0 h9)]
                 exact wpS_pure ⟨_,rfl,.inl ⟨_,rfl,zI5 m4 (.inl (by omega))⟩⟩
               rw[if_neg (ze7 h9)]
               have h10:jb+1+n<b.size:=by omega
               clear n1' h9 hn'
               generalize o1++b.extract (jb+1) (jb+1+n)=o2 at m4 o4 ⊢
               generalize jb+1+n=jb2 at m4 n2' h10 ⊢
               exact fin2 o2 jb2 ⟨m4,o4,n2',h10,trivial⟩
             . rw[if_neg hn']
               have en:jb+1+n=jb+1:=by omega
               rw[en] at n2'
               exact fin2 o1 (jb+1) ⟨m3,o3,n2',h7',trivial⟩
           case fin2' =>
             clear n1 n2 hn ma m3 o3 h7' h4
             rintro o2 jb2 ⟨m4,o4,n2',h10,_⟩
             refine wpS_bind (ze2 h8 ?_)
             have m5:=zX3 m4 h8 n2'
             try dsimp only
             by_cases h11:ja'+1+1=a.size
             . rw[if_pos (zf0 h11)]
               exact wpS_pure ⟨_,rfl,.inl ⟨_,rfl,zI6 m5 h11⟩⟩
             rw[if_neg (ze7 h11)]
             split
             . exact wpS_pure ⟨_,rfl,.inr ⟨_,_,_,_,_,_,rfl,m5,by omega,h10,by simp;omega⟩⟩
             . exact wpS_pure ⟨_,_,_,_,_,_,_,rfl,rfl,m5,by omega,h10,by simp;omega⟩
end
end Sx
namespace Sx
open PySem PyProof.Rows
section
variable {α:Type} {R:α->α->Prop} {T:List α}
noncomputable abbrev Rv (R:α->α->Prop):α->α->Prop:=fun x y=>R y x
noncomputable abbrev MHi (R:α->α->Prop)(T:List α)(out a b:Array α)(na nb:Nat):Prop:=MLo (Rv R) T out.toList (b.toList.take nb).reverse (a.toList.take na).reverse
theorem Mer.rev {m:List α}(h:Mer (Rv R) T m):Mer R T m.reverse:=⟨(List.reverse_perm m).trans h.1,by rw[List.pairwise_reverse];exact h.2⟩
theorem zo5 {a:Array α}{n:Nat}(h0:0<n)(h:n<=a.size):(a.toList.take n).reverse=a[n-1]::(a.toList.take (n-1)).reverse:=by
 obtain⟨k,rfl⟩:∃k,n=k+1:=⟨n-1,by omega⟩
 have hk:k<a.toList.length:=by simp;omega
 rw[List.take_succ_eq_append_getElem hk,List.reverse_append]
 simp
theorem zw6 (a:Array α)(n:Nat):(a.extract 0 n).toList=a.toList.take n:=by
 have:=zn3 a 0 n
 simpa using this
theorem zC8 {out a b:Array α}{na nb:Nat}(m:MHi R T out a b na nb)(h:na=0\/nb=0):Mer R T (a.extract 0 na++b.extract 0 nb++out.reverse).toList:=by
 rw[Array.toList_append,Array.toList_append,zw6,zw6,Array.toList_reverse]
 unfold MHi at m
 rcases h with rfl | rfl
 . have q:=(MLo.doneA (by simpa using m)).rev
   simpa using q
 . have q:=(MLo.doneB (by simpa using m)).rev
   simpa using q
theorem zC9 {out a b:Array α}{na:Nat}(m:MHi R T out a b na 1)(hb:0<b.size):Mer R T (b.extract 0 1++a.extract 0 na++out.reverse).toList:=by
 rw[Array.toList_append,Array.toList_append,zw6,zw6,Array.toList_reverse]
 unfold MHi at m
 rw[zo5 (by omega) (by omega)] at m
 have q:=(MLo.last (by simpa using m)).rev
 have e:b.toList.take 1=[b[0]]:=by
   have z:=congrArg List.reverse (zo5 (a:=b) (n:=1) (by omega) (by omega))
   simpa using z
 rw[e]
 simpa using q
theorem zK7 {out a b : Array α} {na nb : Nat} (m : MHi R T out a b na nb) (h0 : 0 < na) (h : na ≤ a.size) (hb : ∀ y ∈ b.toList.take nb, R y a[na - 1]) : MHi R T (out.push a[na - 1]) a b (na - 1) nb := by
  unfold MHi at m ⊢
  rw [zo5 h0 h] at m
  rw [Array.toList_push]
  exact MLo.takeB (B1 := [a[na - 1]]) m fun x hx y hy => by obtain rfl : x = a[na - 1] := by simpa using hx
                                                            exact hb y (by simpa using hy)
theorem zX5 {out a b : Array α} {na nb : Nat} (m : MHi R T out a b na nb) (h0 : 0 < nb) (h : nb ≤ b.size) (ha : ∀ x ∈ a.toList.take na, R x b[nb - 1]) : MHi R T (out.push b[nb - 1]) a b na (nb - 1) := by
  unfold MHi at m ⊢
  rw [zo5 h0 h] at m
  rw [Array.toList_push]
  exact MLo.takeA (A1 := [b[nb - 1]]) m fun x hx y hy => by obtain rfl : x = b[nb - 1] := by simpa using hx
                                                            exact ha y (by simpa using hy)
theorem zX6 {a:Array α}{k n:Nat}(h:k<=n):(a.toList.take n).reverse=(a.extract k n).reverse.toList++(a.toList.take k).reverse:=by
 obtain⟨d,rfl⟩:∃d,n=k+d:=⟨n-k,by omega⟩
 rw[Array.toList_reverse,zn3,<-List.reverse_append,<-List.take_add]
theorem hi_runA {out a b:Array α}{na nb k:Nat}(m:MHi R T out a b na nb)(hk:k<=na)(h:∀x∈(a.toList.take na).drop k,∀y∈b.toList.take nb,R y x):MHi R T (out++(a.extract k na).reverse) a b k nb:=by
 unfold MHi at m ⊢
 rw[zX6 hk] at m
 rw[Array.toList_append]
 refine m.takeB fun x hx y hy=>h x ?_ y (by simpa using hy)
 obtain⟨d,rfl⟩:∃d,na=k+d:=⟨na-k,by omega⟩
 rw[Array.toList_reverse,zn3] at hx
 rw[List.drop_take,Nat.add_sub_cancel_left]
 simpa using hx
theorem hi_runB {out a b:Array α}{na nb k:Nat}(m:MHi R T out a b na nb)(hk:k<=nb)(h:∀y∈(b.toList.take nb).drop k,∀x∈a.toList.take na,R x y):MHi R T (out++(b.extract k nb).reverse) a b na k:=by
 unfold MHi at m ⊢
 rw[zX6 hk] at m
 rw[Array.toList_append]
 refine m.takeA fun x hx y hy=>h x ?_ y (by simpa using hy)
 obtain⟨d,rfl⟩:∃d,nb=k+d:=⟨nb-k,by omega⟩
 rw[Array.toList_reverse,zn3] at hx
 rw[List.drop_take,Nat.add_sub_cancel_left]
 simpa using hx
theorem zI8 {L:List α}{R:α->α->Prop}{x y:α}{n:Nat}{a:Array α}(h0:0<n)(h:n<=a.size)(hs:(a.toList.take n).Pairwise R)(hx:x∈a.toList.take n):x=a[n-1]\/R x a[n-1]:=by
 have e:=zo5 h0 h
 have hs':((a.toList.take n).reverse).Pairwise fun p q=>R q p:=List.pairwise_reverse.mpr hs
 rw[e] at hs'
 have hx':x∈(a.toList.take n).reverse:=by simpa using hx
 rw[e] at hx'
 rcases List.mem_cons.mp hx' with q | q
 . exact .inl q
 . exact .inr ((List.pairwise_cons.mp hs').1 x q)
theorem MHi.sa {out a b:Array α}{na nb:Nat}(m:MHi R T out a b na nb):(a.toList.take na).Pairwise R:=List.pairwise_reverse.mp (MLo.sb m)
theorem MHi.sb {out a b:Array α}{na nb:Nat}(m:MHi R T out a b na nb):(b.toList.take nb).Pairwise R:=List.pairwise_reverse.mp (MLo.sa m)
theorem MHi.ma {out a b:Array α}{na nb:Nat}(m:MHi R T out a b na nb){x:α}(h:x∈a.toList.take na):x∈T:=MLo.memB m (by simpa using h)
theorem MHi.mb {out a b:Array α}{na nb:Nat}(m:MHi R T out a b na nb){x:α}(h:x∈b.toList.take nb):x∈T:=MLo.memA m (by simpa using h)
theorem MHi.dis {out a b:Array α}{na nb:Nat}(m:MHi R T out a b na nb)(d:T.Pairwise fun x y=>R x y\/R y x){x y:α}(hx:x∈a.toList.take na)(hy:y∈b.toList.take nb):R x y\/R y x :=
 MLo.dis m (d.imp fun z=>z.symm) (by simpa using hy) (by simpa using hx)
theorem zD0 {a:Array α}{n:Nat}(h0:0<n)(h:n<=a.size):a[n-1]∈a.toList.take n:=by
 have:a[n-1]∈(a.toList.take n).reverse:=by rw[zo5 h0 h];exact .head _
 simpa using this
end
section
variable {M:Model} {A:Around} {E:Value->Shared->Prop} {s:Shared} {κ:SortKind} {lt:Keyed->Keyed->Bool} {T:List Keyed}
theorem yd3 {left:Bool}{key:Keyed}{a:Array Keyed}{n hint:Nat}{st:SortSt}{Q:Option Nat->SortSt->Prop}(c:Cmp M A s κ lt T)(hk:kindOf st=κ)(hkey:key∈T)(hT:∀x∈a.toList.take n,x∈T)
   (hs:(a.toList.take n).Pairwise (LtR lt)) (hn:n<=a.size) (hh:hint<n)
   (h:∀k,k<=n->(∀x∈a.toList.take k,(if left=true then lt x key else !lt key x)=true)->(∀x∈(a.toList.take n).drop k,(if left=true then lt x key else !lt key x)=false)->Q (some k) st) :
   wpS M A E s (zC6 left key a 0 n hint) Q st:=by
 have e:(a.toList.take n).length=n:=by simp;omega
 have:=zU3 (E:=E) (left:=left) (key:=key) (arr:=a) (base:=0) (hint:=hint) (L:=a.toList.take n) (Q:=Q) c hk hkey hT (fun j hj=>by
   have hj':0+j<a.size:=by rw[e] at hj;omega
   rw[getElem?_pos a (0+j) hj']
   simp) hs (by rw[e];omega) fun k h0 h1 h2=>h k (by rw[e] at h0;exact h0) (fun x hx=>h1 x (by rw[List.take_take,Nat.min_eq_left (by rw[e] at h0;exact h0)];exact hx)) h2
 rw[e] at this
 exact this
theorem wp_mergeHi {a b:Array Keyed}{ar:Array Keyed}{pd:Array (Nat×Nat×Nat)}{g:Nat}{Q:Array Keyed->SortSt->Prop}(c:Cmp M A s κ lt T)(hT:(a.toList++b.toList).Perm T)
   (sa:a.toList.Pairwise (LtR lt)) (sb:b.toList.Pairwise (LtR lt)) (ha:0<a.size) (hb:0<b.size) (first:∀x∈a.toList,lt b[0] x=true) (last:∀y∈b.toList,lt y a[a.size-1]=true)
   (h:∀m g',Mer (LtR lt) T m.toList->Q m (SortSt.mk' κ ar pd g' none)):wpS M A E s (zX1 a b) Q (SortSt.mk' κ ar pd g none):=by
 unfold zX1
 refine wpS_bind (wpS_lift (wpAny_rule ⟨rfl,?_⟩))
 have ta:a.toList.take a.size=a.toList:=List.take_of_length_le (by simp)
 have tb:b.toList.take b.size=b.toList:=List.take_of_length_le (by simp)
 have m0:MHi (LtR lt) T #[] a b a.size b.size:=by
   unfold MHi
   rw[ta,tb]
   refine⟨.trans ?_ hT,by simp,List.pairwise_reverse.mpr sb,List.pairwise_reverse.mpr sa,by simp,fun z hz y hy=>?_⟩
   . exact((List.reverse_perm _).append (List.reverse_perm _)).trans List.perm_append_comm
   . have e:z=b[0]:=by
       rw[List.getLast?_reverse,List.head?_eq_getElem?] at hz
       have:b.toList[0]?=some b[0]:=by simp
       rw[this] at hz
       exact(Option.some.inj hz).symm
     subst e
     exact first y (by simpa using hy)
 refine wpS_bind (ze2 (show a.size-1<a.size by omega) ?_)
 have m1:=zK7 m0 ha (Nat.le_refl _) (by rw[tb];exact last)
 rw[show(#[]:Array Keyed).push a[a.size-1] = #[a[a.size-1]] from rfl] at m1
 dsimp only
 by_cases h1:a.size-1=0
 . rw[if_pos (zf0 h1)]
   exact wpS_pure (h _ _ (zC8 m1 (.inl h1)))
 rw[if_neg (ze7 h1)]
 by_cases h2:b.size=1
 . rw[if_pos (zf0 h2)]
   refine wpS_pure (h _ _ ?_)
   rw[h2] at m1 ⊢
   exact zC9 m1 hb
 rw[if_neg (ze7 h2)]
 refine wpS_bind (wpS_get ?_)
 have tot:∀ {out:Array Keyed} {na nb:Nat},MHi (LtR lt) T out a b na nb->0<na->na<=a.size->out.size<a.size+b.size:=fun {out na nb} m h0 h1=>by
   have e:=MLo.len m
   have e':=hT.length_eq
   simp at e e'
   omega
 refine wpS_bind (wpS_mono (wpS_forRange
   (I:=fun x v st'=>Ex5 fun out na nb mg g'=>Aa8 (v=(none,na,nb,out,mg)) (st'=SortSt.mk' κ ar pd g' none) (MHi (LtR lt) T out a b na nb) (0<na) (na<=a.size) (1<nb) (nb<=b.size) (x<=out.size))
   (Q:=fun v st'=>∃r g',v.1=some r/\Mer (LtR lt) T r.toList/\st'=SortSt.mk' κ ar pd g' none) ?step ?fin ⟨_,_,_,_,g,rfl,rfl,m1,by omega,by omega,by omega,by omega,by simp⟩) ?post)
 case post =>
   rintro⟨r0,v⟩ st' ⟨r,g',e,hm,rfl⟩
   obtain rfl:r0=some r:=e
   exact wpS_pure (h r g' hm)
 case fin =>
   rintro v st' ⟨out,na,nb,mg,g',rfl,rfl,m,h3,h4,h5,h6,hx⟩
   have:=tot m h3 h4
   omega
 case step =>
   rintro x v st' _ hx ⟨out,na,nb,mg,g',rfl,rfl,m,h3,h4,h5,h6,hxo⟩
   dsimp only
   refine wpS_bind (wpS_mono (wpS_forRange
     (I:=fun y v st'=>Ex5 fun o ja jb ac bc=>Aa8 (v=(none,ja,jb,o,ac,bc)) (st'=SortSt.mk' κ ar pd g' none) (MHi (LtR lt) T o a b ja jb) (0<ja) (ja<=a.size) (1<jb) (jb<=b.size) (out.size+y<=o.size))
     (Q:=fun v st'=>st'=SortSt.mk' κ ar pd g' none/\((∃r,v.1=some r/\Mer (LtR lt) T r.toList)\/∃o ja jb ac bc,v=(none,ja,jb,o,ac,bc)/\MHi (LtR lt) T o a b ja jb/\0<ja/\ja<=a.size/\1<jb/\jb<=b.size/\out.size+1<=o.size))
     ?step1 ?fin1 ⟨out,na,nb,_,_,rfl,rfl,m,h3,h4,h5,h6,by omega⟩) ?post1)
   case fin1 =>
     rintro v st' ⟨o,ja,jb,ac,bc,rfl,rfl,m,h3,h4,h5,h6,h7⟩
     exact⟨rfl,.inr ⟨o,ja,jb,ac,bc,rfl,m,h3,h4,h5,h6,by omega⟩⟩
   case step1 =>
     clear m h3 h4 h5 h6
     rintro y v st' _ hy ⟨o,ja,jb,ac,bc,rfl,rfl,m,h3,h4,h5,h6,h7⟩
     dsimp only
     have ma:=zD0 h3 h4
     have mb:=zD0 (show 0<jb by omega) h6
     refine wpS_bind (ze2 (show jb-1<b.size by omega) (wpS_bind (ze2 (show ja-1<a.size by omega) ?_)))
     refine wpS_bind (zX4 c (MHi.mb m mb) (MHi.ma m ma) rfl ?_)
     cases e:lt b[jb-1] a[ja-1] with
     | true =>
       dsimp only
       rw[if_pos rfl]
       refine wpS_bind (ze2 (show ja-1<a.size by omega) ?_)
       have m':=zK7 m h3 h4 fun x hx=>by
         rcases zI8 (L:=[]) (x:=x) (y:=x) (by omega) h6 (MHi.sb m) hx with rfl | q
         . exact e
         . exact c.tr _ _ _ q e
       try dsimp only
       by_cases h8:ja-1=0
       . rw[if_pos (zf0 h8)]
         exact wpS_pure ⟨rfl,.inl ⟨_,rfl,zC8 m' (.inl h8)⟩⟩
       rw[if_neg (ze7 h8)]
       split
       . exact wpS_pure ⟨rfl,.inr ⟨_,_,_,_,_,rfl,m',by omega,by omega,h5,h6,by simp;omega⟩⟩
       . exact wpS_pure ⟨_,_,_,_,_,rfl,rfl,m',by omega,by omega,h5,h6,by simp;omega⟩
     | false =>
       dsimp only
       rw[if_neg (by decide)]
       refine wpS_bind (ze2 (show jb-1<b.size by omega) ?_)
       have e':lt a[ja-1] b[jb-1]=true:=(MHi.dis m c.di ma mb).resolve_right (by show ¬ lt _ _=true;rw[e];decide)
       have m':=zX5 m (by omega) h6 fun x hx=>by
         rcases zI8 (L:=[]) (x:=x) (y:=x) h3 h4 (MHi.sa m) hx with rfl | q
         . exact e'
         . exact c.tr _ _ _ q e'
       try dsimp only
       by_cases h8:jb-1=1
       . rw[if_pos (zf0 h8)]
         refine wpS_pure ⟨rfl,.inl ⟨_,rfl,?_⟩⟩
         generalize o.push b[jb-1]=o1 at m' ⊢
         rw[h8] at m' ⊢
         exact zC9 m' hb
       rw[if_neg (ze7 h8)]
       split
       . exact wpS_pure ⟨rfl,.inr ⟨_,_,_,_,_,rfl,m',h3,h4,by omega,by omega,by simp;omega⟩⟩
       . exact wpS_pure ⟨_,_,_,_,_,rfl,rfl,m',h3,h4,by omega,by omega,by simp;omega⟩
   case post1 =>
     clear m h3 h4 h5 h6
     rintro⟨r0,v⟩ st' ⟨rfl,⟨r,e,hm⟩ | ⟨o,ja,jb,ac,bc,e,m,h3,h4,h5,h6,h7⟩⟩
     . obtain rfl:r0=some r:=e
       exact wpS_pure ⟨r,g',rfl,hm,rfl⟩
     obtain⟨rfl,rfl⟩:=Prod.mk.inj e
     dsimp only
     refine wpS_bind (wpS_lift (wpAny_rule ⟨rfl,?_⟩))
     refine wpS_bind (wpS_mono (wpS_forRange
       (I:=fun y v st'=>Ex7 fun o ja jb mg ac bc g'=>Aa8 (v=(none,ja,jb,o,mg,ac,bc)) (st'=SortSt.mk' κ ar pd g' none) (MHi (LtR lt) T o a b ja jb) (0<ja) (ja<=a.size) (1<jb) (jb<=b.size) (out.size+1<=o.size))
       (Q:=fun v st'=>∃g',st'=SortSt.mk' κ ar pd g' none/\((∃r,v.1=some r/\Mer (LtR lt) T r.toList)\/∃o ja jb mg ac bc,v=(none,ja,jb,o,mg,ac,bc)/\MHi (LtR lt) T o a b ja jb/\0<ja/\ja<=a.size/\1<jb/\jb<=b.size/\out.size+1<=o.size))
       ?step2 ?fin2 ⟨o,ja,jb,_,_,_,g',rfl,rfl,m,h3,h4,h5,h6,h7⟩) ?post2)
     case fin2 =>
       rintro v st' ⟨o,ja,jb,mg,ac,bc,g',rfl,rfl,m,h3,h4,h5,h6,h7⟩
       exact⟨g',rfl,.inr ⟨o,ja,jb,mg,ac,bc,rfl,m,h3,h4,h5,h6,h7⟩⟩
     case post2 =>
       clear m h3 h4 h5 h6 h7
       rintro⟨r0,v⟩ st' ⟨g',rfl,⟨r,e,hm⟩ | ⟨o,ja,jb,mg,ac,bc,e,m,h3,h4,h5,h6,h7⟩⟩
       . obtain rfl:r0=some r:=e
         exact wpS_pure ⟨r,g',rfl,hm,rfl⟩
       obtain⟨rfl,rfl⟩:=Prod.mk.inj e
       dsimp only
       exact wpS_bind (zI7 (wpS_pure ⟨o,ja,jb,_,_,rfl,rfl,m,h3,h4,h5,h6,by omega⟩))
     case step2 =>
       clear m h3 h4 h5 h6 h7 hxo
       rintro y v st' _ hy ⟨o,ja,jb,mg,ac,bc,g',rfl,rfl,m,h3,h4,h5,h6,h7⟩
       dsimp only
       have key:∀mg',wpS M A E s (yd0 mg') (fun _ st'=>st'=SortSt.mk' κ ar pd mg' none) (SortSt.mk' κ ar pd g' none):=fun mg'=>zI7 rfl
       refine yd2 (R:=?R0) (fun fin0=>?main0) ?fin0
       case main0 =>
         by_cases hmg:mg>1
         . rw[if_pos hmg]
           generalize mg-1=mg'
           exact fin0 mg'
         . rw[if_neg hmg]
           exact fin0 mg
       case fin0 =>
         intro mg'
         refine wpS_bind (wpS_mono (key _) fun _ st' e=>?_)
         subst e
         have mb:=zD0 (show 0<jb by omega) h6
         refine wpS_bind (ze2 (show jb-1<b.size by omega) ?_)
         refine wpS_bind (yd3 c rfl (MHi.mb m mb) (fun x hx=>MHi.ma m hx) (MHi.sa m) h4 (show ja-1<ja by omega) fun k hk k1 k2=>?_)
         dsimp only
         refine zU4 (R:=?R1) (S:=fun o' ja'=>Ex1 (MHi (LtR lt) T o' a b ja' jb) (out.size+1<=o'.size) (∀x∈a.toList.take ja',lt x b[jb-1]=true) (0<ja') (ja'<=a.size)) (fun fin1=>?main1) ?fin1
         case main1 =>
           have k2':∀x∈(a.toList.take ja).drop k,∀y∈b.toList.take jb,lt y x=true:=fun x hx y hy=>by
             have q:=k2 x hx
             rw[if_neg (by decide)] at q
             have e:lt b[jb-1] x=true:=by simpa using q
             rcases zI8 (L:=[]) (x:=y) (y:=y) (show 0<jb by omega) h6 (MHi.sb m) hy with rfl | q
             . exact e
             . exact c.tr _ _ _ q e
           have m2:=hi_runA m hk k2'
           have o2:out.size+1<=(o++(a.extract k ja).reverse).size:=by simp;omega
           have k1':∀x∈a.toList.take k,lt x b[jb-1]=true:=fun x hx=>by
             have q:=k1 x hx
             rw[if_neg (by decide)] at q
             have hx':x∈a.toList.take ja:=by
               rw[<-Nat.min_eq_left hk,<-List.take_take] at hx
               exact List.mem_of_mem_take hx
             exact(MHi.dis m c.di hx' mb).resolve_right (by show ¬ lt _ _=true;simpa using q)
           by_cases hk':ja-k>0
           . rw[if_pos hk']
             by_cases h8:k=0
             . rw[if_pos (zf0 h8)]
               exact wpS_pure ⟨_,rfl,.inl ⟨_,rfl,zC8 m2 (.inl h8)⟩⟩
             rw[if_neg (ze7 h8)]
             have h4':k<=a.size:=Nat.le_trans hk h4
             have h3':0<k:=Nat.pos_of_ne_zero h8
             clear hk' k2' h8
             generalize o++(a.extract k ja).reverse=o' at m2 o2 ⊢
             generalize k=ja' at m2 k1' h3' h4' ⊢
             exact fin1 o' ja' ⟨m2,o2,k1',h3',h4'⟩
           . rw[if_neg hk']
             have ek:k=ja:=by omega
             rw[ek] at k1' ⊢
             exact fin1 o ja ⟨m,h7,k1',h3,h4⟩
         case fin1 =>
           clear hk k1 k2 mb h3 h4 h7 m
           rintro o' ja' ⟨m2,o2,k1',h3',h4'⟩
           refine wpS_bind (ze2 (show jb-1<b.size by omega) ?_)
           have m3:=zX5 m2 (by omega) h6 k1'
           try dsimp only
           by_cases h9:jb-1=1
           . rw[if_pos (zf0 h9)]
             refine wpS_pure ⟨_,rfl,.inl ⟨_,rfl,?_⟩⟩
             generalize o'.push b[jb-1]=o1 at m3 ⊢
             rw[h9] at m3 ⊢
             exact zC9 m3 hb
           rw[if_neg (ze7 h9)]
           have o3:out.size+1<=(o'.push b[jb-1]).size:=by simp;omega
           have h10:1<jb-1:=by omega
           have h11:jb-1<=b.size:=by omega
           clear m2 o2 k1' h9
           generalize o'.push b[jb-1]=o1 at m3 o3 ⊢
           generalize jb-1=jb' at m3 h10 h11 ⊢
           have ma:=zD0 h3' h4'
           refine wpS_bind (ze2 (show ja'-1<a.size by omega) ?_)
           refine wpS_bind (yd3 c rfl (MHi.ma m3 ma) (fun x hx=>MHi.mb m3 hx) (MHi.sb m3) h11 (show jb'-1<jb' by omega) fun n hn n1 n2=>?_)
           dsimp only
           refine zU4 (R:=?R2) (S:=fun o2 jb2=>Ex1 (MHi (LtR lt) T o2 a b ja' jb2) (out.size+1<=o2.size) (∀y∈b.toList.take jb2,lt y a[ja'-1]=true) (1<jb2) (jb2<=b.size)) (fun fin2=>?main2) ?fin2'
           case main2 =>
             have n2':∀y∈(b.toList.take jb').drop n,∀x∈a.toList.take ja',lt x y=true:=fun y hy x hx=>by
               have q:=n2 y hy
               rw[if_pos rfl] at q
               have e:lt a[ja'-1] y=true:=(MHi.dis m3 c.di ma (List.mem_of_mem_drop hy)).resolve_right (by show ¬ lt _ _=true;rw[q];decide)
               rcases zI8 (L:=[]) (x:=x) (y:=x) h3' h4' (MHi.sa m3) hx with rfl | q
               . exact e
               . exact c.tr _ _ _ q e
             have m4:=hi_runB m3 hn n2'
             have o4:out.size+1<=(o1++(b.extract n jb').reverse).size:=by simp;omega
             have n1':∀y∈b.toList.take n,lt y a[ja'-1]=true:=fun y hy=>by
               have q:=n1 y hy
               rw[if_pos rfl] at q
               exact q
             by_cases hn':jb'-n>0
             . rw[if_pos hn']
               by_cases h12:n=1
               . rw[if_pos (zf0 h12)]
                 refine wpS_pure ⟨_,rfl,.inl ⟨_,rfl,?_⟩⟩
                 generalize o1++(b.extract n jb').reverse=o2 at m4 ⊢
                 rw[h12] at m4 ⊢
                 exact zC9 m4 hb
               rw[if_neg (ze7 h12)]
               by_cases h13:n=0
               . rw[if_pos (zf0 h13)]
                 exact wpS_pure ⟨_,rfl,.inl ⟨_,rfl,zC8 m4 (.inr h13)⟩⟩
               rw[if_neg (ze7 h13)]
               have h14:1<n:=by omega
               have h15:n<=b.size:=Nat.le_trans hn h11
               clear hn' n2' h12 h13
               generalize o1++(b.extract n jb').reverse=o2 at m4 o4 ⊢
               generalize n=jb2 at m4 n1' h14 h15 ⊢
               exact fin2 o2 jb2 ⟨m4,o4,n1',h14,h15⟩
             . rw[if_neg hn']
               have en:n=jb':=by omega
               rw[en] at n1' ⊢
               exact fin2 o1 jb' ⟨m3,o3,n1',h10,h11⟩
           case fin2' =>
             clear hn n1 n2 ma h10 h11 o3 m3
             rintro o2 jb2 ⟨m4,o4,n1',h14,h15⟩
             refine wpS_bind (ze2 (show ja'-1<a.size by omega) ?_)
             have m5:=zK7 m4 h3' h4' n1'
             try dsimp only
             by_cases h16:ja'-1=0
             . rw[if_pos (zf0 h16)]
               exact wpS_pure ⟨_,rfl,.inl ⟨_,rfl,zC8 m5 (.inl h16)⟩⟩
             rw[if_neg (ze7 h16)]
             split
             . exact wpS_pure ⟨_,rfl,.inr ⟨_,_,_,_,_,_,rfl,m5,by omega,by omega,h14,h15,by simp;omega⟩⟩
             . exact wpS_pure ⟨_,_,_,_,_,_,_,rfl,rfl,m5,by omega,by omega,h14,h15,by simp;omega⟩
end
section
variable {α:Type}
theorem zX7 (base:Nat):∀(m:List α) (k:Nat) (ar:Array α),base+k+m.length<=ar.size →
   ((m.zipIdx k).foldl (fun a x=>match x with | (p,j)=>a.setIfInBounds (base+j) p) ar).toList=ar.toList.take (base+k)++(m++ar.toList.drop (base+k+m.length))
 | [],k,ar,_=>by simp
 | x::m,k,ar,h=>by
   simp only[List.length_cons] at h
   rw[List.zipIdx_cons,List.foldl_cons,zX7 base m (k+1) _ (by simp;omega)]
   have h':base+k<ar.toList.length:=by simp;omega
   rw[Array.toList_setIfInBounds]
   have e1:(ar.toList.set (base+k) x).take (base+(k+1))=ar.toList.take (base+k)++[x]:=by
     rw[show base+(k+1)=base+k+1 by omega,List.take_succ_eq_append_getElem (by simpa using h'),List.take_set_of_le (Nat.le_refl _)]
     simp
   have e2:(ar.toList.set (base+k) x).drop (base+(k+1)+m.length)=ar.toList.drop (base+k+(x::m).length):=by
     rw[List.drop_set_of_lt (by omega)]
     congr 1
     simp;omega
   rw[e1,e2]
   simp
end
theorem last_get {α:Type}{X:Array α}{la:α}(h:0<X.size)(z:X.toList.getLast?=some la):X[X.size-1]=la:=by
 obtain⟨L⟩:=X
 have h':0<L.length:=by simpa using h
 simp only[List.getLast?_eq_getElem?] at z
 rw[List.getElem?_eq_getElem (by omega)] at z
 simpa using z
noncomputable def Rn (lt:Keyed->Keyed->Bool):Nat->List (Nat×Nat×Nat)->List (List Keyed)->Prop
 | _,[],[]=>True
 | f,(s,n,_)::pd,l::ls=>s=f/\n=l.length/\l≠[]/\l.Pairwise (LtR lt)/\Rn lt (f+l.length) pd ls
 | _,_,_=>False
section
variable {lt:Keyed->Keyed->Bool}
theorem Rn.len:∀ {f:Nat} {pd:List (Nat×Nat×Nat)} {ls:List (List Keyed)},Rn lt f pd ls->pd.length=ls.length/\ls.length<=ls.flatten.length
 | _,[],[],_=>⟨rfl,Nat.le_refl _⟩
 | _,[],_::_,h=>h.elim
 | _,_::_,[],h=>h.elim
 | f,(s,n,_)::pd,l::ls,h=>by
   obtain⟨_,_,h3,_,h5⟩:=h
   have:=h5.len
   have:0<l.length:=List.length_pos_iff.mpr h3
   simp only[List.length_cons,List.flatten_cons,List.length_append]
   omega
theorem Rn.split:∀ {f:Nat} (pre:List (Nat×Nat×Nat)) {pd:List (Nat×Nat×Nat)} {ls:List (List Keyed)},Rn lt f (pre++pd) ls->∃lp lq,ls=lp++lq/\lp.length=pre.length/\Rn lt f pre lp/\Rn lt (f+lp.flatten.length) pd lq
 | f,[],pd,ls,h=>⟨[],ls,rfl,rfl,trivial,by simpa using h⟩
 | f,_::_,pd,[],h=>h.elim
 | f,(s,n,w)::pre,pd,l::ls,h=>by
   obtain⟨h1,h2,h3,h4,h5⟩:=h
   obtain⟨lp,lq,e,el,r1,r2⟩:=Rn.split pre h5
   refine⟨l::lp,lq,by rw[e];rfl,by simp[el],⟨h1,h2,h3,h4,r1⟩,?_⟩
   simpa [Nat.add_assoc] using r2
theorem Rn.join:∀ {f:Nat} {pre pd:List (Nat×Nat×Nat)} {lp lq:List (List Keyed)},Rn lt f pre lp->Rn lt (f+lp.flatten.length) pd lq->Rn lt f (pre++pd) (lp++lq)
 | f,[],pd,[],lq,_,h=>by simpa using h
 | f,[],pd,_::_,lq,h,_=>h.elim
 | f,_::_,pd,[],lq,h,_=>h.elim
 | f,(s,n,w)::pre,pd,l::lp,lq,h,h'=>by
   obtain⟨h1,h2,h3,h4,h5⟩:=h
   refine⟨h1,h2,h3,h4,Rn.join h5 ?_⟩
   simpa [Nat.add_assoc] using h'
end
section
variable {M:Model} {A:Around} {E:Value->Shared->Prop} {s:Shared} {κ:SortKind} {lt:Keyed->Keyed->Bool} {T:List Keyed}
theorem zO7 {P Aa Bb S:List Keyed}(c:Cmp M A s κ lt (P++(Aa++(Bb++S)))){x y:Keyed}(hx:x∈Aa)(hy:y∈Bb):lt x y=true\/lt y x=true :=
 (List.pairwise_append.mp (List.pairwise_append.mp c.di).2.1).2.2 x hx y (List.mem_append_left _ hy)
theorem yd4 {lt:Keyed->Keyed->Bool}{B:List Keyed}{b y:Keyed}(hs:B.Pairwise (LtR lt))(hb:B[0]?=some b)(hy:y∈B):y=b\/lt b y=true:=by
 cases B with
 | nil=>cases hy
 | cons z B =>
   obtain rfl:z=b:=by simpa using hb
   rcases List.mem_cons.mp hy with q | q
   . exact .inl q
   . exact .inr ((List.pairwise_cons.mp hs).1 y q)
theorem le_last {lt:Keyed->Keyed->Bool}{B:List Keyed}{b y:Keyed}(hs:B.Pairwise (LtR lt))(hb:B.getLast?=some b)(hy:y∈B):y=b\/lt y b=true:=by
 have hs':B.reverse.Pairwise (LtR fun p q=>lt q p):=List.pairwise_reverse.mpr hs
 exact yd4 (lt:=fun p q=>lt q p) hs' (by rw[<-List.head?_eq_getElem?,List.head?_reverse];exact hb) (by simpa using hy)
theorem wp_mergeAt {ar:Array Keyed}{pd:Array (Nat×Nat×Nat)}{g i:Nat}{pre post:List (Nat×Nat×Nat)}{pw pw2:Nat}{P Aa Bb S:List Keyed}{Q:Bool->SortSt->Prop}
   (c:Cmp M A s κ lt (P++(Aa++(Bb++S)))) (hL:ar.toList=P++(Aa++(Bb++S))) (hp:pd.toList=pre++(P.length,Aa.length,pw)::(P.length+Aa.length,Bb.length,pw2)::post) (hi:i=pre.length)
   (hA:Aa≠[]) (hB:Bb≠[]) (sA:Aa.Pairwise (LtR lt)) (sB:Bb.Pairwise (LtR lt))
   (h:∀ar' pd' g' C,pd'.toList=pre++(P.length,Aa.length+Bb.length,pw)::post->ar'.toList=P++(C++S)->C.Perm (Aa++Bb)->C.Pairwise (LtR lt)->Q true (SortSt.mk' κ ar' pd' g' none)) :
   wpS M A E s (mergeAt' i) Q (SortSt.mk' κ ar pd g none):=by
 have nA:0<Aa.length:=List.length_pos_iff.mpr hA
 have nB:0<Bb.length:=List.length_pos_iff.mpr hB
 have sz:ar.size=P.length+(Aa.length+(Bb.length+S.length)):=by
   have:=congrArg List.length hL
   simpa using this
 have p0:pd[i]?=some (P.length,Aa.length,pw):=by
   rw[<-Array.getElem?_toList,hp,hi]
   simp
 have p1:pd[i+1]?=some (P.length+Aa.length,Bb.length,pw2):=by
   rw[<-Array.getElem?_toList,hp,hi]
   simp
 have np:((pd.setIfInBounds i (P.length,Aa.length+Bb.length,pw)).eraseIdxIfInBounds (i+1)).toList=pre++(P.length,Aa.length+Bb.length,pw)::post:=by
   rw[Array.toList_eraseIdxIfInBounds,Array.toList_setIfInBounds,hp,hi,List.set_append_right _ _ (by omega)]
   rw[Nat.sub_self,List.set_cons_zero,List.eraseIdx_append_of_length_le (by omega)]
   simp
 unfold mergeAt'
 refine wpS_bind (wpS_get ?_)
 dsimp only
 rw[p0,p1]
 dsimp only
 refine wpS_bind (m:=set _) (wpS_modify (f:=fun _=>_) ?_)
 have hAi:∀j (hj:j<Aa.length),ar[P.length+j]?=some Aa[j]:=fun j hj=>by
   rw[<-Array.getElem?_toList,hL,List.getElem?_append_right (by omega),Nat.add_sub_cancel_left,List.getElem?_append_left hj,List.getElem?_eq_getElem hj]
 have hBi:∀j (hj:j<Bb.length),ar[P.length+Aa.length+j]?=some Bb[j]:=fun j hj=>by
   rw[<-Array.getElem?_toList,hL,List.getElem?_append_right (by omega),show P.length+Aa.length+j-P.length=Aa.length+j by omega,List.getElem?_append_right (by omega),Nat.add_sub_cancel_left,List.getElem?_append_left hj,List.getElem?_eq_getElem hj]
 obtain⟨b0,hb0⟩:∃b0,Bb[0]?=some b0:=⟨_,List.getElem?_eq_getElem nB⟩
 obtain⟨la,hla⟩:∃la,Aa.getLast?=some la:=⟨_,List.getLast?_eq_getLast hA⟩
 have mB:b0∈Bb:=List.mem_of_getElem? hb0
 have mA:la∈Aa:=List.mem_of_getLast? hla
 have inA:∀x∈Aa,x∈P++(Aa++(Bb++S)):=fun x hx=>by simp[hx]
 have inB:∀x∈Bb,x∈P++(Aa++(Bb++S)):=fun x hx=>by simp[hx]
 have eb:ar[P.length+Aa.length]'(by omega)=b0:=by
   have z:=hBi 0 nB
   rw[Nat.add_zero,getElem?_pos ar _ (by omega)] at z
   rw[List.getElem?_eq_getElem nB] at hb0
   exact(Option.some.inj z).trans (Option.some.inj hb0)
 refine wpS_bind (ze2 (show P.length+Aa.length<ar.size by omega) ?_)
 rw[eb]
 refine wpS_bind (zU3 c rfl (inB _ mB) inA hAi sA nA fun k hk k1 k2=>?_)
 have k1':∀x∈Aa.take k,∀y∈Bb,lt x y=true:=fun x hx y hy=>by
   have q:=k1 x hx
   rw[if_neg (by decide)] at q
   have e:lt x b0=true:=(zO7 c (List.mem_of_mem_take hx) mB).resolve_right (by simpa using q)
   rcases yd4 sB hb0 hy with rfl | z
   . exact e
   . exact c.tr _ _ _ e z
 have k2':∀x∈Aa.drop k,lt b0 x=true:=fun x hx=>by
   have q:=k2 x hx
   rw[if_neg (by decide)] at q
   simpa using q
 have whole:(∀x∈Aa,∀y∈Bb,lt x y=true)->Q true (SortSt.mk' κ ar ((pd.setIfInBounds i (P.length,Aa.length+Bb.length,pw)).eraseIdxIfInBounds (i+1)) g none):=fun z =>
   h _ _ _ (Aa++Bb) np (by rw[hL];simp) (.refl _) (List.pairwise_append.mpr ⟨sA,sB,z⟩)
 dsimp only
 by_cases h1:Aa.length-k=0
 . rw[if_pos (zf0 h1)]
   refine wpS_pure (whole fun x hx y hy=>k1' x ?_ y hy)
   rw[List.take_of_length_le (by omega)]
   exact hx
 rw[if_neg (ze7 h1)]
 have el:ar[P.length+k+(Aa.length-k)-1]'(by omega)=la:=by
   have z:=hAi (Aa.length-1) (by omega)
   have z':ar[P.length+k+(Aa.length-k)-1]?=some Aa[Aa.length-1]:=by rw[<-z];congr 1;omega
   rw[getElem?_pos ar _ (by omega)] at z'
   rw[List.getLast?_eq_getElem?,List.getElem?_eq_getElem (by omega)] at hla
   exact(Option.some.inj z').trans (Option.some.inj hla)
 refine wpS_bind (ze2 (show P.length+k+(Aa.length-k)-1<ar.size by omega) ?_)
 rw[el]
 refine wpS_bind (zU3 c rfl (inA _ mA) inB hBi sB (show Bb.length-1<Bb.length by omega) fun n hn n1 n2=>?_)
 have n1':∀y∈Bb.take n,lt y la=true:=fun y hy=>by
   have q:=n1 y hy
   rw[if_pos rfl] at q
   exact q
 have n2':∀y∈Bb.drop n,∀x∈Aa,lt x y=true:=fun y hy x hx=>by
   have q:=n2 y hy
   rw[if_pos rfl] at q
   have e:lt la y=true:=(zO7 c mA (List.mem_of_mem_drop hy)).resolve_right (by rw[q];decide)
   rcases le_last sA hla hx with rfl | z
   . exact e
   . exact c.tr _ _ _ z e
 dsimp only
 by_cases h2:n=0
 . rw[if_pos (zf0 h2)]
   refine wpS_pure (whole fun x hx y hy=>n2' y ?_ x hx)
   rw[h2]
   exact hy
 rw[if_neg (ze7 h2)]
 have ex:(ar.extract (P.length+k) (P.length+Aa.length)).toList=Aa.drop k:=by
   rw[show P.length+Aa.length=P.length+k+(Aa.length-k) by omega,zn3,hL,List.drop_append]
   rw[List.drop_eq_nil_of_le (by omega),Nat.add_sub_cancel_left,List.nil_append,List.drop_append_of_le_length hk,List.take_append_of_le_length (by simp)]
   exact List.take_of_length_le (by simp)
 have ey:(ar.extract (P.length+Aa.length) (P.length+Aa.length+n)).toList=Bb.take n:=by
   rw[zn3,hL,<-List.append_assoc,List.drop_append,List.drop_eq_nil_of_le (by simp)]
   rw[show P.length+Aa.length-(P++Aa).length=0 by simp,List.nil_append,List.drop_zero,List.take_append_of_le_length hn]
 have c':Cmp M A s κ lt (Aa.drop k++Bb.take n):=c.sub (by
   refine .trans ?_ (List.sublist_append_right P _)
   exact(List.drop_sublist k Aa).append ((List.take_sublist n Bb).trans (List.sublist_append_left Bb S)))
 have after:∀(m:Array Keyed) g',Mer (LtR lt) (Aa.drop k++Bb.take n) m.toList →
     Q true (SortSt.mk' κ (m.toList.zipIdx.foldl (fun a x=>match x with | (p,j)=>a.setIfInBounds (P.length+k+j) p) ar) ((pd.setIfInBounds i (P.length,Aa.length+Bb.length,pw)).eraseIdxIfInBounds (i+1)) g' none):=fun m g' hm=>by
   have ml:m.toList.length=Aa.length-k+n:=by
     have z:=hm.1.length_eq
     rw[List.length_append,List.length_drop,List.length_take,Nat.min_eq_left hn] at z
     exact z
   refine h _ _ _ (Aa.take k++(m.toList++Bb.drop n)) np ?_ ?_ ?_
   . rw[zX7 _ _ 0 _ (by rw[ml];omega),ml,hL]
     rw[Nat.add_zero,List.take_append,List.take_of_length_le (by omega),Nat.add_sub_cancel_left,List.take_append_of_le_length hk]
     have e2:(P++(Aa++(Bb++S))).drop (P.length+k+(Aa.length-k+n))=Bb.drop n++S:=by
       rw[show P.length+k+(Aa.length-k+n)=(P++Aa).length+n by simp;omega,<-List.append_assoc,List.drop_append,List.drop_eq_nil_of_le (by omega),Nat.add_sub_cancel_left,List.nil_append,List.drop_append_of_le_length hn]
     rw[e2]
     simp
   . refine .trans (List.Perm.append_left _ (hm.1.append_right _)) ?_
     rw[List.append_assoc,List.take_append_drop,<-List.append_assoc,List.take_append_drop]
   . refine List.pairwise_append.mpr ⟨sA.sublist (List.take_sublist _ _),List.pairwise_append.mpr ⟨hm.2,sB.sublist (List.drop_sublist _ _),fun x hx y hy=>?_⟩,fun x hx y hy=>?_⟩
     . rcases List.mem_append.mp (hm.1.mem_iff.mp hx) with q | q
       . exact n2' y hy x (List.mem_of_mem_drop q)
       . have z:=sB
         rw[<-List.take_append_drop n Bb] at z
         exact(List.pairwise_append.mp z).2.2 x q y hy
     . rcases List.mem_append.mp hy with q | q
       . rcases List.mem_append.mp (hm.1.mem_iff.mp q) with q | q
         . have z:=sA
           rw[<-List.take_append_drop k Aa] at z
           exact(List.pairwise_append.mp z).2.2 x hx y q
         . exact k1' x hx y (List.mem_of_mem_take q)
       . exact k1' x hx y (List.mem_of_mem_drop q)
 have zx:0<(ar.extract (P.length+k) (P.length+Aa.length)).size:=by
   rw[<-Array.length_toList,ex,List.length_drop];omega
 have zy:0<(ar.extract (P.length+Aa.length) (P.length+Aa.length+n)).size:=by
   rw[<-Array.length_toList,ey,List.length_take];omega
 have fy:(ar.extract (P.length+Aa.length) (P.length+Aa.length+n))[0]=b0:=by
   have z:(ar.extract (P.length+Aa.length) (P.length+Aa.length+n))[0]?=some b0:=by
     rw[<-Array.getElem?_toList,ey,List.getElem?_take_of_lt (by omega)]
     exact hb0
   rw[getElem?_pos _ 0 zy] at z
   exact Option.some.inj z
 have lx:(Aa.drop k).getLast?=some la:=by
   have z:=hla
   rw[<-List.take_append_drop k Aa,List.getLast?_append] at z
   cases e:(Aa.drop k).getLast? with
   | some w=>rw[e] at z;exact z
   | none =>
     have:=congrArg List.length (List.getLast?_eq_none_iff.mp e)
     simp at this
     omega
 by_cases h3:Aa.length-k<=n
 . rw[if_pos h3]
   refine wpS_bind (wp_mergeLo c' (by rw[ex,ey]) (by rw[ex];exact sA.sublist (List.drop_sublist _ _)) (by rw[ey];exact sB.sublist (List.take_sublist _ _)) zx zy (by rw[ex,fy];exact k2') (by
     rw[ex,ey]
     intro z hz y hy
     rw[lx] at hz
     obtain rfl:=Option.some.inj hz
     exact n1' y hy) fun m g' hm=>?_)
   refine wpS_bind (wpS_modify (wpS_bind (wpS_get (wpS_pure ?_))))
   exact after m g' hm
 . rw[if_neg h3]
   refine wpS_bind (wp_mergeHi c' (by rw[ex,ey]) (by rw[ex];exact sA.sublist (List.drop_sublist _ _)) (by rw[ey];exact sB.sublist (List.take_sublist _ _)) zx zy (by rw[ex,fy];exact k2') (by
     rw[ey]
     intro y hy
     have z:(ar.extract (P.length+k) (P.length+Aa.length)).toList.getLast?=some la:=by rw[ex];exact lx
     have e:=last_get zx z
     rw[e]
     exact n1' y hy) fun m g' hm=>?_)
   refine wpS_bind (wpS_modify (wpS_bind (wpS_get (wpS_pure ?_))))
   exact after m g' hm
end
noncomputable def at' (ar:Array Keyed)(i:Nat):Keyed:=ar.getD i (Value.none,Value.none)
noncomputable def Up (lt:Keyed->Keyed->Bool)(ar:Array Keyed)(lo n:Nat):Prop:=∀i j,i<j->j<n->lt (at' ar (lo+i)) (at' ar (lo+j))=true
theorem at'_of {ar:Array Keyed}{i:Nat}{x:Keyed}(h:ar[i]?=some x):at' ar i=x:=by
 unfold at'
 rw[Array.getD_eq_getD_getElem?,h]
 rfl
theorem zu9 {ar:Array Keyed}{i:Nat}(h:i<ar.size):ar[i]=at' ar i:=(at'_of (getElem?_pos ar i h)).symm
theorem zr8 {ar br:Array Keyed}{i j:Nat}(h:ar[i]?=br[j]?):at' ar i=at' br j:=by
 unfold at'
 rw[Array.getD_eq_getD_getElem?,Array.getD_eq_getD_getElem?,h]
theorem zK8 {ar:Array Keyed}{i j:Nat}(hj:j<=ar.size)(k:Nat):at' (mirror ar i j ((j-i) / 2)) k=if i<=k/\k<j then at' ar (i+j-1-k) else at' ar k:=by
 have e:=getElem?_mirror_all (i:=i) hj k
 split
 . rename_i h;rw[if_pos h] at e;exact zr8 e
 . rename_i h;rw[if_neg h] at e;exact zr8 e
theorem zK9 {ar:Array Keyed}{src d:Nat}(hs:src<ar.size)(hd:d<=src)(k:Nat) :
   at' (bubble ar src d) k=if k=src-d then at' ar src else if src-d<k/\k<=src then at' ar (k-1) else at' ar k:=by
 have e:=getElem?_bubble hs d hd k
 split
 . rename_i h;rw[if_pos h] at e;exact zr8 e
 . rename_i h
   rw[if_neg h] at e
   split
   . rename_i h';rw[if_pos h'] at e;exact zr8 e
   . rename_i h';rw[if_neg h'] at e;exact zr8 e
noncomputable def zH6 (lo:Nat)(ar br:Array Keyed):Prop:=∀i,i<lo->br[i]?=ar[i]?
section
variable {M:Model} {A:Around} {E:Value->Shared->Prop} {s:Shared} {κ:SortKind} {lt:Keyed->Keyed->Bool} {T:List Keyed} {ar:Array Keyed} {pd:Array (Nat×Nat×Nat)} {g:Nat}
theorem in_T (hT:ar.toList.Perm T){i:Nat}(h:i<ar.size):at' ar i∈T:=by
 rw[<-zu9 h]
 exact hT.mem_iff.mp (by simp)
theorem zy6 {i j:Nat}{Q:Option Bool->SortSt->Prop}(c:Cmp M A s κ lt T)(hT:ar.toList.Perm T)(hi:i<ar.size)(hj:j<ar.size)
   (h:Q (some (lt (at' ar i) (at' ar j))) (SortSt.mk' κ ar pd g none)):wpS M A E s (ltAt' i j) Q (SortSt.mk' κ ar pd g none):=by
 rw[ltAt'_eq]
 refine wpS_bind (wpS_get (wpS_bind (ze2 hi (wpS_bind (ze2 hj ?_)))))
 rw[zu9 hi,zu9 hj]
 exact zX4 c (in_T hT hi) (in_T hT hj) rfl h
theorem apart (c:Cmp M A s κ lt T)(hT:ar.toList.Perm T){i j:Nat}(hi:i<ar.size)(hj:j<ar.size)(h:i≠j):lt (at' ar i) (at' ar j)=true\/lt (at' ar j) (at' ar i)=true:=by
 have d:=(c.perm hT).di
 rw[<-zu9 hi,<-zu9 hj]
 rcases Nat.lt_or_ge i j with z | z
 . exact List.pairwise_iff_getElem.mp d i j (by simpa using hi) (by simpa using hj) z
 . exact(List.pairwise_iff_getElem.mp d j i (by simpa using hj) (by simpa using hi) (by omega)).symm
noncomputable abbrev AS:=Option (Option Nat)×Nat
theorem yi6 {f:Nat->AS->SM (ForInStep AS)}{lo a nrem:Nat}{st:SortSt}{Q:AS->SortSt->Prop}(c:Cmp M A s κ lt T)(hT:ar.toList.Perm T)
   (hf:∀x n (R:ForInStep AS->SortSt->Prop),1<=n->n<nrem->(lt (at' ar (lo+n)) (at' ar (lo+n-1))=true->R (.done (none,n)) st)->(lt (at' ar (lo+n)) (at' ar (lo+n-1))=false->R (.yield (none,n+1)) st)->wpS M A E s (f x (none,n)) R st)
   (hn:lo+nrem<=ar.size) (h1:1<=a) (h2:a<=nrem) (hu:Up lt ar lo a)
   (h:∀n,a<=n->n<=nrem->Up lt ar lo n->(n=nrem\/lt (at' ar (lo+n)) (at' ar (lo+n-1))=true)->Q (none,n) st):wpS M A E s (forIn [a:nrem] ((none,a):AS) f) Q st:=by
 refine wpS_forRange (I:=fun x v st'=>st'=st/\v=(none,x)/\Up lt ar lo x) ?step ?fin ⟨rfl,rfl,hu⟩
 case fin =>
   rintro v st' ⟨rfl,rfl,hu'⟩
   rw[show max a nrem=nrem by omega] at hu' ⊢
   exact h nrem h2 (Nat.le_refl _) hu' (.inl rfl)
 case step =>
   rintro x v st' hax hxn ⟨rfl,rfl,hu'⟩
   refine hf x x _ (by omega) hxn (fun e=>h x hax (by omega) hu' (.inr e)) fun e=>⟨rfl,rfl,fun i j hij hj=>?_⟩
   rcases Nat.lt_or_ge j x with z | z
   . exact hu' i j hij z
   . obtain rfl:j=x:=by omega
     have e':lt (at' ar (lo+j-1)) (at' ar (lo+j))=true:=(apart c hT (by omega) (by omega) (by omega)).resolve_right (by rw[e];decide)
     rcases Nat.lt_or_ge i (j-1) with q | q
     . have e2:=hu' i (j-1) q (by omega)
       rw[show lo+(j-1)=lo+j-1 by omega] at e2
       exact c.tr _ _ _ e2 e'
     . rw[show lo+i=lo+j-1 by omega]
       exact e'
theorem wp_count {lo nrem:Nat}{Q:Option Nat->SortSt->Prop}(c:Cmp M A s κ lt T)(hT:ar.toList.Perm T)(hn:lo+nrem<=ar.size)(h1:1<=nrem)
   (h:∀m ar',ar'.toList.Perm T->zH6 lo ar ar'->1<=m->m<=nrem->Up lt ar' lo m->Q (some m) (SortSt.mk' κ ar' pd g none)):wpS M A E s (countRun' lo nrem) Q (SortSt.mk' κ ar pd g none):=by
 rw[countRun'_eq]
 refine wpS_bind (yi6 (ar:=ar) (lo:=lo) c hT (fun x n R hn1 hn2 r1 r2=>?_) hn (Nat.le_refl 1) h1 (fun i j hij hj=>by omega) fun n hn1 hn2 hu hor=>?_)
 . dsimp only
   refine wpS_bind (zy6 c hT (by omega) (by omega) ?_)
   cases e:lt (at' ar (lo+n)) (at' ar (lo+n-1)) with
   | true=>dsimp only;rw[if_pos rfl];exact wpS_pure (r1 e)
   | false=>dsimp only;rw[if_neg (by decide)];exact wpS_pure (r2 e)
 dsimp only
 by_cases h2:n=nrem
 . rw[if_pos (zf0 h2)]
   exact wpS_pure (h n ar hT (fun _ _=>rfl) hn1 hn2 hu)
 rw[if_neg (ze7 h2)]
 have hlt:=hor.resolve_left h2
 by_cases h3:n>1
 . rw[if_pos h3]
   refine wpS_bind (zy6 c hT (by omega) (by omega) ?_)
   have e:=hu 0 (n-1) (by omega) (by omega)
   rw[Nat.add_zero,show lo+(n-1)=lo+n-1 by omega] at e
   rw[e]
   dsimp only
   rw[if_pos rfl]
   exact wpS_pure (h n ar hT (fun _ _=>rfl) hn1 hn2 hu)
 rw[if_neg h3]
 obtain rfl:n=1:=by omega
 refine wpS_bind (wpS_lift (wpAny_rule ⟨rfl,?_⟩))
 refine wpS_bind (wpS_mono (wpS_forRange (I:=fun x v st'=>st'=SortSt.mk' κ ar pd g none/\v=(none,x,0)/\∀i j,i<j->j<x->lt (at' ar (lo+j)) (at' ar (lo+i))=true)
   (Q:=fun v st'=>st'=SortSt.mk' κ ar pd g none/\∃x,v=(none,x,0)/\2<=x/\x<=nrem/\∀i j,i<j->j<x->lt (at' ar (lo+j)) (at' ar (lo+i))=true) ?step ?fin ⟨rfl,rfl,?ini⟩) ?post)
 case ini =>
   intro i j hij hj
   obtain rfl:i=0:=by omega
   obtain rfl:j=1:=by omega
   rw[Nat.add_zero]
   exact hlt
 case fin =>
   rintro v st' ⟨rfl,rfl,hu'⟩
   rw[show max (1+1) nrem=nrem by omega] at hu' ⊢
   exact⟨rfl,nrem,rfl,by omega,Nat.le_refl _,hu'⟩
 case step =>
   rintro x v st' hax hxn ⟨rfl,rfl,hu'⟩
   dsimp only
   refine wpS_bind (zy6 c hT (by omega) (by omega) ?_)
   cases e:lt (at' ar (lo+x)) (at' ar (lo+x-1)) with
   | true =>
     dsimp only
     rw[if_pos rfl,if_neg (by decide)]
     refine wpS_pure ⟨rfl,rfl,fun i j hij hj=>?_⟩
     rcases Nat.lt_or_ge j x with z | z
     . exact hu' i j hij z
     . obtain rfl:j=x:=by omega
       rcases Nat.lt_or_ge i (j-1) with q | q
       . have e2:=hu' i (j-1) q (by omega)
         rw[show lo+(j-1)=lo+j-1 by omega] at e2
         exact c.tr _ _ _ e e2
       . rw[show lo+i=lo+j-1 by omega]
         exact e
   | false =>
     dsimp only
     rw[if_neg (by decide)]
     have e':lt (at' ar (lo+x-1)) (at' ar (lo+x))=true:=(apart c hT (by omega) (by omega) (by omega)).resolve_right (by rw[e];decide)
     refine wpS_bind (zy6 c hT (by omega) (by omega) ?_)
     rw[e']
     dsimp only
     rw[if_pos rfl]
     exact wpS_pure ⟨rfl,x,rfl,by omega,by omega,hu'⟩
 case post =>
   rintro v st' ⟨rfl,x,rfl,hx2,hxn,hu'⟩
   dsimp only
   rw[if_neg (by decide),reverseSlice'_eq]
   refine wpS_bind (wpS_modify ?_)
   have hT':(mirror ar lo (lo+x) ((lo+x-lo) / 2)).toList.Perm T:=.trans (Array.perm_iff_toList_perm.mp (mirror_perm _ _ _ _)) hT
   have hb:zH6 lo ar (mirror ar lo (lo+x) ((lo+x-lo) / 2)):=fun i hi=>by
     rw[getElem?_mirror_all (by omega),if_neg (by omega)]
   have hs:(mirror ar lo (lo+x) ((lo+x-lo) / 2)).size=ar.size:=mirror_size _ _ _ _
   have hu2:Up lt (mirror ar lo (lo+x) ((lo+x-lo) / 2)) lo x:=fun i j hij hj=>by
     rw[zK8 (by omega),zK8 (by omega),if_pos (by omega),if_pos (by omega)]
     have:=hu' (x-1-j) (x-1-i) (by omega) (by omega)
     rw[show lo+(lo+x)-1-(lo+i)=lo+(x-1-i) by omega,show lo+(lo+x)-1-(lo+j)=lo+(x-1-j) by omega]
     exact this
   show wpS M A E s _ Q (SortSt.mk' κ (mirror ar lo (lo+x) ((lo+x-lo) / 2)) pd g none)
   generalize mirror ar lo (lo+x) ((lo+x-lo) / 2)=br at hT' hb hs hu2 ⊢
   refine wpS_bind (yi6 (ar:=br) (lo:=lo) c hT' (fun x n R hn1 hn2 r1 r2=>?_) (by omega) (by omega) hxn hu2 fun n hn1 hn2 hu3 _=>?_)
   . dsimp only
     refine wpS_bind (zy6 c hT' (by omega) (by omega) ?_)
     cases e:lt (at' br (lo+n)) (at' br (lo+n-1)) with
     | true=>dsimp only;rw[if_pos rfl];exact wpS_pure (r1 e)
     | false=>dsimp only;rw[if_neg (by decide)];exact wpS_pure (r2 e)
   . exact wpS_pure (h n br hT' hb (by omega) hn2 hu3)
theorem wp_bin {lo n ok:Nat}{Q:Bool->SortSt->Prop}(c:Cmp M A s κ lt T)(hT:ar.toList.Perm T)(hn:lo+n<=ar.size)(hok:ok<=n)(hu:Up lt ar lo ok)
   (h:∀ar',ar'.toList.Perm T->zH6 lo ar ar'->Up lt ar' lo n->Q true (SortSt.mk' κ ar' pd g none)):wpS M A E s (binarySort' lo n ok) Q (SortSt.mk' κ ar pd g none):=by
 rw[binarySort'_eq]
 refine wpS_bind (wpS_mono (wpS_forRange (I:=fun k v st'=>v=(none,())/\∃br,st'=SortSt.mk' κ br pd g none/\br.toList.Perm T/\br.size=ar.size/\zH6 lo ar br/\Up lt br lo (min k n))
   (Q:=fun v st'=>v=(none,())/\∃br,st'=SortSt.mk' κ br pd g none/\br.toList.Perm T/\zH6 lo ar br/\Up lt br lo n) ?step ?fin ⟨rfl,ar,rfl,hT,rfl,fun _ _=>rfl,fun i j hij hj=>hu i j hij (by omega)⟩) ?post)
 case post =>
   rintro v st' ⟨rfl,br,rfl,a1,a2,a3⟩
   exact wpS_pure (h br a1 a2 a3)
 case fin =>
   rintro v st' ⟨rfl,br,rfl,a1,a2,a3,a4⟩
   rw[show min (max (max ok 1) n) n=n by omega] at a4
   exact⟨rfl,br,rfl,a1,a3,a4⟩
 case step =>
   rintro k v st' hak hkn ⟨rfl,br,rfl,hT',hs,hb,hu'⟩
   rw[show min k n=k by omega] at hu'
   refine wpS_bind (wpS_mono (wpS_forRange (I:=fun x v st''=>st''=SortSt.mk' κ br pd g none/\∃l r,v=(none,l,r)/\l<=r/\r<=k/\r-l<=k-x ∧
       (∀i,i<l->lt (at' br (lo+i)) (at' br (lo+k))=true)/\(∀i,r<=i->i<k->lt (at' br (lo+k)) (at' br (lo+i))=true))
     (Q:=fun v st''=>st''=SortSt.mk' κ br pd g none/\∃l r,v=(none,l,r)/\l<=k ∧
       (∀i,i<l->lt (at' br (lo+i)) (at' br (lo+k))=true)/\(∀i,l<=i->i<k->lt (at' br (lo+k)) (at' br (lo+i))=true)) ?istep ?ifin ⟨rfl,0,k,rfl,by omega,by omega,by omega,fun i hi=>by omega,fun i h1 h2=>by omega⟩) ?ipost)
   case ifin =>
     rintro v st'' ⟨rfl,l,r,rfl,b1,b2,b3,b4,b5⟩
     obtain rfl:l=r:=by omega
     exact⟨rfl,l,l,rfl,b2,b4,b5⟩
   case istep =>
     rintro x v st'' _ hxk ⟨rfl,l,r,rfl,b1,b2,b3,b4,b5⟩
     dsimp only
     by_cases hge:l≥r
     . rw[if_pos hge]
       obtain rfl:l=r:=by omega
       exact wpS_pure ⟨rfl,l,l,rfl,b2,b4,b5⟩
     . rw[if_neg hge]
       refine wpS_bind (zy6 c hT' (by omega) (by omega) ?_)
       cases e:lt (at' br (lo+k)) (at' br (lo+(l+r) / 2)) with
       | true =>
         dsimp only
         rw[if_pos rfl]
         refine wpS_pure ⟨rfl,l,(l+r) / 2,rfl,by omega,by omega,by omega,b4,fun i h1 h2=>?_⟩
         rcases Nat.lt_or_ge ((l+r) / 2) i with z | z
         . exact c.tr _ _ _ e (hu' _ i z h2)
         . obtain rfl:i=(l+r) / 2:=by omega
           exact e
       | false =>
         dsimp only
         rw[if_neg (by decide)]
         have e':lt (at' br (lo+(l+r) / 2)) (at' br (lo+k))=true:=(apart c hT' (by omega) (by omega) (by omega)).resolve_right (by rw[e];decide)
         refine wpS_pure ⟨rfl,(l+r) / 2+1,r,rfl,by omega,by omega,by omega,fun i h1=>?_,b5⟩
         rcases Nat.lt_or_ge i ((l+r) / 2) with z | z
         . exact c.tr _ _ _ (hu' i _ z (by omega)) e'
         . obtain rfl:i=(l+r) / 2:=by omega
           exact e'
   case ipost =>
     rintro v st'' ⟨rfl,l,r,rfl,hlk,b4,b5⟩
     show wpS M A E s (do moveDown' (lo+k) (lo+l);pure (ForInStep.yield (none,()))) _ _
     rw[moveDown'_eq]
     refine wpS_bind (wpS_modify (wpS_pure ⟨rfl,bubble br (lo+k) (lo+k-(lo+l)),rfl,.trans (Array.perm_iff_toList_perm.mp (bubble_perm _ _ _)) hT',(bubble_size _ _ _).trans hs,fun i hi=>?_,?_⟩))
     . rw[getElem?_bubble (by omega) _ (by omega),if_neg (by omega),if_neg (by omega)]
       exact hb i hi
     . rw[show min (k+1) n=k+1 by omega]
       intro i j hij hj
       rw[zK9 (by omega) (by omega),zK9 (by omega) (by omega),show lo+k-(lo+k-(lo+l))=lo+l by omega]
       by_cases c1:i<l
       . rw[if_neg (by omega),if_neg (by omega)]
         by_cases c2:j=l
         . subst c2
           rw[if_pos rfl]
           exact b4 i c1
         . rw[if_neg (by omega)]
           by_cases c3:j<l
           . rw[if_neg (by omega)]
             exact hu' i j hij (by omega)
           . rw[if_pos (by omega),show lo+j-1=lo+(j-1) by omega]
             exact hu' i (j-1) (by omega) (by omega)
       . by_cases c2:i=l
         . subst c2
           rw[if_pos rfl,if_neg (by omega),if_pos (by omega),show lo+j-1=lo+(j-1) by omega]
           exact b5 (j-1) (by omega) (by omega)
         . rw[if_neg (by omega),if_pos (by omega),if_neg (by omega),if_pos (by omega),show lo+i-1=lo+(i-1) by omega,show lo+j-1=lo+(j-1) by omega]
           exact hu' (i-1) (j-1) (by omega) (by omega)
end
section
variable {M:Model} {A:Around} {E:Value->Shared->Prop} {s:Shared} {κ:SortKind} {lt:Keyed->Keyed->Bool} {T:List Keyed}
theorem zO8 {br:Array Keyed}{pd:Array (Nat×Nat×Nat)}{g i:Nat}{ls:List (List Keyed)}{rest:List Keyed}{Q:Bool->SortSt->Prop}(c:Cmp M A s κ lt T)(hT:br.toList.Perm T)(hR:Rn lt 0 pd.toList ls)
   (hL:br.toList=ls.flatten++rest) (hi:i+1<pd.size)
   (h:∀br' pd' g' ls',br'.toList.Perm T->Rn lt 0 pd'.toList ls'->br'.toList=ls'.flatten++rest->pd'.size+1=pd.size->ls'.flatten.length=ls.flatten.length->Q true (SortSt.mk' κ br' pd' g' none)) :
   wpS M A E s (mergeAt' i) Q (SortSt.mk' κ br pd g none):=by
 obtain⟨pre,a,b,post,ep,el⟩:∃pre a b post,pd.toList=pre++a::b::post/\pre.length=i:=by
   refine⟨pd.toList.take i,pd.toList[i]'(by simp;omega),pd.toList[i+1]'(by simp;omega),pd.toList.drop (i+2),?_,by simp;omega⟩
   rw[<-List.drop_eq_getElem_cons,<-List.drop_eq_getElem_cons,List.take_append_drop]
 have hR':=hR
 rw[ep] at hR'
 obtain⟨lp,lq,e1,e2,r1,r2⟩:=Rn.split pre hR'
 obtain⟨sa,na,pa⟩:=a
 obtain⟨sb,nb,pb⟩:=b
 match lq,r2 with
 | [],r2=>exact r2.elim
 | [_],r2=>exact r2.2.2.2.2.elim
 | Aa::Bb::lr,r2 =>
   obtain⟨x1,x2,x3,x4,x5,x6,x7,x8,x9⟩:=r2
   rw[Nat.zero_add] at x1 x5 x9
   subst x1 x2 x5 x6 e1
   have hL':br.toList=lp.flatten++(Aa++(Bb++(lr.flatten++rest))):=by rw[hL];simp
   refine wp_mergeAt (pre:=pre) (post:=post) (c.perm (T':=lp.flatten++(Aa++(Bb++(lr.flatten++rest)))) (hL'▸hT)) hL' ep el.symm x3 x7 x4 x8 fun br' pd' g' C y1 y2 y3 y4=>?_
   refine h br' pd' g' (lp++C::lr) ?_ ?_ ?_ ?_ ?_
   . rw[y2]
     refine .trans ?_ (hL'▸hT)
     refine List.Perm.append_left _ ?_
     rw[<-List.append_assoc Aa]
     exact List.Perm.append_right _ y3
   . rw[y1]
     refine Rn.join r1 ⟨by simp,by rw[y3.length_eq];simp,fun z=>?_,y4,?_⟩
     . have:=y3.length_eq
       rw[z] at this
       have z3:=List.length_pos_iff.mpr x3
       simp at this
       omega
     . have e:0+lp.flatten.length+C.length=lp.flatten.length+Aa.length+Bb.length:=by rw[y3.length_eq];simp;omega
       rw[e]
       exact x9
   . rw[y2];simp
   . have z1:=congrArg List.length y1
     have z2:=congrArg List.length ep
     simp at z1 z2
     omega
   . have:=y3.length_eq
     simp at this ⊢
     omega
theorem Rn.power {f:Nat}{pw:Nat}:∀ {pd:List (Nat×Nat×Nat)} {ls:List (List Keyed)} (k:Nat),Rn lt f pd ls->Rn lt f (pd.modify k fun x=>(x.1,x.2.1,pw)) ls
 | [],ls,k,h=>by cases k<;>exact h
 | _::_,[],k,h=>h.elim
 | (s,n,w)::pd,l::ls,0,h=>h
 | (s,n,w)::pd,l::ls,k+1,h=>⟨h.1,h.2.1,h.2.2.1,h.2.2.2.1,Rn.power (f:=f+l.length) k h.2.2.2.2⟩
theorem below_take {lo:Nat}{ar br:Array Keyed}(h:zH6 lo ar br)(hs:br.size=ar.size):br.toList.take lo=ar.toList.take lo:=by
 apply List.ext_getElem?
 intro i
 rcases Nat.lt_or_ge i lo with z | z
 . rw[List.getElem?_take_of_lt z,List.getElem?_take_of_lt z,Array.getElem?_toList,Array.getElem?_toList]
   exact h i z
 . rw[List.getElem?_eq_none (by simp;omega),List.getElem?_eq_none (by simp;omega)]
theorem up_pairwise {ar:Array Keyed}{lo n:Nat}(hu:Up lt ar lo n)(hn:lo+n<=ar.size):((ar.toList.drop lo).take n).Pairwise (LtR lt):=by
 refine List.pairwise_iff_getElem.mpr fun i j hi hj hij=>?_
 have hi':i<n:=by simp at hi;omega
 have hj':j<n:=by simp at hj;omega
 have:=hu i j hij hj'
 rw[<-zu9 (by omega),<-zu9 (by omega)] at this
 show lt _ _=true
 simpa using this
theorem wp_sortRuns {ar:Array Keyed}{Q:Unit->SortSt->Prop}(c:Cmp M A s κ lt ar.toList)
   (h:∀br pd g,br.toList.Perm ar.toList->br.toList.Pairwise (LtR lt)->Q () (SortSt.mk' κ br pd g none)):wpS M A E s sortRuns' Q (SortSt.mk' κ ar #[] 7 none):=by
 rw[sortRuns'_eq]
 refine wpS_bind (wpS_get ?_)
 try dsimp only
 have e0:(arrOf (SortSt.mk' κ ar #[] 7 none)).size=ar.size:=rfl
 simp only[e0]
 generalize minRun' ar.size ar.size 0=mr
 refine wpS_bind (wpS_mono (wpS_forRange
   (I:=fun x v st'=>∃br pd g ls rest,st'=SortSt.mk' κ br pd g none/\v=(none,ls.flatten.length)/\br.toList.Perm ar.toList/\Rn lt 0 pd.toList ls/\br.toList=ls.flatten++rest/\x<=ls.flatten.length)
   (Q:=fun v st'=>∃br pd g ls n,st'=SortSt.mk' κ br pd g none/\v=(none,n)/\br.toList.Perm ar.toList/\Rn lt 0 pd.toList ls/\br.toList=ls.flatten) ?step ?fin ⟨ar,#[],7,[],ar.toList,rfl,rfl,.refl _,trivial,rfl,Nat.le_refl _⟩) ?post)
 case fin =>
   rintro v st' ⟨br,pd,g,ls,rest,rfl,rfl,hT,hR,hL,hx⟩
   refine⟨br,pd,g,ls,_,rfl,rfl,hT,hR,?_⟩
   have z1:=hT.length_eq
   have z2:=congrArg List.length hL
   rw[List.length_append] at z2
   simp only[Array.length_toList] at z1 z2
   have:rest.length=0:=by omega
   rw[List.eq_nil_of_length_eq_zero this,List.append_nil] at hL
   exact hL
 case step =>
   rintro x v st' _ hx ⟨br,pd,g,ls,rest,rfl,rfl,hT,hR,hL,hxl⟩
   have hs:br.size=ar.size:=by simpa using hT.length_eq
   have hl:br.size=ls.flatten.length+rest.length:=by
     have:=congrArg List.length hL
     rw[List.length_append] at this
     simpa using this
   dsimp only
   generalize hlo:ls.flatten.length=lo at hxl hl ⊢
   by_cases h1:lo≥ar.size
   . rw[if_pos h1]
     refine wpS_pure ⟨br,pd,g,ls,_,rfl,rfl,hT,hR,?_⟩
     have:rest.length=0:=by omega
     rw[List.eq_nil_of_length_eq_zero this,List.append_nil] at hL
     exact hL
   rw[if_neg h1]
   refine wpS_bind (wp_count c hT (by omega) (by omega) fun m br1 hT1 hb1 hm1 hm2 hu1=>?_)
   dsimp only
   have hs1:br1.size=br.size:=by have:=hT1.length_eq.trans hT.length_eq.symm;simpa using this
   have tail:∀(n:Nat) (br2:Array Keyed),br2.toList.Perm ar.toList->zH6 lo br br2->br2.size=br.size->1<=n->lo+n<=ar.size->Up lt br2 lo n →
       ∃run rest',run.length=n/\run≠[]/\run.Pairwise (LtR lt)/\br2.toList=ls.flatten++(run++rest'):=fun n br2 hT2 hb2 hs2 hn1 hn2 hu2=>by
     refine⟨(br2.toList.drop lo).take n,(br2.toList.drop lo).drop n,by simp;omega,fun z=>?_,up_pairwise hu2 (by omega),?_⟩
     . have:=congrArg List.length z
       simp at this
       omega
     . rw[List.take_append_drop]
       have e:=below_take hb2 hs2
       have e':br.toList.take lo=ls.flatten:=by rw[hL,<-hlo,List.take_append_of_le_length (Nat.le_refl _),List.take_length]
       rw[<-e',<-e,List.take_append_drop]
   have go:∀(n:Nat) (br2:Array Keyed),br2.toList.Perm ar.toList->zH6 lo br br2->br2.size=br.size->1<=n->lo+n<=ar.size->Up lt br2 lo n →
       ∃run rest',run.length=n/\run≠[]/\run.Pairwise (LtR lt)/\br2.toList=ls.flatten++(run++rest'):=tail
   by_cases h2:m<mr
   case' pos =>
     rw[if_pos h2]
     refine wpS_bind (wpS_lift (wpAny_rule ⟨rfl,?_⟩))
     refine wpS_bind (wp_bin c hT1 (by omega) (by omega) hu1 fun br2 hT2 hb2 hu2=>?_)
     have hs2:br2.size=br.size:=by have:=hT2.length_eq.trans hT.length_eq.symm;simpa using this
     obtain⟨run,rest',g1,g2,g3,g4⟩:=tail (min (ar.size-lo) mr) br2 hT2 (fun i hi=>(hb2 i hi).trans (hb1 i hi)) hs2 (by omega) (by omega) hu2
     rw[if_neg (by decide)]
     rw[<-g1]
   case' neg =>
     rw[if_neg h2]
     obtain⟨run,rest',g1,g2,g3,g4⟩:=tail m br1 hT1 hb1 hs1 hm1 (by omega) hu1
     rw[<-g1]
     have hT2:=hT1
     generalize br1=br2 at hT2 g4 ⊢
   all_goals
     refine wpS_bind (wpS_get ?_)
     try dsimp only
     have fin_:∀(br3:Array Keyed) (pd3:Array (Nat×Nat×Nat)) (g3:Nat) (ls3:List (List Keyed)),br3.toList.Perm ar.toList->Rn lt 0 pd3.toList ls3->br3.toList=ls3.flatten++(run++rest')->ls3.flatten.length=lo →
         ∃br pd g ls rest,SortSt.mk' κ br3 (pd3.push (lo,run.length,0)) g3 none=SortSt.mk' κ br pd g none/\((none,lo+run.length):Option Unit×Nat)=(none,ls.flatten.length)/\br.toList.Perm ar.toList/\Rn lt 0 pd.toList ls/\br.toList=ls.flatten++rest/\x+1<=ls.flatten.length:=fun br3 pd3 g3' ls3 q1 q2 q3 q4=>by
       refine⟨br3,_,g3',ls3++[run],rest',rfl,by simp[<-q4],q1,?_,by rw[q3];simp,?_⟩
       . rw[Array.toList_push]
         refine Rn.join q2 ⟨by rw[q4];omega,rfl,g2,g3,trivial⟩
       . have:0<run.length:=List.length_pos_iff.mpr g2
         rw[List.flatten_append,List.length_append,q4]
         simp
         omega
     cases eb:pd.back? with
     | none =>
       dsimp only
       refine wpS_bind (wpS_modify (wpS_pure ?_))
       exact fin_ br2 pd g ls hT2 hR g4 hlo
     | some last =>
       obtain⟨s1,n1,w1⟩:=last
       dsimp only
       generalize power' ar.size (2*s1+n1) (2*s1+n1+n1+run.length) ar.size=pw
       refine wpS_bind (wpS_mono (wpS_forRange
         (I:=fun y v st'=>∃br3 pd3 g3 ls3,st'=SortSt.mk' κ br3 pd3 g3 none/\v=(none,())/\br3.toList.Perm ar.toList/\Rn lt 0 pd3.toList ls3/\br3.toList=ls3.flatten++(run++rest')/\ls3.flatten.length=lo)
         (Q:=fun v st'=>∃br3 pd3 g3 ls3,st'=SortSt.mk' κ br3 pd3 g3 none/\v=(none,())/\br3.toList.Perm ar.toList/\Rn lt 0 pd3.toList ls3/\br3.toList=ls3.flatten++(run++rest')/\ls3.flatten.length=lo) ?stepM (fun _ _ z=>z) ⟨br2,pd,g,ls,rfl,rfl,hT2,hR,g4,hlo⟩) ?postM)
       case stepM =>
         rintro y v st' _ hy ⟨br3,pd3,g3',ls3,rfl,rfl,q1,q2,q3,q4⟩
         refine wpS_bind (wpS_get ?_)
         try dsimp only
         by_cases h3:pd3.size>1
         . rw[if_pos h3,getElem?_pos pd3 (pd3.size-2) (by omega)]
           dsimp only
           by_cases h4:(pd3[pd3.size-2]'(by omega)).2.2<=pw
           . rw[if_pos h4]
             exact wpS_pure ⟨br3,pd3,g3',ls3,rfl,rfl,q1,q2,q3,q4⟩
           . rw[if_neg h4]
             refine wpS_bind (zO8 c q1 q2 q3 (show pd3.size-2+1<pd3.size by omega) fun br4 pd4 g4' ls4 w1 w2 w3 w4 w5=>?_)
             rw[if_neg (by decide)]
             exact wpS_pure ⟨br4,pd4,g4',ls4,rfl,rfl,w1,w2,w3,w5.trans q4⟩
         . rw[if_neg h3]
           exact wpS_pure ⟨br3,pd3,g3',ls3,rfl,rfl,q1,q2,q3,q4⟩
       case postM =>
         rintro v st' ⟨br3,pd3,g3',ls3,rfl,rfl,q1,q2,q3,q4⟩
         dsimp only
         refine wpS_bind (wpS_modify (wpS_bind (wpS_modify (wpS_pure ?_))))
         exact fin_ br3 (pd3.modify (pd3.size-1) fun x=>(x.1,x.2.1,pw)) g3' ls3 q1 (by rw[Array.toList_modify];exact q2.power _) q3 q4
 case post =>
   rintro v st' ⟨br,pd,g,ls,n,rfl,rfl,hT,hR,hL⟩
   dsimp only
   have hz:pd.size<=ar.size:=by
     have z1:=hR.len
     have z2:=congrArg List.length hL
     have z3:=hT.length_eq
     simp only[Array.length_toList] at z1 z2 z3
     omega
   refine wpS_bind (wpS_mono (wpS_forRange
     (I:=fun y v st'=>∃br3 pd3 g3 ls3,st'=SortSt.mk' κ br3 pd3 g3 none/\v=(none,())/\br3.toList.Perm ar.toList/\Rn lt 0 pd3.toList ls3/\br3.toList=ls3.flatten++[]/\(pd3.size<=1\/pd3.size+y<=ar.size))
     (Q:=fun v st'=>∃br3 pd3 g3 ls3,st'=SortSt.mk' κ br3 pd3 g3 none/\v=(none,())/\br3.toList.Perm ar.toList/\Rn lt 0 pd3.toList ls3/\br3.toList=ls3.flatten++[]/\pd3.size<=1) ?stepE ?finE ⟨br,pd,g,ls,rfl,rfl,hT,hR,by simpa using hL,.inr (by omega)⟩) ?postE)
   case finE =>
     rintro v st' ⟨br3,pd3,g3,ls3,rfl,rfl,q1,q2,q3,q4⟩
     exact⟨br3,pd3,g3,ls3,rfl,rfl,q1,q2,q3,by omega⟩
   case stepE =>
     rintro y v st' _ hy ⟨br3,pd3,g3,ls3,rfl,rfl,q1,q2,q3,q4⟩
     refine wpS_bind (wpS_get ?_)
     try dsimp only
     by_cases h3:pd3.size<=1
     . rw[if_pos h3]
       exact wpS_pure ⟨br3,pd3,g3,ls3,rfl,rfl,q1,q2,q3,h3⟩
     rw[if_neg h3]
     have e1:(pendingOf (SortSt.mk' κ br3 pd3 g3 none)).size=pd3.size:=rfl
     simp only[e1]
     generalize(Option.any _ _:Bool)=tt
     refine wpS_bind (zO8 c q1 q2 q3 (by split<;>omega) fun br4 pd4 g4' ls4 w1 w2 w3 w4 w5=>?_)
     rw[if_neg (by decide)]
     exact wpS_pure ⟨br4,pd4,g4',ls4,rfl,rfl,w1,w2,w3,by omega⟩
   case postE =>
     rintro v st' ⟨br3,pd3,g3,ls3,rfl,rfl,q1,q2,q3,q4⟩
     refine wpS_pure (h br3 pd3 g3 q1 ?_)
     rw[q3]
     have z:=q2.len.1
     match pd3,ls3,q2 with
     | ⟨[]⟩,[],_=>simp
     | ⟨[(_,_,_)]⟩,[l],q2=>simpa using q2.2.2.2.1
     | ⟨_::_::_⟩,_,_=>simp at q4
     | ⟨[_]⟩,_::_::_,_=>simp at z
end
end Sx
namespace Sx
open PySem PySem.W PySem.Calls PyProof.Rows
noncomputable def RawD (h:Heap)(d:Addr)(es:Array DictEntry)(ep:Nat):Prop:=∃o,h.get? d=some o/\o.ExactDict/\o.data = .dict es ep
section
variable {prog:Program} {w:World} {A:Around} {E:Value->Shared->Prop} {s:Shared} {d it:Addr} {es:Array DictEntry} {ep i:Nat}
theorem RawD.typeIs (x:RawD s.heap d es ep):s.TypeIs (.ref d) "dict":=by
 obtain⟨o,ho,hc,_⟩:=x
 exact⟨o,ho,hc.1⟩
theorem RawD.lt {h:Heap}(x:RawD h d es ep):d<h.objs.size:=let⟨_,ho,_⟩:=x;Heap.lt_size ho
theorem RawD.at_ {h h':Heap}(x:RawD h d es ep)(e:∀o,h.get? d=some o->h'.get? d=some o):RawD h' d es ep:=let⟨o,ho,r⟩:=x;⟨o,e o ho,r⟩
theorem raw_iter {Q:Value->Shared->Prop}(hd:(d == sysModules)=false)(hm:RawD s.heap d es ep)
   (hQ:Q (.ref s.heap.objs.size) { s with heap:=s.heap.push { cls:=.type "dict_keyiterator",data:=.fields #[.ref d,.int 0 0,.int es.size 0,.int ep 0] } }):wpAny (model prog w) A (pyIter (.ref d)) Q E s:=by
 obtain⟨o,ho,hc,hdat⟩:=id hm
 have hT:=hm.typeIs
 refine wpAny_pyIter_slot hT F.slot_dict_iter (wpAny_call_entry F.slot_dict_iter hT F.entry_dict_iter ?_ (F.args_dict_iter_1 _))
 unfold Builtin.«dict.__iter__»
 refine wpAny_bind ?_
 unfold Builtin.Dict.dictSlotNone
 refine wpAny_bind (wpAny_notOrdered_dict hT (wpAny_pure ?_))
 show wpAny _ _ (Builtin.Dict.showsAll d >>= _) _ _ s
 unfold Builtin.Dict.showsAll
 rw[if_neg (by rw[hd];exact Bool.false_ne_true)]
 refine wpAny_bind (wpAny_pure (wpAny_bind (wpAny_dictEntries ho hdat (wpAny_bind (wpAny_dictEpoch ho hdat ?_)))))
 exact wpAny_bind (wpAny_newObj_type (wpAny_pure ⟨_,rfl,"dict_keyiterator",_,⟨_,Heap.get?_push_size _ rfl,rfl⟩,F.slot_dict_keyiterator_next.lookup,hQ⟩))
theorem raw_next {Q:Option Value->Shared->Prop}(hit:s.heap.IsKeyIter it d i es.size ep)(hm:RawD s.heap d es ep)(hi:i<es.size)
   (hQ:∀h',h'.IsKeyIter it d (i+1) es.size ep->Heap.SameBut it s.heap h'->Q (some es[i].key) { s with heap:=h' }):wpAny (model prog w) A (pyNext (.ref it)) Q E s:=by
 obtain⟨o,ho,hc,hd⟩:=id hit
 obtain⟨od,hod,hcd,hdd⟩:=id hm
 have hT:=hit.typeIs
 unfold pyNext
 refine wpAny_bind (wpAny_attempt (wpAny_callSpecial?_slot (name:=Str.ofString "__next__") hT F.slot_dict_keyiterator_next
   (wpAny_call_entry F.slot_dict_keyiterator_next hT F.entry_dict_keyiterator_next ?_ (F.args_dict_keyiterator_next_1 _))))
 refine wpAny_bind (wpAny_pure (wpAny_bind (wpAny_bind ?_)))
 first | refine wpAny_bind (wpAny_typeNameOfWhole_keyiter hT (wpAny_pure ?_)) | refine wpAny_bind (wpAny_typeNameOf_keyiter hT (wpAny_pure ?_))
 refine wpAny_bind (wpAny_fieldsOf ho hd ?_)
 simp only[show Builtin.Dict_items.ownsTuple "dict_keyiterator" = false by decide,Bool.false_eq_true,if_false]
 show wpAny _ _ (if (Value.ref d == Value.none)=true then _ else _) _ _ s
 rw[if_neg (show ¬ ((Value.ref d == Value.none)=true) from Bool.false_ne_true)]
 refine wpAny_bind (wpAny_pure (wpAny_bind (wpAny_dictEntries hod hdd ?_)))
 rw[if_neg (by simp)]
 refine wpAny_bind (wpAny_pure (wpAny_bind (wpAny_dictEpoch hod hdd ?_)))
 rw[if_neg (by simp)]
 refine wpAny_pure ?_
 simp only[show ¬ ((i:Int)<0) from by omega,if_false,Int.toNat_natCast,Array.getElem?_eq_getElem hi]
 refine wpAny_bind ?_
 first | refine wpAny_bind (wpAny_typeNameOfWhole_keyiter hT (wpAny_pure ?_)) | refine wpAny_bind (wpAny_typeNameOf_keyiter hT (wpAny_pure ?_))
 refine wpAny_bind (wpAny_isOneOf_keyiter hT ?_)
 show wpAny _ _ (setField (.ref it) 1 (rawInt ((i:Int)+1)) >>= _) _ _ s
 refine wpAny_bind (wpAny_setField ho hd (by simp) ?_)
 have hit':(s.heap.update it (Obj.mapFields (·.setIfInBounds 1 (rawInt ((i:Int)+1))))).IsKeyIter it d (i+1) es.size ep :=
   ⟨_,Heap.get?_update_self _ ho (Obj.isFreed_of_fields (Obj.data_mapFields hd _)),(Obj.cls_mapFields ..).trans hc,by rw[Obj.data_mapFields hd];simp[rawInt]⟩
 refine wpAny_bind (wpAny_holding (wpAny_bind (wpAny_isOneOf_keyiter (s:={ s with heap:=s.heap.update it (Obj.mapFields (·.setIfInBounds 1 (rawInt ((i:Int)+1)))) }) hit'.typeIs ?_)))
 show wpAny _ _ (pure es[i].key) _ _ _
 exact wpAny_pure (wpAny_pure ⟨_,rfl,wpAny_pure (hQ _ hit' (Heap.SameBut.update ..))⟩)
theorem raw_end {Q:Option Value->Shared->Prop}(hh:A.handled=none)(hit:s.heap.IsKeyIter it d es.size es.size ep)(hm:RawD s.heap d es ep)
   (hQ:∀h',Heap.ExtBut it s.heap h'->Q none { s with heap:=h' }):wpAny (model prog w) A (pyNext (.ref it)) Q E s:=by
 obtain⟨o,ho,hc,hd⟩:=id hit
 obtain⟨od,hod,hcd,hdd⟩:=id hm
 have hT:=hit.typeIs
 unfold pyNext
 refine wpAny_bind (wpAny_attempt (wpAny_callSpecial?_slot (name:=Str.ofString "__next__") hT F.slot_dict_keyiterator_next
   (wpAny_call_entry F.slot_dict_keyiterator_next hT F.entry_dict_keyiterator_next ?_ (F.args_dict_keyiterator_next_1 _))))
 refine wpAny_bind (wpAny_pure (wpAny_bind (wpAny_bind ?_)))
 first | refine wpAny_bind (wpAny_typeNameOfWhole_keyiter hT (wpAny_pure ?_)) | refine wpAny_bind (wpAny_typeNameOf_keyiter hT (wpAny_pure ?_))
 refine wpAny_bind (wpAny_fieldsOf ho hd ?_)
 simp only[show Builtin.Dict_items.ownsTuple "dict_keyiterator" = false by decide,Bool.false_eq_true,if_false]
 show wpAny _ _ (if (Value.ref d == Value.none)=true then _ else _) _ _ s
 rw[if_neg (show ¬ ((Value.ref d == Value.none)=true) from Bool.false_ne_true)]
 refine wpAny_bind (wpAny_pure (wpAny_bind (wpAny_dictEntries hod hdd ?_)))
 rw[if_neg (by simp)]
 refine wpAny_bind (wpAny_pure (wpAny_bind (wpAny_dictEpoch hod hdd ?_)))
 rw[if_neg (by simp)]
 refine wpAny_pure ?_
 simp only[show ¬ ((es.size:Int)<0) from by omega,if_false,Int.toNat_natCast,Array.getElem?_eq_none (Nat.le_refl es.size)]
 refine wpAny_bind ?_
 first | refine wpAny_bind (wpAny_typeNameOfWhole_keyiter hT (wpAny_pure ?_)) | refine wpAny_bind (wpAny_typeNameOf_keyiter hT (wpAny_pure ?_))
 show wpAny _ _ (setField (.ref it) 0 .none >>= _) _ _ s
 refine wpAny_bind (wpAny_setField ho hd (by simp) ?_)
 show wpAny _ _ (newExc (.type "StopIteration") [] >>= _) _ _ _
 refine wpAny_bind ?_
 simp only[newExc,newTuple]
 refine wpAny_bind (wpAny_newObj_type ?_ (by size_fits))
 refine wpAny_bind (m:=firstArgMember _ _) (wpAny_of_eq (a:=Value.none) (by first | rfl | (simp only[firstArgMember];rfl)) ?_)
 refine wpAny_newObj_type ?_ (by size_fits)
 simp only[raiseNew]
 refine wpAny_bind (wpAny_handled ?_)
 rw[show A.in1.handled=none from hh]
 refine wpAny_bind (wpAny_pure (wpAny_throw ?_))
 refine wpAny_bind (wpAny_isInstance (T:="StopIteration") (b:=true) ⟨_,Heap.get?_push_size _ rfl,rfl⟩ isSubtype_stop ?_)
 exact wpAny_pure (hQ _ (((Heap.SameBut.update ..).extBut.push _).push _))
theorem raw_walks (hh:A.handled=none)(I d:Addr)(hne:d≠I)(es:Array DictEntry)(ep:Nat) :
   Walks prog w A I [I,d] [I] es.size (fun i v=>∃h:i<es.size,v=es[i].key) (fun i h=>h.IsKeyIter I d i es.size ep/\RawD h d es ep) where
 sub:=fun b hb=>by simp at hb;simp[hb]
 frame:=fun _ _ _ st hk=>⟨let⟨o,ho,r⟩:=st.1;⟨o,hk I (by simp) o ho,r⟩,st.2.at_ fun o e=>hk d (by simp) o e⟩
 item:=fun i s Q E hi st hQ=>raw_next st.1 st.2 hi fun h' hit' hs'=>hQ _ h' s.toks ⟨hi,rfl⟩ ⟨hit',st.2.at_ fun o e=>hs'.extBut d o hne e⟩ fun b o hb e=>hs'.extBut b o (fun h=>hb (by simp[h])) e
 done:=fun s Q E st hQ=>raw_end hh st.1 st.2 fun h' he'=>hQ h' s.toks fun b o hb e=>he' b o (fun h=>hb (by simp[h])) e
 self:=fun _ _ _ _ st hQ=>wpAny_pyIter_keyiter st.1 hQ
theorem raw_src (lo:(d == sysModules)=false):KdlSrc prog w "dict" d d es.size (fun i v=>∃h:i<es.size,v=es[i].key) (fun h=>RawD h d es ep) where
 type:=fun _ hm=>hm.typeIs
 there:=fun _ hm=>⟨hm.lt,hm.lt⟩
 keep:=fun _ _ hm hk=>hm.at_ fun o e=>hk d (.inl rfl) o e
 notList:=by decide
 notTuple:=by decide
 hint:=fun _ _ _ _ hm hq=>kdl_hint_dict hm.typeIs hq
 iter:=fun _ _ hh hm=>⟨_,_,(fun _ _ hq=>raw_iter lo hm hq),raw_walks hh _ d (Nat.ne_of_lt hm.lt) es ep,⟨⟨_,Heap.get?_push_size _ rfl,rfl,rfl⟩,hm.at_ fun o e=>Heap.get?_push_of_some _ e⟩⟩
theorem raw_collect {R:List Value->Shared->Prop}(lo:(d == sysModules)=false)(hh:A.handled=none)(hm:RawD s.heap d es ep)(hn:es.size<=sizeLine)
   (h:∀(h':Heap) (tk:Nat),(∀b o,s.heap.get? b=some o->h'.get? b=some o)->R (es.toList.map (·.key)) { s with heap:=h',toks:=tk }):wpAny (model prog w) A (collect (.ref d)) R E s :=
 kdu_collect (raw_src (ep:=ep) (es:=es) lo) hh hm hn fun h' tk acc hk hacc=>by
   have e:acc.toList=es.toList.map (·.key):=by
     apply List.ext_getElem?
     intro j
     rcases Nat.lt_or_ge j es.size with z | z
     . have hj:j<acc.size:=by rw[hacc.1];exact z
       obtain⟨_,q⟩:=hacc.2 j acc[j] (getElem?_pos acc j hj)
       rw[Array.getElem?_toList,getElem?_pos acc j hj,List.getElem?_map,Array.getElem?_toList,getElem?_pos es j z,q]
       rfl
     . rw[List.getElem?_eq_none (by rw[Array.length_toList,hacc.1];exact z),List.getElem?_eq_none (by simpa using z)]
   rw[e]
   exact h h' tk hk
end
noncomputable def lexB:List Int->List Int->Bool
 | [],[]=>false
 | [],_::_=>true
 | _::_,[]=>false
 | a::l,b::m=>if a=b then lexB l m else decide (a<b)
theorem yd5:∀ {x y z:List Int},lexB x y=true->lexB y z=true->lexB x z=true
 | [],[],_,h,_=>nomatch h
 | [],_::_,[],_,h=>nomatch h
 | [],_::_,_::_,_,_=>rfl
 | _::_,[],_,h,_=>nomatch h
 | _::_,_::_,[],_,h=>nomatch h
 | a::x,b::y,c::z,h,h'=>by
   unfold lexB at h h' ⊢
   by_cases e:a=b
   . subst e
     rw[if_pos rfl] at h
     by_cases e':a=c
     . subst e'
       rw[if_pos rfl] at h' ⊢
       exact yd5 h h'
     . rw[if_neg e'] at h' ⊢
       exact h'
   . rw[if_neg e] at h
     have h1:a<b:=by simpa using h
     by_cases e':b=c
     . subst e'
       rw[if_neg e]
       exact h
     . rw[if_neg e'] at h'
       have h2:b<c:=by simpa using h'
       rw[if_neg (by omega)]
       simp
       omega
theorem lexB_as:∀ {x y:List Int},lexB x y=true->lexB y x=false
 | [],[],h=>nomatch h
 | [],_::_,_=>rfl
 | _::_,[],h=>nomatch h
 | a::x,b::y,h=>by
   unfold lexB at h ⊢
   by_cases e:a=b
   . subst e
     rw[if_pos rfl] at h ⊢
     exact lexB_as h
   . rw[if_neg e] at h
     have h1:a<b:=by simpa using h
     rw[if_neg (by omega)]
     simp
     omega
theorem yd6:∀ {x y:List Int},x≠y->lexB x y=true\/lexB y x=true
 | [],[],h=>absurd rfl h
 | [],_::_,_=>.inl rfl
 | _::_,[],_=>.inr rfl
 | a::x,b::y,h=>by
   unfold lexB
   by_cases e:a=b
   . subst e
     rw[if_pos rfl,if_pos rfl]
     exact yd6 fun z=>h (by rw[z])
   . rw[if_neg e,if_neg (Ne.symm e)]
     simp
     omega
theorem L2P {α β:Type}{F G:α->β->Prop}{l:List α}{m:List β}(r:Paired F l m)(f:∀a b,F a b->G a b):Paired G l m:=by
 induction r with
 | nil=>exact .nil
 | cons x _ ih=>exact .cons (f _ _ x) ih
noncomputable def rowOf (h:Heap):Value->List Int
 | .ref a=>match h.get? a with
   | some o=>match o.data with
     | .seq xs _=>xs.toList.map numOf
     | _=>[]
   | none=>[]
 | _=>[]
noncomputable def RowIs (h:Heap) (v:Value) (k:List Int):Prop:=∃a o xs n,v = .ref a/\h.get? a=some o/\o.cls = .type "tuple"/\o.data = .seq xs n/\IntsAre xs.toList k
theorem ints_nums {vs:List Value}{ns:List Int}(h:IntsAre vs ns):vs.map numOf=ns:=by
 induction h with
 | nil=>rfl
 | cons _ _ _ ih=>rw[List.map_cons,ih];rfl
theorem RowIs.row {h:Heap}{v:Value}{k:List Int}(x:RowIs h v k):rowOf h v=k:=by
 obtain⟨a,o,xs,n,rfl,ho,hc,hd,hi⟩:=x
 unfold rowOf
 dsimp only
 rw[ho]
 dsimp only
 rw[hd]
 exact ints_nums hi
theorem RowIs.keep {h h':Heap} {v:Value} {k:List Int} (x:RowIs h v k) (kp:∀b o,h.get? b=some o->o.cls = .type "tuple"->h'.get? b=some o):RowIs h' v k:=by
 obtain⟨a,o,xs,n,rfl,ho,hc,hd,hi⟩:=x
 exact⟨a,o,xs,n,rfl,kp a o ho hc,hc,hd,hi⟩
section
variable {prog:Program} {w:World} {A:Around} {E:Value->Shared->Prop} {s:Shared}
theorem lex_int {b:Bool}{p q:Int}{t u:Tok}{i:Nat}{Q:Bool->Shared->Prop}(h:Q (decide (p<q)) s):wpAny (model prog w) A (oneLt' (b && i == 0) (.int p t) (.int q u)) Q E s:=by
 cases (b && i == 0) with
 | true=>exact oneLt_int h
 | false=>exact kat_one _ _ (PyProof.Rows.lt_int h)
theorem yi7 {b:Bool}{Q:Bool->Shared->Prop}:∀(xs ys:List Value) (k l:List Int) (i:Nat),IntsAre xs k->IntsAre ys l->Q (lexB k l) s->KatLex prog w A b (decide (k.length<l.length)) Q (xs.zip ys) i s
 | [],[],[],[],i,_,_,h=>by
   refine kat_nil ?_
   exact h
 | [],y::ys,[],m::l,i,_,_,h=>by
   refine kat_nil ?_
   have e:decide (([]:List Int).length<(m::l).length)=true:=by simp
   rw[e]
   exact h
 | x::xs,[],m::k,[],i,_,_,h=>by
   refine kat_nil ?_
   have e:decide ((m::k).length<([]:List Int).length)=false:=by simp
   rw[e]
   exact h
 | x::xs,y::ys,m::k,n::l,i,hx,hy,h=>by
   obtain⟨t,rfl,hx'⟩:∃t,x = .int m t/\IntsAre xs k:=by cases hx;exact⟨_,rfl,by assumption⟩
   obtain⟨u,rfl,hy'⟩:∃t,y = .int n t/\IntsAre ys l:=by cases hy;exact⟨_,rfl,by assumption⟩
   show KatLex prog w A b _ Q ((Value.int m t,Value.int n u)::xs.zip ys) i s
   refine kat_cons (wpAny_eqBool_int ?_)
   unfold lexB at h
   by_cases e:m=n
   . subst e
     rw[if_pos rfl] at h
     rw[show(m == m)=true by simp]
     refine kat_yes ?_
     have e2:decide ((m::k).length<(m::l).length)=decide (k.length<l.length):=by simp
     rw[e2]
     exact yi7 xs ys k l (i+1) hx' hy' h
   . rw[if_neg e] at h
     rw[show(m == n)=false by simpa using e]
     exact kat_no (lex_int h)
 | [],_,_::_,_,_,h,_,_=>nomatch h
 | _::_,_,[],_,_,h,_,_=>nomatch h
 | _,[],_,_::_,_,_,h,_=>nomatch h
 | _,_::_,_,[],_,_,h,_=>nomatch h
theorem rows_lt {b:Bool}{x y:Value}{k l:List Int}{Q:Bool->Shared->Prop}(hx:RowIs s.heap x k)(hy:RowIs s.heap y l)(h:Q (lexB k l) s):wpAny (model prog w) A (keyLt' (tuples' b) x y) Q E s:=by
 obtain⟨a,o,xs,n,rfl,ho,hc,hd,hi⟩:=hx
 obtain⟨a',o',ys,n',rfl,ho',hc',hd',hi'⟩:=hy
 refine kat_lt ho hd ho' hd' ?_
 have e:decide (xs.size<ys.size)=decide (k.length<l.length):=by
   rw[<-hi.length,<-hi'.length,Array.length_toList,Array.length_toList]
 rw[e]
 exact yi7 _ _ _ _ 0 hi hi' h
theorem zD1:∀(vs:List Value),vs.zip vs=vs.map fun v=>(v,v)
 | []=>rfl
 | v::vs=>by rw[List.zip_cons_cons,zD1 vs];rfl
theorem rows_map {h:Heap}{vs:List Value}{ks:List (List Int)}(r:Paired (RowIs h) vs ks):vs.map (rowOf h)=ks:=by
 induction r with
 | nil=>rfl
 | cons x _ ih=>rw[List.map_cons,x.row,ih]
theorem zD2 {h:Heap}{vs:List Value}{ks:List (List Int)}(r:Paired (RowIs h) vs ks):∀v∈vs,∃k∈ks,RowIs h v k:=by
 induction r with
 | nil=>intro v hv;cases hv
 | cons x _ ih =>
   intro v hv
   rcases List.mem_cons.mp hv with rfl | hv
   . exact⟨_,.head _,x⟩
   . obtain⟨k,hk,y⟩:=ih v hv
     exact⟨k,.tail _ hk,y⟩
theorem rows_tups {h:Heap}{vs:List Value}{ks:List (List Int)}(r:Paired (RowIs h) vs ks)(hne:∀k∈ks,k≠[]):∃fs,KatTups h vs fs/\fs.length=vs.length/\∀f∈fs,∃m t,f = .int m t:=by
 induction r with
 | nil=>exact⟨[],KatTups.nil,rfl,fun f hf=>by cases hf⟩
 | @cons v k vs ks x _ ih =>
   obtain⟨fs,e,l,q⟩:=ih fun k hk=>hne k (.tail _ hk)
   obtain⟨a,o,xs,n,rfl,ho,hc,hd,hi⟩:=x
   have z:=hne k (.head _)
   obtain⟨m,t,hx⟩:∃m t,xs[0]?=some (.int m t):=by
     rw[<-Array.getElem?_toList]
     cases hi':xs.toList with
     | nil=>rw[hi'] at hi;cases hi;exact absurd rfl z
     | cons y ys=>rw[hi'] at hi;cases hi;exact⟨_,_,rfl⟩
   refine⟨.int m t::fs,KatTups.cons ho hc hd hx e,by simp[l],fun f hf=>?_⟩
   rcases List.mem_cons.mp hf with rfl | hf
   . exact⟨m,t,rfl⟩
   . exact q f hf
theorem zX8 (vs:List Value):(vs.map fun v=>((v,v):Keyed)).map (·.2)=vs:=by
 rw[List.map_map]
 exact List.map_id vs
theorem sort_rows {a:Addr} {vs:List Value} {ks:List (List Int)} {n:Nat} {P:PySem.Fin->Shared->Prop} (ho:s.heap.get? a=some (seqObj "list" vs.toArray n)) (hz:vs.length<=sizeLine)
   (hk:Paired (RowIs s.heap) vs ks) (hne:2<=vs.length->∀k∈ks,k≠[]) (hd:ks.Nodup)
   (h:∀h' out c,(∀b o,b≠a->s.heap.get? b=some o->h'.get? b=some o)->h'.get? a=some (seqObj "list" (List.toArray out) c)->out.Perm vs->out.Pairwise (fun x y=>lexB (rowOf s.heap x) (rowOf s.heap y)=true)->P (.done (.ret .none)) { s with heap:=h' }) :
   wpAny (model prog w) A (Builtin.«list.sort» ⟨[.ref a],[]⟩) P E s:=by
 have ha:a<s.heap.objs.size:=Heap.lt_size ho
 rw[list_sort_plain]
 refine wpAny_bind (listItems_at ho rfl ?_)
 refine wpAny_bind (listUpdate_at ho rfl ?_ (by rw[List.size_toArray];exact hz) (Nat.zero_le _))
 obtain⟨e1,ho1⟩:∃e1,(s.heap.update a (Obj.mapSeq fun _=>(#[]:Array Value))).get? a=some (seqObj "list" #[] e1):=⟨_,get?_update_seq ho fun _=>#[]⟩
 have k1:∀b o,b≠a->s.heap.get? b=some o->(s.heap.update a (Obj.mapSeq fun _=>(#[]:Array Value))).get? b=some o:=fun b o hb e=>(Heap.get?_update_other _ _ (Ne.symm hb)).trans e
 refine wpAny_bind (seqEpoch_at ho1 rfl ?_)
 refine wpAny_bind (wpAny_newTuple ?_ (by show vs.length<=_;exact hz))
 refine wpAny_bind (wpAny_newList ?_ (Nat.zero_le _))
 refine wpAny_holding ?_
 have ho2:(((s.heap.update a (Obj.mapSeq fun _=>(#[]:Array Value))).push (seqObj "tuple" vs.toArray 0)).push (seqObj "list" #[] 0)).get? a=some (seqObj "list" #[] e1):=Heap.get?_push_of_some _ (Heap.get?_push_of_some _ ho1)
 have k2:∀b o,b≠a->s.heap.get? b=some o->(((s.heap.update a (Obj.mapSeq fun _=>(#[]:Array Value))).push (seqObj "tuple" vs.toArray 0)).push (seqObj "list" #[] 0)).get? b=some o:=fun b o hb e =>
   Heap.get?_push_of_some _ (Heap.get?_push_of_some _ (k1 b o hb e))
 show wpAny (model prog w) A _ P E { s with heap:=((s.heap.update a (Obj.mapSeq fun _=>(#[]:Array Value))).push (seqObj "tuple" vs.toArray 0)).push (seqObj "list" #[] 0) }
 generalize((s.heap.update a (Obj.mapSeq fun _=>(#[]:Array Value))).push (seqObj "tuple" vs.toArray 0)).push (seqObj "list" #[] 0)=h3 at ho2 k2 ⊢
 have kt:∀b o,s.heap.get? b=some o->o.cls = .type "tuple"->h3.get? b=some o:=fun b o e hc=>k2 b o (fun z=>by
   rw[z,ho] at e
   cases e
   exact absurd (show Value.type "list" = Value.type "tuple" from hc) (by simp)) e
 have tail:∀(st:SortSt) (out:List Value),(arrOf st).map (·.2)=out.toArray->failedOf st=none->out.Perm vs->out.Pairwise (fun x y=>lexB (rowOf s.heap x) (rowOf s.heap y)=true) →
     wpAny (model prog w) A (do
       let sorted:=(arrOf st).map (·.2)
       let touched:=(<-seqEpoch a) != e1
       Builtin.List.listUpdate (.ref a) fun _=>sorted
       if let some e:=failedOf st then rule "list.sort.comparison-raised";throw e
       if touched then rule "list.sort.modified";raiseError "ValueError" "list modified during sort"
       ret .none) P E { s with heap:=h3 }:=fun st out h1 h2 h3' h4=>by
   dsimp only
   rw[h1]
   refine wpAny_bind (seqEpoch_at ho2 rfl ?_)
   refine wpAny_bind (listUpdate_at ho2 rfl ?_ (Nat.zero_le _) (by show out.toArray.size<=_;rw[List.size_toArray,h3'.length_eq];omega))
   rw[h2]
   simp only[bne_self_eq_false,Bool.false_eq_true,if_false]
   refine wpAny_pure ?_
   obtain⟨c,hc⟩:∃c,(h3.update a (Obj.mapSeq fun _=>out.toArray)).get? a=some (seqObj "list" out.toArray c):=⟨_,get?_update_seq ho2 fun _=>out.toArray⟩
   exact h _ out c (fun b o hb e=>(Heap.get?_update_other _ _ (Ne.symm hb)).trans (k2 b o hb e)) hc h3' h4
 dsimp only
 by_cases h2:vs.toArray.size<2
 . rw[if_pos h2,if_pos h2]
   refine wpAny_bind (wpAny_pure ?_)
   rw[StateT.run_pure]
   refine wpAny_bind (wpAny_pure ?_)
   refine tail _ vs ?_ rfl (.refl _) ?_
   . show(vs.toArray.zip vs.toArray).map (·.2)=vs.toArray
     apply Array.toList_inj.mp
     rw[Array.toList_map,show(vs.toArray.zip vs.toArray).toList=vs.zip vs by simp,zD1,zX8]
   . rw[List.size_toArray] at h2
     match vs,h2 with
     | [],_=>exact .nil
     | [_],_=>exact List.pairwise_singleton _ _
     | _::_::_,h2=>exact absurd h2 (by simp)
 . rw[if_neg h2,if_neg h2]
   rw[List.size_toArray] at h2
   have hk3:Paired (RowIs h3) vs ks:=L2P hk fun v k x=>x.keep kt
   obtain⟨fs,f1,f2,f3⟩:=rows_tups hk3 (hne (by omega))
   refine wpAny_bind (kat_kind (s:={ s with heap:=h3 }) (T:=.type "int") f1 (by omega) (fun v hv=>by obtain⟨m,t,rfl⟩:=f3 v hv;exact Looks.now) (by decide) ?_)
   have c:Cmp (model prog w) A { s with heap:=h3 } (tuples' (Value.type "int" != Value.type "tuple")) (fun x y=>lexB (rowOf s.heap x.1) (rowOf s.heap y.1)) (vs.toArray.zip vs.toArray).toList:=by
     rw[show(vs.toArray.zip vs.toArray).toList=vs.zip vs by simp,zD1]
     refine⟨fun x hx y hy=>?_,fun x y z=>yd5,fun x y=>lexB_as,?_⟩
     . obtain⟨x,hx',rfl⟩:=List.mem_map.mp hx
       obtain⟨y,hy',rfl⟩:=List.mem_map.mp hy
       obtain⟨kx,_,rx⟩:=zD2 hk x hx'
       obtain⟨ky,_,ry⟩:=zD2 hk y hy'
       refine rows_lt (s:={ s with heap:=h3 }) (rx.keep kt) (ry.keep kt) ⟨rfl,?_⟩
       rw[rx.row,ry.row]
     . rw[List.pairwise_map]
       have e:=rows_map hk
       rw[<-e] at hd
       have hd':vs.Pairwise fun x y=>rowOf s.heap x≠rowOf s.heap y:=List.pairwise_map.mp hd
       exact hd'.imp fun z=>yd6 z
   refine wpAny_bind (wpAny_mono (wp_sortRuns (E:=E) (Q:=fun _ st=>∃br pd g,st=SortSt.mk' (tuples' (Value.type "int" != Value.type "tuple")) br pd g none/\br.toList.Perm (vs.toArray.zip vs.toArray).toList/\br.toList.Pairwise (LtR fun x y=>lexB (rowOf s.heap x.1) (rowOf s.heap y.1))) c fun br pd g q1 q2=>⟨br,pd,g,rfl,q1,q2⟩) ?_ fun _ _ e=>e)
   rintro⟨⟨⟩,st⟩ s' ⟨rfl,br,pd,g,rfl,q1,q2⟩
   rw[show(vs.toArray.zip vs.toArray).toList=vs.zip vs by simp,zD1] at q1
   refine tail _ (br.toList.map (·.2)) ?_ rfl ?_ ?_
   . apply Array.toList_inj.mp
     simp
   . have:=q1.map (·.2)
     rw[zX8] at this
     exact this
   . rw[List.pairwise_map]
     refine q2.imp_of_mem fun {x y} hx hy z=>?_
     obtain⟨v,_,rfl⟩:=List.mem_map.mp (q1.mem_iff.mp hx)
     obtain⟨u,_,rfl⟩:=List.mem_map.mp (q1.mem_iff.mp hy)
     exact z
theorem sorted_rows {x:Value}{vs:List Value}{ks:List (List Int)}{Q:Value->Shared->Prop}(hz:vs.length<=sizeLine)(hk:Paired (RowIs s.heap) vs ks)(hne:2<=vs.length->∀k∈ks,k≠[])(hd:ks.Nodup)
   (hc:∀(R:List Value->Shared->Prop) (E:Value->Shared->Prop),(∀(h':Heap) (tk:Nat),(∀b o,s.heap.get? b=some o->h'.get? b=some o)->R vs { s with heap:=h',toks:=tk })->wpAny (model prog w) A.in1 (collect x) R E s)
   (h:∀(h1:Heap) (tk:Nat),(∀b o,s.heap.get? b=some o->h1.get? b=some o)->∀(h':Heap) (out:List Value) (c:Nat),(∀b o,h1.get? b=some o->h'.get? b=some o)->h'.get? h1.objs.size=some (seqObj "list" (List.toArray out) c)->out.Perm vs →
     out.Pairwise (fun x y=>lexB (rowOf s.heap x) (rowOf s.heap y)=true)->Q (.ref h1.objs.size) { s with heap:=h',toks:=tk }) :
   wpAny (model prog w) A (call (.builtin "sorted") [x]) Q E s:=by
 refine Calls.call_function_entry kind_sorted plain_sorted entry_sorted (args_sorted1 _) ?_
 unfold Builtin.«sorted»
 refine wpAny_bind (m:=checkCount "sorted" 1 1 _) (wpAny_pure ?_)
 refine wpAny_bind (hc _ _ fun h1 tk k1=>?_)
 refine wpAny_bind (wpAny_newList ?_ hz)
 have k2:∀b o,s.heap.get? b=some o->(h1.push (seqObj "list" vs.toArray 0)).get? b=some o:=fun b o e=>Heap.get?_push_of_some _ (k1 b o e)
 have ho:(h1.push (seqObj "list" vs.toArray 0)).get? h1.objs.size=some (seqObj "list" vs.toArray 0):=Heap.get?_push_size _ rfl
 show wpAny _ _ _ _ _ { s with heap:=h1.push (seqObj "list" vs.toArray 0),toks:=tk }
 have hk2:Paired (RowIs (h1.push (seqObj "list" vs.toArray 0))) vs ks:=L2P hk fun v k x=>x.keep fun b o e _=>k2 b o e
 have re:∀x y,x∈vs->y∈vs->lexB (rowOf (h1.push (seqObj "list" vs.toArray 0)) x) (rowOf (h1.push (seqObj "list" vs.toArray 0)) y)=true->lexB (rowOf s.heap x) (rowOf s.heap y)=true:=fun x y hx hy z=>by
   obtain⟨kx,_,rx⟩:=zD2 hk x hx
   obtain⟨ky,_,ry⟩:=zD2 hk y hy
   rw[(rx.keep fun b o e _=>k2 b o e).row,(ry.keep fun b o e _=>k2 b o e).row] at z
   rw[rx.row,ry.row]
   exact z
 refine wpAny_bind (wpAny_holding (wpAny_call_entry slot_list_sort ⟨_,ho,rfl⟩ entry_list_sort (sort_rows (s:={ s with heap:=h1.push (seqObj "list" vs.toArray 0),toks:=tk }) ho hz hk2 hne hd fun h' out c k3 ho' hp hs=>⟨_,rfl,?_⟩) (args_list_sort _)))
 refine wpAny_pure ⟨_,rfl,h h1 tk k1 h' out c (fun b o e=>k3 b o (Nat.ne_of_lt (Heap.lt_size e)) (Heap.get?_push_of_some _ e)) ho' hp ?_⟩
 exact hs.imp_of_mem fun {x y} hx hy z=>re x y (hp.mem_iff.mp hx) (hp.mem_iff.mp hy) z
end
end Sx
namespace L2
open PySem PySem.Spec PyProof.Rows
section
variable {κ:Type} [DecidableEq κ]
noncomputable def valV (kvs:List (κ×V))(k:κ):Option V:=(kvs.find? fun kv=>decide (kv.1=k)).map (·.2)
noncomputable def putK (kvs:List (κ×V))(k:κ)(v:V):List (κ×V) :=
 if (kvs.any fun kv=>decide (kv.1=k))=true then kvs.map (fun kv=>if kv.1=k then(kv.1,v) else kv) else kvs++[(k,v)]
theorem zD3 {p:κ×V}{r:List (κ×V)}{k:κ}(e:p.1=k):valV (p::r) k=some p.2:=by simp[valV,List.find?_cons,e]
theorem zw7 {p:κ×V}{r:List (κ×V)}{k:κ}(e:¬ p.1=k):valV (p::r) k=valV r k:=by simp[valV,List.find?_cons,e]
theorem zL0 (k:κ):∀kvs:List (κ×V),(kvs.any fun kv=>decide (kv.1=k))=(valV kvs k).isSome
 | []=>rfl
 | p::r=>by
   rw[List.any_cons]
   by_cases e:p.1=k
   . simp only[zD3 e,decide_eq_true e,Bool.true_or,Option.isSome_some]
   . rw[zw7 e,decide_eq_false e,Bool.false_or];exact zL0 k r
theorem zH7 (kvs:List (κ×V))(k:κ)(v:V):(putK kvs k v).length<=kvs.length+1:=by
 unfold putK
 split
 . rw[List.length_map];omega
 . rw[List.length_append,List.length_cons,List.length_nil];omega
theorem putK_new {kvs:List (κ×V)}{k:κ}(v:V)(h:valV kvs k=none):putK kvs k v=kvs++[(k,v)]:=by
 unfold putK
 rw[zL0,h]
 exact if_neg (by decide)
theorem RelO.isSome_eq {o:Option V}{u:Option Value}(r:RelO o u):o.isSome=u.isSome:=by
 cases o with
 | none=>cases u with
   | none=>rfl
   | some _=>exact(show False from r).elim
 | some _=>cases u with
   | none=>exact(show False from r).elim
   | some _=>rfl
theorem KV.val {kvs:List (κ×V)}{vs:List (κ×Value)}(r:KV kvs vs)(k:κ):RelO (valV kvs k) (valueAt vs k):=by
 unfold KV at r
 induction r with
 | nil=>exact True.intro
 | @cons p q ps qs h t ih =>
   obtain⟨h1,h2⟩:=h
   by_cases e:p.1=k
   . have e':q.1=k:=h1.symm.trans e
     have b:valueAt (q::qs) k=some q.2:=by simp[valueAt,List.find?_cons,e']
     rw[zD3 e,b];exact h2
   . have e':¬ q.1=k:=fun z=>e (h1.trans z)
     have b:valueAt (q::qs) k=valueAt qs k:=by simp[valueAt,List.find?_cons,e']
     rw[zw7 e,b];exact ih
theorem KV.any {kvs:List (κ×V)}{vs:List (κ×Value)}(r:KV kvs vs)(k:κ):(kvs.any fun kv=>decide (kv.1=k))=vs.any fun kv=>decide (kv.1=k):=by
 unfold KV at r
 induction r with
 | nil=>rfl
 | cons h t ih=>rw[List.any_cons,List.any_cons,ih,h.1]
theorem KV.repl {kvs:List (κ×V)}{vs:List (κ×Value)}(r:KV kvs vs)(k:κ){y:V}{u:Value}(ry:RelV y u) :
   KV (kvs.map fun kv=>if kv.1=k then(kv.1,y) else kv) (vs.map fun kv=>if kv.1=k then(kv.1,u) else kv):=by
 unfold KV at r ⊢
 induction r with
 | nil=>exact .nil
 | @cons p q ps qs h t ih =>
   rw[List.map_cons,List.map_cons]
   refine .cons ?_ ih
   obtain⟨h1,h2⟩:=h
   by_cases e:p.1=k
   . rw[if_pos e,if_pos (h1.symm.trans e)];exact⟨h1,ry⟩
   . rw[if_neg e,if_neg (fun z=>e (h1.trans z))];exact⟨h1,h2⟩
theorem KV.put {kvs:List (κ×V)}{vs:List (κ×Value)}(r:KV kvs vs)(k:κ){y:V}{u:Value}(ry:RelV y u):KV (putK kvs k y) (stored vs k u):=by
 unfold putK stored
 rw[r.any k]
 by_cases e:(vs.any fun kv=>decide (kv.1=k))=true
 . rw[if_pos e,if_pos e];exact r.repl k ry
 . rw[if_neg e,if_neg e];exact Paired.snoc r ⟨rfl,ry⟩
theorem KV.length {kvs:List (κ×V)}{vs:List (κ×Value)}(r:KV kvs vs):kvs.length=vs.length:=Paired.length r
end
theorem yd7 {P:Program}{w:World}{k:Key}{u:Value}(r:RelV (kV k) u):(ze8 P w).is k u=true:=by
 cases k with
 | inl i=>obtain⟨t,e⟩:=(show ∃t,u=Value.int i t from r);subst e;exact mixKind_int P w i t
 | inr x=>obtain⟨t,e⟩:=(show ∃t,u=Value.str x t from r);subst e;exact mixKind_str P w x t
theorem zO9 {P:Program}{w:World}:∀ {ks:List Key} {us:List Value},Vals (ks.map kV) us->ItemsAre (ze8 P w) ks us
 | [],_,r=>by rw[List.map_nil] at r;cases r;exact .nil
 | k::ks,_,r=>by
   rw[List.map_cons] at r
   cases r with
   | cons h t=>exact .cons (yd7 h) (zO9 t)
noncomputable abbrev KT (H:Hp):List (List Key×V)->List (List Key×Addr×Value)->Prop:=Paired fun p q=>p.1=q.1/\H q.2.1=some (.tup (p.1.map kV))/\RelV p.2 q.2.2
theorem KT.val {H:Hp}{kvs:List (List Key×V)}{xs:List (List Key×Addr×Value)}(r:KT H kvs xs)(k:List Key):RelO (valV kvs k) ((atKey xs k).map (·.2)):=by
 induction r with
 | nil=>exact True.intro
 | @cons p q ps qs h t ih =>
   obtain⟨h1,_,h2⟩:=h
   by_cases e:p.1=k
   . have e':q.1=k:=h1.symm.trans e
     have b:atKey (q::qs) k=some q.2:=by simp[atKey,List.find?_cons,e']
     rw[zD3 e,b];exact h2
   . have e':¬ q.1=k:=fun z=>e (h1.trans z)
     have b:atKey (q::qs) k=atKey qs k:=by simp[atKey,List.find?_cons,e']
     rw[zw7 e,b];exact ih
theorem KT.repl {H:Hp}{kvs:List (List Key×V)}{xs:List (List Key×Addr×Value)}(r:KT H kvs xs)(k:List Key){y:V}{u:Value}(ry:RelV y u) :
   KT H (kvs.map fun kv=>if kv.1=k then(kv.1,y) else kv) (xs.map (putAt k u)):=by
 induction r with
 | nil=>exact .nil
 | @cons p q ps qs h t ih =>
   rw[List.map_cons,List.map_cons]
   refine .cons ?_ ih
   obtain⟨h1,h2,h3⟩:=h
   unfold putAt
   by_cases e:p.1=k
   . rw[if_pos e,if_pos (h1.symm.trans e)];exact⟨h1,h2,ry⟩
   . rw[if_neg e,if_neg (fun z=>e (h1.trans z))];exact⟨h1,h2,h3⟩
theorem KT.put {H:Hp}{kvs:List (List Key×V)}{xs:List (List Key×Addr×Value)}(r:KT H kvs xs)(k:List Key){b:Addr}{y:V}{u:Value}(hb:H b=some (.tup (k.map kV)))(ry:RelV y u) :
   KT H (putK kvs k y) (storedH xs k b u):=by
 have e:(kvs.any fun kv=>decide (kv.1=k))=(atKey xs k).isSome:=by
   rw[zL0,(r.val k).isSome_eq,Option.isSome_map]
 unfold putK storedH
 rw[e]
 by_cases q:(atKey xs k).isSome=true
 . rw[if_pos q,if_pos q];exact r.repl k ry
 . rw[if_neg q,if_neg q];exact Paired.snoc r ⟨rfl,hb,ry⟩
theorem KT.keeps {H H':Hp}{kvs:List (List Key×V)}{xs:List (List Key×Addr×Value)}(r:KT H kvs xs)(ht:∀b ys,H b=some (.tup ys)->H' b=some (.tup ys)):KT H' kvs xs :=
 Paired.mapP r fun _ _ z=>⟨z.1,ht _ _ z.2.1,z.2.2⟩
section
variable {P:Program} {w:World} {H:Hp} {h:Heap} {a:Addr}
theorem yl0 {u:HO}(ok:HOk P w H h)(e:Rd H a u):ze9 P w H h a u:=e.ok ok
theorem yd8 {kvs:List (Key×V)}(ok:HOk P w H h)(e:Rd H a (.dK kvs)):kvs.length<=sizeLine/\(a == sysModules)=false/\∃vs,KV kvs vs/\h.DictOf (ze8 P w) a vs :=
 show ze9 P w H h a (.dK kvs) from yl0 ok e
theorem dk_of {kvs:List (Key×V)}(ok:HOk P w H h)(e:H a=some (.dK kvs)):kvs.length<=sizeLine/\(a == sysModules)=false/\∃vs,KV kvs vs/\h.DictOf (ze8 P w) a vs:=yd8 ok (.inl e)
theorem zF6 {ks:List Key}(ok:HOk P w H h)(e:H a=some (.tup (ks.map kV))):(tupleKind (ze8 P w)).is h ks a:=by
 obtain⟨_,its,r,o,h1,h2,_,n,h3⟩:=(show ze9 P w H h a (.tup (ks.map kV)) from ok a _ e)
 exact⟨o,its.toArray,n,h1,h2,h3,by simpa using zO9 r⟩
theorem yd9 {kvs:List (List Key×V)}(ok:HOk P w H h)(e:Rd H a (.dT kvs)):kvs.length<=sizeLine/\(a == sysModules)=false ∧
   ∃xs,KT H kvs xs/\h.DictOfH (tupleKind (ze8 P w)) a xs:=by
 obtain⟨z,y,xs,r,o,es,ep,h1,h2,h3,h4,h5⟩:=(show ze9 P w H h a (.dT kvs) from yl0 ok e)
 refine⟨z,y,xs,r,o,es,ep,h1,h2,h3,h4,fun x hx=>?_,h5⟩
 have all:∀ {l:List (List Key×V)} {m:List (List Key×Addr×Value)},KT H l m->∀x∈m,(tupleKind (ze8 P w)).is h x.1 x.2.1:=by
   intro l m q
   induction q with
   | nil=>intro x hx;exact nomatch hx
   | @cons p q ps qs hq t ih =>
     intro x hx
     rcases List.mem_cons.mp hx with e | hx
     . subst e
       exact zF6 ok (by rw[<-hq.1];exact hq.2.1)
     . exact ih x hx
 exact all r x hx
theorem yl1 {kvs:List (List Key×V)}(ok:HOk P w H h)(e:H a=some (.dT kvs)):kvs.length<=sizeLine/\(a == sysModules)=false ∧
 ∃xs,KT H kvs xs/\h.DictOfH (tupleKind (ze8 P w)) a xs:=yd9 ok (.inl e)
end
noncomputable def DGet (H:Hp)(a:Addr)(y:V)(r:Option V):Prop :=
 (∃kvs k,Rd H a (.dK kvs)/\y=kV k/\r=valV kvs k)\/∃kvs k b,Rd H a (.dT kvs)/\y = .ref b/\H b=some (.tup (k.map kV))/\r=valV kvs k
noncomputable def DPut (H:Hp)(a:Addr)(y v:V)(H':Hp):Prop :=
 (∃kvs k,H a=some (.dK kvs)/\y=kV k/\kvs.length<sizeLine/\H'=upd H a (.dK (putK kvs k v))) ∨
 ∃kvs k b,H a=some (.dT kvs)/\y = .ref b/\H b=some (.tup (k.map kV))/\kvs.length<sizeLine/\H'=upd H a (.dT (putK kvs k v))
theorem DGet.t {H:Hp}{a b:Addr}{kvs:List (List Key×V)}{k:List Key}(e:H a=some (.dT kvs))(eb:H b=some (.tup (k.map kV))):DGet H a (.ref b) (valV kvs k):=.inr ⟨kvs,k,b,.inl e,rfl,eb,rfl⟩
theorem DPut.t {H:Hp}{a b:Addr}{kvs:List (List Key×V)}{k:List Key}{v:V}(e:H a=some (.dT kvs))(eb:H b=some (.tup (k.map kV)))(hl:kvs.length<sizeLine) :
 DPut H a (.ref b) v (upd H a (.dT (putK kvs k v))):=.inr ⟨kvs,k,b,e,rfl,eb,hl,rfl⟩
section
variable {X:Cx} {pins:List (Addr×Obj)} {σ:St} {H:Hp} {s:Shared} {a:Addr} {y v:V} {u r:Value} {o:Option V} {A:Around} {E:Value->Shared->Prop}
theorem Inv.big (I:Inv X pins σ H s):sysModules<s.heap.objs.size:=by
 have h:mainGlobals<s.heap.objs.size:=(I.mod.glob.keeps I.bk).lt
 exact Nat.lt_trans (by decide) h
theorem d_getItem {Q:Value->Shared->Prop}(hu:A.units+1<cLine)(I:Inv X pins σ H s)(g:DGet H a y (some v))(ry:RelV y u)(h:∀w' s',Inv X pins σ H s'->RelV v w'->Q w' s') :
   wpAny (model X.prog X.w) A (getItem (.ref a) u) Q E s:=by
 rcases g with⟨kvs,k,e,ey,l⟩ | ⟨kvs,k,b,e,ey,eb,l⟩
 . subst ey
   obtain⟨z,hd,vs,rel,dd⟩:=yd8 I.hok e
   obtain⟨w',hw,rw'⟩:=RelO.some_of (v:=v) (o:=valueAt vs k) (by rw[l];exact rel.val k)
   exact wpAny_getItem_of (yd7 ry) dd.mapOf hw (h w' _ (I.tok _) rw')
 . subst ey
   cases (show u=Value.ref b from ry)
   obtain⟨z,hd,xs,rel,dd⟩:=yd9 I.hok e
   obtain⟨w',hw,rw'⟩:=RelO.some_of (v:=v) (o:=(atKey xs k).map (·.2)) (by rw[l];exact rel.val k)
   obtain⟨p,hp,hp2⟩:=Option.map_eq_some_iff.mp hw
   refine wpAny_getItem_heap (tupleKind_room_in1 hu) (zF6 I.hok eb) dd hp ?_
   rw[hp2]
   exact h w' _ (I.tok _) rw'
theorem d_notIn {Q:Value->Shared->Prop}(hu:A.units+1<cLine)(I:Inv X pins σ H s)(g:DGet H a y o)(ry:RelV y u)(h:∀s',Inv X pins σ H s'->Q (.bool (!o.isSome)) s') :
   wpAny (model X.prog X.w) A (compareOp .NotIn u (.ref a)) Q E s:=by
 rcases g with⟨kvs,k,e,ey,l⟩ | ⟨kvs,k,b,e,ey,eb,l⟩
 . subst ey
   obtain⟨z,hd,vs,rel,dd⟩:=yd8 I.hok e
   refine wpAny_notIn_of (yd7 ry) hd dd.mapOf ?_
   rw[<-(rel.val k).isSome_eq,<-l]
   exact h _ (I.tok _)
 . subst ey
   cases (show u=Value.ref b from ry)
   obtain⟨z,hd,xs,rel,dd⟩:=yd9 I.hok e
   refine wpAny_notIn_heap (tupleKind_room_in1 hu) (zF6 I.hok eb) hd dd ?_
   have q:=(rel.val k).isSome_eq
   rw[Option.isSome_map] at q
   rw[<-q,<-l]
   exact h _ (I.tok _)
theorem zU5 {h':Heap}{t':Nat}{ob:HO}(I:Inv X pins σ H s)(mu:Mut (H a))(hs:Heap.SameBut a s.heap h')(he:∃q,h'.get? a=some q)(new:ze9 X.prog X.w (upd H a ob) h' a ob) :
   Inv X pins σ (upd H a ob) { s with heap:=h',toks:=t' } :=
 I.write (x:=a) (e:=a) mu (.inl rfl) (fun b q hb z=>(hs.2 b hb).trans z) he new
theorem dk_new {P:Program}{w:World}{H':Hp}{h':Heap}{kvs:List (Key×V)}{vs:List (Key×Value)}(z:kvs.length<=sizeLine)(hd:(a == sysModules)=false)(rel:KV kvs vs)(dd:h'.DictOf (ze8 P w) a vs) :
 ze9 P w H' h' a (.dK kvs):=⟨z,hd,vs,rel,dd⟩
theorem d_setItem {H':Hp}{Q:Unit->Shared->Prop}(hu:A.units+1<cLine)(I:Inv X pins σ H s)(g:DPut H a y v H')(ry:RelV y u)(rv:RelV v r)(h:∀s',Inv X pins σ H' s'->Q () s') :
   wpAny (model X.prog X.w) A (setItem (.ref a) u r) Q E s:=by
 rcases g with⟨kvs,k,e,ey,l,eH⟩ | ⟨kvs,k,b,e,ey,eb,l,eH⟩
 . subst ey eH
   obtain⟨z,hd,vs,rel,dd⟩:=dk_of I.hok e
   have hz:vs.length<=sizeLine:=by rw[<-rel.length];exact z
   have hl:(putK kvs k v).length<=sizeLine:=by have:=zH7 kvs k v;omega
   refine wpAny_setItem_pairs (hsz:=hz) (yd7 ry) dd fun h' dd' hs=>h _ ?_
   have he:∃q,h'.get? a=some q:=let⟨q,_,_,hq,_⟩:=dd';⟨q,hq⟩
   exact zU5 I (by rw[e];exact True.intro) hs he (dk_new hl hd (rel.put k rv) dd')
 . subst ey eH
   cases (show u=Value.ref b from ry)
   obtain⟨z,hd,xs,rel,dd⟩:=yl1 I.hok e
   have hz:xs.length<=sizeLine:=by rw[<-Paired.length rel];exact z
   have hl:(putK kvs k v).length<=sizeLine:=by have:=zH7 kvs k v;omega
   refine wpAny_setItem_heap (hsz:=hz) (tupleKind_room_in1 hu) (zF6 I.hok eb) dd fun h' dd' hs=>h _ ?_
   obtain⟨q,es,ep,hq,h2,h3,h4,_,h5⟩:=dd'
   refine zU5 I (by rw[e];exact True.intro) hs ⟨q,hq⟩ ⟨hl,hd,_,(rel.put k eb rv).keeps fun c ys ec=>?_,q,es,ep,hq,h2,h3,h4,h5⟩
   rw[za9 (yg3 ec e (fun z=>nomatch z))]
   exact ec
end
noncomputable def NoSl (i:Expr):Prop:=∀ov iv,subscripted i false ov iv=operate [ov,iv] (getItem ov iv)
theorem subD_of {prog:Program}{w:World}{A:Around}{E:Value->Shared->Prop}{s:Shared}{env:Env}{value slice:Expr}{pos:Pos}{T id:String}{Q:Value->Shared->Prop}
   (hl:typeLookup (.type T) "__getitem__" = pure (some (.builtin id))) (hs:NoSl slice)
   (h:wpAny (model prog w) A (eval value env) (fun o s₁=>wpAny (model prog w) A (eval slice env) (fun i s₂=>s₂.TypeIs o T/\wpAny (model prog w) A (getItem o i) Q E s₂) E s₁) E s) :
   wpAny (model prog w) A (eval (.Subscript value slice pos) env) Q E s:=by
 refine Subscript_ (wpAny_mono h (fun o s₁ h₁=>wpAny_mono h₁ (fun i s₂ h₂=>?_) fun _ _ x=>x) fun _ _ x=>x)
 obtain⟨hT,h₂⟩:=h₂
 unfold subscriptTail
 refine wpAny_bind ?_
 rw[getitemInPython_of_ne hT.not_modules]
 refine wpAny_bind (wpAny_specialOf hT hl ?_)
 have fin:wpAny (model prog w) A (subscripted slice false o i) (fun r s₃=>wpAny (model prog w) A (letTemporaryGo value o r >>= fun _=>pure r) Q E s₃) E s₂:=by
   rw[hs o i]
   exact wpAny_operating (wpAny_mono h₂ (fun r s₃ h₃=>wpAny_bind (wpAny_letTemporaryGo (wpAny_pure h₃))) fun _ _ x=>x)
 first
   | exact wpAny_pure (wpAny_bind fin)
   | exact wpAny_bind (wpAny_pure (wpAny_bind fin))
   | exact wpAny_bind fin
theorem dict_typeIs {X:Cx} {pins:List (Addr×Obj)} {σ:St} {H:Hp} {s:Shared} {a:Addr} {y:V} {o:Option V} (I:Inv X pins σ H s) (g:DGet H a y o):s.TypeIs (.ref a) "dict":=by
 rcases g with⟨kvs,k,e,_,_⟩ | ⟨kvs,k,b,e,_,_,_⟩
 . obtain⟨_,_,vs,_,dd⟩:=yd8 I.hok e
   exact dd.typeIs
 . obtain⟨_,_,xs,_,dd⟩:=yd9 I.hok e
   exact dd.typeIs
noncomputable def tDGet (td ty:TE):TE:=fun σ H Q=>td σ H fun x H1=>ty σ H1 fun y H2=>∃a v,x = .ref a/\DGet H2 a y (some v)/\Q v H2
noncomputable def tDNotIn (ty td:TE):TE:=fun σ H Q=>ty σ H fun y H1=>td σ H1 fun x H2=>∃a o,x = .ref a/\DGet H2 a y o/\Q (.bl (!o.isSome)) H2
noncomputable def sDPut (td ty tv:TE):TS:=fun D σ H=>tv σ H fun v H1=>td σ H1 fun x H2=>ty σ H2 fun y H3=>∃a H4,x = .ref a/\DPut H3 a y v H4/\D.nx σ H4
section
variable {X:Cx} {o i e value:Expr} {pos pos' tpos:Pos} {td ty tv:TE}
theorem zU6 (hu:X.A.units+1<cLine)(ho:PE X o td)(hi:PE X i ty)(hs:NoSl i):PE X (.Subscript o i pos) (tDGet td ty):=by
 intro pins s σ H Q I h
 refine subD_of PySem.F.slot_dict_getitem.lookup hs (thn (ho pins s σ H _ I h) fun u s1 ⟨x,H1,I1,rx,q1⟩=>thn (hi pins s1 σ H1 _ I1 q1) fun iv s2 ⟨y,H2,I2,ry,a,v,ex,g,q2⟩=>?_)
 subst ex
 obtain rfl:u=Value.ref a:=rx
 exact⟨dict_typeIs I2 g,d_getItem hu I2 g ry fun w' s3 I3 rw'=>⟨v,H2,I3,rw',q2⟩⟩
theorem zF7 (hu:X.A.units+1<cLine)(hi:PE X i ty)(ho:PE X o td):PC X .NotIn i o (tDNotIn ty td):=by
 intro pins s σ H Q I h
 refine thn (hi pins s σ H _ I h) fun iv s1 ⟨y,H1,I1,ry,q1⟩=>thn (ho pins s1 σ H1 _ I1 q1) fun u s2 ⟨x,H2,I2,rx,a,ov,ex,g,q2⟩=>?_
 subst ex
 obtain rfl:u=Value.ref a:=rx
 exact d_notIn hu I2 g ry fun s3 I3=>⟨.bl (!ov.isSome),H2,I3,rfl,q2⟩
theorem ps_dput (hu:X.A.units+1<cLine)(ho:PE X o td)(hi:PE X i ty)(hv:PE X value tv)(hs:swapsWith value (some (.Subscript o i pos')) pos.line X.env=pure false) :
   PS X (.Assign [.Subscript o i pos'] value pos) (sDPut td ty tv):=by
 intro pins s σ H D I h
 refine wpAny_Assign_Subscript (thn (hv pins s σ H _ I h) fun r s1 ⟨v,H1,I1,rv,q1⟩=>thn (ho pins s1 σ H1 _ I1 q1) fun u s2 ⟨x,H2,I2,rx,q2⟩=>thn (hi pins s2 σ H2 _ I2 q2) fun iv s3 ⟨y,H3,I3,ry,a,H4,ex,g,q3⟩=>?_) hs
 subst ex
 obtain rfl:u=Value.ref a:=rx
 exact d_setItem hu I3 g ry rv fun s4 I4=>⟨σ,H4,I4,q3⟩
end
theorem dt_empty {P:Program} {w:World} {H:Hp} (h:Heap) (hb:sysModules<h.objs.size):ze9 P w H (h.push { cls:=.type "dict",data:=.dict #[] }) h.objs.size (.dT []) :=
 ⟨Nat.zero_le _,beq_eq_false_iff_ne.mpr (Ne.symm (Nat.ne_of_lt hb)),[],.nil,_,#[],0,Heap.get?_push_size _ rfl,⟨rfl,rfl,rfl⟩,rfl,rfl,List.nodup_nil⟩
noncomputable abbrev ik (k:List Int):List Key:=k.map Sum.inl
theorem zP0 (k:List Int):(ik k).map kV=k.map V.int:=by
 unfold ik
 rw[List.map_map]
 rfl
noncomputable def tDisp1 (tk tv:TE):TE:=fun σ H Q=>∀p,H p=none->tk σ (upd H p (.dT [])) fun x H1=>tv σ H1 fun y H2=>H2 p=some (.dT [])/\∃b k,x = .ref b/\H2 b=some (.tup (k.map V.int))/\Q (.ref p) (upd H2 p (.dT [(ik k,y)]))
theorem pe_disp1 {X:Cx}{pos:Pos}{ke ve:Expr}{tk tv:TE}(hu:X.A.units+1<cLine)(hk:PE X ke tk)(hv:PE X ve tv):PE X (.Dict [some ke] [ve] pos) (tDisp1 tk tv):=by
 intro pins s σ H Q I q
 have hn:=I.hok.fresh (Nat.le_refl s.heap.objs.size)
 have I1:=I.laid (a:=s.heap.objs.size) (o:=.dT []) (h':=s.heap.push { cls:=.type "dict",data:=.dict #[] }) (t':=s.toks) (fun _ _ q=>Heap.get?_push_of_some _ q) (Nat.le_refl _) (dt_empty s.heap I.big)
 rw[arm_eval_Dict,zip_pairTrees [some ke] [ve] X.env pos rfl rfl,dictDisplay_pairs _ (by intro z;cases z) (by show(1:Nat)<17;decide)]
 refine wpAny_bind (wpAny_standAt (wpAny_bind ?_))
 unfold subDict
 refine wpAny_bind (wpAny_alloc (wpAny_bind (wpAny_holding ?_)))
 rw[if_pos (by show(1:Nat)<=15;decide)]
 refine wpAny_bind (pairTrees_cons_walk (thn (hk pins _ σ _ _ I1 (q _ hn)) fun u s1 ⟨x,H1,I2,rx,q1⟩=>thn (hv pins s1 σ H1 _ I2 q1) fun r s2 ⟨y,H2,I3,ry,e,b,k,ex,eb,q2⟩=>pairTrees_nil_walk ?_))
 subst ex
 obtain rfl:u=Value.ref b:=rx
 refine wpAny_holding ?_
 rw[List.forIn_cons]
 obtain⟨z,hd,xs,rel,dd⟩:=yl1 I3.hok e
 cases rel
 have eb':H2 b=some (.tup ((ik k).map kV)):=by rw[zP0];exact eb
 refine wpAny_bind (wpAny_bind (wpAny_bind (wpAny_dictSet_heap (hsz:=Nat.zero_le _) (show(tupleKind (ze8 X.prog X.w)).room X.A from Nat.lt_of_succ_lt hu) (zF6 I3.hok eb') dd fun h' dd' hs=>wpAny_pure ?_)))
 dsimp only
 rw[List.forIn_nil]
 refine wpAny_pure (wpAny_pure (wpAny_pure (wpAny_pure ⟨.ref s.heap.objs.size,_,?_,rfl,q2⟩)))
 have g:DPut H2 s.heap.objs.size (.ref b) y _:=DPut.t e eb' (by show 0<sizeLine;rw[sizeLine_eq];decide)
 obtain⟨qo,es,ep,hq,h2,h3,h4,_,h5⟩:=dd'
 refine zU5 I3 (by rw[e];exact True.intro) hs ⟨qo,hq⟩ ⟨by show 1<=sizeLine;rw[sizeLine_eq];decide,hd,_,((KT.put (H:=H2) .nil (ik k) eb' ry)).keeps fun c ys ec=>?_,qo,es,ep,hq,h2,h3,h4,h5⟩
 rw[za9 (yg3 ec e (fun z=>nomatch z))]
 exact ec
noncomputable abbrev Tups (H:Hp)(ys:List V)(ks:List (List Int)):Prop:=Paired (fun y k=>∃b,y = .ref b/\H b=some (.tup (k.map V.int))) ys ks
theorem yi8 {P:Program}{w:World}{H:Hp}{h:Heap}{b:Addr}{k:List Int}(ok:HOk P w H h)(e:H b=some (.tup (k.map V.int))):Sx.RowIs h (.ref b) k:=by
 obtain⟨_,its,r,o,h1,h2,_,n,h3⟩:=(show ze9 P w H h b (.tup (k.map V.int)) from ok b _ e)
 exact⟨b,o,its.toArray,n,rfl,h1,h2,h3,by simpa using zm2 r⟩
theorem zX9 {P:Program}{w:World}{H:Hp}{h:Heap}(ok:HOk P w H h):∀ {ys:List V} {ks:List (List Int)} {us:List Value},Tups H ys ks->Vals ys us->Paired (Sx.RowIs h) us ks
 | _,_,_,.nil,.nil=>.nil
 | _,_,_,.cons ⟨b,e,hb⟩ t,.cons r rs=>by
   subst e
   cases r
   exact .cons (yi8 ok hb) (zX9 ok t rs)
noncomputable def refV:Value->V
 | .ref b=>.ref b
 | _=>.non
theorem Tups.mem {H:Hp}:∀ {ys:List V} {ks:List (List Int)},Tups H ys ks->∀y∈ys,∃b k,y = .ref b/\k∈ks/\H b=some (.tup (k.map V.int))
 | _,_,.nil,y,hy=>nomatch hy
 | _,_,.cons ⟨b,e,hb⟩ t,y,hy=>by
   rcases List.mem_cons.mp hy with rfl | hy
   . exact⟨b,_,e,.head _,hb⟩
   . obtain⟨b',k',e',hk,hb'⟩:=Tups.mem t y hy
     exact⟨b',k',e',.tail _ hk,hb'⟩
theorem zY0:∀ {ys:List V} {us:List Value},Vals ys us->∀u∈us,∃y∈ys,RelV y u
 | _,_,.nil,u,hu=>nomatch hu
 | _,_,.cons r t,u,hu=>by
   rcases List.mem_cons.mp hu with rfl | hu
   . exact⟨_,.head _,r⟩
   . obtain⟨y,hy,ry⟩:=zY0 t u hu
     exact⟨y,.tail _ hy,ry⟩
theorem ye0 {P:Program}{w:World}{H:Hp}{h:Heap}(ok:HOk P w H h):∀(out:List Value),(∀u∈out,∃b k,u = .ref b/\H b=some (.tup (List.map V.int k)))->Tups H (out.map refV) (out.map (Sx.rowOf h))/\Vals (out.map refV) out
 | [],_=>⟨.nil,.nil⟩
 | u::out,hu=>by
   obtain⟨b,k,rfl,hb⟩:=hu u (.head _)
   obtain⟨t,v⟩:=ye0 ok out fun u hu'=>hu u (.tail _ hu')
   rw[List.map_cons,List.map_cons]
   refine⟨.cons ⟨b,rfl,?_⟩ t,.cons rfl v⟩
   rw[(yi8 ok hb).row]
   exact hb
noncomputable def yi9 (H:Hp)(ks:List (List Int))(Q:VK):Prop:=∀l zs js,H l=none->Tups H zs js->js.Perm ks->js.Pairwise (fun x y=>Sx.lexB x y=true)->Q (.ref l) (upd H l (.lst zs))
section
variable {X:Cx}
theorem zP1 {pins:List (Addr×Obj)}{s:Shared}{σ:St}{H:Hp}{Q:VK}{x:Value}{ys:List V}{ks:List (List Int)}{us:List Value}(I:Inv X pins σ H s)(hz:ys.length<=sizeLine)(ht:Tups H ys ks)(hv:Vals ys us)(hd:ks.Nodup)(hne:2<=ys.length->∀k∈ks,k≠[])
   (hc:∀(R:List Value->Shared->Prop) (E:Value->Shared->Prop),(∀(h':Heap) (tk:Nat),(∀b o,s.heap.get? b=some o->h'.get? b=some o)->R us { s with heap:=h',toks:=tk })->wpAny (model X.prog X.w) X.A.in1 (collect x) R E s)
   (q:yi9 H ks Q):wpAny (model X.prog X.w) X.A (call (.builtin "sorted") [x]) (EP X pins σ Q) X.xe s:=by
 have hl:=hv.length
 have hr:=zX9 I.hok ht hv
 refine Sx.sorted_rows (by omega) hr (fun z=>hne (by omega)) hd hc fun h1 tk k1 h' out c k2 ho hp hs=>?_
 have mem:∀u∈out,∃b k,u = .ref b/\H b=some (.tup (List.map V.int k)):=fun u hu=>by
   obtain⟨y,hy,ry⟩:=zY0 hv u (hp.mem_iff.mp hu)
   obtain⟨b,k,rfl,_,hb⟩:=ht.mem y hy
   exact⟨b,k,ry,hb⟩
 obtain⟨t1,t2⟩:=ye0 I.hok out mem
 have I1:Inv X pins σ H { s with heap:=h1,toks:=tk }:=I.kept k1
 have e1:=hp.map (Sx.rowOf s.heap)
 rw[Sx.rows_map hr] at e1
 refine⟨.ref h1.objs.size,_,I1.laid (s:={ s with heap:=h1,toks:=tk }) (t':=tk) (o:=.lst (out.map refV)) k2 (Nat.le_refl _) (show ze9 X.prog X.w _ h' _ (.lst _) from⟨?_,out,c,t2,ho⟩),rfl,q h1.objs.size _ _ (I1.hok.fresh (Nat.le_refl _)) t1 e1 (List.pairwise_map.mpr hs)⟩
 rw[List.length_map,hp.length_eq]
 omega
theorem zL1:zl1 X (.builtin "sorted") (fun xs H Q=>∃p ys ks,xs=[.ref p]/\SqL X.K H p ys/\Tups H ys ks/\ks.Nodup/\(2<=ys.length->∀k∈ks,k≠[])/\yi9 H ks Q):=by
 intro pins s σ H xs us Q I r h
 obtain⟨p,ys,ks,rfl,hq,ht,hd,hne,q⟩:=h
 obtain⟨u,rfl,ru⟩:=zr6 r
 cases ru
 obtain⟨its,rv,pl,hz⟩:=I.list hq
 refine zP1 I hz ht rv hd hne (fun R E hR=>?_) q
 have hl:=rv.length
 have e:(s.heap.push (seqObj "list" #[] 0)).objs.size=s.heap.objs.size+1:=size_push' _ _
 refine collect_list pl.isList (hR _ s.toks fun b o z=>?_) (by omega)
 rw[Heap.get?_update_ne _ _ _ _ (Nat.ne_of_lt (Heap.lt_size z))]
 exact Heap.get?_push_of_some _ z
theorem zP2 {P:Program}{w:World}:∀ {H:Hp} {kvs:List (List Key×V)} {xs:List (List Key×Addr×Value)},KT H kvs xs->∀ {ks:List (List Int)},kvs.map (·.1)=ks.map ik →
   Tups H (xs.map fun x=>V.ref x.2.1) ks/\Vals (xs.map fun x=>V.ref x.2.1) (xs.map fun x=>(entryOfKey (tupleKind (ze8 P w)) x).key)
 | H,_,_,.nil,[],_=>⟨.nil,.nil⟩
 | H,_,_,.nil,_::_,h=>nomatch h
 | H,_,_,.cons _ _,[],h=>nomatch h
 | H,_,_,.cons (a:=p) (b:=x) hr t,k::ks,h=>by
   rw[List.map_cons,List.map_cons] at h
   injection h with h1 h2
   obtain⟨t1,t2⟩:=zP2 (P:=P) (w:=w) t h2
   rw[List.map_cons,List.map_cons]
   refine⟨.cons ⟨_,rfl,?_⟩ t1,.cons rfl t2⟩
   rw[hr.2.1,h1,zP0]
theorem call_sortD (hc:X.calm=true):zl1 X (.builtin "sorted") (fun xs H Q=>∃p kvs ks,xs=[.ref p]/\H p=some (.dT kvs)/\kvs.map (·.1)=ks.map ik/\ks.Nodup/\(2<=kvs.length->∀k∈ks,k≠[])/\yi9 H ks Q):=by
 intro pins s σ H xs us Q I r h
 obtain⟨p,kvs,ks,rfl,hp,hk,hd,hne,q⟩:=h
 obtain⟨u,rfl,ru⟩:=zr6 r
 cases ru
 obtain⟨z,y,xs,rk,o,es,ep,h1,h2,h3,h4,h5⟩:=(show ze9 X.prog X.w H s.heap p (.dT kvs) from I.hok p _ hp)
 obtain⟨t1,t2⟩:=zP2 (P:=X.prog) (w:=X.w) rk hk
 have hl:kvs.length=xs.length:=Paired.length rk
 have he:es.toList.map (·.key)=xs.map fun x=>(entryOfKey (tupleKind (ze8 X.prog X.w)) x).key:=by rw[h4,List.map_map];rfl
 have hes:es.size=xs.length:=by rw[<-Array.length_toList,h4,List.length_map]
 rw[<-he] at t2
 refine zP1 I (by rw[List.length_map];omega) t1 t2 hd (fun w=>hne (by rw[List.length_map] at w;omega)) (fun R E hR=>?_) q
 exact Sx.raw_collect y (show X.A.in1.handled=none from I.ok.hd hc) ⟨o,h1,h2,h3⟩ (by omega) hR
end
end L2
namespace Sx
open PySem PySem.W PySem.Calls PyProof.Rows
theorem below_go (xs:Array Nat)(j:Nat)(hs:xs.toList.Pairwise (· < ·)):∀(fuel lo hi:Nat),lo<=hi->hi<=xs.size->hi-lo<=fuel->(∀k,k<lo->xs.getD k j<j)->(∀k,hi<=k->k<xs.size->j<=xs.getD k j) →
   (∀k,k<SetTable.below.go xs j fuel lo hi->xs.getD k j<j)/\(∀k,SetTable.below.go xs j fuel lo hi<=k->k<xs.size->j<=xs.getD k j)/\SetTable.below.go xs j fuel lo hi<=xs.size:=by
 have mono:∀a b,a<b->b<xs.size->xs.getD a j<xs.getD b j:=fun a b hab hb=>by
   have:=List.pairwise_iff_getElem.mp hs a b (by simp;omega) (by simpa using hb) hab
   simpa [Array.getD,hb,show a<xs.size by omega] using this
 intro fuel
 induction fuel with
 | zero =>
   intro lo hi h1 h2 h3 h4 h5
   obtain rfl:lo=hi:=by omega
   exact⟨h4,h5,h2⟩
 | succ fuel ih =>
   intro lo hi h1 h2 h3 h4 h5
   unfold SetTable.below.go
   by_cases h:lo<hi
   . rw[if_pos h]
     dsimp only
     by_cases hm:xs.getD ((lo+hi) / 2) j<j
     . rw[if_pos hm]
       refine ih _ _ (by omega) h2 (by omega) (fun k hk=>?_) h5
       rcases Nat.lt_or_ge k ((lo+hi) / 2) with z | z
       . exact Nat.lt_trans (mono k _ z (by omega)) hm
       . obtain rfl:k=(lo+hi) / 2:=by omega
         exact hm
     . rw[if_neg hm]
       refine ih _ _ (by omega) (by omega) (by omega) h4 (fun k hk hks=>?_)
       rcases Nat.lt_or_ge ((lo+hi) / 2) k with z | z
       . exact Nat.le_of_lt (Nat.lt_of_le_of_lt (Nat.not_lt.mp hm) (mono _ k z hks))
       . obtain rfl:k=(lo+hi) / 2:=by omega
         exact Nat.not_lt.mp hm
   . rw[if_neg h]
     obtain rfl:lo=hi:=by omega
     exact⟨h4,h5,h2⟩
theorem zL2 (xs:Array Nat)(j:Nat)(hs:xs.toList.Pairwise (· < ·)):(∀k,k<SetTable.below xs j->xs.getD k j<j)/\(∀k,SetTable.below xs j<=k->k<xs.size->j<=xs.getD k j)/\SetTable.below xs j<=xs.size :=
 below_go xs j hs xs.size 0 xs.size (Nat.zero_le _) (Nat.le_refl _) (by omega) (fun k h=>by omega) (fun k h h'=>by omega)
theorem zn0 {α:Type}(xs:Array α)(p:Nat)(x:α):(SetTable.insertAt xs p x).toList=xs.toList.take p++x::xs.toList.drop p:=by
 unfold SetTable.insertAt
 have e2:(xs.extract p xs.size).toList=xs.toList.drop p:=zC7 xs p
 rw[Array.toList_append,Array.toList_push,zw6,e2]
 simp
noncomputable abbrev ElsAre (es:List (Int×Value))(ns:List Int):Prop:=Paired (fun e n=>e.1=n/\∃tk,e.2 = .int n tk) es ns
theorem ElsAre.take {es:List (Int×Value)}{ns:List Int}(r:ElsAre es ns):∀i,ElsAre (es.take i) (ns.take i):=by
 induction r with
 | nil=>intro i;simp;exact .nil
 | cons x t ih =>
   intro i
   cases i with
   | zero=>exact .nil
   | succ i=>exact .cons x (ih i)
theorem ElsAre.drop {es:List (Int×Value)}{ns:List Int}(r:ElsAre es ns):∀i,ElsAre (es.drop i) (ns.drop i):=by
 induction r with
 | nil=>intro i;simp;exact .nil
 | cons x t ih =>
   intro i
   cases i with
   | zero=>exact .cons x t
   | succ i=>exact ih i
theorem ElsAre.app {es es':List (Int×Value)}{ns ns':List Int}(r:ElsAre es ns)(r':ElsAre es' ns'):ElsAre (es++es') (ns++ns'):=by
 induction r with
 | nil=>exact r'
 | cons x t ih=>exact .cons x ih
theorem ElsAre.len {es:List (Int×Value)}{ns:List Int}(r:ElsAre es ns):es.length=ns.length:=by
 induction r with
 | nil=>rfl
 | cons x t ih=>simp[ih]
theorem ElsAre.fst {es:List (Int×Value)}{ns:List Int}(r:ElsAre es ns):es.map (·.1)=ns:=by
 induction r with
 | nil=>rfl
 | cons x t ih=>rw[List.map_cons,ih,x.1]
structure SetS (byT:Bool)(h:Heap)(a:Addr)(ns:List Int)(ep:Nat):Prop where
 st:∃o es t,h.get? a=some o/\o.ExactSet/\o.data = .set es ep t/\ElsAre es.toList ns/\t.place.toList=ns.map Int.toNat/\t.dummies = #[]/\t.mask=(if ns.length<5 then 7 else 31)/\t.plain=true/\(byT=false->t.led=true)
 up:ns.Pairwise (· < ·)
 lo:∀n∈ns,1<=n/\n<=5
theorem five {ns:List Int}(up:ns.Pairwise (· < ·))(lo:∀n∈ns,1<=n/\n<=5):ns.length<=5/\(ns.length=5->ns=[1,2,3,4,5]):=by
 match ns,up,lo with
 | [],_,_=>exact⟨by decide,by intro h;cases h⟩
 | [_],_,_=>exact⟨by simp,by intro h;cases h⟩
 | [_,_],_,_=>exact⟨by simp,by intro h;cases h⟩
 | [_,_,_],_,_=>exact⟨by simp,by intro h;cases h⟩
 | [_,_,_,_],_,_=>exact⟨by simp,by intro h;cases h⟩
 | [a,b,c,d,e],up,lo =>
   simp only[List.pairwise_cons,List.mem_cons,List.not_mem_nil,or_false,forall_eq_or_imp,forall_eq] at up lo
   obtain⟨rfl,rfl,rfl,rfl,rfl⟩:a=1/\b=2/\c=3/\d=4/\e=5:=by omega
   exact⟨by decide,fun _=>rfl⟩
 | a::b::c::d::e::f::r,up,lo =>
   simp only[List.pairwise_cons,List.mem_cons,forall_eq_or_imp] at up lo
   omega
theorem nat_up {ns:List Int}(up:ns.Pairwise (· < ·))(lo:∀n∈ns,1<=n/\n<=5):(ns.map Int.toNat).Pairwise (· < ·) :=
 List.pairwise_map.mpr (up.imp_of_mem fun {a b} ha hb z=>by have:=lo a ha;have:=lo b hb;omega)
theorem zL3 {n:Int}(h1:1<=n)(h2:n<=5):hashInt n=n:=by
 have:n=1\/n=2\/n=3\/n=4\/n=5:=by omega
 rcases this with rfl | rfl | rfl | rfl | rfl<;>decide
theorem free_at {t:SetTable}{n:Int}(h1:1<=n)(h2:n<=5)(hm:t.mask=7)(hd:t.dummies = #[])(hp:t.place.toList.Pairwise (· < ·))(hn:n.toNat∉t.place.toList):t.freeSlot n=some (n.toNat,false):=by
 have hsl:t.slot n.toNat = .empty:=by
   unfold SetTable.slot
   dsimp only
   have e:¬ (t.place[SetTable.below t.place n.toNat]? == some n.toNat)=true:=fun z=>by
     have z':t.place[SetTable.below t.place n.toNat]?=some n.toNat:=by simpa using z
     exact hn (by have:=Array.mem_of_getElem? z';simpa using this)
   have e2:¬ SetTable.has t.dummies n.toNat=true:=by
     rw[hd]
     unfold SetTable.has
     simp
   rw[if_neg e,if_neg e2]
 have hb:SetTable.bits n % (t.mask+1)=n.toNat:=by
   rw[hm]
   have:n=1\/n=2\/n=3\/n=4\/n=5:=by omega
   rcases this with rfl | rfl | rfl | rfl | rfl<;>decide
 unfold SetTable.freeSlot SetTable.probe
 have hf:∃f,10*SetTable.turns t.mask=f+1:=⟨10*SetTable.turns t.mask-1,by unfold SetTable.turns;omega⟩
 obtain⟨f,hf⟩:=hf
 rw[hf]
 unfold SetTable.probe.go
 have hj:(t.probeStart n).j=n.toNat:=hb
 rw[hj,hsl]
 rfl
section
variable {prog:Program} {w:World} {A:Around} {E:Value->Shared->Prop} {s:Shared} {byT:Bool} {a:Addr} {ns:List Int} {ep:Nat}
theorem els_of {es:List (Int×Value)}(r:ElsAre es ns)(lo:∀n∈ns,1<=n/\n<=5):ElemsOf (intKind prog w) es:=by
 induction r with
 | nil=>intro e he;cases he
 | @cons e n es ns x t ih =>
   intro e' he
   rcases List.mem_cons.mp he with rfl | he
   . obtain⟨h1,tk,h2⟩:=x
     have l:=lo n (.head _)
     refine⟨⟨n,by rw[h2];exact intKind_is _ _ _ _,?_⟩,by rw[h2];rfl⟩
     rw[h1]
     exact(zL3 l.1 l.2).symm
   . exact ih (fun m hm=>lo m (.tail _ hm)) e' he
theorem ye1 {es:List (Int×Value)}(r:ElsAre es ns)(n:Int):(es.findIdx? fun e=>(intKind prog w).is n e.2)=none↔n∉ns:=by
 rw[List.findIdx?_eq_none_iff]
 induction r with
 | nil=>simp
 | @cons e m es ns x t ih =>
   obtain⟨h1,tk,h2⟩:=x
   rw[List.forall_mem_cons,ih]
   have e3:((intKind prog w).is n e.2=false)↔n≠m:=by
     rw[h2,KeyKind.is_eq_decide (knd:=intKind prog w) (intKind_is _ _ m tk) n]
     simp
   rw[e3]
   simp[not_or]
theorem fits_of {t:SetTable}{k:Nat}(hp:t.place.size=k)(hd:t.dummies = #[])(hm:k<=t.mask):t.fits k=true:=by
 unfold SetTable.fits SetTable.fill
 rw[hp,hd]
 simpa using hm
theorem pick5 {α:Type}(es:Array α)(e2:es.size=5):(#[0,1,2,3,4]:Array Nat).filterMap (es[·]?)=es:=by
 obtain⟨L⟩:=es
 match L,e2 with
 | [_,_,_,_,_],_=>rfl
theorem set_add {n:Int}{tk:Tok}{Q:Bool->Shared->Prop}(S:SetS byT s.heap a ns ep)(h1:1<=n)(h2:n<=5)
   (h:∀h' ns' ep' b,Heap.SameBut a s.heap h'->SetS byT h' a ns' ep'->(∀k,k∈ns'↔k∈ns\/k=n)->Q b { s with heap:=h',toks:=s.toks+1 }):wpAny (model prog w) A (setAdd a (.int n tk)) Q E s:=by
 obtain⟨⟨o,es,t,ho,hex,hd,hel,hpl,hdu,hma,hpn,hle⟩,up,lo⟩:=S
 have h5:=five up lo
 have hl:=hel.len
 have hls:t.place.size=es.size:=by rw[<-Array.length_toList,hpl,List.length_map,<-hl,Array.length_toList]
 have hl':es.size=ns.length:=by rw[<-hl,Array.length_toList]
 have hf:t.fits es.size=true:=fits_of hls hdu (by rw[hma];split<;>omega)
 unfold setAdd
 refine wpAny_holding (wpAny_bind ((intKind prog w).pyHash (k:=n) (intKind_is _ _ _ _) ?_))
 unfold setAddHashed setAddHashedIn
 refine wpAny_holding (wpAny_bind (wpAny_setState_of (s:={ s with toks:=s.toks+1 }) ho hd hf ?_))
 dsimp only
 have hels:ElemsOf (intKind prog w) es.toList:=els_of hel lo
 rw[byScan_of (knd:=intKind prog w) rfl (show es.size<scanBound by unfold scanBound;omega) hels]
 simp only[↓reduceIte]
 unfold setAddByScan
 refine wpAny_bind (wpAny_bind (wpAny_rule (wpAny_bind (wpAny_setScan_of (knd:=intKind prog w) (k:=n) (s:={ s with toks:=s.toks+1 }) (intKind_is _ _ _ _) ho hd hf hels ?_))))
 by_cases hn:n∈ns
 . cases hr:List.findIdx? (fun e=>(intKind prog w).is n e.2) es.toList with
   | none=>exact absurd hn ((ye1 hel n).mp hr)
   | some j =>
     dsimp only
     refine wpAny_pure (wpAny_pure (h s.heap ns ep false (Heap.SameBut.refl a s.heap) ⟨⟨o,es,t,ho,hex,hd,hel,hpl,hdu,hma,hpn,hle⟩,up,lo⟩ fun k=>?_))
     exact⟨.inl,fun z=>z.elim id fun z=>by rw[z];exact hn⟩
 . rw[(ye1 hel n).mpr hn]
   dsimp only
   have hlt:ns.length<5:=by
     rcases Nat.lt_or_ge ns.length 5 with z | z
     . exact z
     . exfalso
       apply hn
       rw[h5.2 (by omega)]
       have:n=1\/n=2\/n=3\/n=4\/n=5:=by omega
       simpa using this
   have hma':t.mask=7:=by rw[hma,if_pos hlt]
   have hpu:t.place.toList.Pairwise (· < ·):=by rw[hpl];exact nat_up up lo
   have hnp:n.toNat∉t.place.toList:=by
     rw[hpl]
     intro z
     obtain⟨m,hm,e⟩:=List.mem_map.mp z
     have:=lo m hm
     exact hn (by rw[show n=m by omega];exact hm)
   obtain⟨b1,b2,b3⟩:=zL2 t.place n.toNat hpu
   generalize hi:SetTable.below t.place n.toNat=i at b1 b2 b3
   have g:∀k (hk:k<ns.length),t.place.getD k n.toNat=ns[k].toNat:=fun k hk=>by
     have hk':k<t.place.size:=by omega
     have:t.place.toList[k]?=(ns.map Int.toNat)[k]?:=by rw[hpl]
     rw[Array.getElem?_toList,getElem?_pos t.place k hk',List.getElem?_map,List.getElem?_eq_getElem hk] at this
     have:=Option.some.inj this
     simp[Array.getD,hk',this]
   have c1:∀x∈ns.take i,x<n:=fun x hx=>by
     obtain⟨k,hk,rfl⟩:=List.mem_iff_getElem.mp hx
     have hk1:k<i:=by simp at hk;omega
     have hk2:k<ns.length:=by simp at hk;omega
     have:=b1 k hk1
     rw[g k hk2] at this
     have:=lo ns[k] (List.getElem_mem hk2)
     simp
     omega
   have c2:∀x∈ns.drop i,n<x:=fun x hx=>by
     obtain⟨k,hk,rfl⟩:=List.mem_iff_getElem.mp hx
     have hk2:i+k<ns.length:=by simp at hk;omega
     have:=b2 (i+k) (by omega) (by omega)
     rw[g (i+k) hk2] at this
     have l:=lo ns[i+k] (List.getElem_mem hk2)
     have ne:n≠ns[i+k]:=fun z=>hn (by rw[z];exact List.getElem_mem hk2)
     simp
     omega
   have eN:SetTable.insertAt t.place i n.toNat=((ns.take i++n::ns.drop i).map Int.toNat).toArray:=by
     apply Array.toList_inj.mp
     rw[zn0,hpl]
     simp[List.map_take,List.map_drop]
   have lay:layNew t es n (.int n tk)=(SetTable.insertAt es i (n,.int n tk),{ t with place:=SetTable.insertAt t.place i n.toNat },false,false):=by
     unfold layNew
     rw[free_at h1 h2 hma' hdu hpu hnp]
     dsimp only
     unfold SetTable.put
     dsimp only
     rw[hi]
     have e2:SetTable.has t.dummies n.toNat=false:=by rw[hdu];unfold SetTable.has;simp
     rw[e2]
     simp only[Bool.false_eq_true,if_false]
     have hz:(SetTable.insertAt es i (n,Value.int n tk)).size=(SetTable.insertAt t.place i n.toNat).size:=by
       rw[<-Array.length_toList,<-Array.length_toList,zn0,zn0]
       simp
       omega
     have hft:({ t with place:=SetTable.insertAt t.place i n.toNat }:SetTable).fits (SetTable.insertAt es i (n,Value.int n tk)).size=true:=by
       refine fits_of hz.symm hdu ?_
       rw[hz,eN]
       show _<=t.mask
       rw[hma']
       simp
       omega
     unfold SetTable.orStandIn
     rw[hft]
     simp
   have hh:(intKind prog w).hash n=n:=zL3 h1 h2
   rw[hh,lay]
   dsimp only
   refine wpAny_bind (wpAny_pure ?_)
   rw[if_pos hpn]
   refine wpAny_bind ?_
   rw[hashByValue_scannable 8 (show(Value.int n tk).scannable=true from rfl)]
   refine wpAny_pure ?_
   rw[if_pos (show plainKind (Value.int n tk)=true from rfl)]
   have mem:∀k,k∈ns.take i++n::ns.drop i↔k∈ns\/k=n:=fun k=>by
     rw[List.mem_append,List.mem_cons]
     conv=>rhs;rw[<-List.take_append_drop i ns,List.mem_append]
     constructor
     . rintro(z | z | z)
       . exact .inl (.inl z)
       . exact .inr z
       . exact .inl (.inr z)
     . rintro((z | z) | z)
       . exact .inl z
       . exact .inr (.inr z)
       . exact .inr (.inl z)
   have up':(ns.take i++n::ns.drop i).Pairwise (· < ·):=by
     refine List.pairwise_append.mpr ⟨up.sublist (List.take_sublist _ _),List.pairwise_cons.mpr ⟨c2,up.sublist (List.drop_sublist _ _)⟩,fun x hx y hy=>?_⟩
     have:=c1 x hx
     rcases List.mem_cons.mp hy with rfl | hy
     . exact this
     . have:=c2 y hy;omega
   have lo':∀m∈ns.take i++n::ns.drop i,1<=m/\m<=5:=fun m hm=>by
     rcases(mem m).mp hm with z | z
     . exact lo m z
     . omega
   have els':ElsAre (SetTable.insertAt es i (n,.int n tk)).toList (ns.take i++n::ns.drop i):=by
     rw[zn0]
     exact(hel.take i).app (.cons ⟨rfl,tk,rfl⟩ (hel.drop i))
   have len':(ns.take i++n::ns.drop i).length=ns.length+1:=by simp;omega
   have sz':(SetTable.insertAt es i (n,Value.int n tk)).size=ns.length+1:=by rw[<-Array.length_toList,els'.len,len']
   have ps':(SetTable.insertAt t.place i n.toNat).size=ns.length+1:=by rw[eN];simp;omega
   generalize ns.take i++n::ns.drop i=ms at mem up' lo' els' len' eN
   generalize SetTable.insertAt es i (n,Value.int n tk)=es1 at els' sz' ⊢
   have hz1:es1.size<=sizeLine:=by rw[sz',sizeLine_eq];omega
   refine wpAny_bind (wpAny_storeSet_of (s:={ s with toks:=s.toks+1 }) ho hd ?_ hz1)
   have sb1:=Heap.SameBut.update s.heap a (Obj.putSet es1 { t with place:=SetTable.insertAt t.place i n.toNat })
   have g1:(s.heap.update a (Obj.putSet es1 { t with place:=SetTable.insertAt t.place i n.toNat })).get? a=some { o with data:=.set es1 (ep+1) { t with place:=SetTable.insertAt t.place i n.toNat } }:=by
     have:=Heap.get?_update_self (Obj.putSet es1 { t with place:=SetTable.insertAt t.place i n.toNat }) ho (by rw[putSet_of _ _ hd];rfl)
     rw[putSet_of _ _ hd] at this
     exact this
   have full:({ t with place:=SetTable.insertAt t.place i n.toNat }:SetTable).tooFull=decide (ns.length+1≥5):=by
     unfold SetTable.tooFull SetTable.fill
     dsimp only
     rw[ps',hdu,hma']
     show decide ((ns.length+1+0)*5≥7*3)=_
     by_cases z:ns.length+1≥5
     . rw[decide_eq_true z,decide_eq_true (by omega)]
     . rw[decide_eq_false z,decide_eq_false (by omega)]
   rw[full]
   by_cases h6:ns.length+1≥5
   . rw[if_pos (by simpa using h6)]
     have h5':=(five up' lo').2 (by omega)
     subst h5'
     have rel:relayAll { t with place:=SetTable.insertAt t.place i n.toNat } es1 (SetTable.grown es1.size)=(es1,{ mask:=31,place:=#[1,2,3,4,5],dummies:=#[],finger:=t.finger,led:=t.led,moves:=({ t with place:=SetTable.insertAt t.place i n.toNat }:SetTable).movedTo 31,plain:=t.plain },false):=by
       unfold relayAll
       have e1:es1.map (·.1) = #[1,2,3,4,5]:=by
         apply Array.toList_inj.mp
         rw[Array.toList_map,els'.fst]
       have e2:es1.size=5:=by omega
       rw[e1,e2]
       have e3:SetTable.relaid { t with place:=SetTable.insertAt t.place i n.toNat } #[1,2,3,4,5] (SetTable.grown 5)=some ({ mask:=31,place:=#[1,2,3,4,5],dummies:=#[],finger:=t.finger,led:=t.led,moves:=({ t with place:=SetTable.insertAt t.place i n.toNat }:SetTable).movedTo 31,plain:=t.plain },#[0,1,2,3,4]):=by
         unfold SetTable.relaid SetTable.laid
         have e4:SetTable.layClean (SetTable.sizeAbove (SetTable.grown 5)-1) #[1,2,3,4,5]=some #[none,some 0,some 1,some 2,some 3,some 4,none,none,none,none,none,none,none,none,none,none,none,none,none,none,none,none,none,none,none,none,none,none,none,none,none,none]:=by decide +kernel
         rw[e4]
         rfl
       rw[e3]
       dsimp only
       have e5:(#[0,1,2,3,4]:Array Nat).filterMap (es1[·]?)=es1:=pick5 es1 e2
       rw[e5,e2]
       rfl
     rw[rel]
     dsimp only
     refine wpAny_bind (wpAny_pure (wpAny_bind (wpAny_storeSet_of (s:={ s with heap:=s.heap.update a (Obj.putSet es1 { t with place:=SetTable.insertAt t.place i n.toNat }),toks:=s.toks+1 }) g1 rfl ?_ hz1)))
     have g2:=Heap.get?_update_self (Obj.putSet es1 { mask:=31,place:=#[1,2,3,4,5],dummies:=#[],finger:=t.finger,led:=t.led,moves:=({ t with place:=SetTable.insertAt t.place i n.toNat }:SetTable).movedTo 31,plain:=t.plain }) g1 (by rw[putSet_of (es:=es1) (ep:=ep+1) _ _ rfl];rfl)
     rw[putSet_of (es:=es1) (ep:=ep+1) _ _ rfl] at g2
     exact wpAny_pure (wpAny_pure (h _ [1,2,3,4,5] (ep+1+1) true (sb1.trans (Heap.SameBut.update _ a _)) ⟨⟨_,es1,_,g2,hex,rfl,els',rfl,rfl,rfl,hpn,hle⟩,up',lo'⟩ mem))
   . rw[if_neg (by simpa using h6)]
     refine wpAny_pure (wpAny_pure (h _ ms (ep+1) true sb1 ⟨⟨_,es1,_,g1,hex,rfl,els',?_,hdu,?_,hpn,hle⟩,up',lo'⟩ mem))
     . rw[eN]
     . show t.mask=_
       rw[hma',len',if_pos (by omega)]
end
noncomputable def byT (w:World):Bool:=w.params.followText "set-order"
section
variable {prog:Program} {w:World} {A:Around} {E:Value->Shared->Prop} {s:Shared}
theorem SetS.other {b:Bool}{h h':Heap}{a:Addr}{ns:List Int}{ep:Nat}(S:SetS b h a ns ep)(k:∀o,h.get? a=some o->h'.get? a=some o):SetS b h' a ns ep:=by
 obtain⟨⟨o,es,t,ho,r⟩,up,lo⟩:=S
 exact⟨⟨o,es,t,k o ho,r⟩,up,lo⟩
theorem set_fresh (h:Heap):SetS (byT w) (h.push { cls:=.type "set",dict:=none,data:=.set #[] 0 (.fresh 0 0 (!byT w)) }) h.objs.size [] 0 :=
 ⟨⟨_,#[],_,Heap.get?_push_size _ rfl,⟨rfl,rfl,rfl⟩,rfl,.nil,rfl,rfl,rfl,rfl,fun e=>by show(!byT w)=true;rw[e];rfl⟩,.nil,fun n hn=>by cases hn⟩
theorem set_loop {I:Addr}{fp wr:List Addr}{G:Array GenState->Array GenState->Prop}{n:Nat}{P:Nat->Value->Prop}{St:Nat->Shared->Prop}{R:Result->Shared->Prop}{b:Bool}(W:WalksS prog w A.in1 I fp wr G n P St)(S:Addr)(hSf:S∉fp)
   (val:Nat->Int) (hval:∀i v,P i v->(∃t,v = .int (val i) t)/\1<=val i/\val i<=5) :
   ∀(k i:Nat) (s:Shared) (ns:List Int) (ep:Nat),n-i=k->i<=n->St i s->SetS b s.heap S ns ep->(∀x,x∈ns↔∃j,j<i/\x=val j) →
     (∀s' ns' ep',Moved (S::wr) G s s'->SetS b s'.heap S ns' ep'->(∀x,x∈ns'↔∃j,j<n/\x=val j)->R (.ok (.ret .none)) s') →
     codeAny (model prog w) A (.builtin "set.update.loop" ⟨[.ref S,.ref I],[]⟩) R s:=by
 have hSw:S∉wr:=fun h=>hSf (W.sub _ h)
 have hsub:∀b∈wr,b∈S::wr:=fun b hb=>List.mem_cons_of_mem _ hb
 intro k
 induction k with
 | zero =>
   intro i s ns ep hk hi hst hS hm hR
   obtain rfl:i=n:=by omega
   refine codeAny_builtin F.entry_set_update_loop ?_
   rw[Around.under_plainId F.plain_set_update_loop _]
   show wpAny _ A.in1 (pyNext (.ref I) >>= _) _ _ s
   refine wpAny_bind (W.done s _ _ hst fun s' hv=>?_)
   show wpAny _ A.in1 (ret Value.none) _ _ s'
   exact wpAny_pure (hR s' ns ep (hv.mono hsub) (hS.other fun o ho=>hv.heap S _ hSw ho) hm)
 | succ k ih =>
   intro i s ns ep hk hi hst hS hm hR
   have hlt:i<n:=by omega
   refine codeAny_builtin F.entry_set_update_loop ?_
   rw[Around.under_plainId F.plain_set_update_loop _]
   show wpAny _ A.in1 (pyNext (.ref I) >>= _) _ _ s
   refine wpAny_bind (W.item i s _ _ hlt hst fun v s' hP hst' hv=>?_)
   obtain⟨⟨t,rfl⟩,v1,v2⟩:=hval i v hP
   show wpAny _ A.in1 (holding [Value.int (val i) t] (setAdd S (.int (val i) t)) >>= _) _ _ s'
   refine wpAny_bind (wpAny_holding (set_add (hS.other fun o ho=>hv.heap S _ hSw ho) v1 v2 fun h' ns' ep' b' hsb hS2 hm2=>?_))
   refine wpAny_pure ⟨plainId_quiet F.plain_set_update_loop _,ih (i+1) _ ns' ep' (by omega) hlt (W.frame _ s' _ _ hst' (Nat.le_succ _) fun b hb o e=>?_) hS2 (fun x=>?_) fun s'' ns'' ep'' hm'' hS'' hx=>?_⟩
   . rw[hsb.2 b (fun h:b=S=>hSf (by rw[<-h];exact hb))];exact e
   . rw[hm2,hm]
     constructor
     . rintro(⟨j,hj,e⟩ | e)
       . exact⟨j,by omega,e⟩
       . exact⟨i,by omega,e⟩
     . rintro⟨j,hj,e⟩
       rcases Nat.lt_or_ge j i with z | z
       . exact .inl ⟨j,z,e⟩
       . obtain rfl:j=i:=by omega
         exact .inr e
   . refine hR s'' ns'' ep'' (Moved.trans W.gtrans ((hv.mono hsub).then_heap (Nat.le_succ _) fun b o hb e=>?_) hm'') hS'' hx
     rw[hsb.2 b (fun h:b=S=>hb (by rw[h];exact List.mem_cons_self))];exact e
theorem code_set_newS (a:Value){Q₁:Value->Shared->Prop}
   (h:Q₁ (.ref s.heap.objs.size) { s with heap:=s.heap.push { cls:=.type "set",dict:=none,data:=.set #[] 0 (.fresh 0 0 (!byT w)) } }) :
   codeAny (model prog w) A (.call (.builtin "set.__new__") ⟨[.type "set",a],[]⟩) (wants Q₁ E) s:=by
 refine codeAny_of_tree ?_
 show wpAny _ A.in1 (do checkBuiltinCall "set.__new__" ⟨[.type "set",a],[]⟩;again (.builtin "set.__new__" ⟨[.type "set",a],[]⟩)) _ _ s
 refine wpAny_bind (wpAny_of_eq (PySem.F.newCall_set_1 a) (wpAny_pure ⟨plainId_quiet PySem.F.plain_set_new _,codeAny_builtin PySem.F.entry_set_new ?_⟩))
 rw[Around.under_plainId PySem.F.plain_set_new _]
 unfold Builtin.«set.__new__» Builtin.Frozenset.newClass
 have hsub:=PySem.sub_set_self
 obtain⟨hp,g,d,tk,os⟩:=s
 dsimp only
 wp_walk
 refine wpAny_askSetting (wpAny_pure ?_)
 dsimp only
 simp only[newObj]
 refine wpAny_bind (wpAny_alloc (wpAny_pure ?_))
 exact wpAny_pure h
end
section
variable {prog:Program} {w:World} {A:Around} {E:Value->Shared->Prop} {s:Shared}
theorem call_setS {l:Addr}{items:Array Value}{ns:List Int}{Q:Value->Shared->Prop}(hh:A.handled=none)(hl:s.heap.IsList l items)(hi:IntsAre items.toList ns)(hlo:∀n∈ns,1<=n/\n<=5)
   (h:∀(h':Heap) (tk:Nat) (ms:List Int) (ep:Nat),SetS (byT w) h' s.heap.objs.size ms ep->(∀x,x∈ms↔x∈ns)->(∀b o,s.heap.get? b=some o->h'.get? b=some o)->Q (.ref s.heap.objs.size) { s with heap:=h',toks:=tk }) :
   wpAny (model prog w) A (call (.type "set") [.ref l]) Q E s:=by
 obtain⟨c,tl,hmro⟩:=PySem.F.called_set.mro
 have hmade:=PySem.F.called_set.made
 have hsub:=PySem.F.called_set.sub
 refine wpAny_call (codeAny_of_tree ?_)
 show wpAny _ _ (callAny (.type "set") _) _ _ _
 refine wpAny_pure ⟨Code.quiet_builtin _ (by decide +kernel),codeAny_builtin PySem.F.entry_type_call ?_⟩
 rw[Around.under_plain (weight_type_call_type "set" [.ref l] []) rfl]
 have h1:=PySem.F.called_set.notType
 have h2:=PySem.F.called_set.canCreate
 have hct:=PySem.F.typeCall_set_1 (.ref l)
 repeat (any_goals (first | assumption | wp_step))
 refine codeAny_mono (code_set_newS (.ref l) (E:=E) (Q₁:=fun obj s₁=>obj = .ref s.heap.objs.size/\s₁ = { s with heap:=s.heap.push { cls:=.type "set",dict:=none,data:=.set #[] 0 (.fresh 0 0 (!byT w)) } }) ⟨rfl,rfl⟩) fun r s₁ hr=>?_
 cases r with
 | error e=>exact hr
 | ok fl =>
   cases fl with
   | ret obj =>
     obtain⟨rfl,rfl⟩:=hr
     have hS:(s.heap.push { cls:=.type "set",dict:=none,data:=.set #[] 0 (.fresh 0 0 (!byT w)) }).get? s.heap.objs.size=some { cls:=.type "set",dict:=none,data:=.set #[] 0 (.fresh 0 0 (!byT w)) }:=Heap.get?_push_size _ rfl
     have hT:Shared.TypeIs { s with heap:=s.heap.push { cls:=.type "set",dict:=none,data:=.set #[] 0 (.fresh 0 0 (!byT w)) } } (.ref s.heap.objs.size) "set":=⟨_,hS,rfl⟩
     have hli:=PySem.F.called_set.init.lookup
     have hbi:=PySem.F.called_set.init.bind (.ref s.heap.objs.size)
     repeat (any_goals (first | assumption | wp_step))
     refine codeAny_mono (codeAny_call_builtin (R:=wants (fun r s₂=>r = .none/\∃h' tk ms ep,s₂ = { s with heap:=h',toks:=tk }/\SetS (byT w) h' s.heap.objs.size ms ep/\(∀x,x∈ms↔x∈ns) ∧
         (∀b o,s.heap.get? b=some o->h'.get? b=some o)) E) PySem.F.called_set.init.plain PySem.F.entry_set_init (PySem.check_set_init_1 hT ?_)) fun r₂ s₂ hr₂=>?_
     . obtain⟨ol,hol,hcl,nl,hdl⟩:=hl
       obtain⟨ocls,odict,odata,oslots⟩:=ol
       simp only at hcl hdl
       subst hcl;subst hdl
       have hol':(s.heap.push { cls:=.type "set",dict:=none,data:=.set #[] 0 (.fresh 0 0 (!byT w)) }).get? l=some { cls:=.type "list",dict:=odict,data:=.seq items nl,slots:=oslots }:=Heap.get?_push_of_some _ hol
       have hsls:=PySem.F.sub_list_set
       have hslf:=PySem.F.sub_list_frozenset
       have hne:(Value.type "list" == Value.type "dict")=false:=by decide
       have hl1:(s.heap.push { cls:=.type "set",dict:=none,data:=.set #[] 0 (.fresh 0 0 (!byT w)) }).IsList l items:=⟨_,hol',rfl,nl,rfl⟩
       unfold Builtin.«set.__init__» noKeywords Builtin.Frozenset.updateFrom
       generalize hPI:pyIter=PI
       wp_walk
       subst hPI
       refine wpAny_pyIter_list hl1 ?_
       refine wpAny_bind (wpAny_runValue ?_)
       have hlS:l<s.heap.objs.size:=Heap.lt_size hol
       have hh3:A.in1.in1.in1.handled=none:=by simp[hh]
       have hneI:l≠(s.heap.push { cls:=.type "set",dict:=none,data:=.set #[] 0 (.fresh 0 0 (!byT w)) }).objs.size:=by
         rw[Heap.size_push];exact Nat.ne_of_lt (Nat.lt_succ_of_lt hlS)
       have hSf:s.heap.objs.size∉[(s.heap.push { cls:=.type "set",dict:=none,data:=.set #[] 0 (.fresh 0 0 (!byT w)) }).objs.size,l]:=by
         rw[Heap.size_push];simp only[List.mem_cons,List.mem_singleton,List.not_mem_nil,or_false,not_or]
         exact⟨Nat.ne_of_lt (Nat.lt_succ_self _),Nat.ne_of_gt hlS⟩
       have hlen:items.size=ns.length:=by rw[<-Array.length_toList];exact IntsAre.length hi
       have hval:∀(i:Nat) (v:Value),items[i]?=some v->(∃t,v = .int ((fun i=>ns.getD i 0) i) t)/\1<=ns.getD i 0/\ns.getD i 0<=5:=fun i v hv=>by
         refine⟨PyProof.Rows.IntsAre.int_at hi i v (by rw[Array.getElem?_toList];exact hv),?_⟩
         have hi':i<ns.length:=by
           have:=(Array.getElem?_eq_some_iff.mp hv).1
           omega
         have:ns.getD i 0=ns[i]:=by simp[hi']
         rw[this]
         exact hlo _ (List.getElem_mem hi')
       refine set_loop (b:=byT w) ((Walks.list hh3 _ l hneI items).toS) s.heap.objs.size hSf (fun i=>ns.getD i 0) hval (items.size-0) 0 _ [] 0 (by omega) (Nat.zero_le _)
         ⟨⟨_,Heap.get?_push_size _ rfl,rfl,rfl⟩,(hl1.push _)⟩ ?hS0 (fun x=>⟨(fun z=>nomatch z),fun⟨j,hj,_⟩=>absurd hj (Nat.not_lt_zero _)⟩) ?hR
       case hS0 =>
         exact(set_fresh (w:=w) s.heap).other fun o ho=>Heap.get?_push_of_some _ ho
       case hR =>
         intro s' ms ep hm hS' hx
         obtain⟨h',g',d',tk',os'⟩:=s'
         have eg:g'=s.gens:=hm.gens
         have ed:d'=s.drawn:=hm.drawn
         have eo:os'=s.os:=hm.os
         subst eg;subst ed;subst eo
         show wpAny _ _ _ _ _ _
         refine wpAny_pure ?_
         show wpAny _ _ (ret Value.none) _ _ _
         refine wpAny_pure ⟨rfl,h',tk',ms,ep,rfl,hS',fun x=>?_,fun b o e=>?_⟩
         . rw[hx x,List.mem_iff_getElem]
           constructor
           . rintro⟨j,hj,e⟩
             exact⟨j,by omega,by rw[e];simp[show j<ns.length by omega]⟩
           . rintro⟨j,hj,e⟩
             exact⟨j,by omega,by rw[<-e];simp[hj]⟩
         . have hb:=Heap.lt_size e
           have hb1:b≠s.heap.objs.size:=Nat.ne_of_lt hb
           have hb2:b≠(s.heap.push { cls:=.type "set",dict:=none,data:=.set #[] 0 (.fresh 0 0 (!byT w)) }).objs.size:=by
             rw[Heap.size_push];exact Nat.ne_of_lt (Nat.lt_succ_of_lt hb)
           exact hm.heap b o (by simp only[List.mem_cons,List.mem_singleton,List.not_mem_nil,or_false,not_or];exact⟨hb1,hb2⟩) (Heap.get?_push_of_some _ (Heap.get?_push_of_some _ e))
     . cases r₂ with
       | error e=>exact hr₂
       | ok fl₂ =>
         cases fl₂ with
         | ret r =>
           obtain⟨rfl,h',tk,ms,ep,rfl,hS',hx,hk'⟩:=hr₂
           repeat (any_goals (first | assumption | wp_step))
           exact h _ _ _ _ hS' hx hk'
         | _=>exact hr₂.elim
   | _=>exact hr.elim
end
theorem ye2 {α:Type}(next:Nat->Nat):∀(fuel k:Nat) (left:List α) (out:Array α),left.length<=fuel->(pickOrder.go next fuel k left out).toList.Perm (out.toList++left)
 | 0,k,left,out,h=>by
   obtain rfl:left=[]:=List.eq_nil_of_length_eq_zero (by omega)
   unfold pickOrder.go
   simp
 | fuel+1,k,left,out,h=>by
   unfold pickOrder.go
   by_cases hl:left=[]
   . subst hl
     simp
   . have hp:0<left.length:=List.length_pos_iff.mpr hl
     have hi:next k % left.length<left.length:=Nat.mod_lt _ hp
     rw[List.getElem?_eq_getElem hi]
     dsimp only
     refine(ye2 next fuel (k+1) _ _ (by rw[List.length_eraseIdx_of_lt hi];omega)).trans ?_
     rw[Array.toList_push,List.append_assoc]
     refine List.Perm.append_left _ ?_
     have e:left=left.take (next k % left.length)++left[next k % left.length]::left.drop (next k % left.length+1):=by rw[<-List.drop_eq_getElem_cons hi,List.take_append_drop]
     rw[List.eraseIdx_eq_take_drop_succ]
     conv=>rhs;rw[e]
     rw[List.singleton_append]
     exact List.perm_middle.symm
theorem zP3 {α:Type}(next:Nat->Nat)(xs:Array α):(pickOrder next xs).toList.Perm xs.toList:=by
 have:=ye2 next xs.size 0 xs.toList #[] (by simp)
 unfold pickOrder
 simpa using this
theorem zj2:PySem.Slot "set_iterator" "__next__" "set_iterator.__next__" :=
 .of (owner:="set_iterator") (n:="__next__") (by rw[typeLookup_type,builtinLookup_eq_fast];kernel_rfl) (by decide +kernel) (by decide +kernel) (by decide +kernel)
   (by first | exact .inl (by decide +kernel) | exact .inr (by decide +kernel)) (by rw[isSubtype_type];kernel_rfl)
theorem zA4:entryFor table "set_iterator.__next__" = some Builtin.«set_iterator.__next__»:=entryFor_of_tree (by kernel_rfl)
theorem zY1:Manifest.owners.lookup (String.ofList ['r','o','t','a','r','e','t','i','_','t','e','s'].reverse)=some Manifest.sig_set_iterator:=by kernel_rfl
theorem zD4 (a:Value):argsOk "set_iterator.__next__" ⟨[a],[]⟩:=by
 unfold argsOk;rw[signature?_of (id:="set_iterator.__next__") (n:=['_','_','t','x','e','n','_','_']) (o:=['r','o','t','a','r','e','t','i','_','t','e','s']) (by kernel_rfl) zY1];kernel_rfl
theorem zD5:PySem.Slot "set_iterator" "__iter__" "set_iterator.__iter__" :=
 .of (owner:="set_iterator") (n:="__iter__") (by rw[typeLookup_type,builtinLookup_eq_fast];kernel_rfl) (by decide +kernel) (by decide +kernel) (by decide +kernel)
   (by first | exact .inl (by decide +kernel) | exact .inr (by decide +kernel)) (by rw[isSubtype_type];kernel_rfl)
theorem entry_si_iter:entryFor table "set_iterator.__iter__" = some Builtin.«dict_keyiterator.__iter__» :=
 entryFor_alias (id':="dict_keyiterator.__iter__") (by kernel_rfl) rfl (by decide +kernel) (by kernel_rfl)
theorem args_si_iter (a:Value):argsOk "set_iterator.__iter__" ⟨[a],[]⟩:=by
 unfold argsOk;rw[signature?_of (id:="set_iterator.__iter__") (n:=['_','_','r','e','t','i','_','_']) (o:=['r','o','t','a','r','e','t','i','_','t','e','s']) (by kernel_rfl) zY1];kernel_rfl
theorem entry_s_iter:entryFor table "set.__iter__" = some Builtin.«frozenset.__iter__» :=
 entryFor_alias (id':="frozenset.__iter__") (by kernel_rfl) rfl (by decide +kernel) (by kernel_rfl)
noncomputable def zo6 (h:Heap) (it a:Addr) (slot i n ep:Nat):Prop:=∃o,h.get? it=some o/\o.cls = .type "set_iterator"/\o.data = .fields #[.int slot 0,.int i 0,.ref a,.int n 0,.int ep 0]
noncomputable def zr5 (h:Heap)(a:Addr)(es:Array (Int×Value))(ep:Nat)(t:SetTable):Prop:=∃o,h.get? a=some o/\o.ExactSet/\o.data = .set es ep t
noncomputable def ordOf (w:World)(a:Addr)(ep:Nat)(es:Array (Int×Value)):Array (Int×Value):=if byT w=true then pickOrder (w.params.setOrder a ep) es else es
noncomputable def zh1 (w:World)(t:SetTable):Nat->Nat
 | 0=>0
 | i+1=>if byT w=true then 0 else t.place.getD i 0+1
structure SetGood (w:World)(es:Array (Int×Value))(t:SetTable):Prop where
 fits:t.fits es.size=true
 size:t.place.size=es.size
 plain:t.plain=true
 led:byT w=false->t.led=true
 up:t.place.toList.Pairwise (· < ·)
theorem ord_size (w:World)(a:Addr)(ep:Nat)(es:Array (Int×Value)):(ordOf w a ep es).size=es.size:=by
 unfold ordOf
 split
 . rw[<-Array.length_toList,(zP3 _ _).length_eq,Array.length_toList]
 . rfl
theorem ord_perm (w:World)(a:Addr)(ep:Nat)(es:Array (Int×Value)):(ordOf w a ep es).toList.Perm es.toList:=by
 unfold ordOf
 split
 . exact zP3 _ _
 . exact .refl _
section
variable {prog:Program} {w:World} {A:Around} {E:Value->Shared->Prop} {s:Shared} {a it:Addr} {es:Array (Int×Value)} {ep:Nat} {t:SetTable}
theorem zr5.typeIs (x:zr5 s.heap a es ep t):s.TypeIs (.ref a) "set":=let⟨o,ho,hc,_⟩:=x;⟨o,ho,hc.1⟩
theorem zr5.at_ {h h':Heap}(x:zr5 h a es ep t)(k:∀o,h.get? a=some o->h'.get? a=some o):zr5 h' a es ep t:=let⟨o,ho,r⟩:=x;⟨o,k o ho,r⟩
theorem zo6.typeIs {slot i n:Nat} (x:zo6 s.heap it a slot i n ep):s.TypeIs (.ref it) "set_iterator":=let⟨o,ho,hc,_⟩:=x;⟨o,ho,hc⟩
theorem sl {j:Nat}(hb:byT w=false):zh1 w t (j+1)=t.place.getD j 0+1:=by
 show(if byT w=true then 0 else _)=_
 rw[if_neg (by rw[hb];decide)]
theorem si_next {i:Nat}{Q:Option Value->Shared->Prop}(g:SetGood w es t)(hit:zo6 s.heap it a (zh1 w t i) i es.size ep)(hm:zr5 s.heap a es ep t)(hne:a≠it)(hi:i<es.size)
   (hQ:∀h',zo6 h' it a (zh1 w t (i+1)) (i+1) es.size ep->Heap.SameBut it s.heap h'->Q (some ((ordOf w a ep es)[i]'(by rw[ord_size];exact hi)).2) { s with heap:=h' }):wpAny (model prog w) A (pyNext (.ref it)) Q E s:=by
 have hT:=hit.typeIs
 obtain⟨o,ho,hc,hd⟩:=id hit
 obtain⟨os,hos,hex,hds⟩:=id hm
 unfold pyNext
 refine wpAny_bind (wpAny_attempt (wpAny_callSpecial?_slot (name:=Str.ofString "__next__") hT zj2 (wpAny_call_entry zj2 hT zA4 ?_ (zD4 _))))
 unfold Builtin.«set_iterator.__next__»
 refine wpAny_bind (m:=slotArgs _ _ _) (wpAny_pure (wpAny_bind (wpAny_fieldsOf ho hd ?_)))
 dsimp only
 refine wpAny_bind (wpAny_setEntries_of hos hds g.fits ?_)
 rw[if_neg (by simp)]
 refine wpAny_bind ?_
 have nx:∀(R:Option (Value×Nat)->Shared->Prop) (E':Value->Shared->Prop),R (some (((ordOf w a ep es)[i]'(by rw[ord_size];exact hi)).2,zh1 w t (i+1))) s->wpAny (model prog w) A.in1 (setNext a (zh1 w t i) i ep) R E' s:=fun R E' hR=>by
   unfold setNext
   refine wpAny_bind (wpAny_setState_of hos hds g.fits ?_)
   dsimp only
   unfold setsByText
   refine wpAny_bind (wpAny_bind (wpAny_askSetting (wpAny_pure ?_)))
   cases hb:byT w with
   | true =>
     have hb':((model prog w).w.params.followText "set-order")=true:=hb
     have e1:ordOf w a ep es=pickOrder (w.params.setOrder a ep) es:=by unfold ordOf;rw[if_pos hb]
     have e2:∀j,zh1 w t j=0:=fun j=>by cases j with
       | zero=>rfl
       | succ j=>show(if byT w=true then 0 else _)=0;rw[if_pos hb]
     dsimp only
     rw[if_pos hb',if_neg (by simp)]
     refine wpAny_bind ?_
     unfold setWalk
     refine wpAny_bind (wpAny_setState_of hos hds g.fits ?_)
     dsimp only
     unfold setsByText
     refine wpAny_bind (wpAny_bind (wpAny_askSetting (wpAny_pure ?_)))
     dsimp only
     rw[if_pos hb']
     refine wpAny_bind (wpAny_askSetting (wpAny_pure (wpAny_pure ?_)))
     dsimp only
     have hi':i<(pickOrder (w.params.setOrder a ep) es).size:=by rw[<-e1,ord_size];exact hi
     rw[getElem?_pos _ i hi',e2 i]
     rw[e2 (i+1)] at hR
     have e3:((ordOf w a ep es)[i]'(by rw[ord_size];exact hi))=(pickOrder (w.params.setOrder a ep) es)[i]:=by congr 1
     rw[e3] at hR
     exact hR
   | false =>
     have hb':¬ ((model prog w).w.params.followText "set-order")=true:=by rw[show(model prog w).w.params.followText "set-order" = false from hb];decide
     have e1:ordOf w a ep es=es:=by unfold ordOf;rw[if_neg (by rw[hb];decide)]
     have hp:=g.plain
     have hl:=g.led hb
     have hu:=g.up
     have hz:=g.size
     dsimp only
     rw[if_neg hb']
     have e4:SetTable.below t.place (zh1 w t i)=i:=by
       obtain⟨b1,b2,b3⟩:=zL2 t.place (zh1 w t i) hu
       have mono:∀x y,x<y->y<t.place.size->t.place.getD x 0<t.place.getD y 0:=fun x y hxy hy=>by
         have:=List.pairwise_iff_getElem.mp hu x y (by simp;omega) (by simpa using hy) hxy
         simpa [Array.getD,hy,show x<t.place.size by omega] using this
       have gd:∀x d,x<t.place.size->t.place.getD x d=t.place.getD x 0:=fun x d hx=>by simp[Array.getD,hx]
       generalize hB:SetTable.below t.place (zh1 w t i)=B at b1 b2 b3
       rcases Nat.lt_trichotomy B i with z | z | z
       . exfalso
         obtain⟨j,rfl⟩:∃j,i=j+1:=⟨i-1,by omega⟩
         have q:=b2 B (Nat.le_refl _) (by omega)
         rw[sl (by exact hb),gd B (t.place.getD j 0+1) (by omega)] at q
         rcases Nat.lt_or_ge B j with y | y
         . have:=mono B j y (by omega);omega
         . obtain rfl:B=j:=by omega
           omega
       . exact z
       . exfalso
         have q:=b1 i z
         rw[gd _ _ (by omega)] at q
         cases i with
         | zero=>exact absurd q (Nat.not_lt_zero _)
         | succ j =>
           rw[sl hb] at q
           have:=mono j (j+1) (by omega) (by omega)
           omega
     have e5:zh1 w t (i+1)=t.place[i]'(by omega)+1:=by
       rw[sl hb]
       simp[Array.getD,show i<t.place.size by omega]
     have e3:((ordOf w a ep es)[i]'(by rw[ord_size];exact hi))=es[i]:=by congr 1
     rw[e3,e5] at hR
     have hps:i<t.place.size:=by omega
     obtain⟨mask,place,dummies,finger,led,moves,plain⟩:=t
     dsimp only at hp hl
     subst hp hl
     rw[if_neg (by intro z;exact Bool.noConfusion (show false=true from z))]
     refine wpAny_bind (wpAny_pure ?_)
     dsimp only at e4 hps hR ⊢
     rw[e4]
     rw[getElem?_pos es i hi,getElem?_pos place i hps]
     exact wpAny_pure hR
 refine nx _ _ ?_
 dsimp only
 refine wpAny_bind (wpAny_setField ho hd (by simp) ?_)
 have g1:=Heap.get?_update_self (Obj.mapFields (·.setIfInBounds 0 (rawInt (zh1 w t (i+1):Int)))) ho (Obj.isFreed_of_fields (Obj.data_mapFields hd _))
 have d1:=Obj.data_mapFields hd (·.setIfInBounds 0 (rawInt (zh1 w t (i+1):Int)))
 refine wpAny_bind (wpAny_setField (s:={ s with heap:=_ }) g1 d1 (by simp) ?_)
 have g2:=Heap.get?_update_self (Obj.mapFields (·.setIfInBounds 1 (rawInt ((i:Int)+1)))) g1 (Obj.isFreed_of_fields (Obj.data_mapFields d1 _))
 have d2:=Obj.data_mapFields d1 (·.setIfInBounds 1 (rawInt ((i:Int)+1)))
 refine wpAny_pure ⟨_,rfl,wpAny_pure (hQ _ ⟨_,g2,?_,?_⟩ ((Heap.SameBut.update s.heap it _).trans (Heap.SameBut.update _ it _)))⟩
 . rw[Obj.cls_mapFields,Obj.cls_mapFields]
   exact hc
 . rw[d2]
   simp[rawInt]
theorem si_end {Q:Option Value->Shared->Prop}(hh:A.handled=none)(g:SetGood w es t)(hit:zo6 s.heap it a (zh1 w t es.size) es.size es.size ep)(hm:zr5 s.heap a es ep t)(hne:a≠it)
   (hQ:∀h',Heap.ExtBut it s.heap h'->Q none { s with heap:=h' }):wpAny (model prog w) A (pyNext (.ref it)) Q E s:=by
 have hT:=hit.typeIs
 obtain⟨o,ho,hc,hd⟩:=id hit
 obtain⟨os,hos,hex,hds⟩:=id hm
 unfold pyNext
 refine wpAny_bind (wpAny_attempt (wpAny_callSpecial?_slot (name:=Str.ofString "__next__") hT zj2 (wpAny_call_entry zj2 hT zA4 ?_ (zD4 _))))
 unfold Builtin.«set_iterator.__next__»
 refine wpAny_bind (m:=slotArgs _ _ _) (wpAny_pure (wpAny_bind (wpAny_fieldsOf ho hd ?_)))
 dsimp only
 refine wpAny_bind (wpAny_setEntries_of hos hds g.fits ?_)
 rw[if_neg (by simp)]
 refine wpAny_bind ?_
 have nx:∀(R:Option (Value×Nat)->Shared->Prop) (E':Value->Shared->Prop),R none s->wpAny (model prog w) A.in1 (setNext a (zh1 w t es.size) es.size ep) R E' s:=fun R E' hR=>by
   unfold setNext
   refine wpAny_bind (wpAny_setState_of hos hds g.fits ?_)
   dsimp only
   unfold setsByText
   refine wpAny_bind (wpAny_bind (wpAny_askSetting (wpAny_pure ?_)))
   cases hb:byT w with
   | true =>
     have hb':((model prog w).w.params.followText "set-order")=true:=hb
     have e1:ordOf w a ep es=pickOrder (w.params.setOrder a ep) es:=by unfold ordOf;rw[if_pos hb]
     dsimp only
     rw[if_pos hb',if_neg (by simp)]
     refine wpAny_bind ?_
     unfold setWalk
     refine wpAny_bind (wpAny_setState_of hos hds g.fits ?_)
     dsimp only
     unfold setsByText
     refine wpAny_bind (wpAny_bind (wpAny_askSetting (wpAny_pure ?_)))
     dsimp only
     rw[if_pos hb']
     refine wpAny_bind (wpAny_askSetting (wpAny_pure (wpAny_pure ?_)))
     dsimp only
     have e2:(pickOrder (w.params.setOrder a ep) es)[es.size]?=none:=by
       rw[<-e1]
       exact Array.getElem?_eq_none (by rw[ord_size];exact Nat.le_refl _)
     have e3:(pickOrder ((model prog w).w.params.setOrder a ep) es)[es.size]?=none:=e2
     rw[e3]
     exact hR
   | false =>
     have hb':¬ ((model prog w).w.params.followText "set-order")=true:=by rw[show(model prog w).w.params.followText "set-order" = false from hb];decide
     have hp:=g.plain
     have hl:=g.led hb
     have hu:=g.up
     have hz:=g.size
     dsimp only
     rw[if_neg hb']
     have e4:es.size<=SetTable.below t.place (zh1 w t es.size):=by
       obtain⟨b1,b2,b3⟩:=zL2 t.place (zh1 w t es.size) hu
       rcases Nat.lt_or_ge (SetTable.below t.place (zh1 w t es.size)) es.size with z | z
       . exfalso
         have mono:∀x y,x<y->y<t.place.size->t.place.getD x 0<t.place.getD y 0:=fun x y hxy hy=>by
           have:=List.pairwise_iff_getElem.mp hu x y (by simp;omega) (by simpa using hy) hxy
           simpa [Array.getD,hy,show x<t.place.size by omega] using this
         have q:=b2 _ (Nat.le_refl _) (by omega)
         generalize SetTable.below t.place (zh1 w t es.size)=B at q z
         obtain⟨j,hj⟩:∃j,es.size=j+1:=⟨es.size-1,by omega⟩
         rw[hj,sl hb] at q
         have gd:t.place.getD B (t.place.getD j 0+1)=t.place.getD B 0:=by simp[Array.getD,show B<t.place.size by omega]
         rw[gd] at q
         rcases Nat.lt_or_ge B j with y | y
         . have:=mono B j y (by omega);omega
         . obtain rfl:B=j:=by omega
           omega
       . exact z
     obtain⟨mask,place,dummies,finger,led,moves,plain⟩:=t
     dsimp only at hp hl
     subst hp hl
     rw[if_neg (by intro z;exact Bool.noConfusion (show false=true from z))]
     refine wpAny_bind (wpAny_pure ?_)
     dsimp only at e4 ⊢
     rw[Array.getElem?_eq_none e4]
     exact wpAny_pure hR
 refine nx _ _ ?_
 dsimp only
 refine wpAny_bind (wpAny_setField ho hd (by simp) ?_)
 refine wpAny_bind ?_
 simp only[newExc,newTuple]
 refine wpAny_bind (wpAny_newObj_type ?_ (by size_fits))
 refine wpAny_bind (m:=firstArgMember _ _) (wpAny_of_eq (a:=Value.none) (by first | rfl | (simp only[firstArgMember];rfl)) ?_)
 refine wpAny_newObj_type ?_ (by size_fits)
 simp only[raiseNew]
 refine wpAny_bind (wpAny_handled ?_)
 rw[show A.in1.handled=none from hh]
 refine wpAny_bind (wpAny_pure (wpAny_throw ?_))
 refine wpAny_bind (wpAny_isInstance (T:="StopIteration") (b:=true) ⟨_,Heap.get?_push_size _ rfl,rfl⟩ isSubtype_stop ?_)
 exact wpAny_pure (hQ _ (((Heap.SameBut.update ..).extBut.push _).push _))
theorem s_iter {Q:Value->Shared->Prop}(g:SetGood w es t)(hm:zr5 s.heap a es ep t)
   (hQ:Q (.ref s.heap.objs.size) { s with heap:=s.heap.push { cls:=.type "set_iterator",data:=.fields #[.int 0 0,.int 0 0,.ref a,.int es.size 0,.int ep 0] } }):wpAny (model prog w) A (pyIter (.ref a)) Q E s:=by
 have hT:=hm.typeIs
 obtain⟨os,hos,hex,hds⟩:=id hm
 refine wpAny_pyIter_slot hT PySem.F.slot_set_iter (wpAny_call_entry PySem.F.slot_set_iter hT entry_s_iter ?_ (PySem.F.args_set_iter_1 _))
 unfold Builtin.«frozenset.__iter__» Builtin.Frozenset.slot0
 refine wpAny_bind (wpAny_bind (m:=slotArgs _ _ _) (wpAny_pure (wpAny_pure ?_)))
 unfold Builtin.Frozenset.sizeOf
 refine wpAny_bind (wpAny_bind (wpAny_setEntries_of hos hds g.fits (wpAny_pure ?_)))
 unfold setDrawn
 refine wpAny_bind (wpAny_bind (wpAny_setState_of hos hds g.fits ?_))
 dsimp only
 unfold setsByText
 refine wpAny_bind (wpAny_bind (wpAny_askSetting (wpAny_pure (wpAny_pure ?_))))
 dsimp only
 have hp:=g.plain
 obtain⟨mask,place,dummies,finger,led,moves,plain⟩:=t
 dsimp only at hp
 subst hp
 rw[if_neg (by
   intro z
   have z':(!((model prog w).w.params.followText "set-order") && false)=true:=z
   rw[Bool.and_false] at z'
   exact Bool.noConfusion z')]
 refine wpAny_bind (wpAny_pure (wpAny_bind ?_))
 unfold setEpoch
 refine wpAny_bind (wpAny_setState_of hos hds g.fits (wpAny_pure ?_))
 exact wpAny_bind (wpAny_newObj_type (wpAny_pure ⟨_,rfl,"set_iterator",_,⟨_,Heap.get?_push_size _ rfl,rfl⟩,zj2.lookup,hQ⟩))
theorem s_hint {Q:Bool->Shared->Prop} (hT:s.TypeIs (.ref a) "set") (h:Q false s):wpAny (model prog w) A (Builtin.List.listLengthHint (.ref a)) Q E s:=by
 unfold Builtin.List.listLengthHint
 refine wpAny_bind (wpAny_specialOf hT PySem.F.slot_set_len.lookup ?_)
 generalize hid:("set.__len__" : String)=id0
 wp_delta
 rw[show splitId id0=some ("set","__len__") from by subst hid;decide +kernel]
 subst hid
 refine wpAny_bind (wpAny_isInstance (T:="set") (b:=true) hT (by rw[isSubtype_type];kernel_rfl) ?_)
 refine wpAny_ite_split (fun hab=>absurd hab (by decide)) (fun _=>?_)
 refine wpAny_ite_split (fun _=>?_) (fun hab=>absurd (by decide +kernel) hab)
 refine wpAny_bind (wpAny_typeOf hT ?_)
 exact wpAny_pure h
theorem s_walks (hh:A.handled=none)(I a:Addr)(hne:a≠I)(g:SetGood w es t)(ep:Nat) :
   Walks prog w A I [I,a] [I] es.size (fun i v=>∃h:i<es.size,v=((ordOf w a ep es)[i]'(by rw[ord_size];exact h)).2) (fun i h=>zo6 h I a (zh1 w t i) i es.size ep/\zr5 h a es ep t) where
 sub:=fun b hb=>by simp at hb;simp[hb]
 frame:=fun _ _ _ st hk=>⟨let⟨o,ho,r⟩:=st.1;⟨o,hk I (by simp) o ho,r⟩,st.2.at_ fun o e=>hk a (by simp) o e⟩
 item:=fun i s Q E hi st hQ=>si_next g st.1 st.2 hne hi fun h' hit' hs'=>hQ _ h' s.toks ⟨hi,rfl⟩ ⟨hit',st.2.at_ fun o e=>hs'.extBut a o hne e⟩ fun b o hb e=>hs'.extBut b o (fun h=>hb (by simp[h])) e
 done:=fun s Q E st hQ=>si_end hh g st.1 st.2 hne fun h' he'=>hQ h' s.toks fun b o hb e=>he' b o (fun h=>hb (by simp[h])) e
 self:=fun s Q E i st hQ=>by
   have hT:=st.1.typeIs
   refine wpAny_pyIter_slot hT zD5 (wpAny_call_entry zD5 hT entry_si_iter ?_ (args_si_iter _))
   show wpAny _ _ (ret (.ref I)) _ _ _
   exact wpAny_pure ⟨_,rfl,"set_iterator",_,hT,zj2.lookup,hQ⟩
theorem s_src (g:SetGood w es t):KdlSrc prog w "set" a a es.size (fun i v=>∃h:i<es.size,v=((ordOf w a ep es)[i]'(by rw[ord_size];exact h)).2) (fun h=>zr5 h a es ep t) where
 type:=fun _ hm=>hm.typeIs
 there:=fun _ hm=>⟨let⟨_,ho,_⟩:=hm;Heap.lt_size ho,let⟨_,ho,_⟩:=hm;Heap.lt_size ho⟩
 keep:=fun _ _ hm hk=>hm.at_ fun o e=>hk a (.inl rfl) o e
 notList:=by decide
 notTuple:=by decide
 hint:=fun _ _ _ _ hm hq=>s_hint hm.typeIs hq
 iter:=fun _ _ hh hm=>⟨_,_,(fun _ _ hq=>s_iter g hm hq),s_walks hh _ a (Nat.ne_of_lt (let⟨_,ho,_⟩:=hm;Heap.lt_size ho)) g ep,⟨⟨_,Heap.get?_push_size _ rfl,rfl,rfl⟩,hm.at_ fun o e=>Heap.get?_push_of_some _ e⟩⟩
end
end Sx
namespace L2
open PySem PySem.Spec PyProof.Rows
noncomputable def SetV (w:World)(p:Addr)(ms:List Int):HO:=.ext fun h=>∃ep,Sx.SetS (Sx.byT w) h p ms ep
section
variable {X:Cx}
theorem call_setI (hc:X.calm=true):zl1 X (.type "set") (fun xs H Q=>∃(l:Addr) (ns:List Int),xs=[.ref l]/\SqL X.K H l (ns.map V.int)/\(∀n∈ns,1<=n/\n<=5)/\∀p ms,H p=none->(∀x,x∈ms↔x∈ns)->ms.Pairwise (· < ·)->Q (.ref p) (upd H p (SetV X.w p ms))):=by
 intro pins s σ H xs us Q I r h
 obtain⟨l,ns,rfl,hS,hlo,q⟩:=h
 obtain⟨u,rfl,ru⟩:=zr6 r
 cases ru
 obtain⟨its,rv,p,hz⟩:=I.list hS
 refine Sx.call_setS (I.ok.hd hc) p.isList (by simpa using zm2 rv) hlo fun h' tk ms ep S hx k=>?_
 refine⟨.ref s.heap.objs.size,_,I.laid (t':=tk) (o:=SetV X.w s.heap.objs.size ms) k (Nat.le_refl _) ?_,rfl,q _ ms (I.hok.fresh (Nat.le_refl _)) hx S.up⟩
 refine⟨⟨ep,S⟩,?_,fun h1 h2 ⟨ep',S'⟩ kk=>⟨ep',S'.other kk⟩⟩
 obtain⟨o,es,t,ho,_⟩:=S.st
 exact⟨o,ho⟩
theorem sorted_eq {a b:List Int}(p:a.Perm b)(ha:a.Pairwise (·<=·))(hb:b.Pairwise (· < ·)):a=b:=W.ksm_same p ha (hb.imp fun z=>Int.le_of_lt z)
theorem zY2:∀ {es:List (Int×Value)} {ns:List Int},Sx.ElsAre es ns->IntsAre (es.map (·.2)) ns
 | _,_,.nil=>.nil
 | _,_,.cons ⟨_,tk,h⟩ t=>by
   rw[List.map_cons,h]
   exact .cons _ _ (zY2 t)
theorem ints_perm {vs us:List Value}{ns:List Int}(p:vs.Perm us)(h:IntsAre us ns):∃ms,IntsAre vs ms/\ms.Perm ns:=by
 induction p generalizing ns with
 | nil=>cases h;exact⟨[],.nil,.nil⟩
 | cons x _ ih =>
   cases h with
   | cons n t h=>obtain⟨ms,h1,h2⟩:=ih h;exact⟨n::ms,.cons n t h1,h2.cons n⟩
 | swap x y l =>
   cases h with
   | cons n t h=>cases h with
     | cons m u h=>exact⟨m::n::_,.cons m u (.cons n t h),.swap _ _ _⟩
 | trans _ _ ih1 ih2 =>
   obtain⟨ms,h1,h2⟩:=ih2 h
   obtain⟨ks,h3,h4⟩:=ih1 h1
   exact⟨ks,h3,h4.trans h2⟩
theorem call_sortS (hc:X.calm=true):zl1 X (.builtin "sorted") (fun xs H Q=>∃(p:Addr) (ms:List Int),xs=[.ref p]/\H p=some (SetV X.w p ms)/\∀l,H l=none->Q (.ref l) (upd H l (.lst (ms.map V.int)))):=by
 intro pins s σ H xs us Q I r h
 obtain⟨p,ms,rfl,hp,q⟩:=h
 obtain⟨u,rfl,ru⟩:=zr6 r
 cases ru
 obtain⟨⟨ep,S⟩,_,_⟩:=(show ze9 X.prog X.w H s.heap p (SetV X.w p ms) from I.hok p _ hp)
 obtain⟨⟨o,es,t,ho,hex,hd,hel,hpl,hdu,hma,hpn,hle⟩,up,lo⟩:=S
 have h5:=(Sx.five up lo).1
 have hl:=hel.len
 have hls:t.place.size=es.size:=by rw[<-Array.length_toList,hpl,List.length_map,<-hl,Array.length_toList]
 have hl':es.size=ms.length:=by rw[<-hl,Array.length_toList]
 have g:Sx.SetGood X.w es t:=⟨Sx.fits_of hls hdu (by rw[hma];split<;>omega),hls,hpn,hle,by rw[hpl];exact Sx.nat_up up lo⟩
 refine Calls.call_function_entry kind_sorted plain_sorted entry_sorted (args_sorted1 _) ?_
 unfold Builtin.«sorted»
 refine wpAny_bind (m:=checkCount "sorted" 1 1 _) (wpAny_pure ?_)
 refine wpAny_bind (W.kdu_collect (Sx.s_src (ep:=ep) g) (show X.A.in1.handled=none from I.ok.hd hc) ⟨o,ho,hex,hd⟩ (by rw[sizeLine_eq];omega) fun h1 tk acc k1 hacc=>?_)
 have e:acc.toList=(Sx.ordOf X.w p ep es).toList.map (·.2):=by
   apply List.ext_getElem?
   intro j
   rcases Nat.lt_or_ge j es.size with z | z
   . have hj:j<acc.size:=by rw[hacc.1];exact z
     obtain⟨_,q⟩:=hacc.2 j acc[j] (getElem?_pos acc j hj)
     have hj2:j<(Sx.ordOf X.w p ep es).size:=by rw[Sx.ord_size];exact z
     rw[Array.getElem?_toList,getElem?_pos acc j hj,List.getElem?_map,Array.getElem?_toList,getElem?_pos _ j hj2,q]
     rfl
   . rw[List.getElem?_eq_none (by rw[Array.length_toList,hacc.1];exact z),List.getElem?_eq_none (by rw[List.length_map,Array.length_toList,Sx.ord_size];exact z)]
 obtain⟨ns,hi,hpm⟩:=ints_perm (vs:=acc.toList) (us:=es.toList.map (·.2)) (ns:=ms) (by rw[e];exact(Sx.ord_perm X.w p ep es).map _) (zY2 hel)
 have hal:acc.toList.length=ms.length:=by rw[Array.length_toList,hacc.1,hl']
 refine wpAny_bind (wpAny_newList ?_ (by rw[hal,sizeLine_eq];omega))
 have hoL:(h1.push (seqObj "list" acc.toList.toArray 0)).get? h1.objs.size=some (seqObj "list" acc.toList.toArray 0):=Heap.get?_push_size _ rfl
 show wpAny _ _ _ _ _ { s with heap:=h1.push (seqObj "list" acc.toList.toArray 0),toks:=tk }
 refine wpAny_bind (wpAny_holding (wpAny_call_entry slot_list_sort ⟨_,hoL,rfl⟩ entry_list_sort (list_sort_tree (s:={ s with heap:=h1.push (seqObj "list" acc.toList.toArray 0),toks:=tk }) hoL hi (by omega) fun out ns' a1 a2 a3=>⟨_,rfl,?_⟩) (args_list_sort _)))
 have I1:Inv X pins σ H { s with heap:=h1,toks:=tk }:=I.kept k1
 have en:ns'=ms:=sorted_eq (a2.trans hpm) a3 up
 subst en
 have ke:∀b u,h1.get? b=some u->(sortedHeap (h1.push (seqObj "list" acc.toList.toArray 0)) h1.objs.size acc.toList out).get? b=some u:=fun b u z=>by
   have hb:b≠h1.objs.size:=Nat.ne_of_lt (Heap.lt_size z)
   unfold sortedHeap
   rw[Heap.get?_update_ne _ _ _ _ hb]
   refine Heap.get?_push_of_some _ (Heap.get?_push_of_some _ ?_)
   rw[Heap.get?_update_ne _ _ _ _ hb]
   exact Heap.get?_push_of_some _ z
 have ob:∃c,(sortedHeap (h1.push (seqObj "list" acc.toList.toArray 0)) h1.objs.size acc.toList out).get? h1.objs.size=some (seqObj "list" out.toList.toArray c):=by
   obtain⟨e1,g1⟩:∃e1,((h1.push (seqObj "list" acc.toList.toArray 0)).update h1.objs.size (Obj.mapSeq fun _=>(#[]:Array Value))).get? h1.objs.size=some (seqObj "list" #[] e1):=⟨_,get?_update_seq hoL fun _=>#[]⟩
   have g2:=Heap.get?_push_of_some (seqObj "list" #[] 0) (Heap.get?_push_of_some (seqObj "tuple" acc.toList.toArray 0) g1)
   rw[Array.toArray_toList]
   exact⟨_,get?_update_seq g2 fun _=>out⟩
 obtain⟨c,ob⟩:=ob
 refine wpAny_pure ⟨_,rfl,⟨.ref h1.objs.size,_,I1.laid (s:={ s with heap:=h1,toks:=tk }) (t':=tk) (o:=.lst (ns'.map V.int)) ke (Nat.le_refl _) (show ze9 X.prog X.w _ _ _ (.lst _) from⟨?_,out.toList,c,?_,ob⟩),rfl,q _ (I1.hok.fresh (Nat.le_refl _))⟩⟩
 . rw[List.length_map,sizeLine_eq];omega
 . exact zF4 a1
end
end L2
namespace L2
open PySem
theorem Same.tups {H H':Hp}(s:Same H H'){ys:List V}{ks:List (List Int)}(h:Tups H ys ks):Tups H' ys ks:=Paired.mapP h fun y k ⟨b,e,hb⟩=>⟨b,e,s _ _ hb⟩
theorem tups_keep {H:Hp}{l:Addr}{o u:HO}(hl:H l=some o)(ho:∀xs,o≠.tup xs){ys:List V}{ks:List (List Int)}(h:Tups H ys ks):Tups (upd H l u) ys ks :=
 Paired.mapP h fun y k ⟨b,e,hb⟩=>⟨b,e,by rw[za9 (fun z=>by rw[z,hl] at hb;injection hb with hb;exact ho _ hb)];exact hb⟩
theorem zP4 {H:Hp}{ys:List V}{ks:List (List Int)}(h:Tups H ys ks){b:Addr}{k:List Int}(hb:H b=some (.tup (k.map V.int))):Tups H (ys++[.ref b]) (ks++[k]):=Paired.snoc h ⟨b,rfl,hb⟩
theorem zv0 {H:Hp}:∀ {ys:List V} {ks:List (List Int)},Tups H ys ks->∀ {i:Nat} {y:V},ys[i]?=some y->∃b k,y = .ref b/\ks[i]?=some k/\H b=some (.tup (k.map V.int))
 | _,_,.nil,i,y,h=>by simp at h
 | _,_,.cons ⟨b,e,hb⟩ _,0,y,h=>by
   have h':some _=some y:=h
   obtain rfl:=Option.some.inj h'
   exact⟨b,_,e,rfl,hb⟩
 | _,_,.cons _ t,i+1,y,h=>by
   obtain⟨b,k,e,hk,hb⟩:=zv0 t (i:=i) (y:=y) (by simpa using h)
   exact⟨b,k,e,by simpa using hk,hb⟩
theorem zn4 {H:Hp}{ys:List V}{ks:List (List Int)}(h:Tups H ys ks):ys.length=ks.length:=Paired.length h
theorem zg9.same {H H1 H2:Hp}{l:Addr}(s:Same H H1)(hl:H l=none)(x:zg9 l H1 H2):Same H H2:=fun b o e=>x b o (s b o e) (zc1 e hl)
theorem Same.x {H H1:Hp}{l:Addr}(s:Same H H1):zg9 l H H1:=fun b o e _=>s b o e
theorem zg9.trans {H H1 H2:Hp}{l:Addr}(s:zg9 l H H1)(s':zg9 l H1 H2):zg9 l H H2:=fun b o e hb=>s' b o (s b o e hb) hb
theorem zg9.updX {H H1:Hp}{l:Addr}{o:HO}(s:zg9 l H H1):zg9 l H (L2.upd H1 l o):=fun b u e hb=>by rw[za9 hb];exact s b u e hb
theorem zg9.put {H H1:Hp}{l a:Addr}{o:HO}(s:zg9 l H H1)(h:H a=none):zg9 l H (L2.upd H1 a o):=fun b u e hb=>by rw[za9 (zc1 e h)];exact s b u e hb
theorem zg9.free {H H1:Hp}{l a:Addr}(s:zg9 l H H1)(h:H1 a=none)(hl:H1 l≠none):H a=none:=by
 cases e:H a with
 | none=>rfl
 | some o =>
   by_cases z:a=l
   . rw[z] at h;exact absurd h hl
   . rw[s a o e z] at h;cases h
theorem yj0 {X:Cx} {o e:Expr} {es:List Expr} {to:TE} {t:TA} {name:Str} {apos cpos:Pos} {T id:String} {r:V->List V->Hp->VK->Prop} (K:W.Frag) (h:X.K=K) (pa:PlainAttrs T) (slot:Slot T name id) (hty:typeOf (.builtin id)=pure (.type "method_descriptor")) (hm:MtR X id r) (ho:PE X o to) (ha:PA X (e::es) t)
 (hbase:attributeBase o name X.env (eval o X.env)=eval o X.env:=by rfl)
 (hfew:((backTo cpos (starEach (e::es) X.env)).all (fun x=>!x.1) && (backToKw cpos (keywordEach [] X.env)).all (fun x=>x.1.isSome)
   && decide ((e::es).length+([]:List Keyword).length+(if ([]:List Keyword).isEmpty then 0 else 1)<30))=true:=by rfl)
 (hline:(apos.endLine == cpos.line)=true:=by rfl) (hs:starEach (e::es) X.env=(false,eval e X.env)::starEach es X.env:=by rfl) (hplain:(backTo cpos (starEach es X.env)).any (·.1)=false:=by rfl) :
 PE X (.Call (.Attribute o name apos) (e::es) [] cpos) (tBM K T r to t):=h▸zv7 pa slot hty hm ho ha hbase hfew hline hs hplain
end L2
namespace L2
open PySem PySem.Spec PyProof.Rows
noncomputable def zU7:Expr->Bool
 | .Starred .. => false
 | _=>true
theorem zw8 {e:Expr}{es:List Expr}{env:Env}(h:zU7 e=true):starEach (e::es) env=(false,eval e env)::starEach es env:=by
 cases e<;>first | rfl | cases h
theorem zc3 {X:Cx}{e:Expr}{es:List Expr}{te:TE}{t:TA}(ha:PE X e te)(hr:PA X es t)(hs:zU7 e=true:=by rfl):PA X (e::es) (yh4 te t):=za0 ha hr (zw8 hs)
structure WE (X:Cx)(e:Expr)(t:TE):Prop where h:PE X e t
structure WA (X:Cx)(es:List Expr)(t:TA):Prop where h:PA X es t
structure WS (X:Cx)(st:Stmt)(t:TS):Prop where h:PS X st t
structure WSs (X:Cx)(st:List Stmt)(t:TS):Prop where h:PSs X st t
section
variable {X:Cx}
theorem zj7 {es:List Expr}{t:TA}{pos:Pos}(h:WA X es t):WE X (.List es pos) (tLst t):=⟨ze6 h.h⟩
theorem zn7 {es:List Expr}{t:TA}{pos:Pos}{x1}(h:WA X es t):WE X (.Tuple es x1 pos) (tTup t):=⟨zF3 h.h⟩
theorem ze3:WA X [] tNil:=⟨za3⟩
theorem za8 {e:Expr}{es:List Expr}{te:TE}{t:TA}(ha:WE X e te)(hr:WA X es t)(hs:zU7 e=true:=by rfl):WA X (e::es) (yh4 te t):=⟨za0 ha.h hr.h (zw8 hs)⟩
theorem we_ix {a b:Expr}{ta tb:TE}{pos:Pos}{r:R2}(hr:IxR X r)(ha:WE X a ta)(hb:WE X b tb)(hs:yc5 b):WE X (.Subscript a b pos) (tOp r ta tb):=⟨zd3 hr ha.h hb.h hs⟩
theorem yj1 {pos:Pos}{i:Nat}{x:Str}{e:Expr}{te:TE}{pos':Pos}(hN:X.N.Nodup)(hi:X.N[i]?=some x)(hx:Loc X.env.scope x)(he:WE X e te)(hs:swapsWith e (some (.Name x pos')) pos.line X.env=pure false:=by rfl)(hf:X.fn x=true\/X.env.scope.names.lookup x=some .local:=by first | exact .inl rfl | exact .inr rfl | assumption) :
 WS X (.Assign [.Name x pos'] e pos) (tAsg te (zq6 i)):=⟨zb3 hN hi hx he.h hs hf⟩
theorem zL4 {e:Expr}{te:TE}{pos:Pos}(he:WE X e te):WS X (.Return (some e) pos) (tRet te):=⟨zb8 he.h⟩
theorem ye3 {c:Expr}{a b:List Stmt}{tc:TT}{t u:TS}{pos:Pos}(hc:PT X c tc)(ha:WSs X a t)(hb:WSs X b u):WS X (.If c a b pos) (tIfS tc t u):=⟨zd1 hc ha.h hb.h⟩
theorem zr9 {st:Stmt}{rest:List Stmt}{t u:TS}(h1:WS X st t)(h2:WSs X rest u):WSs X (st::rest) (tSeq t u):=⟨za4 h1.h h2.h⟩
theorem zD6 {st:Stmt}{t:TS}(h1:WS X st t):WSs X [st] t:=⟨za6 h1.h⟩
theorem zI9:WSs X [] yk6:=⟨zb9⟩
end
theorem call_minL {X:Cx} (hc:X.calm=true):zl1 X (.builtin "min") (fun xs H Q=>∃p zs,xs=[.ref p]/\SqL X.K H p (List.map V.int zs)/\0<zs.length/\∀M,M∈zs->(∀a∈zs,M<=a)->Q (.int M) H):=by
 intro pins s σ H xs us Q I r h
 obtain⟨p,zs,rfl,hq,hne,q⟩:=h
 obtain⟨u,rfl,rx⟩:=zr6 r
 cases rx
 obtain⟨its,r',pl,hz⟩:=I.list hq
 have hi:IntsAre its zs:=zm2 r'
 obtain⟨ys,e⟩:=hi.allInts.items
 have hns:zs=ys.toList.map (·.1):=by
   rw[<-hi.numsOf,<-nums_intItems,<-e]
 have hsz:0<ys.size:=by
   have h3:=hne;rw[hns,List.length_map,Array.length_toList] at h3;exact h3
 have hl:=pl.isList
 rw[e] at hl
 refine min_intList (I.ok.hd hc) hl hsz fun v h' tk hv hk=>?_
 obtain⟨t,rfl⟩:=intItems_at hv
 obtain⟨h1,h2⟩:=argBest_lt (numAt ys) (ys.size-1)
 refine⟨.int _,H,I.kept hk,⟨t,rfl⟩,q _ ?_ fun a ha=>?_⟩
 . have hlt:argBest (fun i j=>decide (numAt ys i<numAt ys j)) (ys.size-1)<(ys.toList.map (·.1)).length:=by rw[List.length_map,Array.length_toList];omega
   rw[hns,numAt_eq,List.getD_eq_getElem?_getD,List.getElem?_eq_getElem hlt]
   exact List.getElem_mem hlt
 . rw[hns] at ha
   obtain⟨j,hj,rfl⟩:=mem_getD ha
   rw[List.length_map,Array.length_toList] at hj
   rw[<-numAt_eq];exact h2 j (by omega)
end L2
open PySem
namespace L2
noncomputable def zP5 (x y:V):Bool:=scal x y && (match x with | .byt _=>false | _=>true)
theorem scalE_scal {x y:V}(h:zP5 x y=true):scal x y=true:=(Bool.and_eq_true_iff.mp h).1
theorem eqat_scal {A:Around}{s:Shared}{x y:V}{v u:Value}(hs':zP5 x y=true)(rx:RelV x v)(ry:RelV y u):PySem.SeqAt.EqAt A s v u (decide (x=y)):=by
 have hs:=scalE_scal hs'
 cases x with
 | non =>
   cases rx
   cases y with
   | non=>cases ry;exact PySem.SeqAt.EqAt.same _
   | bl j=>cases ry;exact PySem.SeqAt.EqAt.none_bool _
   | int j=>obtain⟨t',rfl⟩:=ry;exact PySem.SeqAt.EqAt.none_int _ _
   | str j=>obtain⟨t',rfl⟩:=ry;exact PySem.SeqAt.EqAt.none_str _ _
   | _=>exact absurd (show false=true from hs) Bool.false_ne_true
 | bl i =>
   cases rx
   cases y with
   | non=>cases ry;exact PySem.SeqAt.EqAt.bool_none _
   | bl j=>cases ry;rw[yb6];exact PySem.SeqAt.EqAt.bool_bool _ _
   | str j=>obtain⟨t',rfl⟩:=ry;exact PySem.SeqAt.EqAt.bool_str _ _ _
   | _=>exact absurd (show false=true from hs) Bool.false_ne_true
 | int i =>
   obtain⟨t,rfl⟩:=rx
   cases y with
   | non=>cases ry;exact PySem.SeqAt.EqAt.int_none _ _
   | int j=>obtain⟨t',rfl⟩:=ry;rw[zT2];exact PySem.SeqAt.EqAt.int_int _ _ _ _
   | str j=>obtain⟨t',rfl⟩:=ry;exact PySem.SeqAt.EqAt.int_str _ _ _ _
   | _=>exact absurd (show false=true from hs) Bool.false_ne_true
 | str i =>
   obtain⟨t,rfl⟩:=rx
   cases y with
   | non=>cases ry;exact PySem.SeqAt.EqAt.str_none _ _
   | bl j=>cases ry;exact PySem.SeqAt.EqAt.str_bool _ _ _
   | int j=>obtain⟨t',rfl⟩:=ry;exact PySem.SeqAt.EqAt.str_int _ _ _ _
   | str j=>obtain⟨t',rfl⟩:=ry;rw[zT3];exact PySem.SeqAt.EqAt.str_str _ _ _ _
   | _=>exact absurd (show false=true from hs) Bool.false_ne_true
 | byt i=>have:=(Bool.and_eq_true_iff.mp hs').2;cases this
 | _=>cases y<;>exact absurd (show false=true from hs) Bool.false_ne_true
noncomputable def eAt (xs ys:List V)(j:Nat):Bool:=match xs[j]?,ys[j]? with | some x,some y=>decide (x=y) | _,_=>true
theorem zU8:∀ {xs ys:List V},xs.length=ys.length->(List.range xs.length).all (eAt xs ys)=decide (xs=ys)
 | [],[],_=>rfl
 | x::xs,y::ys,h=>by
   have ih:=zU8 (xs:=xs) (ys:=ys) (by simpa using h)
   rw[List.length_cons,List.range_succ_eq_map,List.all_cons,List.all_map]
   have e:(eAt (x::xs) (y::ys) ∘ Nat.succ)=eAt xs ys:=by funext j;rfl
   rw[e,ih]
   show(decide (x=y) && decide (xs=ys))=_
   simp
theorem zD7:∀ {xs:List V} {us:List Value},Vals xs us->∀ {j:Nat} {x:V},xs[j]?=some x->∃u,us[j]?=some u/\RelV x u
 | _,_,.nil,j,x,h=>by simp at h
 | _,_,.cons r t,0,x,h=>⟨_,rfl,by obtain rfl:=Option.some.inj h;exact r⟩
 | _,_,.cons r t,j+1,x,h=>zD7 t (j:=j) h
theorem zL5 {A:Around}{s:Shared}{xs ys:List V}{us vs:List Value}(hx:Vals xs us)(hy:Vals ys vs)(hs:∀(j:Nat) x y,xs[j]?=some x->ys[j]?=some y->zP5 x y=true)(j:Nat)(h1:j<us.toArray.size)(h2:j<vs.toArray.size):PySem.SeqAt.EqAt A s us.toArray[j] vs.toArray[j] (eAt xs ys j):=by
 rw[List.size_toArray] at h1 h2
 have l1:=hx.length
 have l2:=hy.length
 have e1:xs[j]?=some xs[j]:=List.getElem?_eq_getElem (by omega)
 have e2:ys[j]?=some ys[j]:=List.getElem?_eq_getElem (by omega)
 unfold eAt
 rw[e1,e2]
 refine eqat_scal (hs j _ _ e1 e2) ?_ ?_
 . obtain⟨u,hu,ru⟩:=zD7 hx e1
   rw[List.getElem_toArray]
   rw[List.getElem?_eq_getElem h1] at hu
   rw[Option.some.inj hu]
   exact ru
 . obtain⟨u,hu,ru⟩:=zD7 hy e2
   rw[List.getElem_toArray]
   rw[List.getElem?_eq_getElem h2] at hu
   rw[Option.some.inj hu]
   exact ru
section
variable {X:Cx}
inductive yj2 (K:PySem.W.Frag)(x:V)(y:V)(H:Hp)(Q:VK):Prop
 | mk (a b xs ys:_)(h0:x = .ref a)(h1:y = .ref b)(h2:SqT K H a xs)(h3:SqT K H b ys)(h4:(∀(j:Nat) x y,xs[j]?=some x->ys[j]?=some y->zP5 x y=true))(h5:Q (.bl (decide (xs=ys))) H):yj2 K x y H Q
noncomputable def rEqT (K:PySem.W.Frag):R2:=fun x y H Q=>yj2 K x y H Q
theorem yj3 (hu:X.A.units<cLine):OpR X (compareOp .Eq) (rEqT X.K):=by
 intro pins s σ H x y v u Q I rx ry h
 obtain⟨a,b,xs,ys,rfl,rfl,ha,hb,hsc,q⟩:=h
 cases rx
 cases ry
 obtain⟨us,r1,p1,_⟩:=I.tuple ha
 obtain⟨vs,r2,p2,_⟩:=I.tuple hb
 have l1:=r1.length
 have l2:=r2.length
 refine(PySem.SeqAt.RcAt.tuples (e:=eAt xs ys) (show s.heap.IsTuple a us.toArray from p1) (show s.heap.IsTuple b vs.toArray from p2) hu (fun j h1 h2=>zL5 r1 r2 hsc j h1 h2)) _ _ _ _ (zd5 I q ?_)
 rw[List.size_toArray,List.size_toArray]
 by_cases hl:xs.length=ys.length
 . rw[show min us.length vs.length=xs.length by omega,zU8 hl,show us.length=vs.length by omega]
   simp
 . rw[decide_eq_false (fun z=>hl (by rw[z])),show(us.length == vs.length)=false by simp;omega,Bool.and_false]
end
end L2
namespace L2
open PySem PySem.Spec PyProof.Rows
open Classical in
open Classical in
section
variable {X:Cx}
end
section
variable {X:Cx}
inductive yj4 (K:W.Frag)(x:V)(y:V)(H:Hp)(Q:VK):Prop
 | mk (a b xs ys:_)(h0:x = .ref a)(h1:y = .ref b)(h2:SqT K H a xs)(h3:SqT K H b ys)(h4:(∀(j:Nat) x y,xs[j]?=some x->ys[j]?=some y->zP5 x y=true))(h5:Q (.bl (!decide (xs=ys))) H):yj4 K x y H Q
noncomputable def rNeT (K:W.Frag):R2:=fun x y H Q=>yj4 K x y H Q
theorem op_neT (hu:X.A.units<cLine):OpR X (compareOp .NotEq) (rNeT X.K):=by
 intro pins s σ H x y v u Q I rx ry h
 obtain⟨a,b,xs,ys,rfl,rfl,ha,hb,hsc,q⟩:=h
 cases rx
 cases ry
 obtain⟨us,r1,p1,_⟩:=I.tuple ha
 obtain⟨vs,r2,p2,_⟩:=I.tuple hb
 have l1:=r1.length
 have l2:=r2.length
 refine(PySem.SeqAt.RcNeAt.tuples (e:=eAt xs ys) (show s.heap.IsTuple a us.toArray from p1) (show s.heap.IsTuple b vs.toArray from p2) hu (fun j h1 h2=>zL5 r1 r2 hsc j h1 h2)) _ _ _ _ (zd5 I q ?_)
 rw[List.size_toArray,List.size_toArray]
 by_cases hl:xs.length=ys.length
 . rw[show min us.length vs.length=xs.length by omega,zU8 hl,show us.length=vs.length by omega]
   simp
 . rw[decide_eq_false (fun z=>hl (by rw[z])),show(us.length == vs.length)=false by simp;omega,Bool.and_false]
end
noncomputable def eI (i:Int):Value->Bool
 | .int a _=>a == i
 | _=>false
theorem zY3 {i:Int}{u:Tok}:∀ {xs:List Int} {us:List Value},Vals (xs.map V.int) us->∀y∈us,MeetsSeq.EqGives y (.int i u) (eI i y)
 | [],_,.nil,y,hy=>nomatch hy
 | a::xs,_,.cons r t,y,hy=>by
   rcases List.mem_cons.mp hy with rfl | hy
   . obtain⟨tk,rfl⟩:=r
     exact fun prog w A E s Q h=>SeqAt.EqAt.int_int a tk i u prog w E Q h
   . exact zY3 t y hy
theorem zP6 {xs:List Int}{us:List Value}(h:Vals (xs.map V.int) us){j:Nat}{a:Int}(e:xs[j]?=some a):∃t,us[j]?=some (.int a t):=by
 obtain⟨u,hu,t,rfl⟩:=zD7 h (j:=j) (x:=.int a) (by rw[List.getElem?_map,e];rfl)
 exact⟨t,hu⟩
section
variable {X:Cx}
end
end L2
namespace L2
open PySem PySem.W PySem.Calls PyProof.Rows
theorem zP7:entryFor table "dict.update.loop" = some Builtin.«dict.update.loop»:=by rfl
theorem zy7:plainId "dict.update.loop" = true:=by decide +kernel
section
variable {prog:Program} {w:World} {A:Around} {E:Value->Shared->Prop} {s:Shared}
theorem pair_items {a:Addr}{k v:Value}{Q:List Value->Shared->Prop}(ht:s.heap.IsTuple a #[k,v])(q:Q [k,v] s):wpAny (model prog w) A (Builtin.Dict.pairItems (.ref a)) Q E s:=by
 obtain⟨ol,hol,hcl,nl,hdl⟩:=ht
 obtain⟨ocls,odict,odata,oslots⟩:=ol
 simp only at hcl hdl
 subst hcl;subst hdl
 unfold Builtin.Dict.pairItems seqItems?
 wp_walk
 exact q
noncomputable def pxs (ky:Nat->List Int)(ka:Nat->Addr)(i:Nat):List (List Key×Addr×Value):=(List.range i).map fun j=>(ik (ky j),ka j,Value.bool true)
theorem pxs_succ (ky:Nat->List Int)(ka:Nat->Addr)(i:Nat):pxs ky ka (i+1)=pxs ky ka i++[(ik (ky i),ka i,.bool true)]:=by
 unfold pxs
 rw[List.range_succ,List.map_append]
 rfl
theorem pxs_none {ky:Nat->List Int}{ka:Nat->Addr}{i:Nat}(h:∀j,j<i->ik (ky j)≠ik (ky i)):(atKey (pxs ky ka i) (ik (ky i))).isSome=false:=by
 unfold atKey
 rw[Option.isSome_map,List.find?_eq_none.mpr fun x hx=>?_]
 . rfl
 obtain⟨j,hj,rfl⟩:=List.mem_map.mp hx
 simpa using h j (List.mem_range.mp hj)
theorem ye4 {knd:HeapKind prog w (List Key)}{h h':Heap}{D:Addr}{ky:Nat->List Int}{ka:Nat->Addr}{i:Nat}(hD:Heap.DictOfH knd h D (pxs ky ka i))(hs:∀o,h.get? D=some o->h'.get? D=some o)(keys:∀j,j<i->knd.is h' (ik (ky j)) (ka j)):Heap.DictOfH knd h' D (pxs ky ka i):=by
 obtain⟨o,es,ep,h1,h2,h3,h4,_,h6⟩:=hD
 refine⟨o,es,ep,hs _ h1,h2,h3,h4,fun x hx=>?_,h6⟩
 obtain⟨j,hj,rfl⟩:=List.mem_map.mp hx
 exact keys j (List.mem_range.mp hj)
theorem tup2 {H:Hp}{h:Heap}{a k:Addr}(ok:HOk prog w H h)(e:H a=some (.tup [.ref k,.bl true])):h.IsTuple a #[.ref k,.bool true]:=by
 obtain⟨_,its,r,o,h1,h2,_,n,h3⟩:=(show ze9 prog w H h a (.tup [.ref k,.bl true]) from ok a _ e)
 obtain⟨u1,u2,rfl,r1,r2⟩:=zW4 r
 cases r1
 cases r2
 exact⟨o,h1,h2,n,h3⟩
theorem keyI {H:Hp}{h:Heap}{a:Addr}{k:List Int}(ok:HOk prog w H h)(e:H a=some (.tup (k.map V.int))):(tupleKind (ze8 prog w)).is h (ik k) a:=zF6 ok (by rw[zP0];exact e)
theorem dict_loop {H:Hp}{h0:Heap}(hk:∀h',(∀b o,h0.get? b=some o->h'.get? b=some o)->HOk prog w H h'){I:Addr}{fp wr:List Addr}{G:Array GenState->Array GenState->Prop}{n:Nat}{P:Nat->Value->Prop}{St:Nat->Shared->Prop}{R:Result->Shared->Prop}(W:WalksS prog w A.in1 I fp wr G n P St)(D:Addr)(hDf:D∉fp)(hD0:h0.get? D=none)(hw0:∀b∈wr,h0.get? b=none)
   (hu:A.units+2<cLine) (hn:n<=1000) (ky:Nat->List Int) (pa ka:Nat->Addr) (hval:∀i v,P i v->v = .ref (pa i)) (hp:∀i,i<n->H (pa i)=some (.tup [.ref (ka i),.bl true])/\H (ka i)=some (.tup ((ky i).map V.int))) (hne:∀i j,i<j->j<n->ik (ky i)≠ik (ky j)) :
   ∀(k i:Nat) (s:Shared),n-i=k->i<=n->St i s->(∀b o,h0.get? b=some o->s.heap.get? b=some o)->Heap.DictOfH (tupleKind (ze8 prog w)) s.heap D (pxs ky ka i) →
     (∀s',Moved (D::wr) G s s'->Heap.DictOfH (tupleKind (ze8 prog w)) s'.heap D (pxs ky ka n)->R (.ok (.ret .none)) s') →
     codeAny (model prog w) A (.builtin "dict.update.loop" ⟨[.ref D,.ref I,rawInt (i:Int),.none],[]⟩) R s:=by
 have hDw:D∉wr:=fun h=>hDf (W.sub _ h)
 have hsub:∀b∈wr,b∈D::wr:=fun b hb=>List.mem_cons_of_mem _ hb
 intro k
 induction k with
 | zero =>
   intro i s hk' hi hst hext hD hR
   obtain rfl:i=n:=by omega
   refine codeAny_builtin zP7 ?_
   rw[Around.under_plainId zy7 _]
   show wpAny _ A.in1 (pyNext (.ref I) >>= _) _ _ s
   refine wpAny_bind (W.done s _ _ hst fun s' hv=>?_)
   have hext':∀b o,h0.get? b=some o->s'.heap.get? b=some o:=fun b o e=>hv.heap b o (fun hb=>by rw[hw0 b hb] at e;cases e) (hext b o e)
   have hD':=ye4 hD (fun o e=>hv.heap D _ hDw e) (fun j hj=>keyI (hk _ hext') (hp j hj).2)
   show wpAny _ A.in1 (Builtin.Dict.addKeywords D [] >>= _) _ _ s'
   unfold Builtin.Dict.addKeywords
   wp_walk
   exact hR s' (hv.mono hsub) hD'
 | succ k ih =>
   intro i s hk' hi hst hext hD hR
   have hlt:i<n:=by omega
   refine codeAny_builtin zP7 ?_
   rw[Around.under_plainId zy7 _]
   show wpAny _ A.in1 (pyNext (.ref I) >>= _) _ _ s
   refine wpAny_bind (W.item i s _ _ hlt hst fun v s' hP hst' hv=>?_)
   obtain rfl:=hval i v hP
   have hext':∀b o,h0.get? b=some o->s'.heap.get? b=some o:=fun b o e=>hv.heap b o (fun hb=>by rw[hw0 b hb] at e;cases e) (hext b o e)
   have hD':=ye4 hD (fun o e=>hv.heap D _ hDw e) (fun j hj=>keyI (hk _ hext') (hp j (by omega)).2)
   have ok':=hk _ hext'
   refine wpAny_bind (wpAny_holding (wpAny_bind (wpAny_tryCatch (pair_items (tup2 ok' (hp i hlt).1) ?_))))
   show wpAny _ A.in1 (holding [.ref (ka i),.bool true] (dictSet D (.ref (ka i)) (.bool true))) _ _ s'
   refine wpAny_holding (wpAny_dictSet_heap (hsz:=?_) ?room (keyI ok' (hp i hlt).2) hD' fun h' dd' hs=>?_)
   case room=>exact tupleKind_room_in1 (by omega)
   . have est:storedH (pxs ky ka i) (ik (ky i)) (ka i) (.bool true)=pxs ky ka (i+1):=by
       unfold storedH
       rw[pxs_none (fun j hj=>hne j i hj hlt),if_neg Bool.false_ne_true,pxs_succ]
     rw[est] at dd'
     refine wpAny_pure ⟨plainId_quiet zy7 _,ih (i+1) _ (by omega) hlt (W.frame _ s' _ _ hst' (Nat.le_add_right _ _) fun b hb o e=>?_) (fun b o e=>?_) dd' fun s'' hm'' hD''=>?_⟩
     . rw[hs.2 b (fun h:b=D=>hDf (by rw[<-h];exact hb))];exact e
     . show h'.get? b=some o
       rw[hs.2 b (fun h:b=D=>by rw[h,hD0] at e;cases e)]
       exact hext' b o e
     . refine hR s'' (Moved.trans W.gtrans ((hv.mono hsub).then_heap (Nat.le_add_right _ _) fun b o hb e=>?_) hm'') hD''
       rw[hs.2 b (fun h:b=D=>hb (by rw[h];exact List.mem_cons_self))];exact e
   . unfold pxs
     rw[List.length_map,List.length_range]
     have:sizeLine=16777216:=by decide
     omega
end
section
variable {prog:Program} {w:World} {A:Around} {E:Value->Shared->Prop} {s:Shared}
theorem keys_none {l:Addr} {items:Array Value} {nl:Nat} {oslots:Array (Option Value)} {Q:Option Value->Shared->Prop} (hh:A.handled=none) (hol:s.heap.get? l=some { cls:=.type "list",dict:=none,data:=.seq items nl,slots:=oslots }) (q:∀h' tk,(∀b o,s.heap.get? b=some o->h'.get? b=some o)->Q none { s with heap:=h',toks:=tk }):wpAny (model prog w) A (getAttr? (.ref l) (Str.ofString "keys")) Q E s:=by
 have h1:=F.slot_list_getattribute.lookup
 have h2:=F.slot_list_getattribute.bind (.ref l)
 unfold getAttr? getAttrBy?
 wp_walk
 have h3:typeLookup (Value.type "list") (Str.ofString "keys")=pure none:=by rfl
 have key:codeAny (model prog w) A (Code.call (.builtin "list.__getattribute__") ⟨[.ref l]++[.str (Str.ofString "keys") s.toks],[]⟩) (fun r s'=>∃h' tk e,r = .error (.ref e)/\s' = { s with heap:=h',toks:=tk }/\s.heap.NewAttrErr h' e (.ref l) (Str.ofString "keys")) { s with toks:=s.toks+1 }:=by
   refine codeAny_call_builtin F.slot_list_getattribute.plain am_entry_list_getattribute ?_
   refine F.slot_list_getattribute.check _ _ _ _ (.ref l) _ _ _ ⟨_,hol,rfl⟩ (F.args_list_getattribute_2 _ _) ?_
   exact meets_getattribute_miss_list l items nl oslots (Str.ofString "keys") s.toks h3 (by decide +kernel) (by decide +kernel) prog w A (fun r s'=>∃h' tk e,r = .error (.ref e)/\s' = { s with heap:=h',toks:=tk }/\s.heap.NewAttrErr h' e (.ref l) (Str.ofString "keys")) { s with toks:=s.toks+1 } ⟨hol,hh,fun h' tk e ne=>⟨h',tk,e,rfl,rfl,ne⟩⟩
 refine codeAny_mono key fun r s' hr=>?_
 obtain⟨h',tk,e,rfl,rfl,ne⟩:=hr
 obtain⟨t,u,he⟩:=ne.there
 dsimp only
 unfold getattributeRaised hookBehind hookOrError attributeErrorLeaves
 have h4:=am_list_getattr_none
 have h5:isSubtype (Value.type "AttributeError") (Value.type "AttributeError")=pure true:=by rfl
 wp_walk
 exact q h' tk ne.keeps
theorem dict_from {H:Hp} {l:Addr} {items:Array Value} {Q:Value->Shared->Prop} (hk:∀h',(∀b o,s.heap.get? b=some o->h'.get? b=some o)->HOk prog w H h') (hh:A.handled=none) (hu:A.units+5<cLine) {nl:Nat} {oslots:Array (Option Value)} (hol:s.heap.get? l=some { cls:=.type "list",dict:=none,data:=.seq items nl,slots:=oslots }) (hn:items.size<=1000) (ky:Nat->List Int) (pa ka:Nat->Addr)
   (hval:∀i v,items[i]?=some v->v=Value.ref (pa i)) (hp:∀i,i<items.size->H (pa i)=some (.tup [.ref (ka i),.bl true])/\H (ka i)=some (.tup ((ky i).map V.int))) (hne:∀i j,i<j->j<items.size->ik (ky i)≠ik (ky j))
   (h:∀(h':Heap) (tk:Nat),Heap.DictOfH (tupleKind (ze8 prog w)) h' s.heap.objs.size (pxs ky ka items.size)->(∀b o,s.heap.get? b=some o->h'.get? b=some o)->Q (.ref s.heap.objs.size) { s with heap:=h',toks:=tk }) :
   wpAny (model prog w) A (call (.type "dict") [.ref l]) Q E s:=by
 refine callType_codes F.kt_called_dict (F.kt_typeCall_dict_1 _) F.entry_dict_init (kt_code_dict_new (.ref l) (Q₁:=fun obj s₁=>obj = .ref s.heap.objs.size/\s₁ = { s with heap:=s.heap.push { cls:=.type "dict",data:=.dict #[] } }) ⟨rfl,rfl⟩) fun obj s₁ he=>?_
 obtain⟨rfl,rfl⟩:=he
 have hS:(s.heap.push { cls:=.type "dict",data:=.dict #[] }).get? s.heap.objs.size=some { cls:=.type "dict",data:=.dict #[] }:=Heap.get?_push_size _ rfl
 refine⟨⟨_,hS,rfl⟩,F.args_dict_init_2 _ _,?_⟩
 have hol':(s.heap.push { cls:=.type "dict",data:=.dict #[] }).get? l=some { cls:=.type "list",dict:=none,data:=.seq items nl,slots:=oslots }:=Heap.get?_push_of_some _ hol
 have hl1:(s.heap.push { cls:=.type "dict",data:=.dict #[] }).IsList l items:=⟨_,hol',rfl,nl,rfl⟩
 unfold Builtin.«dict.__init__» Builtin.Dict.selfAndRest Builtin.Dict.notOrdered Builtin.Dict.addrOf Builtin.Dict.updateCommon Builtin.Dict.updateFrom
 generalize hPI:pyIter=PI
 generalize hGA:getAttr?=GA
 wp_walk
 subst hGA
 refine keys_none (by simp[hh]) hol' fun h1 tk1 k1=>?_
 have hl2:h1.IsList l items:=⟨_,k1 _ _ hol',rfl,nl,rfl⟩
 have hD1:=k1 _ _ hS
 generalize hst:({ s with heap:=h1,toks:=tk1 }:Shared)=s1
 wp_walk
 subst hPI
 subst hst
 refine wpAny_pyIter_list hl2 ?_
 have hlS:l<s.heap.objs.size:=Heap.lt_size hol
 have hDs:s.heap.objs.size<h1.objs.size:=Heap.lt_size hD1
 have k0:∀b o,s.heap.get? b=some o->h1.get? b=some o:=fun b o e=>k1 _ _ (Heap.get?_push_of_some _ e)
 have none_:∀b,s.heap.objs.size<=b->s.heap.get? b=none:=fun b hb=>by
   cases e:s.heap.get? b with
   | none=>rfl
   | some o=>exact absurd (Heap.lt_size e) (Nat.not_lt.mpr hb)
 have hh3:A.in1.in1.handled=none:=by simp[hh]
 have hneI:l≠h1.objs.size:=Nat.ne_of_lt (Nat.lt_trans hlS hDs)
 refine wpAny_pure ⟨plainId_quiet zy7 _,?_⟩
 refine dict_loop (A:=A.in1) (H:=H) (h0:=s.heap) hk ((Walks.list hh3 h1.objs.size l hneI items).toS) s.heap.objs.size ?hf (none_ _ (Nat.le_refl _)) ?hw ?hu hn ky pa ka hval hp hne items.size 0 _ (by omega) (Nat.zero_le _) ⟨⟨_,Heap.get?_push_size _ rfl,rfl,rfl⟩,hl2.push _⟩ (fun b o e=>Heap.get?_push_of_some _ (k0 b o e)) ?hD fun s' hm hD'=>?_
 case hf =>
   simp only[List.mem_cons,List.mem_singleton,List.not_mem_nil,or_false,not_or]
   exact⟨Nat.ne_of_lt hDs,Nat.ne_of_gt hlS⟩
 case hw =>
   intro b hb
   simp only[List.mem_cons,List.mem_singleton,List.not_mem_nil,or_false] at hb
   subst hb
   exact none_ _ (Nat.le_of_lt hDs)
 case hu=>simp;omega
 case hD=>exact⟨_,#[],0,Heap.get?_push_of_some _ hD1,⟨rfl,rfl,rfl⟩,rfl,rfl,(fun x hx=>by unfold pxs at hx;simp at hx),by unfold pxs;exact List.Pairwise.nil⟩
 obtain⟨h',g',d',tk',os'⟩:=s'
 have eg:g'=s.gens:=hm.gens
 have ed:d'=s.drawn:=hm.drawn
 have eo:os'=s.os:=hm.os
 subst eg;subst ed;subst eo
 refine⟨rfl,h h' tk' hD' fun b o e=>hm.heap b o ?_ (Heap.get?_push_of_some _ (k0 b o e))⟩
 have hb:=Heap.lt_size e
 simp only[List.mem_cons,List.mem_singleton,List.not_mem_nil,or_false,not_or]
 exact⟨Nat.ne_of_lt hb,Nat.ne_of_lt (Nat.lt_trans hb hDs)⟩
end
end L2
namespace L2
open PySem PySem.Spec PyProof.Rows
noncomputable abbrev Prs (H:Hp)(ys:List V)(ks:List (List Int)):Prop:=Paired (fun y k=>∃p a,y = .ref p/\H p=some (.tup [.ref a,.bl true])/\H a=some (.tup (k.map V.int))) ys ks
noncomputable def pOf (H:Hp)(ys:List V)(i:Nat):Addr:=match ys[i]? with | some (.ref p)=>p | _=>0
noncomputable def aOf (H:Hp)(p:Addr):Addr:=match H p with | some (.tup (.ref a::_))=>a | _=>0
theorem zU9 {H:Hp}:∀ {ys:List V} {ks:List (List Int)},Prs H ys ks->∀ {i:Nat},i<ys.length->ys[i]?=some (.ref (pOf H ys i))/\H (pOf H ys i)=some (.tup [.ref (aOf H (pOf H ys i)),.bl true])/\H (aOf H (pOf H ys i))=some (.tup ((ks.getD i []).map V.int))
 | _,_,.nil,i,h=>absurd h (Nat.not_lt_zero _)
 | _,_,.cons ⟨p,a,e,h1,h2⟩ t,0,_=>by
   subst e
   have e2:aOf H p=a:=by unfold aOf;rw[h1]
   refine⟨rfl,?_,?_⟩
   . show H p=some (.tup [.ref (aOf H p),.bl true]);rw[e2];exact h1
   . show H (aOf H p)=_;rw[e2];exact h2
 | _,_,.cons _ t,i+1,h=>zU9 t (i:=i) (by simpa using h)
theorem zF8 {α β:Type}{R:α->β->Prop}:∀ {l1:List α} {l2:List β},l1.length=l2.length->(∀(i:Nat) a b,l1[i]?=some a->l2[i]?=some b->R a b)->Paired R l1 l2
 | [],[],_,_=>.nil
 | [],_::_,h,_=>nomatch h
 | _::_,[],h,_=>nomatch h
 | a::l1,b::l2,h,f=>.cons (f 0 a b rfl rfl) (zF8 (by simpa using h) fun i a b h1 h2=>f (i+1) a b h1 h2)
theorem ye5 {H:Hp}{ys:List V}{ks:List (List Int)}(h:Prs H ys ks):ys.length=ks.length:=Paired.length h
theorem hu5_of {A:Around}{k:Nat}(hr:Room k A):A.units+5<cLine:=Nat.lt_of_le_of_lt (Nat.add_le_add_left (by decide:5<=64) _) hr.units
section
variable {X:Cx}
theorem call_dictP (hc : X.calm = true) (hu : X.A.units + 5 < cLine) : zl1 X (.type "dict") (fun xs H Q => ∃ (l : Addr) (ys : List V) (ks : List (List Int)), xs = [.ref l] ∧ H l = some (.lst ys) ∧ Prs H ys ks ∧ ks.Nodup ∧ ks.length ≤ 1000 ∧ ∀ d, H d = none → Q (.ref d) (upd H d (.dT (ks.map fun k => (ik k, .bl true))))) := by
  intro pins s σ H xs us Q I r h
  obtain ⟨l, ys, ks, rfl, hl, hp, nd, hn, q⟩ := h
  obtain ⟨u, rfl, ru⟩ := zr6 r
  cases ru
  obtain ⟨z, its, n, rv, hlen, e⟩ := I.lstM hl
  have hkl := ye5 hp
  have hk : ∀ h', (∀ b o, s.heap.get? b = some o → h'.get? b = some o) → HOk X.prog X.w H h' := fun h' k => (I.kept (t' := s.toks) k).hok
  refine dict_from (H := H) hk (I.ok.hd hc) hu e (by rw [List.size_toArray]; omega) (fun i => ks.getD i []) (pOf H ys) (fun i => aOf H (pOf H ys i)) (fun i v hv => ?_) (fun i hi => ?_) (fun i j hij hj e => ?_) fun h' tk dd k => ?_
  · have hi : i < its.length := by have := (Array.getElem?_eq_some_iff.mp hv).1; rw [List.size_toArray] at this; exact this
    have h1 := (zU9 hp (i := i) (by omega)).1
    obtain ⟨u, hu', ru⟩ := zD7 rv h1
    rw [List.getElem?_toArray, hu'] at hv
    obtain rfl := Option.some.inj hv
    exact ru
  · rw [List.size_toArray] at hi
    exact (zU9 hp (i := i) (by omega)).2
  · rw [List.size_toArray] at hj
    have e' : ks.getD i [] = ks.getD j [] := (List.map_inj_right (fun a b z => by injection z)).mp e
    have := List.pairwise_iff_getElem.mp nd i j (by omega) (by omega) hij
    rw [List.getD_eq_getElem?_getD, List.getD_eq_getElem?_getD, List.getElem?_eq_getElem (by omega), List.getElem?_eq_getElem (by omega)] at e'
    exact this e'
  · have hf := I.hok.fresh (Nat.le_refl s.heap.objs.size)
    obtain ⟨qo, es, ep, hq, h2, h3, h4, _, h5⟩ := dd
    refine ⟨.ref s.heap.objs.size, _, I.laid (t' := tk) (o := .dT (ks.map fun k => (ik k, .bl true))) k (Nat.le_refl _) ?_, rfl, q _ hf⟩
    have hsz : its.toArray.size = ks.length := by rw [List.size_toArray]; omega
    refine ⟨by rw [List.length_map]; have : sizeLine = 16777216 := by decide
               omega, ?_, pxs (fun i => ks.getD i []) (fun i => aOf H (pOf H ys i)) its.toArray.size, ?_, qo, es, ep, hq, h2, h3, h4, h5⟩
    · exact beq_eq_false_iff_ne.mpr (Nat.ne_of_gt I.big)
    · rw [hsz]
      refine zF8 (by unfold pxs; simp) fun i p q h6 h7 => ?_
      rw [List.getElem?_map] at h6
      obtain ⟨k', hk', rfl⟩ := Option.map_eq_some_iff.mp h6
      have hi := (List.getElem?_eq_some_iff.mp hk').1
      unfold pxs at h7
      rw [List.getElem?_map, List.getElem?_range hi] at h7
      obtain rfl := Option.some.inj h7
      have eg : ks.getD i [] = k' := by rw [List.getD_eq_getElem?_getD, hk']; rfl
      obtain ⟨_, _, h8⟩ := zU9 hp (i := i) (by omega)
      rw [eg] at h8
      refine ⟨by show ik k' = ik (ks.getD i []); rw [eg], ?_, rfl⟩
      show upd H s.heap.objs.size _ (aOf H (pOf H ys i)) = some (.tup ((ik k').map kV))
      rw [za9 (zc1 h8 hf), zP0]
      exact h8
end
section
variable {X:Cx}
end
noncomputable def exEls (e:Expr)(j:Nat):Expr:=match e with
 | .List es _=>es.getD j (.Constant .none 0 ⟨0,0,0,0⟩)
 | _=>.Constant .none 0 ⟨0,0,0,0⟩
section
variable {X:Cx} {e k:Expr} {te:TE} {tk:TO} {pos p2:Pos}
end
section
variable {X:Cx}
end
section
variable {X:Cx}
noncomputable def rngL (j:Nat):List Int:=(List.range j).map fun k:Nat=>(k:Int)
noncomputable def tLR (ta:TA):TE:=fun σ H Q=>ta σ H fun vs H1=>∃j:Nat,vs=[.int (j:Int)]/\j<=1000/\∀l,H1 l=none->Q (.ref l) (upd H1 l (.lst ((rngL j).map V.int)))
theorem pe_lrange {a:Expr} {ta:TA} {p1 p2 pos1 pos2:Pos} (hc:X.calm=true) (hl:Gl X "list") (ml:X.mg "list" = none) (hr:Gl X "range") (mr:X.mg "range" = none) (ha:PA X [a] ta) (hs:starEach [a] X.env=[(false,eval a X.env)]:=by rfl)
   (hs2:starEach [.Call (.Name "range" p2) [a] [] pos2] X.env=[(false,eval (.Call (.Name "range" p2) [a] [] pos2) X.env)]:=by rfl):PE X (.Call (.Name "list" p1) [.Call (.Name "range" p2) [a] [] pos2] [] pos1) (tLR ta):=by
 intro pins s σ H Q I h
 refine wpAny_Call_Name_kw (zw0 I hl ml boot_list ?_)
 refine PyProof.Rows.callWith_type1 ?_ hs2 rfl
 rw[hs2]
 show wpAny _ _ (spliced ((false,eval (.Call (.Name "range" p2) [a] [] pos2) X.env)::backTo pos1 (starEach [] X.env))) _ _ s
 refine Calls.spliced_cons ?_
 refine Call_ (zw0 I hr mr boot_range (PyProof.Rows.callWith_type1 (thn (ha pos2 pins s σ H _ I h) fun us s1 ⟨vs,H1,I1,r1,q1⟩=>?_) hs rfl))
 obtain⟨j,e,hj,q⟩:=q1
 subst e
 obtain⟨u,rfl,ru⟩:=zr6 r1
 obtain⟨t,rfl⟩:=ru
 refine call_range_1 ?_
 refine Calls.spliced_nil ?_
 have I2:Inv X pins σ H1 { s1 with heap:=s1.heap.push { cls:=.type "range",data:=.fields #[.int 0 s1.toks,.int (j:Int) t,.int 1 (s1.toks+1)] },toks:=s1.toks+1+1 }:=I1.kept fun b o e=>Heap.get?_push_of_some _ e
 refine call_list_range (n:=j) (I2.ok.hd hc) (IsRange.new ..) (small_one (by decide) (by decide) (by omega) (by omega)) (by rw[rangeSize_one];split<;>omega) (by omega) fun h' tk acc c k ob it=>?_
 have hacc:acc.size=j:=it.1
 refine⟨.ref _,_,I2.laid (t':=tk) (o:=.lst ((rngL j).map V.int)) k (Nat.le_refl _) (show ze9 X.prog X.w _ _ _ (.lst _) from⟨?_,acc.toList,c,?_,by rw[Array.toArray_toList];exact ob⟩),rfl,q _ (I2.hok.fresh (Nat.le_refl _))⟩
 . unfold rngL
   rw[List.length_map,List.length_map,List.length_range,sizeLine_eq]
   omega
 . refine zF8 (by unfold rngL;rw[List.length_map,List.length_map,List.length_range,Array.length_toList,hacc]) fun i p q h6 h7=>?_
   unfold rngL at h6
   rw[List.getElem?_map,List.getElem?_map] at h6
   have hij:i<j:=by
     have:=(List.getElem?_eq_some_iff.mp h7).1
     rw[Array.length_toList,hacc] at this
     exact this
   rw[List.getElem?_range hij] at h6
   obtain rfl:=(Option.some.inj h6).symm
   rw[Array.getElem?_toList] at h7
   obtain⟨t',rfl⟩:=it.2 i q h7
   exact⟨t',by rw[Int.zero_add,Int.mul_one]⟩
end
noncomputable def exCE (e:Expr):Expr:=match e with
 | .ListComp elt _ _ _=>elt
 | _=>.Constant .none 0 ⟨0,0,0,0⟩
section
variable {X:Cx} {tg l:Expr} {tl:TE}
theorem call_tuple_ofK (K:W.Frag) (h:X.K=K):zl1 X (.type "tuple") (fun xs H Q=>∃p ys,xs=[.ref p]/\((SqL K H p ys/\∀l,H l=none->Q (.ref l) (upd H l (.tup ys)))\/(SqT K H p ys/\Q (.ref p) H))):=by
 subst h
 exact zh7
end
section
variable {prog:Program} {w:World} {A:Around} {E:Value->Shared->Prop} {s:Shared}
end
section
variable {X:Cx} {es:List Expr} {k0:Nat} {tp:Pos}
end
section
variable {X:Cx} {CX:CXT} {k:Nat} {f C:Addr} {fd:FuncData} {ps:List Str} {sp:Sp} {dvs:List V} {ds:List Value} {Ex:St->XK} {x m:Str} {p pos apos:Pos} {e o:Expr} {es:List Expr} {ta:TE} {t:TA}
end
noncomputable abbrev Nw (H:Hp)(o:HO)(Q:VK):Prop:=∀l H',Same H H'->H l=none->H' l=some o->Q (.ref l) H'
theorem Nw.go {H:Hp}{o:HO}{Q:VK}(q:Nw H o Q):∀p,H p=none->Q (.ref p) (upd H p o):=fun p hp=>q p _ (Same.upd hp) hp za1
section
variable {X:Cx} {es:List Expr} {t:TA} {pos:Pos}
noncomputable def tLstS (t:TA):TE:=fun σ H Q=>t σ H fun xs H1=>xs.length<=sizeLine/\Nw H1 (.lst xs) Q
noncomputable def tTupS (t:TA):TE:=fun σ H Q=>t σ H fun xs H1=>xs.length<=sizeLine/\Nw H1 (.tup xs) Q
theorem pe_tupS {x1}(h:PA X es t):PE X (.Tuple es x1 pos) (tTupS t):=by
 intro pins s σ H Q I hq
 refine wpAny_Tuple_spliced (thn (h pos pins s σ H _ I hq) fun us s1 ⟨xs,H1,I1,r,z,q⟩=>⟨by rw[<-r.length];exact z,?_⟩)
 have hf:H1 s1.heap.objs.size=none:=I1.hok.fresh (Nat.le_refl _)
 refine⟨.ref s1.heap.objs.size,upd H1 s1.heap.objs.size (.tup xs),I1.laid (t':=s1.toks) (fun b u e=>Heap.get?_push_of_some _ e) (Nat.le_refl _) ?_,rfl,q.go _ hf⟩
 exact⟨z,us,r,⟨_,Heap.get?_push_size _ rfl,rfl,rfl,_,rfl⟩⟩
theorem pe_lstS (h:PA X es t):PE X (.List es pos) (tLstS t):=by
 intro pins s σ H Q I hq
 refine wpAny_List_spliced (thn (h pos pins s σ H _ I hq) fun us s1 ⟨xs,H1,I1,r,z,q⟩=>⟨by rw[<-r.length];exact z,?_⟩)
 have hf:H1 s1.heap.objs.size=none:=I1.hok.fresh (Nat.le_refl _)
 refine⟨.ref s1.heap.objs.size,upd H1 s1.heap.objs.size (.lst xs),I1.laid (t':=s1.toks) (fun b u e=>Heap.get?_push_of_some _ e) (Nat.le_refl _) ?_,rfl,q.go _ hf⟩
 exact⟨z,us,0,r,Heap.get?_push_size _ rfl⟩
theorem zw9 (K:W.Frag) (h:X.K=K):zl1 X (.type "tuple") (fun xs H Q=>∃p ys,xs=[.ref p]/\((SqL K H p ys/\Nw H (.tup ys) Q)\/(SqT K H p ys/\Q (.ref p) H))):=by
 subst h
 exact fun pins s σ H xs us Q I r ⟨p,ys,e,hq⟩=>zh7 pins s σ H xs us Q I r ⟨p,ys,e,hq.imp (fun z=>⟨z.1,z.2.go⟩) id⟩
end
section
variable {X:Cx} {Ex:St->XK} {pos:Pos} {body:List Stmt} {tb:TS} {h0:ExceptHandler} {l:List ExceptHandler} {L:List (Addr×TS)}
end
section
variable {X:Cx} {E:XK} {pos:Pos} {body:List Stmt} {tb:TS} {h0:ExceptHandler} {l:List ExceptHandler} {L:List (Addr×TS)}
end
section
variable {X:Cx}
end
open Builtin.Str StrLaws
section
variable {X:Cx}
end
end L2
namespace Sx
open PySem PySem.W PySem.Calls PyProof.Rows
section
variable {prog:Program} {w:World} {A:Around} {E:Value->Shared->Prop} {s:Shared} {d it v:Addr} {es:Array DictEntry} {ep i:Nat}
end
end Sx
namespace L2
open PySem PySem.Spec PyProof.Rows
section
variable {X:Cx}
end
structure zV0 (names:List (Str×NameKind))(s:Heap)(h':Heap)(cl cs:List (Str×Addr)):Prop where
 k1:∀x c,cs.lookup x=some c->(cl.lookup x=some c/\(x,.cell)∉names)\/(s.objs.size<=c/\h'.IsCell c none/\(x,.cell)∈names)
 k2:∀x,(x,NameKind.cell)∈names->∃c,cs.lookup x=some c
 k3:∀x c,cl.lookup x=some c->∃c',cs.lookup x=some c'
 k4:∀x y c,s.objs.size<=c->cs.lookup x=some c->cs.lookup y=some c->x=y
section
variable {M:Model} {A:Around} {E:Value->Shared->Prop}
theorem cells_made {f:Str×NameKind->List (Str×Addr)->Sem (ForInStep (List (Str×Addr)))}
   (hf:∀n k c,f (n,k) c=if (k == NameKind.cell)=true then(do let a <-alloc { cls:=.type "cell",data:=.cell none };pure (.yield ((n,a)::c))) else pure (.yield c)) :
   ∀(names:List (Str×NameKind)) (acc:List (Str×Addr)) (s:Shared) (Q:List (Str×Addr)->Shared->Prop),(∀x c,acc.lookup x=some c->c<s.heap.objs.size) →
     (∀h' cs,(∀b o,s.heap.get? b=some o->h'.get? b=some o)->zV0 names s.heap h' acc cs->Q cs { s with heap:=h' })->wpAny M A (forIn names acc f) Q E s:=by
 intro names
 induction names with
 | nil =>
   intro acc s Q ha h
   rw[List.forIn_nil]
   exact wpAny_pure (h s.heap acc (fun _ _ e=>e) ⟨fun x c e=>.inl ⟨e,by simp⟩,fun x hx=>(by simp at hx),fun x c e=>⟨c,e⟩,fun x y c hc e=>absurd (ha x c e) (Nat.not_lt.mpr hc)⟩)
 | cons y r ih =>
   intro acc s Q ha h
   obtain⟨n,k⟩:=y
   rw[List.forIn_cons,hf]
   by_cases hk:k = .cell
   . subst hk
     rw[if_pos (show(NameKind.cell == NameKind.cell)=true from rfl)]
     refine wpAny_bind (wpAny_bind (wpAny_alloc (wpAny_pure ?_)))
     have hsz:=Heap.size_push s.heap { cls:=.type "cell",data:=.cell none }
     have hget:(s.heap.push { cls:=.type "cell",data:=.cell none }).get? s.heap.objs.size=some { cls:=.type "cell",data:=.cell none }:=Heap.get?_push_size _ rfl
     refine ih _ _ _ (fun x c e=>?_) fun h' cs keep C=>?_
     . show c<(s.heap.push _).objs.size
       rw[hsz]
       rw[List.lookup_cons] at e
       cases hx:x == n with
       | true=>rw[hx] at e;cases e;exact Nat.lt_succ_self _
       | false=>rw[hx] at e;exact Nat.lt_succ_of_lt (ha x c e)
     . have C1:∀x c,cs.lookup x=some c->(acc.lookup x=some c/\(x,NameKind.cell)∉(n,NameKind.cell)::r)\/(s.heap.objs.size<=c/\h'.IsCell c none/\(x,NameKind.cell)∈(n,NameKind.cell)::r):=fun x c e=>by
         rcases C.k1 x c e with⟨e1,e2⟩ | ⟨e1,e2,e3⟩
         . rw[List.lookup_cons] at e1
           cases hx:x == n with
           | true =>
             rw[hx] at e1;cases e1
             have:=eq_of_beq hx
             subst this
             exact .inr ⟨Nat.le_refl _,⟨_,keep _ _ hget,rfl⟩,List.mem_cons_self⟩
           | false =>
             rw[hx] at e1
             refine .inl ⟨e1,fun z=>?_⟩
             rcases List.mem_cons.mp z with z | z
             . have:x=n:=(Prod.mk.inj z).1
               subst this
               simp at hx
             . exact e2 z
         . exact .inr ⟨Nat.le_of_succ_le (Nat.le_trans (Nat.le_of_eq hsz.symm) e1),e2,List.mem_cons_of_mem _ e3⟩
       refine h h' cs (fun b o e=>keep b o (Heap.get?_push_of_some _ e)) ⟨C1,fun x hx=>?_,fun x c e=>?_,fun x y c hc e1 e2=>?_⟩
       . rcases List.mem_cons.mp hx with z | z
         . have:x=n:=(Prod.mk.inj z).1
           subst this
           exact C.k3 x s.heap.objs.size (by rw[List.lookup_cons];simp)
         . exact C.k2 x z
       . cases hx:x == n with
         | true=>exact C.k3 x s.heap.objs.size (by rw[List.lookup_cons,hx])
         | false=>exact C.k3 x c (by rw[List.lookup_cons,hx];exact e)
       . by_cases hc':c=s.heap.objs.size
         . have one:∀x,cs.lookup x=some c->x=n:=fun x e=>by
             rcases C.k1 x c e with⟨e1,_⟩ | ⟨e1,_⟩
             . rw[List.lookup_cons] at e1
               cases hx:x == n with
               | true=>exact eq_of_beq hx
               | false=>rw[hx] at e1;exact absurd hc' (Nat.ne_of_lt (ha x c e1))
             . exact absurd hc'.symm (Nat.ne_of_lt (Nat.le_trans (Nat.le_of_eq hsz.symm) e1))
           rw[one x e1,one y e2]
         . exact C.k4 x y c (Nat.le_trans (Nat.le_of_eq hsz) (Nat.lt_of_le_of_ne hc (Ne.symm hc'))) e1 e2
   . have hb:(k == NameKind.cell)=false:=by simpa using hk
     rw[hb,if_neg (by decide)]
     refine wpAny_bind (wpAny_pure ?_)
     have nm:∀x,(x,NameKind.cell)∈(n,k)::r↔(x,NameKind.cell)∈r:=fun x=>⟨fun z=>by
       rcases List.mem_cons.mp z with z | z
       . exact absurd (Prod.mk.inj z).2.symm hk
       . exact z,fun z=>List.mem_cons_of_mem _ z⟩
     refine ih _ _ _ ha fun h' cs keep C=>h h' cs keep ⟨fun x c e=>?_,fun x hx=>C.k2 x ((nm x).mp hx),C.k3,C.k4⟩
     rcases C.k1 x c e with⟨e1,e2⟩ | ⟨e1,e2,e3⟩
     . exact .inl ⟨e1,fun z=>e2 ((nm x).mp z)⟩
     . exact .inr ⟨e1,e2,(nm x).mpr e3⟩
theorem wpAny_compEnv {scope:Scope}{globals:Addr}{cl:List (Str×Addr)}{qual:Str}{outer:Env}{s:Shared}{Q:Env->Shared->Prop}(hcl:∀x c,cl.lookup x=some c->c<s.heap.objs.size)
   (h:∀h' cs,(h'.Ns s.heap.objs.size fun _=>none)->(∀b o,s.heap.get? b=some o->h'.get? b=some o)->zV0 scope.names s.heap h' cl cs →
     Q (newEnv scope s.heap.objs.size globals cs qual none .none (some outer) builtinsNs) { s with heap:=h' }) :
   wpAny M A (newFunctionEnv scope globals cl [] qual none .none (some outer)) Q E s:=by
 unfold newFunctionEnv
 refine wpAny_bind (wpAny_alloc ?_)
 have hget:(s.heap.push { cls:=.type (if (some outer).isSome=true then "dict" else "frame"),data:=.dict #[] }).get? s.heap.objs.size=some { cls:=.type (if (some outer).isSome=true then "dict" else "frame"),data:=.dict #[] }:=Heap.get?_push_size _ rfl
 have hsz:=Heap.size_push s.heap { cls:=.type (if (some outer).isSome=true then "dict" else "frame"),data:=.dict #[] }
 refine wpAny_bind (cells_made (fun _ _ _=>rfl) scope.names cl _ _ (fun x c e=>?_) fun h' cs keep C=>?_)
 . have:=hcl x c e
   show c<(s.heap.push _).objs.size
   rw[hsz];exact Nat.lt_succ_of_lt this
 . dsimp only
   refine wpAny_bind ?_
   rw[List.forIn_nil]
   refine wpAny_pure (wpAny_pure ?_)
   refine h h' cs ⟨_,_,_,keep _ _ hget,rfl,?_,fun _=>rfl⟩ (fun b o e=>keep b o (Heap.get?_push_of_some _ e)) ⟨fun x c e=>?_,C.k2,C.k3,fun x y c hc e1 e2=>?_⟩
   . intro x hx
     simp at hx
   . rcases C.k1 x c e with z | ⟨e1,e2,e3⟩
     . exact .inl z
     . exact .inr ⟨Nat.le_of_succ_le (Nat.le_trans (Nat.le_of_eq hsz.symm) e1),e2,e3⟩
   . by_cases hc':c=s.heap.objs.size
     . have no:∀x,cs.lookup x=some c->False:=fun x e=>by
         rcases C.k1 x c e with⟨e1,_⟩ | ⟨e1,_⟩
         . exact absurd hc' (Nat.ne_of_lt (hcl x c e1))
         . exact absurd hc'.symm (Nat.ne_of_lt (Nat.le_trans (Nat.le_of_eq hsz.symm) e1))
       exact(no x e1).elim
     . exact C.k4 x y c (Nat.le_trans (Nat.le_of_eq hsz) (Nat.lt_of_le_of_ne hc (Ne.symm hc'))) e1 e2
end
noncomputable def Cx.compC (X:Cx)(scope:Scope)(cs:List (Str×Addr))(C:Addr)(N':List Str)(s0:Shared)(H0:Hp)(fp:List Addr):Cx :=
 { X.comp scope cs C N' s0 H0 fp with fn:=fun x=>decide (scope.names.lookup x=some .cell) }
structure zm4 (ON:List Str)(osc scope:Scope)(N':List Str)(ix:List (Option Nat)):Prop where
 kind:scope.kind = .function
 apart:∀y∈scope.names,y.2 = .cell->scope.names.lookup y.1=some .cell
 names:∀y∈scope.names,y.2 = .local->scope.names.lookup y.1=some .local
 frees:∀y∈scope.names,y.2 = .free->osc.names.lookup y.1=some .cell
 len:ix.length=N'.length
 nd:N'.Nodup
 chk:((ix.zip N').all fun p=>match p.1 with | none=>true | some j=>decide (ON[j]?=some p.2) && decide (scope.names.lookup p.2=some .free))=true
theorem zm4.sel {ON:List Str}{osc scope:Scope}{N':List Str}{ix:List (Option Nat)}(S:zm4 ON osc scope N' ix)(i j:Nat)(x:Str)(h1:ix[i]?=some (some j))(h2:N'[i]?=some x):ON[j]?=some x/\scope.names.lookup x=some .free:=by
 have hz:(ix.zip N')[i]?=some (some j,x):=by rw[List.getElem?_zip_eq_some];exact⟨h1,h2⟩
 have:=List.all_eq_true.mp S.chk _ (List.mem_of_getElem? hz)
 simp only[Bool.and_eq_true,decide_eq_true_eq] at this
 exact this
noncomputable def freeCell (sc:Scope):Scope:={ sc with names:=sc.names.map fun(n,k)=>if (k == .free)=true then(n,.cell) else(n,k) }
theorem zA5 {env:Env}:∀ {names:List (Str×NameKind)} {x:Str},
   ((names.map fun(n,k)=>if (k == NameKind.free && env.scope.kind == .function && env.kindOf n == some .cell) then(n,NameKind.cell) else(n,k)).lookup x=some .cell ∨
    (names.map fun(n,k)=>if (k == NameKind.free && env.scope.kind == .function && env.kindOf n == some .cell) then(n,NameKind.cell) else(n,k)).lookup x=some .free)->(x,NameKind.free)∈names\/(x,NameKind.cell)∈names
 | [],_,h=>by simp at h
 | (n,k)::r,x,h=>by
   have ih:=@zA5 env r x
   rw[List.map_cons] at h
   cases hx:x == n with
   | true =>
     have e:=eq_of_beq hx
     subst e
     by_cases hc:(k == NameKind.free && env.scope.kind == .function && env.kindOf x == some .cell)=true
     . have hk:k = .free:=by
         have:=(Bool.and_eq_true_iff.mp (Bool.and_eq_true_iff.mp hc).1).1
         exact eq_of_beq this
       subst hk;exact .inl List.mem_cons_self
     . have hc':(k == NameKind.free && env.scope.kind == .function && env.kindOf x == some .cell)=false:=by simpa using hc
       simp only[hc',Bool.false_eq_true,if_false,List.lookup_cons,beq_self_eq_true] at h
       rcases h with h | h
       . have hk:k = .cell:=Option.some.inj h
         subst hk;exact .inr List.mem_cons_self
       . have hk:k = .free:=Option.some.inj h
         subst hk;exact .inl List.mem_cons_self
   | false =>
     have h':(r.map fun(n,k)=>if (k == NameKind.free && env.scope.kind == .function && env.kindOf n == some .cell) then(n,NameKind.cell) else(n,k)).lookup x=some .cell ∨
         (r.map fun(n,k)=>if (k == NameKind.free && env.scope.kind == .function && env.kindOf n == some .cell) then(n,NameKind.cell) else(n,k)).lookup x=some .free:=by
       by_cases hc:(k == NameKind.free && env.scope.kind == .function && env.kindOf n == some .cell)=true
       . simp only[hc,if_true,List.lookup_cons,hx] at h;exact h
       . have hc':(k == NameKind.free && env.scope.kind == .function && env.kindOf n == some .cell)=false:=by simpa using hc
         simp only[hc',Bool.false_eq_true,if_false,List.lookup_cons,hx] at h;exact h
     rcases ih h' with z | z
     . exact .inl (List.mem_cons_of_mem _ z)
     . exact .inr (List.mem_cons_of_mem _ z)
section
variable {X:Cx} {pins:List (Addr×Obj)} {σ:St} {H:Hp} {s:Shared}
theorem Inv.compC {scope:Scope}{N':List Str}{ix:List (Option Nat)}{cl cs:List (Str×Addr)}{fp:List Addr}{h':Heap}{t':Nat}(I:Inv X pins σ H s)(S:zm4 X.N X.env.scope scope N' ix)(hfp:∀b∈fp,FpOk X pins H b)(hlt:∀b∈fp,b<s.heap.objs.size)
   (c0:zV0 scope.names s.heap h' cl cs) (c1:∀x c,cl.lookup x=some c->X.env.cells.lookup x=some c) (c2:∀y∈scope.names,y.2 = .free->∃c,cl.lookup y.1=some c)
   (ns:h'.Ns s.heap.objs.size fun _=>none) (sb:∀b o,s.heap.get? b=some o->h'.get? b=some o) :
   Inv (X.compC scope cs s.heap.objs.size N' s H fp) [] (selS ix σ) H { s with heap:=h',toks:=t' }:=by
 have fpne:∀b∈fp,b≠s.heap.objs.size:=fun b hb=>Nat.ne_of_lt (hlt b hb)
 have cin:∀x c,cs.lookup x=some c->∃v,h'.IsCell c v:=fun x c e=>by
   rcases c0.k1 x c e with⟨e1,_⟩ | ⟨_,e2,_⟩
   . obtain⟨v,o,ho,hd⟩:=I.cell x c (c1 x c e1)
     exact⟨v,o,sb c o ho,hd⟩
   . exact⟨_,e2⟩
 have lts:∀x c,cl.lookup x=some c->c<s.heap.objs.size:=fun x c e=>by
   obtain⟨v,o,ho,hd⟩:=I.cell x c (c1 x c e)
   exact Heap.lt_size ho
 refine⟨⟨I.ok.mod,S.kind,I.ok.glob,I.ok.blt,Nat.le_refl _,fun x y c e1 e2=>?inj,fun x hx=>?_,fun x c z e=>?cab,I.ok.hd,I.ok.frames,.inl rfl,fun b hb=>⟨fpne b hb,fun x c e=>?exf⟩,I.bs,Nat.le_trans I.ok.bsz I.sz,fun b o e hb=>?_,fun b hb hf=>?_,I.stack,I.stkFree⟩,
   rfl,I.bare,Un.kept sb,⟨_,ns,fun i x v e1 e2 e3=>?_⟩,fun x c e=>cin x c e,I.hok.fresh (Nat.le_refl _),fun x c e=>?freeC,fun p hp=>(by cases hp),I.hok.kept sb,?_⟩
 case inj =>
   by_cases hc:s.heap.objs.size<=c
   . exact c0.k4 x y c hc e1 e2
   . rcases c0.k1 x c e1 with⟨e3,_⟩ | ⟨e3,_⟩
     . rcases c0.k1 y c e2 with⟨e4,_⟩ | ⟨e4,_⟩
       . exact I.ok.inj x y c (c1 x c e3) (c1 y c e4)
       . exact absurd e4 hc
     . exact absurd e3 hc
 case cab =>
   have z':scope.names.lookup x=some .cell:=of_decide_eq_true z
   rcases c0.k1 x c e with⟨_,e3⟩ | ⟨e3,_⟩
   . exact absurd (PySem.mem_of_lookup z') e3
   . exact e3
 case exf =>
   rcases c0.k1 x c e with⟨e1,_⟩ | ⟨e1,_⟩
   . exact(hfp b hb).2.2.2.2.1 x c (c1 x c e1)
   . exact fun z=>absurd (z▸e1) (Nat.not_le.mpr (hlt b hb))
 case freeC =>
   rcases c0.k1 x c e with⟨e1,_⟩ | ⟨e1,_⟩
   . exact I.freeC x c (c1 x c e1)
   . exact I.hok.fresh e1
 . rcases zA5 hx with z | z
   . obtain⟨c,e⟩:=c2 (x,.free) z rfl
     exact c0.k3 x c e
   . exact c0.k2 x z
 . rcases(hfp b hb).2.2.2.1 with z | z
   . exact I.ok.noex b o e z
   . exact absurd (Nat.lt_of_lt_of_le (Heap.lt_size (I.ok.bs b o e).1) z) (Nat.lt_irrefl _)
 . rcases List.mem_cons.mp (I.stkSub b hf) with z | z
   . exact(hfp b hb).2.1 z
   . exact(hfp b hb).2.2.1 z
 . -- what the block sees
   have e2':ix[i]?.map (fun o=>o.bind fun j=>(σ[j]?).join)=some (some v):=by
     have:=e2
     unfold selS at this
     rwa [List.getElem?_map] at this
   cases hi:ix[i]? with
   | none=>rw[hi] at e2';cases e2'
   | some o =>
     rw[hi] at e2'
     cases o with
     | none=>cases e2'
     | some j =>
       have e4:(σ[j]?).join=some v:=Option.some.inj e2'
       have e5:σ[j]?=some (some v):=by
         cases q:σ[j]? with
         | none=>rw[q] at e4;cases e4
         | some z=>rw[q] at e4;have:z=some v:=e4;rw[this]
       obtain⟨hN,hfr⟩:=S.sel i j x hi e1
       have hk:=S.frees (x,.free) (PySem.mem_of_lookup hfr) rfl
       obtain⟨m,_,hl⟩:=I.loc
       obtain⟨u,r,lk⟩:=hl j x v hN e5 (.inr (.inl hk))
       refine⟨u,r,.inr ?_⟩
       rcases lk with⟨k1,_⟩ | ⟨_,c,ec,hc⟩
       . exact absurd (k1.symm.trans hk) (by decide)
       . obtain⟨c',ec'⟩:=c2 (x,.free) (PySem.mem_of_lookup hfr) rfl
         have:=c1 x c' ec'
         rw[ec] at this
         cases this
         obtain⟨c'',ec''⟩:=c0.k3 x c ec'
         have e9:c''=c:=by
           rcases c0.k1 x c'' ec'' with⟨e1,_⟩ | ⟨_,_,e1⟩
           . rw[ec'] at e1;cases e1;rfl
           . have:=S.apart _ e1 rfl
             rw[show scope.names.lookup (x,NameKind.cell).1=_ from hfr] at this
             cases this
         subst e9
         refine⟨zu8 hfr,c'',ec'',?_⟩
         obtain⟨o,ho,hd⟩:=hc
         exact⟨o,sb _ o ho,hd⟩
 . show(selS ix σ).length=N'.length
   unfold selS
   rw[List.length_map]
   exact S.len
theorem Inv.uncompC {scope:Scope}{N':List Str}{cl:List (Str×Addr)}{fp:List Addr}{C:Addr}{σ':St}{H':Hp}{s':Shared}(I:Inv X pins σ H s)(hfp:∀b∈fp,FpOk X pins H b)(hC:s.heap.objs.size<=C)
   (J:Inv (X.compC scope cl C N' s H fp) [] σ' H' s'):Inv X pins σ H' s' :=
 I.call' (ch:=fp) J.os J.base J.hok J.bare fun b hb=>by
   obtain⟨f0,f1,f2,f3,f4,f5⟩:=hfp b hb
   exact⟨f3,f1,f4,f5⟩
end
section
variable {X:Cx} {scope:Scope} {N':List Str} {ix:List (Option Nat)} {tg iter elt:Expr} {ifs:List Expr} {pos:Pos} {wi:TI} {g:TG} {tif:TT} {telt:TE}
theorem comp_blockC {RR:Value->Addr->Result->Shared->Prop}{pins:List (Addr×Obj)}{σ:St}{s2:Shared}{H2:Hp}{it:Addr}{fp:List Addr}{tn:Nat->Heap->Prop}{J:It}{cl:List (Str×Addr)}{Q:VK}{E:Value->Shared->Prop}
   (hc:X.calm=true) (S:zm4 X.N X.env.scope scope N' ix)
   (c1:∀x c,cl.lookup x=some c->X.env.cells.lookup x=some c) (c2:∀y∈scope.names,y.2 = .free->∃c,cl.lookup y.1=some c)
   (hg:∀cl C s0 H0 fp,PG (X.compC scope cl C N' s0 H0 fp) tg g) (hif:∀cl C s0 H0 fp,PIfs (X.compC scope cl C N' s0 H0 fp) ifs tif) (he:∀cl C s0 H0 fp,PE (X.compC scope cl C N' s0 H0 fp) elt telt)
   (I2:Inv X pins σ H2 s2) (T:Turn X.prog X.w X.K tg J fp it tn) (st2:tn 0 s2.heap) (f2:∀b∈fp,FpOk X pins H2 b)
   (body:∀D,H2 D=none->∃W:Nat->Nat->St->Hp->Prop,(∃m,W 0 m (selS ix σ) (upd H2 D (.lst []))) ∧
     ∀i m σ' H',W i m σ' H'->(J.stop i H'/\Q (.ref D) H')\/(J.go i H'/\∃N:St->Hp->Prop,(∀σ2 H2,N σ2 H2->∃m',m'<m/\W (i+1) m' σ2 H2) ∧
       ∀x H2,J.yld i H' x H2->g x σ' H2 fun σ3 H3=>tif σ3 H3 fun b H4=>if b=true then zn9 D telt N σ3 H4 else N σ3 H4))
   (hRR:∀D C s3 s' H' m,Inv X pins σ H' s'->s2.heap.objs.size<=s3->s3<=C->s'.heap.Ns C m->FpOk X pins H' C->HOk X.prog X.w H' s'.heap->Q (.ref D) H'->RR (.ref D) C (.ok .next) s') :
   wpAny (model X.prog X.w) X.A (newList []) (fun acc s3=>wpAny (model X.prog X.w) X.A (newFunctionEnv scope X.env.globals cl [] X.env.qual none .none (some X.env)) (fun cenv s4 =>
     codeAny (model X.prog X.w) X.A (.compStart (.ListComp elt [⟨tg,iter,ifs,0⟩] scope pos) 0 (.ref it) acc { cenv with scope:=relabel scope X.env }) (RR acc cenv.locals) s4) E s3) E s2:=by
 have hlt2:∀b∈fp,b<s2.heap.objs.size:=fun b hb=>by
   obtain⟨o,e,_⟩:=T.obj _ _ st2 b hb
   exact Heap.lt_size e
 obtain⟨W,⟨m0,w0⟩,turn⟩:=body s2.heap.objs.size I2.fresh
 refine wpAny_newObj_type (wpAny_compEnv (fun x c e=>?_) (fun h1 cs hns1 hsb1 c0=>?_))
 . obtain⟨v,o,ho,hd⟩:=I2.cell x c (c1 x c e)
   exact Nat.lt_of_lt_of_le (Heap.lt_size ho) (by rw[Heap.size_push];exact Nat.le_succ _)
 dsimp only at hns1 hsb1 c0 ⊢
 have I3:Inv X pins σ (upd H2 s2.heap.objs.size (.lst [])) { s2 with heap:=s2.heap.push { cls:=.type "list",dict:=none,data:=.seq ([]:List Value).toArray } } :=
   Inv.lnew (its:=[]) (t':=s2.toks) I2 .nil (Nat.zero_le _)
 generalize hs3:({ s2 with heap:=s2.heap.push { cls:=.type "list",dict:=none,data:=.seq ([]:List Value).toArray } }:Shared)=s3 at I3
 have hh3:s3.heap=s2.heap.push { cls:=.type "list",dict:=none,data:=.seq ([]:List Value).toArray }:=by rw[<-hs3]
 have hsz3:s3.heap.objs.size=s2.heap.objs.size+1:=by rw[hh3,Heap.size_push]
 have hsh:({ s2 with heap:=h1,toks:=s2.toks }:Shared) = { s3 with heap:=h1,toks:=s2.toks }:=by rw[<-hs3]
 rw[<-hh3] at hns1 hsb1 c0 ⊢
 have fpD:∀b∈fp,b≠s2.heap.objs.size:=fun b hb=>Nat.ne_of_lt (hlt2 b hb)
 have f3:∀b∈fp,FpOk X pins (upd H2 s2.heap.objs.size (.lst [])) b:=fun b hb=>⟨by rw[za9 (fpD b hb)];exact(f2 b hb).1,(f2 b hb).2⟩
 have old:∀b o,s3.heap.get? b=some o->h1.get? b=some o:=hsb1
 have J4:Inv (X.compC scope cs s3.heap.objs.size N' s3 (upd H2 s2.heap.objs.size (.lst [])) fp) [] (selS ix σ) (upd H2 s2.heap.objs.size (.lst [])) { s3 with heap:=h1,toks:=s2.toks } :=
   I3.compC S f3 (fun b hb=>Nat.lt_of_lt_of_le (hlt2 b hb) (by rw[hsz3];exact Nat.le_succ _)) c0 c1 c2 hns1 old
 have st4:tn 0 h1:=T.keep _ _ _ st2 fun b hb o e=>old b o (by rw[hh3];exact Heap.get?_push_of_some _ e)
 generalize hCC:s3.heap.objs.size=C at *
 generalize hX':X.compC scope cs C N' s3 (upd H2 s2.heap.objs.size (.lst [])) fp=X' at J4
 have stat:∀ {H':Hp},(∀b∈fp,H' b=none)->∀b∈fp,FpOk X' [] H' b:=fun {H'} hn b hb=>by
   subst hX'
   refine⟨hn b hb,(J4.ok.exf b hb).1,J4.ok.exfs b hb,.inl hb,(J4.ok.exf b hb).2,fun p hp=>(by cases hp)⟩
 rw[hsh]
 have loop:codeAny (model X.prog X.w) X.A (.compLoop (.ListComp elt [⟨tg,iter,ifs,0⟩] scope pos) 0 (.ref it) (.ref s2.heap.objs.size) (compEnvC scope cs C X.env)) (RR (.ref s2.heap.objs.size) C) { s3 with heap:=h1,toks:=s2.toks }:=by
   refine zH5 (fun n s'=>∃i σ' H',Inv X' [] σ' H' s'/\tn i s'.heap/\(∀b∈fp,H' b=none)/\W i n σ' H') ?_ m0 ⟨0,_,_,J4,st4,fun b hb=>(f3 b hb).1,w0⟩
   rintro n s5 ⟨i,σ5,H5,I5,st5,fr5,w5⟩
   rcases turn i n σ5 H5 w5 with⟨stop,qn⟩ | ⟨go,N,hN,step⟩
   . have td:=T.done X' (by subst hX';rfl) (by subst hX';rfl) (by subst hX';rfl) (by subst hX';exact hc) i [] s5 σ5 H5 (fun _ _=>False) I5 (stat fr5) st5 stop
     have eA:X'.A=X.A:=by subst hX';rfl
     rw[eA] at td
     refine thn td fun r s6 ⟨hr,I6⟩=>?_
     subst hr
     subst hX'
     obtain⟨m,hnm,_⟩:=I6.loc
     have I7:Inv X pins σ H5 s6:=I3.uncompC f3 (Nat.le_of_eq hCC) I6
     refine hRR s2.heap.objs.size C s3.heap.objs.size s6 H5 m I7 (by omega) (by omega) hnm ?_ I6.hok qn
     have q:=I3.fpOk (H':=H5) (b:=C) (by omega) I6.free
     exact q
   . have ti:=T.item X' (by subst hX';rfl) (by subst hX';rfl) (by subst hX';rfl) (by subst hX';exact hc) i [] s5 σ5 H5 (fun _ _=>False) I5 (stat fr5) st5 go
     have eA:X'.A=X.A:=by subst hX';rfl
     rw[eA] at ti
     refine thn ti fun r s6 ⟨u,hr,h6⟩=>?_
     subst hr
     refine thn h6 fun _ s7 ⟨x,H7,I7,r7,y7,st7,fr7⟩=>?_
     have I7':=I7.pinned (stat fr7) (T.obj _ _ st7)
     have again:∀ {pl:List (Addr×Obj)} {σ8:St} {H8:Hp} {s8:Shared},Inv X' ([]++zw1 fp s7.heap) σ8 H8 s8->N σ8 H8->∃m,m<n/\∃i σ' H',Inv X' [] σ' H' s8/\tn i s8.heap/\(∀b∈fp,H' b=none)/\W i m σ' H':=fun {pl σ8 H8 s8} I8 n8=>by
       obtain⟨m',hm,w8⟩:=hN σ8 H8 n8
       refine⟨m',hm,i+1,σ8,H8,I8.unpinned,T.keep _ _ _ st7 fun b hb o e=>(I8.pin (b,o) (List.mem_append_right _ (List.mem_append_right _ (zm0 hb e)))).1,fun b hb=>?_,w8⟩
       obtain⟨o,e,d⟩:=T.obj _ _ st7 b hb
       exact(I8.pin (b,o) (List.mem_append_right _ (List.mem_append_right _ (zm0 hb e)))).2.1
     have eE:X'.env=compEnvC scope cs C X.env:=by subst hX';rfl
     have eP:X'.prog=X.prog:=by subst hX';rfl
     have eW:X'.w=X.w:=by subst hX';rfl
     have eX:X'.xe=fun _ _=>False:=by subst hX';rfl
     have hg':PG X' tg g:=by subst hX';exact hg _ _ _ _ _
     have hif':PIfs X' ifs tif:=by subst hX';exact hif _ _ _ _ _
     have he':PE X' elt telt:=by subst hX';exact he _ _ _ _ _
     have a1:=hg' _ s7 σ5 H7 x u _ I7' r7 (step x H7 y7)
     rw[eE,eP,eW,eA,eX] at a1
     refine thn a1 fun _ s8 ⟨σ8,H8,I8,q8⟩=>?_
     have a2:=hif' _ s8 σ8 H8 _ I8 q8
     rw[eE,eP,eW,eA,eX] at a2
     refine thn a2 fun ok s9 ⟨H9,I9,q9⟩=>?_
     cases ok with
     | false=>exact again (pl:=[]) I9 q9
     | true =>
       have q9':zn9 s2.heap.objs.size telt N σ8 H9:=q9
       have a3:=he' _ s9 σ8 H9 _ I9 q9'
       rw[eE,eP,eW,eA,eX] at a3
       show wpAny _ _ _ _ _ _
       refine thn a3 fun y s10 ⟨v,H10,I10,r10,acc,hD,hl,n10⟩=>?_
       obtain⟨hz,its,k,rv,hgD⟩:=I10.hok s2.heap.objs.size _ hD
       have hlen:=rv.length
       refine wpAny_list_append_plain (hsz:=by rw[List.size_toArray,<-hlen];exact Nat.le_of_lt hl) ⟨k,hgD⟩ fun h11 hl11 hs11=>?_
       obtain⟨k',hk'⟩:=hl11
       have ep:(its.toArray.push y)=(its++[y]).toArray:=by simp
       rw[ep] at hk'
       have I11:Inv X' ([]++zw1 fp s7.heap) σ8 (upd H10 s2.heap.objs.size (.lst (acc++[v]))) { s10 with heap:=h11 } :=
         I10.write (x:=s2.heap.objs.size) (e:=s2.heap.objs.size) (t':=s10.toks) (by rw[hD];exact trivial) (.inl rfl) (fun b o hb e=>hs11.extBut b o hb e) ⟨_,hk'⟩ ⟨by rw[List.length_append];exact hl,its++[y],k',rv.append (.cons r10 .nil),hk'⟩
       exact again (pl:=[]) I11 n10
 exact codeAny_compStart_list loop (T.self _ 0 _ _ _ st4 loop)
theorem pe_compC (hc:X.calm=true)(S:zm4 X.N X.env.scope scope N' ix)(hi:PI X tg iter wi)
   (hg:∀cl C s0 H0 fp,PG (X.compC scope cl C N' s0 H0 fp) tg g) (hif:∀cl C s0 H0 fp,PIfs (X.compC scope cl C N' s0 H0 fp) ifs tif) (he:∀cl C s0 H0 fp,PE (X.compC scope cl C N' s0 H0 fp) elt telt)
   (hs:∀x,foldedSetIterable iter X.env x=pure x:=by intro _;rfl):PE X (.ListComp elt [⟨tg,iter,ifs,0⟩] scope pos) (yi1 wi ix g tif telt):=by
 intro pins s σ H Q I h
 obtain⟨cl,hcl,c1,c2⟩:=zB4 (scope:=scope) (env:=X.env) fun y hy hk=>I.ok.has y.1 (.inl (S.frees y hy hk))
 rw[eval_ListComp]
 refine wpAny_comprehension_free (use:=none) rfl hs hcl S.kind S.names (thn (hi pins s σ H _ I h) fun xv s1 h1=>thn h1 fun itv s2 h2=>?_)
 obtain⟨it,fp,tn,J,H2,e,I2,T,st2,f2,body⟩:=h2
 subst e
 refine comp_blockC (RR:=fun acc C=>compPost (model X.prog X.w) X.A X.xe none (EP X pins σ Q) acc C) (Q:=Q) hc S c1 c2 hg hif he I2 T st2 f2 body ?_
 intro D C s3 s' H' m I' h1 h2 hm hf hok q
 obtain⟨f0,f1,f2',f3,f4,f5⟩:=hf
 refine⟨m,hm,fun h' sb=>⟨.ref D,H',?_,rfl,q⟩⟩
 exact I'.turned (t':=s'.toks) (fun b o hb e=>sb.extBut b o hb e) f0 f1 f3 f4 f5
end
inductive zY4 (x:V)(vs:List V)(H:Hp)(Q:VK):Prop
 | mk (l:Addr)(xs:List Int)(i:Int)(j:Nat)(h0:x = .ref l)(h1:vs=[.int i])(h2:H l=some (.lst (xs.map V.int)))(h3:xs[j]?=some i)(h4:∀m a,m<j->xs[m]?=some a->(a == i)=false)(h5:j<1000)(h6:Q (.int (j:Int)) H):zY4 x vs H Q
noncomputable def rIndex:V->List V->Hp->VK->Prop:=fun x vs H Q=>zY4 x vs H Q
theorem mt_index {X:Cx}:MtR X "list.index" rIndex:=by
 intro pins s σ H x vs v us Q I rx rv h
 obtain⟨l,xs,i,j,rfl,rfl,hH,h1,h2,h3,q⟩:=h
 cases rx
 obtain⟨u1,rfl,⟨tk,rfl⟩⟩:=zr6 rv
 obtain⟨z,its,n,r,hl,e⟩:=I.lstM hH
 obtain⟨t1,ht1⟩:=zP6 r h1
 obtain⟨hj,ej⟩:=List.getElem?_eq_some_iff.mp ht1
 have hlen:=r.length
 rw[List.length_map] at hlen
 have hm:=MeetsSeq.list_index l its.toArray n (.int i tk) (eI i) (fun y hy=>zY3 r y (by simpa using hy)) j (by rw[List.size_toArray];exact hj) (by omega) (by rw[List.getElem_toArray,ej];show(i == i)=true;simp) (fun m hm hmj=>by
   rw[List.size_toArray] at hm
   obtain⟨t2,ht2⟩:=zP6 r (j:=m) (a:=xs[m]'(by omega)) (List.getElem?_eq_getElem (by omega))
   obtain⟨_,e2⟩:=List.getElem?_eq_some_iff.mp ht2
   rw[List.getElem_toArray,e2]
   exact h2 m _ hmj (List.getElem?_eq_getElem (by omega)))
 exact call_meets F.slot_list_index ⟨_,e,rfl⟩ F.entry_list_index (F.args_list_index_2 _ _) hm ⟨e,.int j,H,I.tok _,⟨_,rfl⟩,q⟩
theorem pi_listK {X:Cx}{tg e:Expr}{tl:TE}(K:W.Frag)(hK:X.K=K)(hl:PE X e tl):PI X tg e (yk7 K tl):=hK▸zg1 hl
end L2
namespace Bt
open PySem L2
noncomputable def top (i:Nat):Stmt:=PySem.Challenge.pw_beamtender_k43_whole_renumbered.main.body.getD i (.Pass ⟨0,0,0,0⟩)
noncomputable abbrev zk7:Stmt:=zT9 (top 14) 0
noncomputable abbrev zo7:Stmt:=top 15
noncomputable abbrev zg5:Stmt:=top 16
noncomputable abbrev zh8:Stmt:=top 17
noncomputable abbrev zf1:Stmt:=top 18
noncomputable abbrev zy8:Stmt:=top 19
noncomputable abbrev zh9:Stmt:=top 20
noncomputable abbrev zx0:Stmt:=top 22
noncomputable abbrev zF9:Stmt:=top 23
noncomputable abbrev zy9:Stmt:=top 24
noncomputable abbrev zo8:Stmt:=top 25
noncomputable abbrev zq9:Stmt:=top 27
noncomputable abbrev zs0:Stmt:=top 28
noncomputable abbrev zs3:Stmt:=top 29
noncomputable abbrev zG0:Stmt:=top 30
noncomputable abbrev zx1:Stmt:=top 31
noncomputable abbrev zm5:Stmt:=zT9 (top 33) 0
noncomputable abbrev zs4:Stmt:=top 34
noncomputable abbrev zs5:Stmt:=top 35
noncomputable abbrev zj3:Stmt:=top 36
noncomputable abbrev zs6:Stmt:=top 37
noncomputable abbrev ze0:Stmt:=top 38
noncomputable abbrev zj4:Stmt:=zT9 (top 40) 0
noncomputable abbrev zz0:Stmt:=top 41
noncomputable abbrev zd9:Stmt:=top 42
noncomputable abbrev zf9:Stmt:=top 43
noncomputable abbrev zG1:Stmt:=top 45
noncomputable abbrev zo9:Stmt:=top 46
noncomputable abbrev zs7:Stmt:=top 47
noncomputable abbrev zk8:Stmt:=top 48
noncomputable abbrev zz1:Stmt:=top 49
noncomputable abbrev zs8:Stmt:=top 50
noncomputable abbrev zp0:Stmt:=top 51
noncomputable abbrev zs9:Stmt:=top 52
noncomputable abbrev zt0:Stmt:=top 53
noncomputable abbrev zt1:Stmt:=top 54
noncomputable abbrev zj5:Stmt:=top 55
noncomputable abbrev zt2:Stmt:=top 56
noncomputable abbrev zi0:Stmt:=top 57
noncomputable abbrev zt3:Stmt:=top 58
noncomputable abbrev zt4:Stmt:=top 59
noncomputable abbrev zt5:Stmt:=top 60
noncomputable abbrev zz2:Stmt:=top 61
noncomputable abbrev zz3:Stmt:=top 62
noncomputable abbrev zp6:Stmt:=top 63
noncomputable abbrev zk1:Stmt:=top 64
noncomputable abbrev zr0:Stmt:=top 65
theorem sc_Beam_init:zc2 ["self","notches","room","hefts","limit"] ["self","notches","room","hefts","limit"] (za5 zk7):={}
theorem sc_outside:zc2 ["number","low","high"] ["number","low","high"] (za5 zo7):={}
theorem sc_check_bounds:zc2 ["notches","room","limit"] ["notches","room","limit"] (za5 zg5):={}
theorem zx2:zc2 ["hefts","heft"] ["hefts"] (za5 zh8):={}
theorem zh2:zc2 ["notches","weights","many","weight"] ["notches","weights"] (za5 zf1):={}
theorem sc_under:zc2 ["beam","limit"] ["beam","limit"] (za5 zy8):={}
theorem zp9:zc2 ["beam","standing","places","place"] ["beam","standing"] (za5 zh9):={}
theorem ye6:zc2 ["beam","standing","places"] ["beam","standing"] (za5 zx0):={}
theorem zG2:zd7 ["beam","standing","places"] (za5 zx0) (zi2 (zw4 (stE (stAt (zb2 zx0) 1)) 0)) ["heft","place"] [none,none]:=⟨rfl,by decide +kernel,by decide +kernel,by decide +kernel,rfl,by decide +kernel,by decide +kernel⟩
theorem sc_past:zc2 ["beam","tipped"] ["beam","tipped"] (za5 zF9):={}
theorem sc_keeps:zc2 ["beam","standing"] ["beam","standing"] (za5 zy9):={}
theorem zL6:zc2 ["beam","standing","weight","places"] ["beam","standing","weight"] (za5 zo8):={}
theorem zD8:zc2 ["beam","standing","places","told","weight"] ["beam","standing"] (za5 zq9):={}
theorem zL7:zd7 ["beam","standing","places","told","weight"] (za5 zq9) (zi2 (zw4 (stE (stAt (stBody (stAt (zb2 zq9) 2)) 0)) 0)) ["put","weight","places"] [none,some 4,some 2]:=⟨rfl,by decide +kernel,by decide +kernel,by decide +kernel,rfl,by decide +kernel,by decide +kernel⟩
theorem sc_turned:zc2 ["move"] ["move"] (za5 zs0):={}
theorem sc_behind:zc2 ["places","move"] ["places","move"] (za5 zs3):={}
theorem sc_full:zc2 ["beam","places","place"] ["beam","places","place"] (za5 zG0):={}
theorem zJ0:zc2 ["beam","places","weight","held","lies","heft"] ["beam","places","weight"] (za5 zx1):={}
theorem zP8:zd7 ["beam","places","weight","held","lies","heft"] (za5 zx1) (zi2 (stE (stAt (zb2 zx1) 4))) ["put","lies","beam","places","held","heft"] [none,some 4,some 0,some 1,some 3,some 5]:=⟨rfl,by decide +kernel,by decide +kernel,by decide +kernel,rfl,by decide +kernel,by decide +kernel⟩
theorem sc_Way_init:zc2 ["self","reached","many","row","layers","again","shut"] ["self","reached","many","row","layers","again","shut"] (za5 zm5):={}
theorem zG3:zc2 ["beam","start","goal","first","last"] ["beam","start","goal"] (za5 zs4):={}
theorem zt6:zc2 ["beam","start","goal","layers","led","layer","row"] ["beam","start","goal"] (za5 zs5):={}
theorem zk2:zc2 ["beam","layer","led","found","standing","move","reached"] ["beam","layer","led"] (za5 zj3):={}
theorem zz4:zc2 ["goal","led","row","standing"] ["goal","led"] (za5 zs6):={}
theorem zx3:zc2 ["row","weights"] ["row"] (za5 ze0):={}
theorem zt7:zd7 ["row","weights"] (za5 ze0) (zi2 (stE (stAt (zb2 ze0) 0))) ["move"] [none]:=⟨rfl,by decide +kernel,by decide +kernel,by decide +kernel,rfl,by decide +kernel,by decide +kernel⟩
theorem zt8:zd7 ["row","weights"] (za5 ze0) (zi2 (zw4 (zw4 (stE (stAt (zb2 ze0) 1)) 0) 0)) ["weight","weights"] [none,some 1]:=⟨rfl,by decide +kernel,by decide +kernel,by decide +kernel,rfl,by decide +kernel,by decide +kernel⟩
theorem sc_Least_init:zc2 ["self","limit","row","shut"] ["self","limit","row","shut"] (za5 zj4):={}
theorem zl3:zc2 ["beam","start","goal","first","last","limit","shut","way"] ["beam","start","goal"] (za5 zz0):={}
theorem zf2:zc2 ["beam","shut","free","inside","limits","standing","move"] ["beam","shut"] (za5 zd9):={}
theorem zo0:zd7 ["beam","shut","free","inside","limits","standing","move"] (za5 zd9) (zi2 (zw4 (stE (stAt (zb2 zd9) 1)) 0)) ["standing"] [none]:=⟨rfl,by decide +kernel,by decide +kernel,by decide +kernel,rfl,by decide +kernel,by decide +kernel⟩
theorem sc_limit_to_move:zc2 ["beam","standing","move"] ["beam","standing","move"] (za5 zf9):={}
theorem sc_w_at:zc2 ["_law_script","_law_k"] ["_law_script","_law_k"] (za5 zG1):={}
theorem sc_w_whole:zc2 ["_law_found"] ["_law_found"] (za5 zo9):={}
theorem zm6:zc2 ["_law_cell","_law_count","_law_base","_law_mix","_law_made","_law_rest","_law_k"] ["_law_cell","_law_count","_law_base","_law_mix"] (za5 zs7):={}
theorem zh3:zc2 ["_law_script","_law_cell","_law_notches","_law_count","_law_room","_law_mode","_law_hefts"] ["_law_script"] (za5 zk8):={}
theorem zD9:zd7 ["_law_script","_law_cell","_law_notches","_law_count","_law_room","_law_mode","_law_hefts"] (za5 zk8) (zi2 (stE (stAt (zb2 zk8) 5))) ["_law_x"] [none]:=⟨rfl,by decide +kernel,by decide +kernel,by decide +kernel,rfl,by decide +kernel,by decide +kernel⟩
theorem zi6:zc2 ["_law_script","_law_k","_law_more","_law_shape_here","_law_notches","_law_room","_law_hefts","_law_mix","_law_cell","_law_made","_law_x","_law_place"] ["_law_script","_law_k","_law_more","_law_shape_here"] (za5 zz1):={}
theorem zz5:zc2 ["_law_hefts","_law_spots","_law_total","_law_k"] ["_law_hefts","_law_spots"] (za5 zs8):={}
theorem zB5:zc2 ["_law_script","_law_low_here","_law_cell","_law_kind"] ["_law_script","_law_low_here"] (za5 zp0):={}
theorem zG4:zc2 ["_law_cell","_law_more","_law_start"] ["_law_cell"] (za5 zs9):={}
theorem zf3:zc2 ["_law_script","_law_shape_here","_law_notches","_law_room","_law_hefts","_law_first","_law_last","_law_craft","_law_notch","_law_low_here"] ["_law_script"] (za5 zt0):={}
theorem zj6:zc2 ["_law_scale","_law_spots","_law_move","_law_notches","_law_room","_law_hefts","_law_limit_here","_law_weight","_law_source","_law_target","_law_lifted"] ["_law_scale","_law_spots","_law_move"] (za5 zt1):={}
theorem zA6:zc2 ["_law_found","_law_count","_law_place"] ["_law_found","_law_count"] (za5 zj5):={}
theorem zP9:zc2 ["_law_found","_law_due","_law_k"] ["_law_found","_law_due"] (za5 zt2):={}
theorem zx4:zc2 ["_law_found","_law_due","_law_k"] ["_law_found","_law_due"] (za5 zi0):={}
theorem zz6:zc2 ["_law_scale","_law_spots","_law_row","_law_now","_law_move"] ["_law_scale","_law_spots","_law_row"] (za5 zt3):={}
theorem sc_w_with:zc2 ["_law_scale","_law_limit_here"] ["_law_scale","_law_limit_here"] (za5 zt4):={}
theorem sc_w_beam:zc2 ["_law_scale"] ["_law_scale"] (za5 zt5):={}
theorem sc_w_way:zc2 ["_law_scale","_law_first","_law_last","_law_found"] ["_law_scale","_law_first","_law_last","_law_found"] (za5 zz2):={}
theorem sc_w_low:zc2 ["_law_scale","_law_first","_law_last","_law_found"] ["_law_scale","_law_first","_law_last","_law_found"] (za5 zz3):={}
theorem zm7:zc2 ["_law_count","_law_cell","_law_left","_law_made","_law_rest","_law_k"] ["_law_count","_law_cell"] (za5 zp6):={}
theorem sc_w_told:zc2 ["_law_rows","_law_order_here"] ["_law_rows","_law_order_here"] (za5 zk1):={}
theorem zH8:zm4 ["_law_rows","_law_order_here"] (za5 zk1) (zi2 (zw4 (stE (stAt (zb2 zk1) 0)) 0)) ["_law_spots","_law_order_here"] [none,some 1]:=⟨rfl,by decide +kernel,by decide +kernel,by decide +kernel,rfl,by decide +kernel,by decide +kernel⟩
theorem zH9:zd7 ["_law_spots","_law_order_here"] (freeCell (zi2 (zw4 (stE (stAt (zb2 zk1) 0)) 0))) (zi2 (zw4 (exCE (zw4 (stE (stAt (zb2 zk1) 0)) 0)) 0)) ["_law_k","_law_spots"] [none,some 0]:=⟨rfl,by decide +kernel,by decide +kernel,by decide +kernel,rfl,by decide +kernel,by decide +kernel⟩
theorem zl4:zc2 ["_law_script","_law_scale","_law_first","_law_last","_law_order_here","_law_other","_law_start","_law_goal","_law_one","_law_two","_law_row","_law_k","_law_low_here","_law_edge"] ["_law_script"] (za5 zr0):={}
theorem zY5:zd7 ["_law_script","_law_scale","_law_first","_law_last","_law_order_here","_law_other","_law_start","_law_goal","_law_one","_law_two","_law_row","_law_k","_law_low_here","_law_edge"] (za5 zr0) (zi2 (exEls (stE (stAt (zb2 zr0) 2)) 2)) ["_law_k","_law_scale"] [none,some 1]:=⟨rfl,by decide +kernel,by decide +kernel,by decide +kernel,rfl,by decide +kernel,by decide +kernel⟩
theorem zY6:zd7 ["_law_script","_law_scale","_law_first","_law_last","_law_order_here","_law_other","_law_start","_law_goal","_law_one","_law_two","_law_row","_law_k","_law_low_here","_law_edge"] (za5 zr0) (zi2 (zw4 (stE (stAt (zb2 zr0) 3)) 0)) ["_law_k","_law_first"] [none,some 2]:=⟨rfl,by decide +kernel,by decide +kernel,by decide +kernel,rfl,by decide +kernel,by decide +kernel⟩
theorem zY7:zd7 ["_law_script","_law_scale","_law_first","_law_last","_law_order_here","_law_other","_law_start","_law_goal","_law_one","_law_two","_law_row","_law_k","_law_low_here","_law_edge"] (za5 zr0) (zi2 (zw4 (stE (stAt (zb2 zr0) 4)) 0)) ["_law_k","_law_last"] [none,some 3]:=⟨rfl,by decide +kernel,by decide +kernel,by decide +kernel,rfl,by decide +kernel,by decide +kernel⟩
theorem zY8:zd7 ["_law_script","_law_scale","_law_first","_law_last","_law_order_here","_law_other","_law_start","_law_goal","_law_one","_law_two","_law_row","_law_k","_law_low_here","_law_edge"] (za5 zr0) (zi2 (stE (stAt (zb2 zr0) 9))) ["_law_move","_law_order_here"] [none,some 4]:=⟨rfl,by decide +kernel,by decide +kernel,by decide +kernel,rfl,by decide +kernel,by decide +kernel⟩
set_option genInjectivity false in
set_option genSizeOf false in
structure Adr where
 am:Addr
 aD:FuncData
 ah:Addr
 au:FuncData
 ak:Addr
 aA:FuncData
 an:Addr
 aG:FuncData
 ae:Addr
 al:FuncData
 aX:Addr
 bi:FuncData
 aa:Addr
 ab:FuncData
 aK:Addr
 aY:FuncData
 be:Addr
 bA:FuncData
 bj:Addr
 bD:FuncData
 aE:Addr
 aT:FuncData
 aZ:Addr
 bk:FuncData
 a0:Addr
 bp:FuncData
 aq:Addr
 aB:FuncData
 bB:Addr
 bI:FuncData
 bC:Addr
 bJ:FuncData
 aJ:Addr
 a1:FuncData
 aL:Addr
 a2:FuncData
 a3:Addr
 bq:FuncData
 aw:Addr
 aM:FuncData
 a4:Addr
 br:FuncData
 ao:Addr
 aH:FuncData
 ax:Addr
 aN:FuncData
 bl:Addr
 bE:FuncData
 af:Addr
 ar:FuncData
 ag:Addr
 ay:FuncData
 aF:Addr
 aO:FuncData
 ai:Addr
 av:FuncData
 aP:Addr
 a5:FuncData
 aU:Addr
 bf:FuncData
 bm:Addr
 bF:FuncData
 aQ:Addr
 a6:FuncData
 aV:Addr
 bg:FuncData
 a7:Addr
 bs:FuncData
 a8:Addr
 bt:FuncData
 a9:Addr
 bu:FuncData
 az:Addr
 aR:FuncData
 ba:Addr
 bv:FuncData
 ap:Addr
 aI:FuncData
 aC:Addr
 aS:FuncData
 bb:Addr
 bw:FuncData
 bc:Addr
 bx:FuncData
 bn:Addr
 bG:FuncData
 bo:Addr
 bH:FuncData
 aW:Addr
 bh:FuncData
 bd:Addr
 bz:FuncData
 bK:Addr
 bM:FuncData
 aj:Addr
 ad:Addr
 ac:Addr
 bN:Tok
 bQ:Tok
 bP:Tok
 bO:Tok
 bR:Tok
 bL:Tok
structure Txt (K:W.Frag)(mg:Str->Option Value)(t:Adr):Prop where
 cu:Fun K "__init__" "Beam.__init__" zk7 t.am t.aD
 bb:zd2 K t.aD ["self","notches","room","hefts","limit"] []
 dQ:W.keepIn K (.ref t.am)=true
 cy:Fun K "outside" "outside" zo7 t.ah t.au
 au:zd2 K t.au ["number","low","high"] []
 av:mg "outside" = some (.ref t.ah)
 aw:W.keepIn K (.ref t.ah)=true
 bG:Fun K "check_bounds" "check_bounds" zg5 t.ak t.aA
 bH:zd2 K t.aA ["notches","room","limit"] []
 bI:mg "check_bounds" = some (.ref t.ak)
 bJ:W.keepIn K (.ref t.ak)=true
 b6:Fun K "check_hefts" "check_hefts" zh8 t.an t.aG
 b7:zd2 K t.aG ["hefts"] []
 b8:mg "check_hefts" = some (.ref t.an)
 b9:W.keepIn K (.ref t.an)=true
 bo:Fun K "check_standings" "check_standings" zf1 t.ae t.al
 bp:zd2 K t.al ["notches","weights"] []
 bq:mg "check_standings" = some (.ref t.ae)
 br:W.keepIn K (.ref t.ae)=true
 ds:Fun K "under" "under" zy8 t.aX t.bi
 bc:zd2 K t.bi ["beam","limit"] []
 bd:mg "under" = some (.ref t.aX)
 be:W.keepIn K (.ref t.aX)=true
 ca:Fun K "as_standing" "as_standing" zh9 t.aa t.ab
 aj:zd2 K t.ab ["beam","standing"] []
 ak:mg "as_standing" = some (.ref t.aa)
 al:W.keepIn K (.ref t.aa)=true
 dz:Fun K "tilt" "tilt" zx0 t.aK t.aY
 aX:zd2 K t.aY ["beam","standing"] []
 aY:mg "tilt" = some (.ref t.aK)
 aZ:W.keepIn K (.ref t.aK)=true
 dA:Fun K "past" "past" zF9 t.be t.bA
 bi:zd2 K t.bA ["beam","tipped"] []
 bj:mg "past" = some (.ref t.be)
 bk:W.keepIn K (.ref t.be)=true
 dt:Fun K "keeps" "keeps" zy9 t.bj t.bD
 bK:zd2 K t.bD ["beam","standing"] []
 bL:mg "keeps" = some (.ref t.bj)
 bM:W.keepIn K (.ref t.bj)=true
 cz:Fun K "in_hand" "in_hand" zo8 t.aE t.aT
 bl:zd2 K t.aT ["beam","standing","weight"] []
 bm:mg "in_hand" = some (.ref t.aE)
 bn:W.keepIn K (.ref t.aE)=true
 du:Fun K "moves" "moves" zq9 t.aZ t.bk
 bN:zd2 K t.bk ["beam","standing"] []
 bO:mg "moves" = some (.ref t.aZ)
 bP:W.keepIn K (.ref t.aZ)=true
 cN:Fun K "turned" "turned" zs0 t.a0 t.bp
 cO:zd2 K t.bp ["move"] []
 cP:mg "turned" = some (.ref t.a0)
 cQ:W.keepIn K (.ref t.a0)=true
 cR:Fun K "behind" "behind" zs3 t.aq t.aB
 aM:zd2 K t.aB ["places","move"] []
 aN:mg "behind" = some (.ref t.aq)
 aO:W.keepIn K (.ref t.aq)=true
 dB:Fun K "full" "full" zG0 t.bB t.bI
 dC:zd2 K t.bI ["beam","places","place"] []
 dD:mg "full" = some (.ref t.bB)
 dE:W.keepIn K (.ref t.bB)=true
 dF:Fun K "puts" "puts" zx1 t.bC t.bJ
 dG:zd2 K t.bJ ["beam","places","weight"] []
 dH:mg "puts" = some (.ref t.bC)
 dI:W.keepIn K (.ref t.bC)=true
 cx:Fun K "__init__" "Way.__init__" zm5 t.aJ t.a1
 bf:zd2 K t.a1 ["self","reached","many","row","layers","again","shut"] []
 dR:W.keepIn K (.ref t.aJ)=true
 cS:Fun K "fewest" "fewest" zs4 t.aL t.a2
 aP:zd2 K t.a2 ["beam","start","goal"] []
 aQ:mg "fewest" = some (.ref t.aL)
 aR:W.keepIn K (.ref t.aL)=true
 cT:Fun K "search" "search" zs5 t.a3 t.bq
 cU:zd2 K t.bq ["beam","start","goal"] []
 cV:mg "search" = some (.ref t.a3)
 cW:W.keepIn K (.ref t.a3)=true
 cg:Fun K "next_layer" "next_layer" zj3 t.aw t.aM
 ch:zd2 K t.aM ["beam","layer","led"] []
 ci:mg "next_layer" = some (.ref t.aw)
 cj:W.keepIn K (.ref t.aw)=true
 cX:Fun K "row_to" "row_to" zs6 t.a4 t.br
 cY:zd2 K t.br ["goal","led"] []
 cZ:mg "row_to" = some (.ref t.a4)
 c0:W.keepIn K (.ref t.a4)=true
 cb:Fun K "moved_again" "moved_again" ze0 t.ao t.aH
 cc:zd2 K t.aH ["row"] []
 cd:mg "moved_again" = some (.ref t.ao)
 ce:W.keepIn K (.ref t.ao)=true
 ck:Fun K "__init__" "Least.__init__" zj4 t.ax t.aN
 cl:zd2 K t.aN ["self","limit","row","shut"] []
 dS:W.keepIn K (.ref t.ax)=true
 dv:Fun K "least" "least" zz0 t.bl t.bE
 bQ:zd2 K t.bE ["beam","start","goal"] []
 bR:mg "least" = some (.ref t.bl)
 bS:W.keepIn K (.ref t.bl)=true
 bs:Fun K "limit_to_leave" "limit_to_leave" zd9 t.af t.ar
 bt:zd2 K t.ar ["beam","shut"] []
 bu:mg "limit_to_leave" = some (.ref t.af)
 bv:W.keepIn K (.ref t.af)=true
 bB:Fun K "limit_to_move" "limit_to_move" zf9 t.ag t.ay
 bC:zd2 K t.ay ["beam","standing","move"] []
 bD:mg "limit_to_move" = some (.ref t.ag)
 bE:W.keepIn K (.ref t.ag)=true
 dJ:Fun K "_law_at" "_law_at" zG1 t.aF t.aO
 ax:zd2 K t.aO ["_law_script","_law_k"] []
 ay:mg "_law_at" = some (.ref t.aF)
 az:W.keepIn K (.ref t.aF)=true
 cA:Fun K "_law_whole" "_law_whole" zo9 t.ai t.av
 aI:zd2 K t.av ["_law_found"] []
 aJ:mg "_law_whole" = some (.ref t.ai)
 aK:W.keepIn K (.ref t.ai)=true
 c1:Fun K "_law_figs" "_law_figs" zs7 t.aP t.a5
 bw:zd2 K t.a5 ["_law_cell","_law_count","_law_base","_law_mix"] []
 bx:mg "_law_figs" = some (.ref t.aP)
 bz:W.keepIn K (.ref t.aP)=true
 cB:Fun K "_law_shape" "_law_shape" zk8 t.aU t.bf
 cC:zd2 K t.bf ["_law_script"] []
 cD:mg "_law_shape" = some (.ref t.aU)
 cE:W.keepIn K (.ref t.aU)=true
 dw:Fun K "_law_put" "_law_put" zz1 t.bm t.bF
 bT:zd2 K t.bF ["_law_script","_law_k","_law_more","_law_shape_here"] []
 bU:mg "_law_put" = some (.ref t.bm)
 bV:W.keepIn K (.ref t.bm)=true
 c2:Fun K "_law_tilt" "_law_tilt" zs8 t.aQ t.a6
 a0:zd2 K t.a6 ["_law_hefts","_law_spots"] []
 a1:mg "_law_tilt" = some (.ref t.aQ)
 a2:W.keepIn K (.ref t.aQ)=true
 cF:Fun K "_law_limit" "_law_limit" zp0 t.aV t.bg
 cG:zd2 K t.bg ["_law_script","_law_low_here"] []
 cH:mg "_law_limit" = some (.ref t.aV)
 cI:W.keepIn K (.ref t.aV)=true
 c3:Fun K "_law_hard" "_law_hard" zs9 t.a7 t.bs
 c4:zd2 K t.bs ["_law_cell"] []
 c5:mg "_law_hard" = some (.ref t.a7)
 c6:W.keepIn K (.ref t.a7)=true
 c7:Fun K "_law_case" "_law_case" zt0 t.a8 t.bt
 c8:zd2 K t.bt ["_law_script"] []
 c9:mg "_law_case" = some (.ref t.a8)
 da:W.keepIn K (.ref t.a8)=true
 db:Fun K "_law_lets" "_law_lets" zt1 t.a9 t.bu
 dc:zd2 K t.bu ["_law_scale","_law_spots","_law_move"] []
 dd:mg "_law_lets" = some (.ref t.a9)
 de:W.keepIn K (.ref t.a9)=true
 cm:Fun K "_law_is_spots" "_law_is_spots" zj5 t.az t.aR
 cn:zd2 K t.aR ["_law_found","_law_count"] []
 co:mg "_law_is_spots" = some (.ref t.az)
 cp:W.keepIn K (.ref t.az)=true
 df:Fun K "_law_same" "_law_same" zt2 t.ba t.bv
 dg:zd2 K t.bv ["_law_found","_law_due"] []
 dh:mg "_law_same" = some (.ref t.ba)
 di:W.keepIn K (.ref t.ba)=true
 cf:Fun K "_law_same_rows" "_law_same_rows" zi0 t.ap t.aI
 aD:zd2 K t.aI ["_law_found","_law_due"] []
 aE:mg "_law_same_rows" = some (.ref t.ap)
 aF:W.keepIn K (.ref t.ap)=true
 dj:Fun K "_law_walk" "_law_walk" zt3 t.aC t.aS
 a3:zd2 K t.aS ["_law_scale","_law_spots","_law_row"] []
 a4:mg "_law_walk" = some (.ref t.aC)
 a5:W.keepIn K (.ref t.aC)=true
 dk:Fun K "_law_with" "_law_with" zt4 t.bb t.bw
 dl:zd2 K t.bw ["_law_scale","_law_limit_here"] []
 dm:mg "_law_with" = some (.ref t.bb)
 dn:W.keepIn K (.ref t.bb)=true
 dp:Fun K "_law_beam" "_law_beam" zt5 t.bc t.bx
 aS:zd2 K t.bx ["_law_scale"] []
 aT:mg "_law_beam" = some (.ref t.bc)
 aU:W.keepIn K (.ref t.bc)=true
 dx:Fun K "_law_way" "_law_way" zz2 t.bn t.bG
 bW:zd2 K t.bG ["_law_scale","_law_first","_law_last","_law_found"] []
 bX:mg "_law_way" = some (.ref t.bn)
 bY:W.keepIn K (.ref t.bn)=true
 dy:Fun K "_law_low" "_law_low" zz3 t.bo t.bH
 bZ:zd2 K t.bH ["_law_scale","_law_first","_law_last","_law_found"] []
 b0:mg "_law_low" = some (.ref t.bo)
 b1:W.keepIn K (.ref t.bo)=true
 cJ:Fun K "_law_order" "_law_order" zp6 t.aW t.bh
 cK:zd2 K t.bh ["_law_count","_law_cell"] []
 cL:mg "_law_order" = some (.ref t.aW)
 cM:W.keepIn K (.ref t.aW)=true
 dq:Fun K "_law_told" "_law_told" zk1 t.bd t.bz
 a6:zd2 K t.bz ["_law_rows","_law_order_here"] []
 a7:mg "_law_told" = some (.ref t.bd)
 a8:W.keepIn K (.ref t.bd)=true
 dL:Fun K "law" "law" zr0 t.bK t.bM
 dT:zd2 K t.bM ["_law_script"] []
 dU:mg "law" = some (.ref t.bK)
 dV:W.keepIn K (.ref t.bK)=true
 ab:Cls K t.aj
 cq:mg "Beam" = some (.ref t.aj)
 b2:Mk K t.aj t.am
 ae:zh0 K t.aj "notches"
 ar:zh0 K t.aj "room"
 ag:zh0 K t.aj "hefts"
 aG:zh0 K t.aj "limit"
 aa:Cls K t.ad
 bF:mg "Way" = some (.ref t.ad)
 cr:Mk K t.ad t.aJ
 ac:zh0 K t.ad "reached"
 ap:zh0 K t.ad "many"
 an:zh0 K t.ad "row"
 am:zh0 K t.ad "layers"
 cs:zh0 K t.ad "again"
 aC:zh0 K t.ad "shut"
 ah:Cls K t.ac
 b3:mg "Least" = some (.ref t.ac)
 dr:Mk K t.ac t.ax
 ai:zh0 K t.ac "limit"
 a9:zh0 K t.ac "row"
 aH:zh0 K t.ac "shut"
 aB:W.findIn K (.ref t.ad) "__class__" = some (some (.builtin "object.__class__"))/\W.specialIn K (.builtin "object.__class__") "__get__" = some (some (.builtin "getset_descriptor.__get__"))/\W.takesIn K (.builtin "object.__class__")=some true/\W.mroIn K t.ad (.type "object")=some true
 aV:W.findIn K (.ref t.ac) "__class__" = some (some (.builtin "object.__class__"))/\W.specialIn K (.builtin "object.__class__") "__get__" = some (some (.builtin "getset_descriptor.__get__"))/\W.takesIn K (.builtin "object.__class__")=some true/\W.mroIn K t.ac (.type "object")=some true
 aq:mg "tuple" = none
 ad:mg "len" = none
 ao:mg "range" = none
 dM:mg "sum" = none
 dN:mg "zip" = none
 aA:mg "abs" = none
 aW:mg "sorted" = none
 dO:mg "set" = none
 bg:mg "max" = none
 dK:mg "dict" = none
 bh:mg "min" = none
 af:mg "isinstance" = none
 dP:mg "int" = none
 ct:mg "bool" = none
 aL:mg "list" = none
 b4:mg "MOST_NOTCHES" = some (.int 4 t.bN)
 cv:mg "MOST_ROOM" = some (.int 3 t.bQ)
 ba:mg "MOST_LIMIT" = some (.int 400 t.bP)
 b5:mg "MOST_WEIGHTS" = some (.int 5 t.bO)
 cw:mg "MOST_HEFT" = some (.int 20 t.bR)
 bA:mg "MOST_STANDINGS" = some (.int 1000 t.bL)
noncomputable def zo1 (cell base:Int)(mix:Bool):Nat->Int×List Int
 | 0=>(if mix=true then cell*48271 % 2147483647 else cell,[])
 | i+1 =>
   if mix=true then(((zo1 cell base mix i).1+(0+(i:Int))+1)*69621 % 2147483647,(zo1 cell base mix i).2++[(((zo1 cell base mix i).1+(0+(i:Int))+1)*69621 % 2147483647) / 8 % base])
   else((zo1 cell base mix i).1 / base,(zo1 cell base mix i).2++[(zo1 cell base mix i).1 % base])
noncomputable def figs (cell:Int)(n:Nat)(base:Int)(mix:Bool):List Int:=(zo1 cell base mix n).2
theorem zE0 (cell base:Int)(mix:Bool)(n:Nat):(figs cell n base mix).length=n:=by
 unfold figs
 induction n with
 | zero=>rfl
 | succ n ih =>
   unfold zo1
   cases mix
   . rw[if_neg (by decide)];simp[ih]
   . rw[if_pos rfl];simp[ih]
theorem zV1 {cell base:Int}{mix:Bool}(hb:0<base)(n:Nat):∀x∈figs cell n base mix,0<=x/\x<base:=by
 unfold figs
 induction n with
 | zero=>intro x hx;cases hx
 | succ n ih =>
   unfold zo1
   have key:∀z:Int,0<=z % base/\z % base<base:=fun z=>⟨Int.emod_nonneg _ (by omega),Int.emod_lt_of_pos _ hb⟩
   intro x hx
   cases mix
   . rw[if_neg (by decide)] at hx
     rcases List.mem_append.mp hx with h | h
     . exact ih x h
     . obtain rfl:=List.mem_singleton.mp h;exact key _
   . rw[if_pos rfl] at hx
     rcases List.mem_append.mp hx with h | h
     . exact ih x h
     . obtain rfl:=List.mem_singleton.mp h;exact key _
structure zg6 (n r:Int)(hs:List Int)(lim:Int):Prop where
 n1:1<=n
 n2:n<=4
 r1:1<=r
 r2:r<=3
 l1:0<=lim
 l2:lim<=400
 w:hs.length<=5
 h:∀x∈hs,1<=x/\x<=20
 most:(2*n+1) ^ hs.length<=1000
structure zc8 (n r:Int)(w:Nat)(xs:List Int):Prop where
 len:xs.length=w
 on:∀x∈xs,-n<=x/\x<=n
 room:∀x∈xs,x≠0->(xs.count x:Int)<=r
noncomputable abbrev at0 (ns:List Int)(k:Nat):Int:=ns.getD k 0
noncomputable def zr1 (ns:List Int):Bool:=decide (V.int (at0 ns 0 % 2)=V.int 1)
noncomputable def shN (ns:List Int):Int:=([2,3,1,4]:List Int).getD (at0 ns 1 % 4).toNat 0
noncomputable def shW (ns:List Int):Int :=
 if ([3,2,4,1,5,0]:List Int).getD (at0 ns 1 / 4 % 6).toNat 0<([5,4,3,3]:List Int).getD (shN ns-1).toNat 0 then([3,2,4,1,5,0]:List Int).getD (at0 ns 1 / 4 % 6).toNat 0 else([5,4,3,3]:List Int).getD (shN ns-1).toNat 0
noncomputable def shR (ns:List Int):Int:=1+at0 ns 1 / 24 % 3
noncomputable def shH0 (ns:List Int):List Int:=(figs (at0 ns 2) (shW ns).toNat 20 (zr1 ns)).map fun x=>1+x
noncomputable def shH (ns:List Int):List Int :=
 if at0 ns 0 / 2 % 5=1 then(List.replicate (shW ns).toNat ((shH0 ns).take 1)).flatten else if at0 ns 0 / 2 % 5=2 then(List.replicate (shW ns).toNat [20]).flatten else shH0 ns
theorem zG5 (ns:List Int):shN ns=2\/shN ns=3\/shN ns=1\/shN ns=4:=by
 unfold shN
 have h1:0<=at0 ns 1 % 4:=Int.emod_nonneg _ (by decide)
 have h2:at0 ns 1 % 4<4:=Int.emod_lt_of_pos _ (by decide)
 have:at0 ns 1 % 4=0\/at0 ns 1 % 4=1\/at0 ns 1 % 4=2\/at0 ns 1 % 4=3:=by omega
 rcases this with e | e | e | e<;>rw[e]<;>decide
theorem cap_of {n:Int}:n=2\/n=3\/n=1\/n=4->([5,4,3,3]:List Int).getD (n-1).toNat 0=(if n=1 then 5 else if n=2 then 4 else 3):=by
 rintro(rfl | rfl | rfl | rfl)<;>decide
theorem six_of (z:Int):0<=([3,2,4,1,5,0]:List Int).getD (z % 6).toNat 0/\([3,2,4,1,5,0]:List Int).getD (z % 6).toNat 0<=5:=by
 have h1:0<=z % 6:=Int.emod_nonneg _ (by decide)
 have h2:z % 6<6:=Int.emod_lt_of_pos _ (by decide)
 have:z % 6=0\/z % 6=1\/z % 6=2\/z % 6=3\/z % 6=4\/z % 6=5:=by omega
 rcases this with e | e | e | e | e | e<;>rw[e]<;>decide
theorem yj5 (ns:List Int):0<=shW ns/\shW ns<=(if shN ns=1 then 5 else if shN ns=2 then 4 else 3):=by
 unfold shW
 obtain⟨h1,h2⟩:=six_of (at0 ns 1 / 4)
 rw[cap_of (zG5 ns)]
 have h3:(0:Int)<=(if shN ns=1 then 5 else if shN ns=2 then 4 else 3):=by repeat (first | decide | split)
 split<;>omega
theorem pow_cap {n:Int}(h:n=2\/n=3\/n=1\/n=4){w:Nat}(hw:(w:Int)<=(if n=1 then 5 else if n=2 then 4 else 3)):(2*n+1) ^ w<=1000:=by
 have h5:(if n=1 then(5:Int) else if n=2 then 4 else 3)<=5:=by repeat (first | decide | split)
 have:w=0\/w=1\/w=2\/w=3\/w=4\/w=5:=by omega
 rcases h with rfl | rfl | rfl | rfl<;>rcases this with rfl | rfl | rfl | rfl | rfl | rfl<;>first | decide | (exfalso;revert hw;decide)
theorem zY9 (ns:List Int):(shH0 ns).length=(shW ns).toNat:=by unfold shH0;rw[List.length_map,zE0]
theorem shH_len (ns:List Int):(shH ns).length=(shW ns).toNat:=by
 unfold shH
 have h0:=zY9 ns
 split
 . rw[zT7,List.length_take,h0]
   by_cases h:(shW ns).toNat=0
   . rw[h];simp
   . rw[Nat.min_eq_left (by omega),Nat.mul_one]
 . split
   . rw[zT7];simp
   . exact h0
theorem ye7 (ns:List Int):∀x∈shH0 ns,1<=x/\x<=20:=by
 intro x hx
 unfold shH0 at hx
 obtain⟨y,hy,rfl⟩:=List.mem_map.mp hx
 have:=zV1 (by decide) _ y hy
 omega
theorem shH_in (ns:List Int):∀x∈shH ns,1<=x/\x<=20:=by
 intro x hx
 unfold shH at hx
 split at hx
 . obtain⟨l,hl,hx⟩:=List.mem_flatten.mp hx
   obtain⟨_,rfl⟩:=List.mem_replicate.mp hl
   exact ye7 ns x (List.mem_of_mem_take hx)
 . split at hx
   . obtain⟨l,hl,hx⟩:=List.mem_flatten.mp hx
     obtain⟨_,rfl⟩:=List.mem_replicate.mp hl
     obtain rfl:=List.mem_singleton.mp hx
     omega
   . exact ye7 ns x hx
theorem sh_ok (ns:List Int){lim:Int}(h1:0<=lim)(h2:lim<=400):zg6 (shN ns) (shR ns) (shH ns) lim:=by
 have hN:=zG5 ns
 have hW:=yj5 ns
 have hl:=shH_len ns
 have h5:(if shN ns=1 then(5:Int) else if shN ns=2 then 4 else 3)<=5:=by repeat (first | decide | split)
 have hR1:0<=at0 ns 1 / 24 % 3:=Int.emod_nonneg _ (by decide)
 have hR2:at0 ns 1 / 24 % 3<3:=Int.emod_lt_of_pos _ (by decide)
 exact⟨by omega,by omega,by unfold shR;omega,by unfold shR;omega,h1,h2,by omega,shH_in ns,pow_cap hN (by omega)⟩
noncomputable def zo4 (n r:Int)(last:Bool)(made:List Int)(x:Int):List Int :=
 made++[if (if last=true then n else x-n)≠0/\r<=(made.count (if last=true then n else x-n):Int) then 0 else(if last=true then n else x-n)]
noncomputable def putL (n r:Int)(last:Bool)(xs:List Int):List Int:=xs.foldl (zo4 n r last) []
noncomputable def zZ0 (ns:List Int)(k:Nat)(more n r:Int)(w:Nat):List Int :=
 putL n r (decide (V.int ((at0 ns k+more) % 13)=V.int 12)) (figs (at0 ns k+more) w (2*n+1) (zr1 ns))
theorem zQ0 (n r:Int)(last:Bool)(xs:List Int)(x:Int):putL n r last (xs++[x])=zo4 n r last (putL n r last xs) x:=by
 unfold putL;rw[List.foldl_append];rfl
theorem ye8 {n r:Int}(last:Bool)(hn:0<=n)(hr:1<=r)(xs:List Int)(hx:∀x∈xs,0<=x/\x<2*n+1) :
   (putL n r last xs).length=xs.length/\(∀y∈putL n r last xs,-n<=y/\y<=n)/\∀y,y≠0->((putL n r last xs).count y:Int)<=r:=by
 have main:∀(k:Nat) (xs:List Int),xs.length=k->(∀x∈xs,0<=x/\x<2*n+1)->(putL n r last xs).length=xs.length/\(∀y∈putL n r last xs,-n<=y/\y<=n)/\∀y,y≠0->((putL n r last xs).count y:Int)<=r:=by
   intro k
   induction k with
   | zero =>
     intro xs hk _
     have:xs=[]:=List.eq_nil_of_length_eq_zero hk
     subst this
     exact⟨rfl,(fun y hy=>nomatch hy),fun y _=>by show((([]:List Int).count y:Nat):Int)<=r;simp;omega⟩
   | succ k ih =>
     intro xs hk hx
     obtain⟨ys,x,rfl⟩:∃ys x,xs=ys++[x]:=⟨xs.dropLast,xs.getLast (by intro e;rw[e] at hk;cases hk),(List.dropLast_concat_getLast _).symm⟩
     have hk':ys.length=k:=by rw[List.length_append,List.length_singleton] at hk;omega
     obtain⟨h1,h2,h3⟩:=ih ys hk' fun z hz=>hx z (List.mem_append_left _ hz)
     have hx0:=hx x (List.mem_append_right _ (List.mem_singleton.mpr rfl))
     rw[zQ0]
     unfold zo4
     have hp:-n<=(if last=true then n else x-n)/\(if last=true then n else x-n)<=n:=by split<;>omega
     generalize(if last=true then n else x-n)=p at hp ⊢
     refine⟨by rw[List.length_append,List.length_append,h1];rfl,fun y hy=>?_,fun y hy=>?_⟩
     . rcases List.mem_append.mp hy with hy | hy
       . exact h2 y hy
       . obtain rfl:=List.mem_singleton.mp hy
         split<;>omega
     . rw[List.count_append,List.count_singleton]
       have h3y:=h3 y hy
       by_cases hc:p≠0/\r<=((putL n r last ys).count p:Int)
       . rw[if_pos hc]
         have:((0:Int) == y)=false:=by simpa using fun e=>hy e.symm
         rw[this]
         simpa using h3y
       . rw[if_neg hc]
         by_cases e:p=y
         . subst e
           have:¬ r<=((putL n r last ys).count p:Int):=fun z=>hc ⟨hy,z⟩
           simp
           omega
         . have:(p == y)=false:=by simpa using e
           rw[this]
           simpa using h3y
 exact main xs.length xs rfl hx
theorem yj6 (ns:List Int)(k:Nat)(more:Int){n r:Int}(w:Nat)(hn:1<=n)(hr:1<=r):zc8 n r w (zZ0 ns k more n r w):=by
 unfold zZ0
 obtain⟨h1,h2,h3⟩:=ye8 (n:=n) (r:=r) (decide (V.int ((at0 ns k+more) % 13)=V.int 12)) (by omega) hr (figs (at0 ns k+more) w (2*n+1) (zr1 ns)) (zV1 (by omega) w)
 exact⟨by rw[h1,zE0],h2,fun x _ h0=>h3 x h0⟩
noncomputable def zE1 (n r:Int) (h:Addr) (lim:Int):List (Str×V):=putF "limit" (.int lim) (putF "hefts" (.ref h) (putF "room" (.int r) (putF "notches" (.int n) [])))
theorem zm8 (n r:Int) (h:Addr) (lim:Int):(zE1 n r h lim).lookup ("notches" : Str)=some (V.int n):=by
 unfold zE1
 rw[zb1,if_neg (by decide +kernel),zb1,if_neg (by decide +kernel),zb1,if_neg (by decide +kernel),zb1,if_pos rfl]
theorem zV2 (n r:Int) (h:Addr) (lim:Int):(zE1 n r h lim).lookup ("room" : Str)=some (V.int r):=by
 unfold zE1
 rw[zb1,if_neg (by decide +kernel),zb1,if_neg (by decide +kernel),zb1,if_pos rfl]
theorem zz7 (n r:Int) (h:Addr) (lim:Int):(zE1 n r h lim).lookup ("hefts" : Str)=some (V.ref h):=by
 unfold zE1
 rw[zb1,if_neg (by decide +kernel),zb1,if_pos rfl]
theorem b_limit (n r:Int) (h:Addr) (lim:Int):(zE1 n r h lim).lookup ("limit" : Str)=some (V.int lim):=by
 unfold zE1
 rw[zb1,if_pos rfl]
noncomputable def zf5 (t:Adr)(H:Hp)(b:Addr)(n r:Int)(hs:List Int)(lim:Int):Prop :=
 zg6 n r hs lim/\∃dx h,H b=some (.ins t.aj dx (zE1 n r h lim))/\H h=some (.tup (hs.map V.int))
theorem zf5.same {t:Adr}{H H':Hp}{b:Addr}{n r:Int}{hs:List Int}{lim:Int}(B:zf5 t H b n r hs lim)(s:Same H H'):zf5 t H' b n r hs lim:=by
 obtain⟨ok,dx,h,e1,e2⟩:=B
 exact⟨ok,dx,h,s _ _ e1,s _ _ e2⟩
noncomputable def zq0 (K:W.Frag)(t:Adr):Sp:=fun vs H Q _=>∃a lo hi:Int,vs=[.int a,.int lo,.int hi]/\Q (.bl (decide (a<lo) || decide (hi<a))) H
noncomputable def zv9 (K:W.Frag)(t:Adr):Sp:=fun vs H Q _=>∃n r l:Int,vs=[.int n,.int r,.int l]/\(1<=n/\n<=4/\1<=r/\r<=3/\0<=l/\l<=400)/\Q .non H
noncomputable def zx5 (K:W.Frag)(t:Adr):Sp:=fun vs H Q _=>∃(a:Addr) (hs:List Int),vs=[.ref a]/\(SqL K H a (hs.map V.int)\/SqT K H a (hs.map V.int))/\(hs.length<=5/\∀x∈hs,1<=x/\x<=20)/\Q .non H
noncomputable def zq1 (K:W.Frag)(t:Adr):Sp:=fun vs H Q _=>∃(n:Int) (w:Nat),vs=[.int n,.int w]/\(1<=n/\n<=4/\w<=5/\(2*n+1) ^ w<=1000)/\Q .non H
inductive zE2 (K:W.Frag)(t:Adr)(vs:List V)(H:Hp)(Q:VK)(E:XK):Prop
 | mk (p dx a:Addr)(n r lim:Int)(hs:List Int)(h0:vs=[.ref p,.int n,.int r,.ref a,.int lim])(h1:H p=some (.ins t.aj dx []))(h2:(SqL K H a (hs.map V.int)\/H a=some (.tup (hs.map V.int))))(h3:zg6 n r hs lim)(h4:∀H',zf5 t H' p n r hs lim->zg9 p H H'->Q .non H'):zE2 K t vs H Q E
noncomputable def zv1 (K:W.Frag)(t:Adr):Sp:=fun vs H Q E=>zE2 K t vs H Q E
inductive zx6 (K:W.Frag)(t:Adr)(vs:List V)(H:Hp)(Q:VK)(E:XK):Prop
 | mk (b a:Addr)(n r lim:Int)(hs xs:List Int)(h0:vs=[.ref b,.ref a])(h1:zf5 t H b n r hs lim)(h2:zc8 n r hs.length xs)(h3:(SqL K H a (xs.map V.int)\/H a=some (.tup (xs.map V.int))))(h4:∀l H',Same H H'->H' l=some (.tup (xs.map V.int))->Q (.ref l) H'):zx6 K t vs H Q E
noncomputable def zg7 (K:W.Frag)(t:Adr):Sp:=fun vs H Q E=>zx6 K t vs H Q E
noncomputable def zz8 (K:W.Frag)(t:Adr):Sp:=fun vs H Q _=>∃(a:Addr) (ns:List Int) (k:Nat),vs=[.ref a,.int k]/\SqL K H a (ns.map V.int)/\Q (.int (ns.getD k 0)) H
noncomputable def zq2 (K:W.Frag)(t:Adr):Sp:=fun vs H Q _=>∃i:Int,vs=[.int i]/\Q (.bl true) H
noncomputable def zG6 (K:W.Frag)(t:Adr):Sp:=fun vs H Q _=>∃(cell base:Int) (n:Nat) (mix:Bool),vs=[.int cell,.int n,.int base,.bl mix]/\(n<=1000/\0<base/\base<1000) ∧
 ∀l,H l=none->Q (.ref l) (upd H l (.lst ((figs cell n base mix).map V.int)))
inductive zQ1 (K:W.Frag)(t:Adr)(vs:List V)(H:Hp)(Q:VK)(E:XK):Prop
 | mk (a b:Addr)(xs ys:List Int)(h0:vs=[.ref a,.ref b])(h1:(SqL K H a (xs.map V.int)\/SqT K H a (xs.map V.int)))(h2:(SqL K H b (ys.map V.int)\/SqT K H b (ys.map V.int)))(h3:ys.length<=1000)(h4:Q (.bl (decide (xs=ys))) H):zQ1 K t vs H Q E
noncomputable def zQ2 (K:W.Frag)(t:Adr):Sp:=fun vs H Q E=>zQ1 K t vs H Q E
noncomputable def zL8 (K:W.Frag)(t:Adr):Sp:=fun vs H Q _=>∃(a:Addr) (ns:List Int),vs=[.ref a]/\SqL K H a (ns.map V.int) ∧
 ∀l h H',Same H H'->H l=none->H h=none->H' h=some (.lst ((shH ns).map V.int))->H' l=some (.lst [.int (shN ns),.int (shR ns),.ref h])->Q (.ref l) H'
inductive zZ1 (K:W.Frag)(t:Adr)(vs:List V)(H:Hp)(Q:VK)(E:XK):Prop
 | mk (a sh h:Addr)(ns:List Int)(k:Nat)(more n r:Int)(hs:List Int)(h0:vs=[.ref a,.int k,.int more,.ref sh])(h1:SqL K H a (ns.map V.int))(h2:H sh=some (.lst [.int n,.int r,.ref h]))(h3:SqL K H h (hs.map V.int))(h4:(1<=n/\n<=4/\1<=r/\hs.length<=5))(h5:∀l H',Same H H'->H l=none->H' l=some (.lst ((zZ0 ns k more n r hs.length).map V.int))->Q (.ref l) H'):zZ1 K t vs H Q E
noncomputable def zZ2 (K:W.Frag)(t:Adr):Sp:=fun vs H Q E=>zZ1 K t vs H Q E
noncomputable def zZ3 (K:W.Frag):Sp:=fun vs H Q _=>∃(a:Addr) (ns:List Int),vs=[.ref a]/\SqL K H a (ns.map V.int)/\ns.length<=63/\∀H',Q (.bl true) H'
noncomputable def sp_law (K:W.Frag)(t:Adr):Sp:=zZ3 K
section
variable {P:Program} {w:World} {K:W.Frag} {mg:Str->Option Value} {base:Heap} {t:Adr}
theorem zv2 (T:Txt K mg t):FnOk P w K mg base CX0 1 t.ah t.au ["number","low","high"] (zq0 K t):=by
 refine T.cy.ok sc_outside (fun vs H Q E h=>?_) (fun cdv A outer s H vs Q E hr h=>?_)
 . obtain⟨a,lo,hi,rfl,q⟩:=h
   rfl
 . obtain⟨a,lo,hi,rfl,q⟩:=h
   refine⟨_,(za6 (zb8 (pe_or (zj1 yc1 (pv 0) (pv 1) (zc5 _)) (zJ6 (zj1 zA2 (pv 0) (pv 2) (zc5 _)))))),?_⟩
   refine⟨_,rfl,_,rfl,_,_,rfl,rfl,_,rfl,?_⟩
   refine ite2 (fun h1=>?_) (fun h1=>?_)
   . rw[h1] at q
     exact q
   . rw[Bool.eq_false_iff.mpr h1] at q
     exact⟨_,rfl,_,rfl,_,_,rfl,rfl,q⟩
theorem ok_check_bounds (T:Txt K mg t):FnOk P w K mg base CX0 2 t.ak t.aA ["notches","room","limit"] (zv9 K t):=by
 have Gaa:FnOk P w K mg base CX0 1 t.ah t.au ["number","low","high"] (zq0 K t):=zv2 T
 refine T.bG.ok sc_check_bounds (fun vs H Q E h=>?_) (fun cdv A outer s H vs Q E hr h=>?_)
 . obtain⟨n,r,l,rfl,⟨h1,h2,h3,h4,h5,h6⟩,q⟩:=h
   rfl
 . obtain⟨n,r,l,rfl,⟨h1,h2,h3,h4,h5,h6⟩,q⟩:=h
   have haa:Room 1 _:=hr.mono (by decide)
   refine⟨_,(za4 (zd1 (zd4 (za7 Gaa haa rfl T.av T.aw T.au .nil zb4 (za0 (pv 0) (za0 za2 (za0 (zo3 (v:=.int 4) rfl T.b4 ⟨_,rfl⟩) za3))))) (za6 zh6) zb9)
     (za4 (zd1 (zd4 (za7 Gaa haa rfl T.av T.aw T.au .nil zb4 (za0 (pv 1) (za0 za2 (za0 (zo3 (v:=.int 3) rfl T.cv ⟨_,rfl⟩) za3))))) (za6 zh6) zb9)
     (za6 (zd1 (zd4 (za7 Gaa haa rfl T.av T.aw T.au .nil zb4 (za0 (pv 2) (za0 za2 (za0 (zo3 (v:=.int 400) rfl T.ba ⟨_,rfl⟩) za3))))) (za6 zh6) zb9)))),?_⟩
   refine cut3 ?_
   intro rr3 rr2
   refine⟨_,rfl,_,_,_,rfl,_,rfl,iteB (zw5 h1 h2) ?_⟩
   refine⟨_,rfl,_,_,_,rfl,_,rfl,iteB (zw5 h3 h4) ?_⟩
   exact⟨_,rfl,_,_,_,rfl,_,rfl,iteB (zw5 h5 h6) q⟩
theorem ok_check_hefts (T:Txt K mg t):FnOk P w K mg base CX0 2 t.an t.aG ["hefts"] (zx5 K t):=by
 have Gaa:FnOk P w K mg base CX0 1 t.ah t.au ["number","low","high"] (zq0 K t):=zv2 T
 refine T.b6.ok zx2 (fun vs H Q E h=>?_) (fun cdv A outer s H vs Q E hr h=>?_)
 . obtain⟨a,hs,rfl,hS,⟨hl,hh⟩,q⟩:=h
   rfl
 . obtain⟨a,hs,rfl,hS,⟨hl,hh⟩,q⟩:=h
   have haa:Room 1 _:=hr.mono (by decide)
   refine⟨_,(za4 (zd1 (zc6 zA2 (zb0 zb7 rfl T.ad PySem.boot_len (za0 (pv 0) za3)) (zo3 (v:=.int 5) rfl T.b5 ⟨_,rfl⟩) (zc5 _)) (za6 zh6) zb9)
     (za6 (zi3 PassesOwn.never rfl (pi_seq (pv 0)) (zc4 (i:=1) zx2.nd rfl (Or.inl rfl)) (za6 (zd1 (zd4 (za7 Gaa haa rfl T.av T.aw T.au .nil zb4 (za0 (pv 1) (za0 za2 (za0 (zo3 (v:=.int 20) rfl T.cw ⟨_,rfl⟩) za3))))) (za6 zh6) zb9))))),?_⟩
   refine⟨_,rfl,a,hs.map V.int,rfl,hS,_,_,rfl,rfl,_,rfl,iteB (zU1 (by rw[List.length_map];omega)) ?_⟩
   refine⟨_,rfl,a,rfl,?_⟩
   have turn:∀(i:Nat) x,(hs.map V.int)[i]?=some x->∃z,x = .int z/\1<=z/\z<=20:=fun i x e=>by
     obtain⟨z,rfl,hz⟩:=int_at e
     exact⟨z,rfl,hh z (List.mem_of_getElem? hz)⟩
   rcases hS with hS | hS
   . refine .inl ⟨⟨_,hS⟩,zp7 (K:=K) (a:=a) (xs:=hs.map V.int) (fun i σ H'=>∃v,σ=[some (.ref a),v]/\H'=H) ⟨_,rfl,rfl⟩ (fun i σ H' _ ⟨_,_,e⟩=>e▸hS) ?_ ?_⟩
     . rintro i x σ H' hi ⟨v,rfl,rfl⟩
       obtain⟨z,rfl,h1,h2⟩:=turn i x hi
       exact⟨_,rfl,_,_,_,rfl,_,rfl,iteB (zw5 h1 h2) ⟨_,rfl,rfl⟩⟩
     . rintro σ H' ⟨v,rfl,rfl⟩
       exact q
   . refine .inr ⟨⟨_,hS⟩,zI2 (K:=K) (a:=a) (xs:=hs.map V.int) (fun i σ H'=>∃v,σ=[some (.ref a),v]/\H'=H) ⟨_,rfl,rfl⟩ (fun i σ H' _ ⟨_,_,e⟩=>e▸hS) ?_ ?_⟩
     . rintro i x σ H' hi ⟨v,rfl,rfl⟩
       obtain⟨z,rfl,h1,h2⟩:=turn i x hi
       exact⟨_,rfl,_,_,_,rfl,_,rfl,iteB (zw5 h1 h2) ⟨_,rfl,rfl⟩⟩
     . rintro σ H' ⟨v,rfl,rfl⟩
       exact q
theorem ok_check_standings (T:Txt K mg t):FnOk P w K mg base CX0 1 t.ae t.al ["notches","weights"] (zq1 K t):=by
 refine T.bo.ok zh2 (fun vs H Q E h=>?_) (fun cdv A outer s H vs Q E hr h=>?_)
 . obtain⟨n,w,rfl,⟨h1,h2,h3,h4⟩,q⟩:=h
   rfl
 . obtain⟨n,w,rfl,⟨h1,h2,h3,h4⟩,q⟩:=h
   refine⟨_,(za4 (zb3 (i:=2) zh2.nd rfl (Or.inl rfl) za2)
     (za4 (zi3 PassesOwn.never rfl (zl9 rfl T.ao (za0 (pv 1) za3)) (zc4 (i:=3) zh2.nd rfl (Or.inl rfl)) (za6 (zb3 (i:=2) zh2.nd rfl (Or.inl rfl) (zb6 zn5 (pv 2) (zb6 zf6 (zb6 zn5 za2 (pv 0)) za2)))))
     (za6 (zd1 (zc6 zA2 (pv 2) (zo3 (v:=.int 1000) rfl T.bA ⟨_,rfl⟩) (zc5 _)) (za6 zh6) zb9)))),?_⟩
   refine cut3 ?_
   intro rr3 rr2
   refine⟨_,rfl,_,rfl,by omega,by omega,zj0 (n:=(w:Int).toNat) (fun i σ H'=>∃v,σ=[some (.int n),some (.int w),some (.int ((2*n+1) ^ i)),v]/\H'=H) ⟨none,by rw[Int.pow_zero];rfl,rfl⟩ ?_ ?_⟩
   . rintro i σ H' hi ⟨v,rfl,rfl⟩
     exact⟨_,rfl,_,rfl,_,_,rfl,rfl,.inl ⟨by decide,by decide⟩,_,_,rfl,rfl,_,_,rfl,rfl,.inr ⟨by omega,by omega⟩,_,by rw[Int.pow_succ];rfl,rfl⟩
   . rintro σ H' ⟨v,rfl,rfl⟩
     exact⟨_,rfl,_,_,rfl,rfl,_,rfl,iteB (zU1 (by rw[Int.toNat_natCast];exact h4)) q⟩
theorem zE3 (T:Txt K mg t):FnOk P w K mg base CX0 3 t.am t.aD ["self","notches","room","hefts","limit"] (zv1 K t):=by
 have Gac:FnOk P w K mg base CX0 2 t.ak t.aA ["notches","room","limit"] (zv9 K t):=ok_check_bounds T
 have Gad:FnOk P w K mg base CX0 2 t.an t.aG ["hefts"] (zx5 K t):=ok_check_hefts T
 have Gae:FnOk P w K mg base CX0 1 t.ae t.al ["notches","weights"] (zq1 K t):=ok_check_standings T
 refine T.cu.ok sc_Beam_init (fun vs H Q E h=>?_) (fun cdv A outer s H vs Q E hr h=>?_)
 . obtain⟨p,dx,a,n,r,lim,hs,rfl,hp,hS,B,q⟩:=h
   rfl
 . obtain⟨p,dx,a,n,r,lim,hs,rfl,hp,hS,B,q⟩:=h
   have hac:Room 2 _:=hr.mono (by decide)
   have had:Room 2 _:=hr.mono (by decide)
   have hae:Room 1 _:=hr.mono (by decide)
   refine⟨_,(za4 (zi9 (za7 Gac hac rfl T.bI T.bJ T.bH .nil zb4 (za0 (pv 1) (za0 (pv 2) (za0 (pv 4) za3)))))
     (za4 (zi9 (za7 Gad had rfl T.b8 T.b9 T.b7 .nil zb4 (za0 (pv 3) za3)))
     (za4 (zi9 (za7 Gae hae rfl T.bq T.br T.bp .nil zb4 (za0 (pv 1) (za0 (zb0 zb7 rfl T.ad PySem.boot_len (za0 (pv 3) za3)) za3))))
     (za4 (zm1 (pv 0) (pv 1) rfl)
     (za4 (zm1 (pv 0) (pv 2) rfl)
     (za4 (zm1 (pv 0) (zg3 zh7 rfl T.aq PyProof.Rows.boot_tuple (za0 (pv 3) za3)) rfl)
     (za6 (zm1 (pv 0) (pv 4) rfl)))))))),?_⟩
   refine cut7 ?_
   intro rr7 rr6 rr5 rr4 rr3 rr2
   have hS':SqL K H a (hs.map V.int)\/SqT K H a (hs.map V.int):=hS.imp id SqT.of
   refine⟨_,rfl,_,rfl,_,rfl,n,r,lim,rfl,⟨B.n1,B.n2,B.r1,B.r2,B.l1,B.l2⟩,?_⟩
   refine⟨_,rfl,a,hs,rfl,hS',⟨B.w,B.h⟩,?_⟩
   refine⟨_,rfl,_,rfl,a,_,rfl,hS',n,hs.length,by rw[List.length_map];rfl,⟨B.n1,B.n2,B.w,B.most⟩,?_⟩
   refine⟨_,rfl,_,rfl,p,_,dx,_,rfl,hp,T.ab,T.ae,by decide,?_⟩
   refine⟨_,rfl,_,rfl,p,_,dx,_,rfl,za1,T.ab,T.ar,zn6 fl0,?_⟩
   have hne:∀ {b:Addr} {o:HO},H b=some o->o≠.ins t.aj dx []->b≠p:=fun e ne=>yg3 e hp ne
   refine⟨_,rfl,a,hs.map V.int,rfl,?_⟩
   rcases hS with hS | hS
   . have nap:∀o,SqL K (upd (upd H p o) p o) a (hs.map V.int)->True:=fun _ _=>trivial
     refine .inl ⟨?_,fun l hl=>?_⟩
     . rcases hS with(hS | ⟨ob,hS⟩) | hS
       . exact .inl (.inl (by rw[za9 (hne hS (by intro z;cases z)),za9 (hne hS (by intro z;cases z))];exact hS))
       . exact .inl (.inr ⟨ob,by rw[za9 (hne hS (by intro z;cases z)),za9 (hne hS (by intro z;cases z))];exact hS⟩)
       . exact .inr hS
     . have hlp:l≠p:=fun z=>by rw[z,za1] at hl;cases hl
       have hl0:H l=none:=by rw[za9 hlp,za9 hlp] at hl;exact hl
       refine⟨_,rfl,p,_,dx,_,rfl,(by rw[za9 hlp.symm];exact za1),T.ab,T.ag,zn6 (flS fl0),?_⟩
       refine⟨_,rfl,_,rfl,p,_,dx,_,rfl,za1,T.ab,T.aG,zn6 (flS (flS fl0)),?_⟩
       refine q _ ⟨B,dx,l,za1,by rw[za9 hlp,za9 hlp,za1]⟩ fun b o e hb=>?_
       rw[za9 hb,za9 hb,za9 (zc1 e hl0),za9 hb,za9 hb]
       exact e
   . have hap:a≠p:=hne hS (by intro z;cases z)
     refine .inr ⟨SqT.of (by rw[za9 hap,za9 hap];exact hS),?_⟩
     refine⟨_,rfl,p,_,dx,_,rfl,za1,T.ab,T.ag,zn6 (flS fl0),?_⟩
     refine⟨_,rfl,_,rfl,p,_,dx,_,rfl,za1,T.ab,T.aG,zn6 (flS (flS fl0)),?_⟩
     refine q _ ⟨B,dx,a,za1,by rw[za9 hap,za9 hap,za9 hap,za9 hap];exact hS⟩ fun b o e hb=>?_
     rw[za9 hb,za9 hb,za9 hb,za9 hb]
     exact e
theorem zi7 (T:Txt K mg t):FnOk P w K mg base CX0 2 t.aa t.ab ["beam","standing"] (zg7 K t):=by
 have Gaa:FnOk P w K mg base CX0 1 t.ah t.au ["number","low","high"] (zq0 K t):=zv2 T
 refine T.ca.ok zp9 (fun vs H Q E h=>?_) (fun cdv A outer s H vs Q E hr h=>?_)
 . obtain⟨b,a,n,r,lim,hs,xs,rfl,B,V0,hS,q⟩:=h
   rfl
 . obtain⟨b,a,n,r,lim,hs,xs,rfl,B,V0,hS,q⟩:=h
   have haa:Room 1 _:=hr.mono (by decide)
   refine⟨_,(za4 (zb3 (i:=2) zp9.nd rfl (Or.inl rfl) (zg3 zh7 rfl T.aq PyProof.Rows.boot_tuple (za0 (pv 1) za3)))
     (za4 (zd1 (zc6 zn8 (zb0 zb7 rfl T.ad PySem.boot_len (za0 (pv 2) za3)) (zb0 zb7 rfl T.ad PySem.boot_len (za0 (zc9 (pv 0) rfl) za3)) (zc5 _)) (za6 zh6) zb9)
     (za4 (zi3 PassesOwn.never rfl (yh0 (pv 2)) (zc4 (i:=3) zp9.nd rfl (Or.inl rfl)) (za4 (zd1 (zd4 (za7 Gaa haa rfl T.av T.aw T.au .nil zb4 (za0 (pv 3) (za0 (zl7 zi1 (zc9 (pv 0) rfl)) (za0 (zc9 (pv 0) rfl) za3))))) (za6 zh6) zb9)
     (za6 (zd1 (PW.pt (zB3 (zc6 zn8 (pv 3) za2 (zc5 _)) (zy3 (zc6 zA2 (yi2 PySem.F.slot_tuple_count PySem.F.type_tuple_count zF5 (pv 2) (za0 (pv 3) za3)) (zc9 (pv 0) rfl) (zc5 _))))) (za6 zh6) zb9))))
     (za6 (zb8 (pv 2)))))),?_⟩
   refine cut4 ?_
   intro rr4 rr3 rr2
   refine⟨_,rfl,a,xs.map V.int,rfl,?_⟩
   rcases hS with hS | hT
   . refine .inl ⟨hS,fun l hl=>?_⟩
     replace q:=q l _ (Same.upd hl) za1
     have hT:(upd H l (.tup (xs.map V.int))) l=some (.tup (xs.map V.int)):=za1
     replace B:=B.same (Same.upd (o:=.tup (xs.map V.int)) hl)
     revert q hT B
     generalize upd H l (.tup (xs.map V.int))=H1
     intro q hT B
     obtain⟨ok,dx,h,hb,hh⟩:=B
     refine⟨_,rfl,_,_,rfl,.inr (SqT.of hT),_,rfl,b,_,dx,_,_,rfl,hb,T.ab,T.ag,zz7 _ _ _ _,h,_,rfl,.inr (SqT.of hh),rfl,_,rfl,?_⟩
     refine iteB (by rw[List.length_map,List.length_map,V0.len];simp) ?_
     refine⟨_,rfl,_,rfl,⟨_,SqT.of hT⟩,zI2 (K:=K) (xs:=xs.map V.int) (fun i σ H'=>∃v,σ=[some (.ref b),some (.ref a),some (.ref l),v]/\H'=H1) ⟨none,rfl,rfl⟩ (fun i σ H' _ ⟨_,_,e⟩=>e▸SqT.of hT) ?_ ?_⟩
     . rintro i x σ H' hi ⟨v,rfl,rfl⟩
       obtain⟨z,rfl,hz⟩:=int_at hi
       have hm:=List.mem_of_getElem? hz
       obtain⟨z1,z2⟩:=V0.on z hm
       refine⟨_,rfl,_,rfl,b,_,dx,_,_,rfl,hb,T.ab,T.ae,zm8 _ _ _ _,_,rfl,_,rfl,b,_,dx,_,_,rfl,hb,T.ab,T.ae,zm8 _ _ _ _,z,-n,n,rfl,_,rfl,iteB (zw5 z1 z2) ?_⟩
       refine⟨_,rfl,rfl,_,rfl,?_⟩
       refine ite2 (fun h1=>?_) (fun h1=>?_)
       . have hz0:z≠0:=by
           intro e
           subst e
           simp at h1
         exact⟨_,rfl,⟨_,_,rfl,hT⟩,_,rfl,_,xs,z,rfl,rfl,SqT.of hT,_,rfl,b,_,dx,_,_,rfl,hb,T.ab,T.ar,zV2 _ _ _ _,_,_,rfl,rfl,_,rfl,iteB (zU1 (V0.room z hm hz0)) ⟨_,rfl,rfl⟩⟩
       . exact iteF ⟨_,rfl,rfl⟩
     . rintro σ H' ⟨v,rfl,rfl⟩
       exact⟨_,rfl,q⟩
   . refine .inr ⟨SqT.of hT,?_⟩
     replace q:=q a _ (Same.refl _) hT
     obtain⟨ok,dx,h,hb,hh⟩:=B
     refine⟨_,rfl,_,_,rfl,.inr (SqT.of hT),_,rfl,b,_,dx,_,_,rfl,hb,T.ab,T.ag,zz7 _ _ _ _,h,_,rfl,.inr (SqT.of hh),rfl,_,rfl,?_⟩
     refine iteB (by rw[List.length_map,List.length_map,V0.len];simp) ?_
     refine⟨_,rfl,_,rfl,⟨_,SqT.of hT⟩,zI2 (K:=K) (xs:=xs.map V.int) (fun i σ H'=>∃v,σ=[some (.ref b),some (.ref a),some (.ref a),v]/\H'=H) ⟨none,rfl,rfl⟩ (fun i σ H' _ ⟨_,_,e⟩=>e▸SqT.of hT) ?_ ?_⟩
     . rintro i x σ H' hi ⟨v,rfl,rfl⟩
       obtain⟨z,rfl,hz⟩:=int_at hi
       have hm:=List.mem_of_getElem? hz
       obtain⟨z1,z2⟩:=V0.on z hm
       refine⟨_,rfl,_,rfl,b,_,dx,_,_,rfl,hb,T.ab,T.ae,zm8 _ _ _ _,_,rfl,_,rfl,b,_,dx,_,_,rfl,hb,T.ab,T.ae,zm8 _ _ _ _,z,-n,n,rfl,_,rfl,iteB (zw5 z1 z2) ?_⟩
       refine⟨_,rfl,rfl,_,rfl,?_⟩
       refine ite2 (fun h1=>?_) (fun h1=>?_)
       . have hz0:z≠0:=by
           intro e
           subst e
           simp at h1
         exact⟨_,rfl,⟨_,_,rfl,hT⟩,_,rfl,_,xs,z,rfl,rfl,SqT.of hT,_,rfl,b,_,dx,_,_,rfl,hb,T.ab,T.ar,zV2 _ _ _ _,_,_,rfl,rfl,_,rfl,iteB (zU1 (V0.room z hm hz0)) ⟨_,rfl,rfl⟩⟩
       . exact iteF ⟨_,rfl,rfl⟩
     . rintro σ H' ⟨v,rfl,rfl⟩
       exact⟨_,rfl,q⟩
noncomputable def zb5 (hs xs:List Int):Int:=(List.zipWith (fun h x=>h*x) hs xs).sum
noncomputable def absI (i:Int):Int:=if i<0 then -i else i
noncomputable def mulV (x y:V):V:=match x,y with
 | .int a,.int b=>.int (a*b)
 | _,_=>.non
theorem zZ4:∀(hs xs:List Int),List.zipWith mulV (hs.map V.int) (xs.map V.int)=(List.zipWith (fun h x=>h*x) hs xs).map V.int
 | [],_=>rfl
 | _::_,[]=>rfl
 | h::hs,x::xs=>by
   show V.int (h*x)::List.zipWith mulV (hs.map V.int) (xs.map V.int)=_
   rw[zZ4 hs xs]
   rfl
theorem zG7:∀ {hs xs:List Int} {B:Int},(∀h∈hs,1<=h/\h<=20)->(∀x∈xs,-B<=x/\x<=B)->0<=B->∀z∈List.zipWith (fun h x=>h*x) hs xs,-(20*B)<=z/\z<=20*B
 | [],_,_,_,_,_=>(fun z hz=>by simp at hz)
 | _::_,[],_,_,_,_=>(fun z hz=>by simp at hz)
 | h::hs,x::xs,B,h1,h2,hB=>fun z hz=>by
   rw[List.zipWith_cons_cons] at hz
   rcases List.mem_cons.mp hz with rfl | hz
   . obtain⟨a1,a2⟩:=h1 h List.mem_cons_self
     obtain⟨b1,b2⟩:=h2 x List.mem_cons_self
     have c1:h*x<=h*B:=Int.mul_le_mul_of_nonneg_left b2 (by omega)
     have c2:h*B<=20*B:=Int.mul_le_mul_of_nonneg_right a2 hB
     have c3:h * -B<=h*x:=Int.mul_le_mul_of_nonneg_left b1 (by omega)
     have c4:h * -B = -(h*B):=Int.mul_neg h B
     omega
   . exact zG7 (fun y hy=>h1 y (List.mem_cons_of_mem _ hy)) (fun y hy=>h2 y (List.mem_cons_of_mem _ hy)) hB z hz
theorem tilt_fits {n r lim:Int}{hs xs:List Int}(ok:zg6 n r hs lim)(V0:zc8 n r hs.length xs):PySem.SumFits (List.zipWith (fun h x=>h*x) hs xs):=by
 refine PyProof.Rows.sumFits_of_bound (B:=80) (n:=5) (by decide) (fun z hz=>?_) ?_ (by decide)
 . have:=zG7 (B:=4) ok.h (fun x hx=>by have:=V0.on x hx;have:=ok.n2;omega) (by decide) z hz
   omega
 . rw[List.length_zipWith]
   have:=ok.w
   omega
inductive ye9 (K:W.Frag)(t:Adr)(vs:List V)(H:Hp)(Q:VK)(E:XK):Prop
 | mk (b a:Addr)(n r lim:Int)(hs xs:List Int)(h0:vs=[.ref b,.ref a])(h1:zf5 t H b n r hs lim)(h2:zc8 n r hs.length xs)(h3:(SqL K H a (xs.map V.int)\/H a=some (.tup (xs.map V.int))))(h4:∀H',Same H H'->Q (.int (zb5 hs xs)) H'):ye9 K t vs H Q E
noncomputable def zE4 (K:W.Frag)(t:Adr):Sp:=fun vs H Q E=>ye9 K t vs H Q E
inductive zZ5 (K:W.Frag)(t:Adr)(vs:List V)(H:Hp)(Q:VK)(E:XK):Prop
 | mk (b a:Addr)(n r lim:Int)(hs xs:List Int)(h0:vs=[.ref b,.ref a])(h1:zf5 t H b n r hs lim)(h2:zc8 n r hs.length xs)(h3:(SqL K H a (xs.map V.int)\/H a=some (.tup (xs.map V.int))))(h4:∀H',Same H H'->Q (.bl (decide (absI (zb5 hs xs)<=lim))) H'):zZ5 K t vs H Q E
noncomputable def zZ6 (K:W.Frag)(t:Adr):Sp:=fun vs H Q E=>zZ5 K t vs H Q E
theorem zJ1 (T:Txt K mg t):FnOk P w K mg base CX0 3 t.aK t.aY ["beam","standing"] (zE4 K t):=by
 have Gaf:FnOk P w K mg base CX0 2 t.aa t.ab ["beam","standing"] (zg7 K t):=zi7 T
 refine T.dz.ok ye6 (fun vs H Q E h=>?_) (fun cdv A outer s H vs Q E hr h=>?_)
 . obtain⟨b,a,n,r,lim,hs,xs,rfl,B,V0,hS,q⟩:=h
   rfl
 . obtain⟨b,a,n,r,lim,hs,xs,rfl,B,V0,hS,q⟩:=h
   have haf:Room 2 _:=hr.mono (by decide)
   refine⟨_,(za4 (zb3 (i:=2) ye6.nd rfl (Or.inl rfl) (za7 Gaf haf rfl T.ak T.al T.aj .nil zb4 (za0 (pv 0) (za0 (pv 1) za3))))
     (za6 (zb8 (zb0 (call_sum rfl) rfl T.dM PyProof.Rows.boot_sum (za0 (zm9 rfl zG2 (pi_zip rfl T.dN (za0 (zc9 (pv 0) rfl) (za0 (pv 2) za3))) (fun _ _ _ _ _=>(pg_tupK (n:=2) K rfl rfl (ze4 (zc4 (i:=0) zG2.nd rfl (Or.inl rfl)) (ze4 (zc4 (i:=1) zG2.nd rfl (Or.inl rfl)) zy4)))) (fun _ _ _ _ _=>zi5) (fun _ _ _ _ _=>(zb6 zn5 (pv 0) (pv 1)))) za3))))),?_⟩
   refine⟨_,rfl,_,rfl,b,a,n,r,lim,hs,xs,rfl,B,V0,hS,fun l H1 s1 hl=>?_⟩
   have ok:=B.1
   obtain⟨_,dx,h,hb,hh⟩:=B.same s1
   refine⟨_,rfl,b,_,dx,_,_,rfl,hb,T.ab,T.ag,zz7 _ _ _ _,_,rfl,h,l,_,_,rfl,hh,hl,fun D hD=>?_⟩
   refine comp_zip (f:=mulV) (rest:=[]) hh hl (by rw[List.length_map,List.length_map,V0.len]) hD (Nat.le_of_lt (zc7 (by rw[List.length_map];have:=ok.w;omega))) (fun i x y H' R hx hy s2 h=>?_) (fun H' s2 hd=>?_)
   . obtain⟨u,rfl,hu⟩:=int_at hx
     obtain⟨v,rfl,hv⟩:=int_at hy
     have:=ok.h u (List.mem_of_getElem? hu)
     exact⟨_,rfl,_,rfl,_,_,rfl,rfl,.inl ⟨by omega,by omega⟩,h⟩
   . rw[zZ4] at hd
     exact⟨D,_,rfl,SqL.of hd,tilt_fits ok V0,q H' (s1.trans s2)⟩
theorem not_past (a lim:Int):(!decide (lim<a))=decide (a<=lim):=by
 by_cases h:lim<a
 . rw[decide_eq_true h,decide_eq_false (by omega)];rfl
 . rw[decide_eq_false h,decide_eq_true (by omega)];rfl
inductive yf0 (K:W.Frag)(t:Adr)(vs:List V)(H:Hp)(Q:VK)(E:XK):Prop
 | mk (b:Addr)(n r lim:Int)(hs:List Int)(z:Int)(h0:vs=[.ref b,.int z])(h1:zf5 t H b n r hs lim)(h2:Q (.bl (decide (lim<absI z))) H):yf0 K t vs H Q E
noncomputable def zV3 (K:W.Frag)(t:Adr):Sp:=fun vs H Q E=>yf0 K t vs H Q E
theorem yf1 (T:Txt K mg t):FnOk P w K mg base CX0 1 t.be t.bA ["beam","tipped"] (zV3 K t):=by
 refine T.dA.ok sc_past (fun vs H Q E h=>?_) (fun cdv A outer s H vs Q E hr h=>?_)
 . obtain⟨b,n,r,lim,hs,z,rfl,B,q⟩:=h
   rfl
 . obtain⟨b,n,r,lim,hs,z,rfl,B,q⟩:=h
   refine⟨_,(za6 (zb8 (zj1 zA2 (zb0 zj9 rfl T.aA PyProof.Rows.boot_abs (za0 (pv 1) za3)) (zc9 (pv 0) rfl) (zc5 _)))),?_⟩
   obtain⟨_,dx,h,hb,hh⟩:=B
   exact⟨_,rfl,_,rfl,_,rfl,b,_,dx,_,_,rfl,hb,T.ab,T.aG,b_limit _ _ _ _,_,_,rfl,rfl,q⟩
theorem ok_keeps (T:Txt K mg t):FnOk P w K mg base CX0 4 t.bj t.bD ["beam","standing"] (zZ6 K t):=by
 have Gah:FnOk P w K mg base CX0 1 t.be t.bA ["beam","tipped"] (zV3 K t):=yf1 T
 have Gai:FnOk P w K mg base CX0 3 t.aK t.aY ["beam","standing"] (zE4 K t):=zJ1 T
 refine T.dt.ok sc_keeps (fun vs H Q E h=>?_) (fun cdv A outer s H vs Q E hr h=>?_)
 . obtain⟨b,a,n,r,lim,hs,xs,rfl,B,V0,hS,q⟩:=h
   rfl
 . obtain⟨b,a,n,r,lim,hs,xs,rfl,B,V0,hS,q⟩:=h
   have hah:Room 1 _:=hr.mono (by decide)
   have hai:Room 3 _:=hr.mono (by decide)
   refine⟨_,(za6 (zb8 (yg4 (za7 Gah hah rfl T.bj T.bk T.bi .nil zb4 (za0 (pv 0) (za0 (za7 Gai hai rfl T.aY T.aZ T.aX .nil zb4 (za0 (pv 0) (za0 (pv 1) za3))) za3)))))),?_⟩
   refine⟨_,rfl,_,rfl,_,rfl,b,a,n,r,lim,hs,xs,rfl,B,V0,hS,fun H1 s1=>⟨b,n,r,lim,hs,_,rfl,B.same s1,_,rfl,?_⟩⟩
   rw[not_past]
   exact q H1 s1
noncomputable def zd8 (hs xs:List Int)(i:Nat):Int:=zb5 hs xs-hs.getD i 0*xs.getD i 0
theorem zx7:∀(hs xs:List Int) (i:Nat) (p:Int),hs.length=xs.length->i<xs.length->zb5 hs (xs.set i p)=zd8 hs xs i+hs.getD i 0*p
 | [],xs,i,p,hl,hi=>by rw[<-hl] at hi;cases hi
 | _::_,[],i,p,hl,hi=>by cases hi
 | h::hs,x::xs,0,p,_,_=>by
   show h*p+zb5 hs xs=(h*x+zb5 hs xs)-h*x+h*p
   omega
 | h::hs,x::xs,i+1,p,hl,hi=>by
   have ih:=zx7 hs xs i p (by simpa using hl) (by simpa using hi)
   unfold zd8 at ih ⊢
   show h*x+zb5 hs (xs.set i p)=(h*x+zb5 hs xs)-hs.getD i 0*xs.getD i 0+hs.getD i 0*p
   omega
theorem zA7 {xs:List Int}{i:Nat}{p:Int}(hi:i<xs.length):(xs.set i p).getD i 0=p:=by
 rw[List.getD_eq_getElem?_getD,List.getElem?_set_self hi];rfl
theorem zZ7 {hs xs:List Int}{i:Nat}{p:Int}(hl:hs.length=xs.length)(hi:i<xs.length):zd8 hs (xs.set i p) i=zd8 hs xs i:=by
 have:=zx7 hs xs i p hl hi
 unfold zd8 at this ⊢
 rw[this,zA7 hi]
 omega
theorem set_back {xs:List Int}{i:Nat}(p:Int)(hi:i<xs.length):(xs.set i p).set i (xs.getD i 0)=xs:=by
 rw[List.set_set,List.getD_eq_getElem?_getD,List.getElem?_eq_getElem hi]
 exact List.set_getElem_self hi
theorem zB6 {xs:List Int}{i:Nat}{p y:Int}(hi:i<xs.length):((xs.set i p).count y:Int)=(xs.count y:Int)-(if xs.getD i 0=y then 1 else 0)+(if p=y then 1 else 0):=by
 have e:xs.getD i 0=xs[i]:=by rw[List.getD_eq_getElem?_getD,List.getElem?_eq_getElem hi];rfl
 rw[e,List.count_set hi]
 have:xs[i]=y->1<=xs.count y:=fun h=>List.count_pos_iff.mpr (h▸List.getElem_mem hi)
 by_cases h1:xs[i]=y<;>by_cases h2:p=y<;>simp[h1,h2]<;>have:=this h1<;>omega
structure Lets (n r:Int)(hs:List Int)(lim:Int)(xs:List Int)(i:Nat)(p:Int):Prop where
 lt:i<xs.length
 on:-n<=p/\p<=n
 ne:p≠xs.getD i 0
 room:p≠0->(xs.count p:Int)<r
 held:absI (zd8 hs xs i)<=lim
 behind:absI (zd8 hs xs i+hs.getD i 0*p)<=lim
noncomputable instance (n r:Int) (hs:List Int) (lim:Int) (xs:List Int) (i:Nat) (p:Int):Decidable (Lets n r hs lim xs i p) :=
 decidable_of_iff (i<xs.length/\(-n<=p/\p<=n)/\p≠xs.getD i 0/\(p≠0->(xs.count p:Int)<r)/\absI (zd8 hs xs i)<=lim/\absI (zd8 hs xs i+hs.getD i 0*p)<=lim)
   ⟨fun⟨a,b,c,d,e,f⟩=>⟨a,b,c,d,e,f⟩,fun⟨a,b,c,d,e,f⟩=>⟨a,b,c,d,e,f⟩⟩
theorem zt9 {xs:List Int}{i:Nat}(hi:i<xs.length):xs.getD i 0∈xs:=by
 rw[List.getD_eq_getElem?_getD,List.getElem?_eq_getElem hi];exact List.getElem_mem hi
theorem Lets.valid {n r lim:Int}{w:Nat}{hs xs:List Int}{i:Nat}{p:Int}(L:Lets n r hs lim xs i p)(V0:zc8 n r w xs):zc8 n r w (xs.set i p):=by
 refine⟨by rw[List.length_set];exact V0.len,fun y hy=>?_,fun y hy h0=>?_⟩
 . rcases List.mem_or_eq_of_mem_set hy with h | rfl
   . exact V0.on y h
   . exact L.on
 . rw[zB6 L.lt]
   by_cases e:p=y
   . subst e
     have:=L.room h0
     rw[if_pos rfl,if_neg (fun z=>L.ne z.symm)]
     omega
   . have hm:y∈xs:=(List.mem_or_eq_of_mem_set hy).resolve_right (fun z=>e z.symm)
     have:=V0.room y hm h0
     rw[if_neg e]
     split<;>omega
theorem Lets.turned {n r lim:Int}{hs xs:List Int}{i:Nat}{p:Int}(L:Lets n r hs lim xs i p)(V0:zc8 n r hs.length xs)(h0:absI (zb5 hs xs)<=lim):Lets n r hs lim (xs.set i p) i (xs.getD i 0):=by
 have hl:=V0.len.symm
 refine⟨by rw[List.length_set];exact L.lt,V0.on _ (zt9 L.lt),by rw[zA7 L.lt];exact L.ne.symm,fun hz=>?_,by rw[zZ7 hl L.lt];exact L.held,?_⟩
 . rw[zB6 L.lt,if_pos rfl,if_neg L.ne]
   have:=V0.room _ (zt9 L.lt) hz
   omega
 . rw[zZ7 hl L.lt]
   have e:zd8 hs xs i+hs.getD i 0*xs.getD i 0=zb5 hs xs:=by unfold zd8;omega
   rw[e]
   exact h0
theorem sum_zip:∀(hs xs:List Int),hs.length=xs.length->((List.range hs.length).map fun i=>hs.getD i 0*xs.getD i 0).sum=(List.zipWith (fun h x=>h*x) hs xs).sum:=by
 intro hs xs hl
 congr 1
 apply List.ext_getElem
 . simp;omega
 . intro i h1 h2
   have hi:i<hs.length:=by simpa using h1
   have hi2:i<xs.length:=by omega
   simp[hi,hi2]
noncomputable def zZ8 (hs xs:List Int):Nat->Int
 | 0=>0
 | j+1=>zZ8 hs xs j+hs.getD j 0*xs.getD j 0
theorem zZ9 (hs xs:List Int):∀w,zZ8 hs xs w=((List.range w).map fun i=>hs.getD i 0*xs.getD i 0).sum
 | 0=>rfl
 | w+1=>by
   unfold zZ8
   rw[zZ9 hs xs w,List.range_succ,List.map_append,List.sum_append]
   simp
theorem sumTo_tilt {hs xs:List Int}(hl:hs.length=xs.length):zZ8 hs xs hs.length=zb5 hs xs:=by
 rw[zZ9,sum_zip hs xs hl];rfl
theorem zQ3:∀ {zs:List Int} {B:Int},(∀z∈zs,-B<=z/\z<=B)->-(B*zs.length)<=zs.sum/\zs.sum<=B*zs.length
 | [],B,_=>by simp
 | z::zs,B,h=>by
   have h1:=h z List.mem_cons_self
   have h2:=zQ3 (zs:=zs) (B:=B) fun y hy=>h y (List.mem_cons_of_mem _ hy)
   rw[List.sum_cons,List.length_cons,Int.natCast_add,Int.mul_add]
   omega
theorem zz9 {n r lim:Int}{hs xs:List Int}(ok:zg6 n r hs lim)(V0:zc8 n r hs.length xs):absI (zb5 hs xs)<=240/\0<=absI (zb5 hs xs):=by
 have h1:=zQ3 (zG7 (B:=n) ok.h V0.on (by have:=ok.n1;omega))
 rw[List.length_zipWith,V0.len,Nat.min_self] at h1
 have hw:=ok.w
 have hm:=ok.most
 have n1:=ok.n1
 have n2:=ok.n2
 have key:20*n*(hs.length:Int)<=240:=by
   have:n=1\/n=2\/n=3\/n=4:=by omega
   have h5:hs.length=0\/hs.length=1\/hs.length=2\/hs.length=3\/hs.length=4\/hs.length=5:=by omega
   rcases this with rfl | rfl | rfl | rfl<;>rcases h5 with e | e | e | e | e | e<;>rw[e] at hm ⊢<;>first | decide | (exfalso;revert hm;decide)
 unfold zb5
 unfold absI
 split<;>omega
inductive zL9 (K:W.Frag)(t:Adr)(vs:List V)(H:Hp)(Q:VK)(E:XK):Prop
 | mk (b a:Addr)(n r lim k:Int)(i:Nat)(hs xs:List Int)(h0:vs=[.ref b,.ref a,.int k])(h1:zf5 t H b n r hs lim)(h2:zc8 n r hs.length xs)(h3:(SqL K H a (xs.map V.int)\/H a=some (.tup (xs.map V.int))))(h4:(k=(i:Int)+1/\i<xs.length))(h5:∀H',Same H H'->Q (.int (zd8 hs xs i)) H'):zL9 K t vs H Q E
noncomputable def zB7 (K:W.Frag)(t:Adr):Sp:=fun vs H Q E=>zL9 K t vs H Q E
theorem zM0 (T:Txt K mg t):FnOk P w K mg base CX0 4 t.aE t.aT ["beam","standing","weight"] (zB7 K t):=by
 have Gaf:FnOk P w K mg base CX0 2 t.aa t.ab ["beam","standing"] (zg7 K t):=zi7 T
 have Gaa:FnOk P w K mg base CX0 1 t.ah t.au ["number","low","high"] (zq0 K t):=zv2 T
 have Gai:FnOk P w K mg base CX0 3 t.aK t.aY ["beam","standing"] (zE4 K t):=zJ1 T
 refine T.cz.ok zL6 (fun vs H Q E h=>?_) (fun cdv A outer s H vs Q E hr h=>?_)
 . obtain⟨b,a,n,r,lim,k,i,hs,xs,rfl,B,V0,hS,⟨rfl,hi⟩,q⟩:=h
   rfl
 . obtain⟨b,a,n,r,lim,k,i,hs,xs,rfl,B,V0,hS,⟨rfl,hi⟩,q⟩:=h
   have haf:Room 2 _:=hr.mono (by decide)
   have haa:Room 1 _:=hr.mono (by decide)
   have hai:Room 3 _:=hr.mono (by decide)
   refine⟨_,(za4 (zb3 (i:=3) zL6.nd rfl (Or.inl rfl) (za7 Gaf haf rfl T.ak T.al T.aj .nil zb4 (za0 (pv 0) (za0 (pv 1) za3))))
     (za4 (zd1 (zd4 (za7 Gaa haa rfl T.av T.aw T.au .nil zb4 (za0 (pv 2) (za0 za2 (za0 (zb0 zb7 rfl T.ad PySem.boot_len (za0 (pv 3) za3)) za3))))) (za6 zh6) zb9)
     (za6 (zb8 (zb6 zi4 (za7 Gai hai rfl T.aY T.aZ T.aX .nil zb4 (za0 (pv 0) (za0 (pv 3) za3))) (zb6 zn5 (zd3 zp8 (zc9 (pv 0) rfl) (zb6 zi4 (pv 2) za2) (fun _ _=>rfl)) (zd3 zp8 (pv 3) (zb6 zi4 (pv 2) za2) (fun _ _=>rfl)))))))),?_⟩
   refine cut3 ?_
   intro rr3 rr2
   refine⟨_,rfl,_,rfl,b,a,n,r,lim,hs,xs,rfl,B,V0,hS,fun l H1 s1 hl=>?_⟩
   refine⟨_,rfl,_,rfl,l,_,rfl,.inr (SqT.of hl),_,1,_,rfl,_,rfl,?_⟩
   rw[List.length_map]
   refine iteB (zw5 (by omega) (by omega)) ?_
   refine⟨_,rfl,_,rfl,b,l,n,r,lim,hs,xs,rfl,B.same s1,V0,.inr hl,fun H2 s2=>?_⟩
   obtain⟨_,dx,h,hb,hh⟩:=B.same (s1.trans s2)
   have hlen:=V0.len
   have e1:((i:Int)+1-1).toNat=i:=by omega
   have a1:atI (hs.map V.int) ((i:Int)+1-1)=some (.int (hs.getD i 0)):=by have:=zg4 (xs:=hs) (i:=(i:Int)+1-1) (by omega) (by omega);rw[e1] at this;exact this
   have a2:atI (xs.map V.int) ((i:Int)+1-1)=some (.int (xs.getD i 0)):=by have:=zg4 (xs:=xs) (i:=(i:Int)+1-1) (by omega) (by omega);rw[e1] at this;exact this
   have hm:=B.1.h (hs.getD i 0) (zt9 (by omega))
   refine⟨_,rfl,b,_,dx,_,_,rfl,hb,T.ab,T.ag,zz7 _ _ _ _,_,rfl,_,_,rfl,rfl,h,_,_,_,rfl,rfl,SqT.of hh,a1,?_⟩
   exact⟨_,rfl,_,rfl,_,_,rfl,rfl,l,_,_,_,rfl,rfl,SqT.of (s2 _ _ hl),a2,_,_,rfl,rfl,.inl ⟨by omega,by omega⟩,_,_,rfl,rfl,q _ (s1.trans s2)⟩
noncomputable def yf2 (r:Int)(xs:List Int)(p:Int):Bool:=decide (p≠0/\r<=(xs.count p:Int))
inductive yf3 (K:W.Frag)(t:Adr)(vs:List V)(H:Hp)(Q:VK)(E:XK):Prop
 | mk (b a:Addr)(n r lim p:Int)(hs xs:List Int)(h0:vs=[.ref b,.ref a,.int p])(h1:zf5 t H b n r hs lim)(h2:H a=some (.tup (xs.map V.int)))(h3:Q (.bl (yf2 r xs p)) H):yf3 K t vs H Q E
noncomputable def yf4 (K:W.Frag)(t:Adr):Sp:=fun vs H Q E=>yf3 K t vs H Q E
theorem ok_full (T:Txt K mg t):FnOk P w K mg base CX0 1 t.bB t.bI ["beam","places","place"] (yf4 K t):=by
 refine T.dB.ok sc_full (fun vs H Q E h=>?_) (fun cdv A outer s H vs Q E hr h=>?_)
 . obtain⟨b,a,n,r,lim,p,hs,xs,rfl,B,hT,q⟩:=h
   rfl
 . obtain⟨b,a,n,r,lim,p,hs,xs,rfl,B,hT,q⟩:=h
   refine⟨_,(za6 (zb8 (zT1 (zj1 zn8 (pv 2) za2 (zc5 _)) (zJ6 (zj1 yh1 (yi2 PySem.F.slot_tuple_count PySem.F.type_tuple_count zF5 (pv 1) (za0 (pv 2) za3)) (zc9 (pv 0) rfl) (zc5 _)))))),?_⟩
   obtain⟨_,dx,h,hb,hh⟩:=B
   unfold yf2 at q
   refine⟨_,rfl,rfl,_,rfl,?_⟩
   rw[zf7]
   refine ite2 (fun h1=>?_) (fun h1=>?_)
   . have h1':p≠0:=by simpa using h1
     refine⟨_,rfl,⟨_,_,rfl,hT⟩,_,rfl,_,xs,p,rfl,rfl,SqT.of hT,_,rfl,b,_,dx,_,_,rfl,hb,T.ab,T.ar,zV2 _ _ _ _,_,_,rfl,rfl,?_⟩
     have e:decide (p≠0/\r<=(xs.count p:Int))=decide (r<=(xs.count p:Int)):=by simp[h1']
     rw[e] at q
     exact q
   . have h1':p=0:=by simpa using h1
     have e:decide (p≠0/\r<=(xs.count p:Int))=false:=by simp[h1']
     rw[e] at q
     exact q
theorem yf5 (xs:List Int)(i:Nat)(p:Int)(hi:i<xs.length):cutV (xs.map V.int) none (some (i:Int))++[V.int p]++cutV (xs.map V.int) (some ((i:Int)+1)) none=(xs.set i p).map V.int:=by
 unfold cutV
 rw[HT.sIx_none,HT.sIx_nat,HT.sIx_none,show((i:Int)+1)=((i+1:Nat):Int) by omega,HT.sIx_nat,List.length_map,Nat.min_eq_left (by omega),Nat.min_eq_left (by omega),List.drop_zero,Nat.sub_zero,
   List.set_eq_take_append_cons_drop,if_pos hi,List.map_append,List.map_cons,List.append_assoc,List.map_take,List.map_drop]
 congr 1
 show V.int p::_=_
 congr 1
 exact List.take_of_length_le (by simp)
noncomputable def Mv (K:W.Frag)(H:Hp)(m:Addr)(k s p:Int):Prop:=SqL K H m [.int k,.int s,.int p]\/SqT K H m [.int k,.int s,.int p]
theorem Mv.ix {K:W.Frag}{H:Hp}{m:Addr}{k s p:Int}(h:Mv K H m k s p):(∀Q:VK,Q (.int k) H->rIx K (.ref m) (.int 0) H Q)/\(∀Q:VK,Q (.int s) H->rIx K (.ref m) (.int 1) H Q)/\(∀Q:VK,Q (.int p) H->rIx K (.ref m) (.int 2) H Q):=by
 rcases h with h | h
 . exact⟨fun Q q=>.inl ⟨m,_,_,_,rfl,rfl,h,rfl,q⟩,fun Q q=>.inl ⟨m,_,_,_,rfl,rfl,h,rfl,q⟩,fun Q q=>.inl ⟨m,_,_,_,rfl,rfl,h,rfl,q⟩⟩
 . exact⟨fun Q q=>.inr (.inl ⟨m,_,_,_,rfl,rfl,h,rfl,q⟩),fun Q q=>.inr (.inl ⟨m,_,_,_,rfl,rfl,h,rfl,q⟩),fun Q q=>.inr (.inl ⟨m,_,_,_,rfl,rfl,h,rfl,q⟩)⟩
theorem Same.seqT {K:W.Frag}{H H':Hp}{a:Addr}{xs:List V}(e:Same H H')(h:SqT K H a xs):SqT K H' a xs:=by
 rcases h with(h | ⟨o,h⟩) | h
 . exact .inl (.inl (e _ _ h))
 . exact .inl (.inr ⟨o,e _ _ h⟩)
 . exact .inr h
theorem Mv.same {K:W.Frag}{H H':Hp}{m:Addr}{k s p:Int}(h:Mv K H m k s p)(e:Same H H'):Mv K H' m k s p:=h.imp e.seq (fun z=>Same.seqT e z)
inductive zQ4 (K:W.Frag)(t:Adr)(vs:List V)(H:Hp)(Q:VK)(E:XK):Prop
 | mk (a m:Addr)(k s p:Int)(i:Nat)(xs:List Int)(h0:vs=[.ref a,.ref m])(h1:H a=some (.tup (xs.map V.int)))(h2:Mv K H m k s p)(h3:(k=(i:Int)+1/\i<xs.length/\xs.length<=900))(h4:∀l H',Same H H'->H' l=some (.tup ((xs.set i p).map V.int))->Q (.ref l) H'):zQ4 K t vs H Q E
noncomputable def zu0 (K:W.Frag)(t:Adr):Sp:=fun vs H Q E=>zQ4 K t vs H Q E
theorem zA0 (T:Txt K mg t):FnOk P w K mg base CX0 1 t.aq t.aB ["places","move"] (zu0 K t):=by
 refine T.cR.ok sc_behind (fun vs H Q E h=>?_) (fun cdv A outer s H vs Q E hr h=>?_)
 . obtain⟨a,m,k,s,p,i,xs,rfl,hT,hM,⟨rfl,hi,hx⟩,q⟩:=h
   rfl
 . obtain⟨a,m,k,s,p,i,xs,rfl,hT,hM,⟨rfl,hi,hx⟩,q⟩:=h
   refine⟨_,(za6 (zb8 (zb6 zI4 (zb6 zI4 (zw2 zT5 (pv 0) zC1 (zC2 (zb6 zi4 (zd3 zr4 (pv 1) za2 (fun _ _=>rfl)) za2))) (zF3 (za0 (zd3 zr4 (pv 1) za2 (fun _ _=>rfl)) za3))) (zw2 zT5 (pv 0) (zC2 (zd3 zr4 (pv 1) za2 (fun _ _=>rfl))) zC1)))),?_⟩
   refine⟨_,rfl,_,rfl,hM.ix.1 _ ⟨_,_,rfl,rfl,_,rfl,a,_,rfl,SqT.of hT,?_,fun l1 f1=>?_⟩⟩
   . have e:(i:Int)+1-1=(i:Int):=by omega
     rw[e,HT.sIx_none,HT.sIx_nat,List.length_map,Nat.min_eq_left (by omega)]
     omega
   have s1:Same H (upd H l1 (.tup (cutV (xs.map V.int) none (some ((i:Int)+1-1))))):=Same.upd f1
   have h1:(upd H l1 (.tup (cutV (xs.map V.int) none (some ((i:Int)+1-1))))) l1=some (.tup (cutV (xs.map V.int) none (some ((i:Int)+1-1)))):=za1
   revert s1 h1
   generalize upd H l1 (.tup (cutV (xs.map V.int) none (some ((i:Int)+1-1))))=H1
   intro s1 h1
   refine⟨_,rfl,(hM.same s1).ix.2.2 _ ⟨(by show 1<=sizeLine;decide),fun l2 f2=>?_⟩⟩
   have s2:Same H1 (upd H1 l2 (.tup [.int p])):=Same.upd f2
   have h2:(upd H1 l2 (.tup [.int p])) l2=some (.tup [.int p]):=za1
   revert s2 h2
   generalize upd H1 l2 (.tup [.int p])=H2
   intro s2 h2
   have len1:=zn2 (xs.map V.int) none (some ((i:Int)+1-1))
   rw[List.length_map] at len1
   refine⟨l1,l2,_,_,rfl,rfl,s2 _ _ h1,h2,Nat.le_of_lt (zc7 (by show _+1<=_;omega)),fun l3 H3 s3 h3=>?_⟩
   have s03:=s1.trans (s2.trans s3)
   refine⟨_,rfl,_,rfl,(hM.same s03).ix.1 _ ⟨_,rfl,a,_,rfl,SqT.of (s03 _ _ hT),?_,fun l4 f4=>?_⟩⟩
   . rw[show((i:Int)+1)=((i+1:Nat):Int) by omega,HT.sIx_nat,List.length_map]
     omega
   have s4:Same H3 (upd H3 l4 (.tup (cutV (xs.map V.int) (some ((i:Int)+1)) none))):=Same.upd f4
   have h4:(upd H3 l4 (.tup (cutV (xs.map V.int) (some ((i:Int)+1)) none))) l4=some (.tup (cutV (xs.map V.int) (some ((i:Int)+1)) none)):=za1
   revert s4 h4
   generalize upd H3 l4 (.tup (cutV (xs.map V.int) (some ((i:Int)+1)) none))=H4
   intro s4 h4
   have e5:=yf5 xs i p hi
   rw[show(i:Int)=(i:Int)+1-1 by omega,show(i:Int)+1-1+1=(i:Int)+1 by omega] at e5
   refine⟨l3,l4,_,_,rfl,rfl,s4 _ _ h3,h4,?_,fun l5 H5 s5 h5=>q l5 H5 (s03.trans (s4.trans s5)) ?_⟩
   . rw[<-List.length_append,e5,List.length_map,List.length_set]
     exact Nat.le_of_lt (zc7 (by omega))
   . rw[h5,e5]
noncomputable def zQ5 (K:W.Frag)(t:Adr):Sp:=fun vs H Q _=>∃(m:Addr) (k s p:Int),vs=[.ref m]/\Mv K H m k s p/\∀l,H l=none->Q (.ref l) (upd H l (.tup [.int k,.int p,.int s]))
theorem ok_turned (T:Txt K mg t):FnOk P w K mg base CX0 1 t.a0 t.bp ["move"] (zQ5 K t):=by
 refine T.cN.ok sc_turned (fun vs H Q E h=>?_) (fun cdv A outer s H vs Q E hr h=>?_)
 . obtain⟨m,k,s,p,rfl,hM,q⟩:=h
   rfl
 . obtain⟨m,k,s,p,rfl,hM,q⟩:=h
   refine⟨_,(za6 (zb8 (zF3 (za0 (zd3 zr4 (pv 0) za2 (fun _ _=>rfl)) (za0 (zd3 zr4 (pv 0) za2 (fun _ _=>rfl)) (za0 (zd3 zr4 (pv 0) za2 (fun _ _=>rfl)) za3)))))),?_⟩
   refine⟨_,rfl,hM.ix.1 _ ⟨_,rfl,hM.ix.2.2 _ ⟨_,rfl,hM.ix.2.1 _ ⟨(by show 3<=sizeLine;decide),fun l fl=>?_⟩⟩⟩⟩
   exact q l fl
noncomputable def grid (n:Int)(j:Nat):List Int:=(List.range j).map fun(k:Nat)=>-n+(k:Int)
noncomputable def zk3 (n r:Int)(hs:List Int)(lim:Int)(xs:List Int)(i j:Nat):List Int:=(grid n j).filter fun p=>decide (Lets n r hs lim xs i p)
theorem zM1 (n r:Int)(hs:List Int)(lim:Int)(xs:List Int)(i j:Nat):zk3 n r hs lim xs i (j+1)=zk3 n r hs lim xs i j++(if Lets n r hs lim xs i (-n+(j:Int)) then [-n+(j:Int)] else []):=by
 unfold zk3 grid
 rw[List.range_succ,List.map_append,List.filter_append]
 congr 1
 by_cases h:Lets n r hs lim xs i (-n+(j:Int))
 . rw[if_pos h];simp[h]
 . rw[if_neg h];simp[h]
theorem zG8 (n r:Int)(hs:List Int)(lim:Int)(xs:List Int)(i j:Nat):(zk3 n r hs lim xs i j).length<=j:=by
 unfold zk3 grid
 refine Nat.le_trans (List.length_filter_le _ _) ?_
 simp
theorem putsL_nil {n r:Int}{hs:List Int}{lim:Int}{xs:List Int}{i:Nat}(j:Nat)(h:¬ absI (zd8 hs xs i)<=lim):zk3 n r hs lim xs i j=[]:=by
 unfold zk3
 rw[List.filter_eq_nil_iff]
 intro p _
 have:¬ Lets n r hs lim xs i p:=fun L=>h L.held
 simp[this]
noncomputable def wide (n:Int):Nat:=(n+1 - -n).toNat
noncomputable def zk9 (n r:Int)(hs:List Int)(lim:Int)(xs:List Int)(i:Nat):List (Nat×Int):=(List.range i).flatMap fun k=>(zk3 n r hs lim xs k (wide n)).map fun p=>(k,p)
theorem zM2 (n r:Int)(hs:List Int)(lim:Int)(xs:List Int)(i:Nat):zk9 n r hs lim xs (i+1)=zk9 n r hs lim xs i++(zk3 n r hs lim xs i (wide n)).map fun p=>(i,p):=by
 unfold zk9
 rw[List.range_succ,List.flatMap_append]
 simp
theorem zG9 (n r:Int)(hs:List Int)(lim:Int)(xs:List Int):∀i,(zk9 n r hs lim xs i).length<=i*wide n
 | 0=>by simp[zk9]
 | i+1=>by
   rw[zM2,List.length_append,List.length_map,Nat.succ_mul]
   have:=zG9 n r hs lim xs i
   have:=zG8 n r hs lim xs i (wide n)
   omega
noncomputable def zq3 (H:Hp)(xs:List Int)(a:Addr)(m:Nat×Int):Prop:=H a=some (.tup [.int ((m.1:Int)+1),.int (xs.getD m.1 0),.int m.2])
noncomputable def Rows (H:Hp)(xs:List Int)(rs:List Addr)(ms:List (Nat×Int)):Prop:=rs.length=ms.length/\∀(k:Nat) (a:Addr) (m:Nat×Int),rs[k]?=some a->ms[k]?=some m->zq3 H xs a m
theorem Rows.nil (H:Hp)(xs:List Int):Rows H xs [] []:=⟨rfl,fun k a m h=>by simp at h⟩
theorem Rows.same {H H':Hp}{xs:List Int}{rs:List Addr}{ms:List (Nat×Int)}(h:Rows H xs rs ms)(s:Same H H'):Rows H' xs rs ms:=⟨h.1,fun k a m e1 e2=>s _ _ (h.2 k a m e1 e2)⟩
theorem Rows.app {H:Hp}{xs:List Int}{rs rs':List Addr}{ms ms':List (Nat×Int)}(h:Rows H xs rs ms)(h':Rows H xs rs' ms'):Rows H xs (rs++rs') (ms++ms'):=by
 refine⟨by rw[List.length_append,List.length_append,h.1,h'.1],fun k a m e1 e2=>?_⟩
 by_cases hk:k<rs.length
 . rw[List.getElem?_append_left hk] at e1
   rw[List.getElem?_append_left (by rw[<-h.1];exact hk)] at e2
   exact h.2 k a m e1 e2
 . rw[List.getElem?_append_right (by omega)] at e1
   rw[List.getElem?_append_right (by rw[<-h.1];omega),<-h.1] at e2
   exact h'.2 _ a m e1 e2
theorem Rows.one {H:Hp}{xs:List Int}{a:Addr}{m:Nat×Int}(h:zq3 H xs a m):Rows H xs [a] [m]:=⟨rfl,fun k a' m' e1 e2=>by
 match k,e1,e2 with
 | 0,e1,e2=>cases e1;cases e2;exact h
 | k+1,e1,_=>simp at e1⟩
theorem Rows.put {H:Hp}{xs:List Int}{rs:List Addr}{ms:List (Nat×Int)}{l:Addr}{o:HO}{vs:List V}(h:Rows H xs rs ms)(hl:H l=some (.lst vs)):Rows (upd H l o) xs rs ms :=
 ⟨h.1,fun k a m e1 e2=>by
   have:=h.2 k a m e1 e2
   unfold zq3 at this ⊢
   rw[za9 (fun z=>by rw[z,hl] at this;cases this)]
   exact this⟩
inductive yf6 (K:W.Frag)(t:Adr)(vs:List V)(H:Hp)(Q:VK)(E:XK):Prop
 | mk (b a:Addr)(n r lim k:Int)(i:Nat)(hs xs:List Int)(h0:vs=[.ref b,.ref a,.int k])(h1:zf5 t H b n r hs lim)(h2:zc8 n r hs.length xs)(h3:H a=some (.tup (xs.map V.int)))(h4:(k=(i:Int)+1/\i<xs.length))(h5:∀l H',Same H H'->H' l=some (.lst ((zk3 n r hs lim xs i (wide n)).map V.int))->Q (.ref l) H'):yf6 K t vs H Q E
noncomputable def yf7 (K:W.Frag)(t:Adr):Sp:=fun vs H Q E=>yf6 K t vs H Q E
theorem ok_puts (T:Txt K mg t):FnOk P w K mg base CX0 5 t.bC t.bJ ["beam","places","weight"] (yf7 K t):=by
 have Gaj:FnOk P w K mg base CX0 4 t.aE t.aT ["beam","standing","weight"] (zB7 K t):=zM0 T
 have Gah:FnOk P w K mg base CX0 1 t.be t.bA ["beam","tipped"] (zV3 K t):=yf1 T
 have Gam:FnOk P w K mg base CX0 1 t.bB t.bI ["beam","places","place"] (yf4 K t):=ok_full T
 refine T.dF.ok zJ0 (fun vs H Q E h=>?_) (fun cdv A outer s H vs Q E hr h=>?_)
 . obtain⟨b,a,n,r,lim,k,i,hs,xs,rfl,B,V0,hT,⟨rfl,hi⟩,q⟩:=h
   rfl
 . obtain⟨b,a,n,r,lim,k,i,hs,xs,rfl,B,V0,hT,⟨rfl,hi⟩,q⟩:=h
   have haj:Room 4 _:=hr.mono (by decide)
   have hah:Room 1 _:=hr.mono (by decide)
   have ham:Room 1 _:=hr.mono (by decide)
   refine⟨_,(za4 (zb3 (i:=3) zJ0.nd rfl (Or.inr rfl) (za7 Gaj haj rfl T.bm T.bn T.bl .nil zb4 (za0 (pv 0) (za0 (pv 1) (za0 (pv 2) za3)))))
     (za4 (zd1 (zd4 (za7 Gah hah rfl T.bj T.bk T.bi .nil zb4 (za0 (pv 0) (za0 (pv 3) za3)))) (za6 (zb8 (ze6 za3))) zb9)
     (za4 (zb3 (i:=4) zJ0.nd rfl (Or.inr rfl) (zd3 zp8 (pv 1) (zb6 zi4 (pv 2) za2) (fun _ _=>rfl)))
     (za4 (zb3 (i:=5) zJ0.nd rfl (Or.inr rfl) (zd3 zp8 (zc9 (pv 0) rfl) (zb6 zi4 (pv 2) za2) (fun _ _=>rfl)))
     (za6 (zb8 (zm9 rfl zP8 (zN5 rfl T.ao (za0 (zl7 zi1 (zc9 (pv 0) rfl)) (za0 (zb6 zf6 (zc9 (pv 0) rfl) za2) za3))) (fun _ _ _ _ _=>(zc4 (i:=0) zP8.nd rfl (Or.inl rfl))) (fun _ _ _ _ _=>(zW7 (PW.pt (zB3 (zc6 zn8 (pv 0) (pv 1) (zc5 _)) (zB3 (ze5 (zd4 (za7 Gam ham rfl T.dD T.dE T.dC .nil zb4 (za0 (pv 2) (za0 (pv 3) (za0 (pv 0) za3)))))) (zy3 (ze5 (zd4 (za7 Gah hah rfl T.bj T.bk T.bi .nil zb4 (za0 (pv 2) (za0 (zb6 zf6 (pv 4) (zb6 zn5 (pv 5) (pv 0))) za3))))))))))) (fun _ _ _ _ _=>(pv 0))))))))),?_⟩
   refine cut5 ?_
   intro rr5 rr4 rr3 rr2
   refine⟨_,rfl,_,rfl,_,rfl,b,a,n,r,lim,_,i,hs,xs,rfl,B,V0,.inr hT,⟨rfl,hi⟩,fun H1 s1=>?_⟩
   have hT1:=s1 _ _ hT
   have B1:=B.same s1
   refine⟨_,rfl,_,rfl,b,n,r,lim,hs,_,rfl,B1,_,rfl,?_⟩
   refine ite2 (fun h1=>?_) (fun h1=>?_)
   . have h1':¬ absI (zd8 hs xs i)<=lim:=fun z=>by have:=of_decide_eq_true h1;omega
     refine⟨Nat.zero_le _,fun l fl=>q l _ (s1.updT fl) ?_⟩
     rw[putsL_nil _ h1']
     exact za1
   have h1':absI (zd8 hs xs i)<=lim:=Int.not_lt.mp fun z=>h1 (decide_eq_true z)
   obtain⟨ok,dx,h,hb,hh⟩:=B1
   have hlen:=V0.len
   have e1:((i:Int)+1-1).toNat=i:=by omega
   have a1:atI (hs.map V.int) ((i:Int)+1-1)=some (.int (hs.getD i 0)):=by have:=zg4 (xs:=hs) (i:=(i:Int)+1-1) (by omega) (by omega);rw[e1] at this;exact this
   have a2:atI (xs.map V.int) ((i:Int)+1-1)=some (.int (xs.getD i 0)):=by have:=zg4 (xs:=xs) (i:=(i:Int)+1-1) (by omega) (by omega);rw[e1] at this;exact this
   have hm:=ok.h (hs.getD i 0) (zt9 (by omega))
   have n1:=ok.n1
   have n2:=ok.n2
   refine⟨_,rfl,_,rfl,_,_,rfl,rfl,a,_,_,_,rfl,rfl,SqT.of hT1,a2,?_⟩
   refine⟨_,rfl,b,_,dx,_,_,rfl,hb,T.ab,T.ag,zz7 _ _ _ _,_,rfl,_,_,rfl,rfl,h,_,_,_,rfl,rfl,SqT.of hh,a1,?_⟩
   refine⟨_,rfl,b,_,dx,_,_,rfl,hb,T.ab,T.ae,zm8 _ _ _ _,_,rfl,_,rfl,b,_,dx,_,_,rfl,hb,T.ab,T.ae,zm8 _ _ _ _,_,_,rfl,rfl,-n,n+1,rfl,⟨by omega,by omega,by omega,by omega⟩,fun D hD=>?_⟩
   refine comp_rangeI (fun j H'=>H'=upd H1 D (.lst ((zk3 n r hs lim xs i j).map V.int))) rfl ?_ ?_
   . rintro j H' N hj rfl hN
     have hT':(upd H1 D (.lst ((zk3 n r hs lim xs i j).map V.int))) a=some (.tup (xs.map V.int)):=Same.upd hD _ _ hT1
     have B':zf5 t (upd H1 D (.lst ((zk3 n r hs lim xs i j).map V.int))) b n r hs lim:=zf5.same ⟨ok,dx,h,hb,hh⟩ (Same.upd hD)
     have hD':(upd H1 D (.lst ((zk3 n r hs lim xs i j).map V.int))) D=some (.lst ((zk3 n r hs lim xs i j).map V.int)):=za1
     have no:¬ Lets n r hs lim xs i (-n+(j:Int))->(upd H1 D (.lst ((zk3 n r hs lim xs i j).map V.int)))=upd H1 D (.lst ((zk3 n r hs lim xs i (j+1)).map V.int)):=fun z=>by rw[zM1,if_neg z,List.append_nil]
     refine⟨_,rfl,_,rfl,rfl,_,rfl,?_⟩
     rw[zf7]
     refine ite2 (fun h2=>?_) (fun h2=>?_)
     . have h2':-n+(j:Int)≠xs.getD i 0:=by simpa using h2
       refine⟨_,rfl,_,rfl,_,rfl,b,a,n,r,lim,-n+(j:Int),hs,xs,rfl,B',hT',_,rfl,?_⟩
       refine ite2 (fun h3=>?_) (fun h3=>?_)
       . have h3':¬ (-n+(j:Int)≠0/\r<=(xs.count (-n+(j:Int)):Int)):=fun z=>by unfold yf2 at h3;rw[decide_eq_true z] at h3;exact Bool.noConfusion h3
         have hroom:-n+(j:Int)≠0->(xs.count (-n+(j:Int)):Int)<r:=fun z=>Int.not_le.mp fun y=>h3' ⟨z,y⟩
         refine⟨_,rfl,_,rfl,_,rfl,_,rfl,_,_,rfl,rfl,.inl ⟨by omega,by omega⟩,_,_,rfl,rfl,b,n,r,lim,hs,_,rfl,B',_,rfl,?_⟩
         refine ite2 (fun h4=>?_) (fun h4=>?_)
         . have h4':absI (zd8 hs xs i+hs.getD i 0*(-n+(j:Int)))<=lim:=Int.not_lt.mp fun z=>by rw[decide_eq_true z] at h4;exact Bool.noConfusion h4
           have L:Lets n r hs lim xs i (-n+(j:Int)):=⟨hi,by unfold wide at *;omega,h2',hroom,h1',h4'⟩
           refine⟨_,rfl,_,hD',zc7 (by rw[List.length_map];have:=zG8 n r hs lim xs i j;omega),hN _ ?_⟩
           rw[zk5,zM1,if_pos L,List.map_append]
           rfl
         . exact hN _ (no fun L=>h4 (by have:=L.behind;rw[decide_eq_false (by omega)];rfl))
       . refine iteF ?_
         exact hN _ (no fun L=>h3 (by unfold yf2;rw[decide_eq_false (fun z=>by have:=L.room z.1;omega)];rfl))
     . have h2':-n+(j:Int)=xs.getD i 0:=by simpa using h2
       refine iteF ?_
       exact hN _ (no fun L=>L.ne h2')
   . rintro H' rfl
     exact q D _ (s1.updT hD) za1
inductive ya0 (K:W.Frag)(t:Adr)(vs:List V)(H:Hp)(Q:VK)(E:XK):Prop
 | mk (b a:Addr)(n r lim:Int)(hs xs:List Int)(h0:vs=[.ref b,.ref a])(h1:zf5 t H b n r hs lim)(h2:zc8 n r hs.length xs)(h3:(SqL K H a (xs.map V.int)\/H a=some (.tup (xs.map V.int))))(h4:∀l rs H',Same H H'->H l=none->H' l=some (.lst (rs.map V.ref))->Rows H' xs rs (zk9 n r hs lim xs xs.length)->Q (.ref l) H'):ya0 K t vs H Q E
noncomputable def zM3 (K:W.Frag)(t:Adr):Sp:=fun vs H Q E=>ya0 K t vs H Q E
theorem ya1 (T:Txt K mg t):FnOk P w K mg base CX0 6 t.aZ t.bk ["beam","standing"] (zM3 K t):=by
 have Gaf:FnOk P w K mg base CX0 2 t.aa t.ab ["beam","standing"] (zg7 K t):=zi7 T
 have Gan:FnOk P w K mg base CX0 5 t.bC t.bJ ["beam","places","weight"] (yf7 K t):=ok_puts T
 refine T.du.ok zD8 (fun vs H Q E h=>?_) (fun cdv A outer s H vs Q E hr h=>?_)
 . obtain⟨b,a,n,r,lim,hs,xs,rfl,B,V0,hS,q⟩:=h
   rfl
 . obtain⟨b,a,n,r,lim,hs,xs,rfl,B,V0,hS,q⟩:=h
   have haf:Room 2 _:=hr.mono (by decide)
   have han:Room 5 _:=hr.mono (by decide)
   refine⟨_,(za4 (zb3 (i:=2) zD8.nd rfl (Or.inr rfl) (za7 Gaf haf rfl T.ak T.al T.aj .nil zb4 (za0 (pv 0) (za0 (pv 1) za3))))
     (za4 (zb3 (i:=3) zD8.nd rfl (Or.inl rfl) (ze6 za3))
     (za4 (zi3 PassesOwn.never rfl (zN5 rfl T.ao (za0 za2 (za0 (zb6 zf6 (zb0 zb7 rfl T.ad PySem.boot_len (za0 (pv 2) za3)) za2) za3))) (zc4 (i:=4) zD8.nd rfl (Or.inr rfl)) (za6 (zi9 (zv7 PySem.F.plainAttrs_list PySem.F.slot_list_extend PySem.F.type_list_extend mt_extend (pv 3) (za0 (zm9 rfl zL7 (zg1 (za7 Gan han rfl T.dH T.dI T.dG .nil zb4 (za0 (pv 0) (za0 (pv 2) (za0 (pv 4) za3))))) (fun _ _ _ _ _=>(zc4 (i:=0) zL7.nd rfl (Or.inl rfl))) (fun _ _ _ _ _=>zi5) (fun _ _ _ _ _=>(zF3 (za0 (pv 1) (za0 (zd3 (zq8 K rfl) (pv 2) (zb6 zi4 (pv 1) za2) (fun _ _=>rfl)) (za0 (pv 0) za3)))))) za3)))))
     (za6 (zb8 (pv 3)))))),?_⟩
   refine cut4 ?_
   intro rr4 rr3 rr2
   have hx5:xs.length<=5:=by have:=B.1.w;have:=V0.len;omega
   have n1:=B.1.n1
   have n2:=B.1.n2
   have hwide:wide n<=9:=by unfold wide;omega
   refine⟨_,rfl,_,rfl,b,a,n,r,lim,hs,xs,rfl,B,V0,hS,fun p H1 s1 hT1=>?_⟩
   refine⟨Nat.zero_le _,fun l fl=>?_⟩
   have fl0:H l=none:=s1.free fl
   have B1:=B.same s1
   have s2:Same H1 (upd H1 l (.lst [])):=Same.upd fl
   have hl2:(upd H1 l (.lst [])) l=some (.lst []):=za1
   revert s2 hl2
   generalize upd H1 l (.lst [])=H2
   intro s2 hl2
   refine⟨_,rfl,p,_,rfl,.inr (SqT.of (s2 _ _ hT1)),_,_,rfl,rfl,1,_,rfl,?_⟩
   rw[List.length_map]
   refine⟨⟨by omega,by omega,by omega,by omega⟩,zj0 (lo:=1) (n:=((xs.length:Int)+1-1).toNat) (fun i σ H'=>∃v rs,σ=[some (.ref b),some (.ref a),some (.ref p),some (.ref l),v]/\Same H1 H'/\H' l=some (.lst (rs.map V.ref))/\Rows H' xs rs (zk9 n r hs lim xs i)) ⟨none,[],rfl,s2,hl2,Rows.nil _ _⟩ ?_ ?_⟩
   . rintro i σ H3 hi ⟨v,rs,rfl,s3,hl3,R3⟩
     have hi':i<xs.length:=by omega
     have e1:(1+(i:Int)-1).toNat=i:=by omega
     have ax:atI (xs.map V.int) (1+(i:Int)-1)=some (.int (xs.getD i 0)):=by have:=zg4 (xs:=xs) (i:=1+(i:Int)-1) (by omega) (by omega);rw[e1] at this;exact this
     have hps:=zG8 n r hs lim xs i (wide n)
     have hrl:=zG9 n r hs lim xs i
     have hmul:i*wide n<=5*9:=Nat.mul_le_mul (by omega) hwide
     refine⟨_,rfl,.inl ⟨rfl,_,SqL.of hl3⟩,_,rfl,_,rfl,_,rfl,b,p,n,r,lim,_,i,hs,xs,rfl,B1.same s3,V0,s3 _ _ hT1,⟨by omega,hi'⟩,fun lp H4 s4 h4=>?_⟩
     refine⟨lp,rfl,⟨_,SqL.of h4⟩,fun D hD=>?_⟩
     have hrs:zk9 n r hs lim xs (i+1)=zk9 n r hs lim xs i++(zk3 n r hs lim xs i (wide n)).map fun p=>(i,p):=zM2 n r hs lim xs i
     generalize zk3 n r hs lim xs i (wide n)=ps at h4 hps hrs ⊢
     refine zm3 (K:=K) (a:=lp) (xs:=ps.map V.int) (fun j H'=>∃rs',H' D=some (.lst (rs'.map V.ref))/\Rows H' xs rs' ((ps.take j).map fun p=>(i,p))/\Same H4 H') ⟨[],za1,Rows.nil _ _,Same.upd hD⟩ (fun j H' ⟨_,_,_,s⟩=>SqL.of (s _ _ h4)) ?_ ?_
     . rintro j x H' N hj ⟨rs',hD',R',s'⟩ hN
       obtain⟨z,rfl,hz⟩:=int_at hj
       dsimp only[zw3]
       refine iteT ?_
       refine⟨_,rfl,_,rfl,_,rfl,_,_,rfl,rfl,p,_,_,_,rfl,rfl,SqT.of (s' _ _ (s4 _ _ (s3 _ _ hT1))),ax,_,rfl,(by show 3<=sizeLine;decide),fun lt ft=>?_⟩
       have nDl:D≠lt:=fun z=>by rw[z,ft] at hD';cases hD'
       have hjl:(ps.take j).length<=9:=by rw[List.length_take];omega
       have hrl':rs'.length<=9:=by have:=R'.1;rw[List.length_map] at this;omega
       have etk:ps.take (j+1)=ps.take j++[z]:=by rw[List.take_succ,hz];rfl
       have R'':=(R'.same (Same.upd ft)).app (Rows.one (H:=upd H' lt (.tup [.int (1+(i:Int)),.int (xs.getD i 0),.int z])) (xs:=xs) (a:=lt) (m:=(i,z)) (by unfold zq3;rw[za1,Int.add_comm]))
       have hD'':(upd H' lt (.tup [.int (1+(i:Int)),.int (xs.getD i 0),.int z])) D=some (.lst (rs'.map V.ref)):=by rw[za9 nDl];exact hD'
       refine⟨rs'.map V.ref,hD'',zc7 (by rw[List.length_map];omega),hN _ ⟨rs'++[lt],by rw[za1,List.map_append];rfl,?_,(s'.updT ft).put hD⟩⟩
       rw[etk,List.map_append]
       exact R''.put hD''
     . rintro H5 ⟨rs',hD5,R5,s5⟩
       rw[List.length_map,List.take_length] at R5
       have s35:=s4.trans s5
       have hl5:=s35 _ _ hl3
       have e2:rs.length=(zk9 n r hs lim xs i).length:=R3.1
       have e3:rs'.length=ps.length:=by rw[R5.1,List.length_map]
       refine⟨l,D,_,_,rfl,rfl,hl5,hD5,Nat.le_of_lt (zc7 (by rw[List.length_map,List.length_map];omega)),?_⟩
       refine⟨_,rs++rs',rfl,(s3.trans s35).put fl,by rw[za1,List.map_append],?_⟩
       rw[hrs]
       exact((R3.same s35).app R5).put hl5
   . rintro σ H3 ⟨v,rs,rfl,s3,hl3,R3⟩
     rw[show((xs.length:Int)+1-1).toNat=xs.length by omega] at R3
     exact⟨_,rfl,q l rs H3 (s1.trans s3) fl0 hl3 R3⟩
end
section
variable {P:Program} {w:World} {K:W.Frag} {mg:Str->Option Value} {base:Heap} {t:Adr}
noncomputable def nbs (n r:Int)(hs:List Int)(lim:Int)(x:List Int):List (List Int):=(zk9 n r hs lim x x.length).map fun m=>x.set m.1 m.2
theorem zQ6 {n r:Int}{hs:List Int}{lim:Int}{x:List Int}{i:Nat}{p:Int}:p∈zk3 n r hs lim x i (wide n)↔Lets n r hs lim x i p:=by
 unfold zk3 grid
 rw[List.mem_filter,decide_eq_true_eq]
 refine⟨fun h=>h.2,fun h=>⟨?_,h⟩⟩
 have:=h.on
 rw[List.mem_map]
 exact⟨(p+n).toNat,List.mem_range.mpr (by unfold wide;omega),by omega⟩
theorem zu1 {n r:Int}{hs:List Int}{lim:Int}{x:List Int}{k:Nat}{m:Nat×Int}:m∈zk9 n r hs lim x k↔m.1<k/\Lets n r hs lim x m.1 m.2:=by
 unfold zk9
 rw[List.mem_flatMap]
 constructor
 . rintro⟨i,hi,hm⟩
   obtain⟨p,hp,rfl⟩:=List.mem_map.mp hm
   exact⟨List.mem_range.mp hi,zQ6.mp hp⟩
 . rintro⟨hi,L⟩
   exact⟨m.1,List.mem_range.mpr hi,List.mem_map.mpr ⟨m.2,zQ6.mpr L,rfl⟩⟩
theorem zh4 {n r:Int}{hs:List Int}{lim:Int}{x y:List Int}:y∈nbs n r hs lim x↔∃i p,Lets n r hs lim x i p/\y=x.set i p:=by
 unfold nbs
 rw[List.mem_map]
 constructor
 . rintro⟨m,hm,rfl⟩
   exact⟨m.1,m.2,(zu1.mp hm).2,rfl⟩
 . rintro⟨i,p,L,rfl⟩
   exact⟨(i,p),zu1.mpr ⟨L.lt,L⟩,rfl⟩
inductive Walk (n r:Int)(hs:List Int)(lim:Int)(s:List Int):Nat->List Int->Prop
 | zero:Walk n r hs lim s 0 s
 | succ {d:Nat} {x y:List Int}:Walk n r hs lim s d x->y∈nbs n r hs lim x->Walk n r hs lim s (d+1) y
noncomputable def Dst (n r:Int)(hs:List Int)(lim:Int)(s:List Int)(d:Nat)(x:List Int):Prop:=Walk n r hs lim s d x/\∀j,j<d->¬ Walk n r hs lim s j x
section
variable {n r:Int} {hs:List Int} {lim:Int} {s:List Int}
theorem Walk.dst:∀ {d:Nat} {x:List Int},Walk n r hs lim s d x->∃e,e<=d/\Dst n r hs lim s e x:=by
 intro d
 induction d using Nat.strongRecOn with
 | _ d ih =>
   intro x h
   by_cases q:∃j,j<d/\Walk n r hs lim s j x
   . obtain⟨j,hj,hw⟩:=q
     obtain⟨e,he,hd⟩:=ih j hj hw
     exact⟨e,by omega,hd⟩
   . exact⟨d,Nat.le_refl _,h,fun j hj hw=>q ⟨j,hj,hw⟩⟩
theorem Dst.uniq {d e:Nat}{x:List Int}(h:Dst n r hs lim s d x)(h':Dst n r hs lim s e x):d=e:=by
 rcases Nat.lt_trichotomy d e with z | z | z
 . exact absurd h.1 (h'.2 d z)
 . exact z
 . exact absurd h'.1 (h.2 e z)
theorem Dst.zero:Dst n r hs lim s 0 s:=⟨.zero,fun j hj=>absurd hj (Nat.not_lt_zero _)⟩
theorem Dst.pred {d:Nat}{y:List Int}(h:Dst n r hs lim s (d+1) y):∃x,Dst n r hs lim s d x/\y∈nbs n r hs lim x:=by
 obtain⟨hw,hm⟩:=h
 cases hw with
 | @succ _ x _ hx hy=>exact⟨x,⟨hx,fun j hj hj'=>hm (j+1) (by omega) (.succ hj' hy)⟩,hy⟩
theorem Dst.below:∀ {d:Nat} {x:List Int},Dst n r hs lim s d x->∀e,e<=d->∃y,Dst n r hs lim s e y
 | 0,x,h,e,he=>⟨x,by rw[show e=0 by omega];exact h⟩
 | d+1,x,h,e,he=>by
   rcases Nat.eq_or_lt_of_le he with z | z
   . subst z;exact⟨x,h⟩
   . obtain⟨y,hy,_⟩:=h.pred
     exact Dst.below hy e (by omega)
theorem dst_next {d:Nat}{y:List Int}:Dst n r hs lim s (d+1) y↔(¬ ∃j,j<=d/\Dst n r hs lim s j y)/\∃x,Dst n r hs lim s d x/\y∈nbs n r hs lim x:=by
 constructor
 . intro h
   exact⟨fun⟨j,hj,h'⟩=>by have:=h.uniq h';omega,h.pred⟩
 . rintro⟨h1,x,hx,hy⟩
   refine⟨.succ hx.1 hy,fun j hj hw=>h1 ?_⟩
   obtain⟨e,he,hd⟩:=hw.dst
   exact⟨e,by omega,hd⟩
theorem dst_none {d:Nat}(h:∀y,¬ Dst n r hs lim s (d+1) y):∀e,d<e->∀y,¬ Dst n r hs lim s e y:=by
 intro e
 induction e with
 | zero=>intro he;omega
 | succ e ih =>
   intro he y hy
   rcases Nat.lt_or_ge d e with z | z
   . obtain⟨x,hx,_⟩:=hy.pred
     exact ih z x hx
   . obtain rfl:e=d:=by omega
     exact h y hy
theorem Walk.valid {d:Nat}{x:List Int}(h:Walk n r hs lim s d x){w:Nat}(V0:zc8 n r w s):zc8 n r w x:=by
 induction h with
 | zero=>exact V0
 | succ _ hy ih =>
   obtain⟨i,p,L,rfl⟩:=zh4.mp hy
   exact L.valid ih
theorem Walk.keep {d:Nat}{x:List Int}(h:Walk n r hs lim s d x)(V0:zc8 n r hs.length s)(h0:absI (zb5 hs s)<=lim):absI (zb5 hs x)<=lim:=by
 cases h with
 | zero=>exact h0
 | succ hx hy =>
   obtain⟨i,p,L,rfl⟩:=zh4.mp hy
   rw[zx7 hs _ i p (hx.valid V0).len.symm L.lt]
   exact L.behind
end
theorem zM4:∀(N:Nat) (l:List Nat),l.Nodup->(∀x∈l,x<N)->l.length<=N
 | 0,l,_,h=>by
   cases l with
   | nil=>exact Nat.le_refl _
   | cons a l=>exact absurd (h a (.head _)) (Nat.not_lt_zero _)
 | N+1,l,hd,h=>by
   by_cases hm:N∈l
   . have:=zM4 N (l.erase N) (hd.erase N) fun x hx=>by
       have h1:=h x (List.mem_of_mem_erase hx)
       have h2:x≠N:=fun z=>by rw[z] at hx;exact(List.Nodup.not_mem_erase hd) hx
       omega
     rw[List.length_erase_of_mem hm] at this
     omega
   . have:=zM4 N l hd fun x hx=>by
       have h1:=h x hx
       have h2:x≠N:=fun z=>hm (z▸hx)
       omega
     omega
noncomputable def zo2 (n:Int):List Int->Nat
 | []=>0
 | a::x=>(a+n).toNat+(2*n+1).toNat*zo2 n x
theorem ya2 {n:Int}(hn:0<=n):∀ {x:List Int},(∀a∈x,-n<=a/\a<=n)->zo2 n x<(2*n+1).toNat ^ x.length
 | [],_=>by simp[zo2]
 | a::x,h=>by
   have h1:=h a (.head _)
   have ih:=ya2 hn (x:=x) fun b hb=>h b (.tail _ hb)
   show(a+n).toNat+(2*n+1).toNat*zo2 n x<(2*n+1).toNat ^ (x.length+1)
   rw[Nat.pow_succ,Nat.mul_comm _ ((2*n+1).toNat)]
   have h2:(2*n+1).toNat*(zo2 n x+1)<=(2*n+1).toNat*(2*n+1).toNat ^ x.length:=Nat.mul_le_mul_left _ ih
   rw[Nat.mul_add] at h2
   omega
theorem zQ7 {n:Int}(hn:0<=n):∀ {x y:List Int},x.length=y.length->(∀a∈x,-n<=a/\a<=n)->(∀a∈y,-n<=a/\a<=n)->zo2 n x=zo2 n y->x=y
 | [],[],_,_,_,_=>rfl
 | [],_::_,h,_,_,_=>nomatch h
 | _::_,[],h,_,_,_=>nomatch h
 | a::x,b::y,hl,hx,hy,e=>by
   have h1:=hx a (.head _)
   have h2:=hy b (.head _)
   have e':(a+n).toNat+(2*n+1).toNat*zo2 n x=(b+n).toNat+(2*n+1).toNat*zo2 n y:=e
   have hM:0<(2*n+1).toNat:=by omega
   have m1:((a+n).toNat+(2*n+1).toNat*zo2 n x) % (2*n+1).toNat=(a+n).toNat:=by rw[Nat.add_mul_mod_self_left];exact Nat.mod_eq_of_lt (by omega)
   have m2:((b+n).toNat+(2*n+1).toNat*zo2 n y) % (2*n+1).toNat=(b+n).toNat:=by rw[Nat.add_mul_mod_self_left];exact Nat.mod_eq_of_lt (by omega)
   have ea:(a+n).toNat=(b+n).toNat:=by rw[<-m1,<-m2,e']
   have ec:zo2 n x=zo2 n y:=by
     have:(2*n+1).toNat*zo2 n x=(2*n+1).toNat*zo2 n y:=by omega
     exact Nat.eq_of_mul_eq_mul_left hM this
   rw[show a=b by omega,zQ7 hn (by simpa using hl) (fun c hc=>hx c (.tail _ hc)) (fun c hc=>hy c (.tail _ hc)) ec]
theorem few {n r:Int}{hs:List Int}{lim:Int}(ok:zg6 n r hs lim){ks:List (List Int)}(hd:ks.Nodup)(hv:∀x∈ks,zc8 n r hs.length x):ks.length<=1000:=by
 have n1:=ok.n1
 have h:=zM4 ((2*n+1).toNat ^ hs.length) (ks.map (zo2 n)) ?_ ?_
 . rw[List.length_map] at h
   have hm:=ok.most
   have e:(((2*n+1).toNat ^ hs.length:Nat):Int)=(2*n+1) ^ hs.length:=by rw[Int.natCast_pow,Int.toNat_of_nonneg (by omega)]
   omega
 . refine List.pairwise_map.mpr (hd.imp_of_mem fun {x y} hx hy z e=>z ?_)
   exact zQ7 (by omega) ((hv x hx).len.trans (hv y hy).len.symm) (hv x hx).on (hv y hy).on e
 . intro c hc
   obtain⟨x,hx,rfl⟩:=List.mem_map.mp hc
   have:=ya2 (n:=n) (by omega) (hv x hx).on
   rw[(hv x hx).len] at this
   exact this
noncomputable def Goes (n r:Int)(hs:List Int)(lim:Int):List Int->List (Nat×Int)->List Int->Prop
 | x,[],y=>x=y
 | x,m::ms,y=>Lets n r hs lim x m.1 m.2/\Goes n r hs lim (x.set m.1 m.2) ms y
noncomputable def zf4 (H:Hp):List Int->List Addr->List (Nat×Int)->Prop
 | _,[],[]=>True
 | x,a::rs,m::ms=>zq3 H x a m/\zf4 H (x.set m.1 m.2) rs ms
 | _,_,_=>False
theorem zf4.same {H H':Hp}(s:Same H H'):∀ {x:List Int} {rs:List Addr} {ms:List (Nat×Int)},zf4 H x rs ms->zf4 H' x rs ms
 | _,[],[],_=>trivial
 | _,[],_::_,h=>h.elim
 | _,_::_,[],h=>h.elim
 | x,a::rs,m::ms,h=>⟨s _ _ h.1,zf4.same s h.2⟩
theorem zf4.keepL {H:Hp}{l:Addr}{o:HO}{vs:List V}(hl:H l=some (.lst vs)):∀ {x:List Int} {rs:List Addr} {ms:List (Nat×Int)},zf4 H x rs ms->zf4 (upd H l o) x rs ms
 | _,[],[],_=>trivial
 | _,[],_::_,h=>h.elim
 | _,_::_,[],h=>h.elim
 | x,a::rs,m::ms,h=>by
   refine⟨?_,zf4.keepL hl h.2⟩
   have:=h.1
   unfold zq3 at this ⊢
   rw[za9 (fun z=>by rw[z,hl] at this;cases this)]
   exact this
theorem zf4.len {H:Hp}:∀ {x:List Int} {rs:List Addr} {ms:List (Nat×Int)},zf4 H x rs ms->rs.length=ms.length
 | _,[],[],_=>rfl
 | _,[],_::_,h=>h.elim
 | _,_::_,[],h=>h.elim
 | x,a::rs,m::ms,h=>by simp[zf4.len h.2]
noncomputable abbrev dOf (kv:List (List Int×V)):List (List Key×V):=kv.map fun e=>(ik e.1,e.2)
theorem yj7 {x y:List Int}(h:ik x=ik y):x=y:=(List.map_inj_right (fun a b z=>by injection z)).mp h
theorem zM5 {kv:List (List Int×V)}{x:List Int}{v:V}(hd:(kv.map (·.1)).Nodup)(h:(x,v)∈kv):valV (dOf kv) (ik x)=some v:=by
 induction kv with
 | nil=>cases h
 | cons e kv ih =>
   rw[List.map_cons,List.nodup_cons] at hd
   rcases List.mem_cons.mp h with rfl | h
   . exact zD3 rfl
   . have ne:¬ ik e.1=ik x:=fun z=>hd.1 (by rw[yj7 z];exact List.mem_map.mpr ⟨_,h,rfl⟩)
     show valV ((ik e.1,e.2)::dOf kv) (ik x)=_
     rw[zw7 ne]
     exact ih hd.2 h
theorem ya3 {kv:List (List Int×V)}{x:List Int}(h:x∉kv.map (·.1)):valV (dOf kv) (ik x)=none:=by
 induction kv with
 | nil=>rfl
 | cons e kv ih =>
   rw[List.map_cons,List.mem_cons,not_or] at h
   have ne:¬ ik e.1=ik x:=fun z=>h.1 (yj7 z).symm
   show valV ((ik e.1,e.2)::dOf kv) (ik x)=_
   rw[zw7 ne]
   exact ih h.2
theorem yb8 {kv:List (List Int×V)}(hd:(kv.map (·.1)).Nodup)(x:List Int):(valV (dOf kv) (ik x)).isSome=decide (x∈kv.map (·.1)):=by
 by_cases h:x∈kv.map (·.1)
 . obtain⟨e,he,rfl⟩:=List.mem_map.mp h
   rw[zM5 hd he,decide_eq_true h]
   rfl
 . rw[ya3 h,decide_eq_false h]
   rfl
theorem dOf_put {kv:List (List Int×V)}{x:List Int}(v:V)(h:x∉kv.map (·.1)):putK (dOf kv) (ik x) v=dOf (kv++[(x,v)]):=by
 rw[putK_new v (ya3 h)]
 unfold dOf
 rw[List.map_append]
 rfl
theorem dOf_keys (kv:List (List Int×V)):(dOf kv).map (·.1)=(kv.map (·.1)).map ik:=by
 unfold dOf
 rw[List.map_map,List.map_map]
 rfl
section
variable {n r:Int} {hs:List Int} {lim:Int}
theorem nbs_back {x y:List Int}(Vx:zc8 n r hs.length x)(kx:absI (zb5 hs x)<=lim)(h:y∈nbs n r hs lim x):x∈nbs n r hs lim y:=by
 obtain⟨i,p,L,rfl⟩:=zh4.mp h
 refine zh4.mpr ⟨i,x.getD i 0,L.turned Vx kx,?_⟩
 have hi:=L.lt
 rw[List.set_set,List.getD_eq_getElem?_getD,List.getElem?_eq_getElem hi,Option.getD_some,List.set_getElem_self]
theorem Walk.front {x y z:List Int}{d:Nat}(h:y∈nbs n r hs lim x)(w:Walk n r hs lim y d z):Walk n r hs lim x (d+1) z:=by
 induction w with
 | zero=>exact .succ .zero h
 | succ _ hy ih=>exact .succ ih hy
theorem Walk.rev {s x:List Int}{d:Nat}(V0:zc8 n r hs.length s)(k0:absI (zb5 hs s)<=lim)(w:Walk n r hs lim s d x):Walk n r hs lim x d s:=by
 induction w with
 | zero=>exact .zero
 | succ hx hy ih=>exact Walk.front (nbs_back (hx.valid V0) (hx.keep V0 k0) hy) ih
end
end
section
variable {P:Program} {w:World} {K:W.Frag} {mg:Str->Option Value} {base:Heap} {t:Adr}
theorem dget {H:Hp}{a b:Addr}{kv:List (List Int×V)}{x:List Int}(e:H a=some (.dT (dOf kv)))(eb:H b=some (.tup (x.map V.int))):DGet H a (.ref b) (valV (dOf kv) (ik x)):=DGet.t e (by rw[zP0];exact eb)
theorem dput {H:Hp}{a b:Addr}{kv:List (List Int×V)}{x:List Int}{v:V}(e:H a=some (.dT (dOf kv)))(eb:H b=some (.tup (x.map V.int)))(hl:kv.length<=1000):DPut H a (.ref b) v (upd H a (.dT (putK (dOf kv) (ik x) v))) :=
 DPut.t e (by rw[zP0];exact eb) (zc7 (by rw[List.length_map];exact hl))
noncomputable def yj8 (n r:Int)(hs:List Int)(lim:Int)(L:List (List Int))(H:Hp)(e:List Int×V):Prop:=∃x∈L,∃m i p,e.2 = .ref m/\zq3 H x m (i,p)/\Lets n r hs lim x i p/\e.1=x.set i p
structure NL (n r:Int)(hs:List Int)(lim:Int)(H:Hp)(ld f:Addr)(L:List (List Int))(kv:List (List Int×V))(Seen:List Int->Prop)(H':Hp)(F:List (List Int×V))(zs:List V):Prop where
 sx:zg9 ld H H'
 hf:H' f=some (.lst zs)
 tu:Tups H' zs (F.map (·.1))
 hd:H' ld=some (.dT (dOf (kv++F)))
 nd:((kv++F).map (·.1)).Nodup
 mem:∀y,y∈F.map (·.1)↔y∉kv.map (·.1)/\Seen y
 row:∀e∈F,yj8 n r hs lim L H' e
theorem NL.step {n r:Int}{hs:List Int}{lim:Int}{H:Hp}{ld f:Addr}{L:List (List Int)}{kv:List (List Int×V)}{Seen:List Int->Prop}{H' H2:Hp}{F:List (List Int×V)}{zs:List V}(N:NL n r hs lim H ld f L kv Seen H' F zs)(s:Same H' H2):NL n r hs lim H ld f L kv Seen H2 F zs :=
 ⟨N.sx.trans s.x,s _ _ N.hf,s.tups N.tu,s _ _ N.hd,N.nd,N.mem,fun e he=>let⟨x,hx,m,i,p,e1,e2,e3,e4⟩:=N.row e he;⟨x,hx,m,i,p,e1,s _ _ e2,e3,e4⟩⟩
theorem NL.iff {n r:Int}{hs:List Int}{lim:Int}{H:Hp}{ld f:Addr}{L:List (List Int)}{kv:List (List Int×V)}{Seen Seen':List Int->Prop}{H':Hp}{F:List (List Int×V)}{zs:List V}(N:NL n r hs lim H ld f L kv Seen H' F zs)(h:∀y,Seen y↔Seen' y):NL n r hs lim H ld f L kv Seen' H' F zs :=
 ⟨N.sx,N.hf,N.tu,N.hd,N.nd,fun y=>by rw[N.mem,h],N.row⟩
theorem NL.add {n r:Int}{hs:List Int}{lim:Int}{H:Hp}{ld f:Addr}{L:List (List Int)}{kv:List (List Int×V)}{Seen:List Int->Prop}{H':Hp}{F:List (List Int×V)}{zs:List V}(N:NL n r hs lim H ld f L kv Seen H' F zs)(ff:H f=none)
   {x:List Int} {m l:Addr} {i:Nat} {p:Int} (hx:x∈L) (hm:zq3 H' x m (i,p)) (hL:Lets n r hs lim x i p) (hl:H' l=some (.tup ((x.set i p).map V.int))) (hy:x.set i p∉(kv++F).map (·.1)) :
   NL n r hs lim H ld f L kv (fun y=>Seen y\/y=x.set i p) (upd (upd H' ld (.dT (putK (dOf (kv++F)) (ik (x.set i p)) (.ref m)))) f (.lst (zs++[.ref l]))) (F++[(x.set i p,.ref m)]) (zs++[.ref l]):=by
 have nfd:f≠ld:=fun z=>by have:=N.hf;rw[z,N.hd] at this;cases this
 have tup_keep:∀ {b:Addr} {ys:List V},H' b=some (.tup ys)->(upd (upd H' ld (.dT (putK (dOf (kv++F)) (ik (x.set i p)) (.ref m)))) f (.lst (zs++[.ref l]))) b=some (.tup ys):=fun {b ys} hb=>by
   rw[za9 (fun z=>by have:=N.hf;rw[<-z,hb] at this;cases this),za9 (fun z=>by have:=N.hd;rw[<-z,hb] at this;cases this)]
   exact hb
 refine⟨N.sx.updX.put ff,za1,?_,?_,?_,fun y=>?_,fun e he=>?_⟩
 . rw[List.map_append]
   exact zP4 (Paired.mapP N.tu fun y k ⟨b,e,hb⟩=>⟨b,e,tup_keep hb⟩) (tup_keep hl)
 . rw[za9 (Ne.symm nfd),za1,dOf_put _ hy,List.append_assoc]
 . rw[<-List.append_assoc,List.map_append]
   exact List.nodup_append.mpr ⟨N.nd,by simp,fun a ha b hb=>by
     obtain rfl:b=x.set i p:=by simpa using hb
     exact fun z=>hy (z▸ha)⟩
 . rw[List.map_append,List.mem_append,N.mem]
   have hy':x.set i p∉kv.map (·.1):=fun z=>hy (by rw[List.map_append];exact List.mem_append_left _ z)
   constructor
   . rintro(⟨h1,h2⟩ | h)
     . exact⟨h1,.inl h2⟩
     . obtain rfl:y=x.set i p:=by simpa using h
       exact⟨hy',.inr rfl⟩
   . rintro⟨h1,h2 | h2⟩
     . exact .inl ⟨h1,h2⟩
     . exact .inr (by simp[h2])
 . rcases List.mem_append.mp he with he | he
   . obtain⟨x',hx',m',i',p',e1,e2,e3,e4⟩:=N.row e he
     exact⟨x',hx',m',i',p',e1,tup_keep e2,e3,e4⟩
   . obtain rfl:e=(x.set i p,.ref m):=by simpa using he
     exact⟨x,hx,m,i,p,rfl,tup_keep hm,hL,rfl⟩
inductive zA8 (K:W.Frag)(t:Adr)(vs:List V)(H:Hp)(Q:VK)(E:XK):Prop
 | mk (b l ld:Addr)(n r lim:Int)(hs:List Int)(L:List (List Int))(ys:List V)(kv:List (List Int×V))(h0:vs=[.ref b,.ref l,.ref ld])(h1:zf5 t H b n r hs lim)(h2:H l=some (.lst ys))(h3:Tups H ys L)(h4:(∀x∈L,zc8 n r hs.length x))(h5:H ld=some (.dT (dOf kv)))(h6:(kv.map (·.1)).Nodup)(h7:(∀x∈kv.map (·.1),zc8 n r hs.length x))(h8:∀l' H' zs G F,zg9 ld H H'->H l'=none->H' l'=some (.lst zs)->Tups H' zs G->G.Perm (F.map (·.1))->G.Pairwise (fun x y=>Sx.lexB x y=true)->H' ld=some (.dT (dOf (kv++F)))->((kv++F).map (·.1)).Nodup->(∀y,y∈F.map (·.1)↔y∉kv.map (·.1)/\∃x∈L,y∈nbs n r hs lim x)->(∀e∈F,yj8 n r hs lim L H' e)->Q (.ref l') H'):zA8 K t vs H Q E
noncomputable def zA9 (K:W.Frag)(t:Adr):Sp:=fun vs H Q E=>zA8 K t vs H Q E
theorem ok_next_layer (T:Txt K mg t):FnOk P w K mg base CX0 7 t.aw t.aM ["beam","layer","led"] (zA9 K t):=by
 have Gao:FnOk P w K mg base CX0 6 t.aZ t.bk ["beam","standing"] (zM3 K t):=ya1 T
 have Gaq:FnOk P w K mg base CX0 1 t.aq t.aB ["places","move"] (zu0 K t):=zA0 T
 refine T.cg.ok zk2 (fun vs H Q E h=>?_) (fun cdv A outer s H vs Q E hr h=>?_)
 . obtain⟨b,l,ld,n,r,lim,hs,L,ys,kv,rfl,B,hl,hT,hV,hd,nd,hV2,q⟩:=h
   rfl
 . obtain⟨b,l,ld,n,r,lim,hs,L,ys,kv,rfl,B,hl,hT,hV,hd,nd,hV2,q⟩:=h
   have hao:Room 6 _:=hr.mono (by decide)
   have haq:Room 1 _:=hr.mono (by decide)
   refine⟨_,(za4 (zb3 (i:=3) zk2.nd rfl (Or.inl rfl) (ze6 za3))
     (za4 (zi3 PassesOwn.never rfl (zg1 (pv 1)) (zc4 (i:=4) zk2.nd rfl (Or.inl rfl)) (za6 (zi3 PassesOwn.never rfl (zg1 (za7 Gao hao rfl T.bO T.bP T.bN .nil zb4 (za0 (pv 0) (za0 (pv 4) za3)))) (zc4 (i:=5) zk2.nd rfl (Or.inl rfl)) (za4 (zb3 (i:=6) zk2.nd rfl (Or.inl rfl) (za7 Gaq haq rfl T.aN T.aO T.aM .nil zb4 (za0 (pv 4) (za0 (pv 5) za3))))
     (za6 (zd1 (yb5 (zF7 (zv8 hr) (pv 6) (pv 2))) (za4 (ps_dput (zv8 hr) (pv 2) (pv 6) (pv 5) rfl)
     (za6 (zi9 (zv7 PySem.F.plainAttrs_list PySem.F.slot_list_append PySem.F.type_list_append zk6 (pv 3) (za0 (pv 6) za3))))) zb9))))))
     (za6 (zb8 (zb0 zL1 rfl T.aW PyProof.Rows.boot_sorted (za0 (pv 3) za3)))))),?_⟩
   refine cut3 ?_
   intro rr3 rr2
   refine⟨Nat.zero_le _,fun f ff=>?_⟩
   have few_:∀ {H':Hp} {F:List (List Int×V)} {zs:List V} {Seen:List Int->Prop},NL n r hs lim H ld f L kv Seen H' F zs->(kv++F).length<=1000/\zs.length<=1000:=fun {H' F zs Seen} N=>by
     have h1:=few B.1 N.nd fun x hx=>by
       rw[List.map_append] at hx
       rcases List.mem_append.mp hx with z | z
       . exact hV2 x z
       . obtain⟨e,he,rfl⟩:=List.mem_map.mp z
         obtain⟨x',hx',m',i',p',_,_,L',e4⟩:=N.row e he
         rw[e4]
         exact L'.valid (hV x' hx')
     have h2:=zn4 N.tu
     rw[List.length_map] at h1 h2
     rw[List.length_append] at h1 ⊢
     omega
   have N0:NL n r hs lim H ld f L kv (fun y=>∃x∈L.take 0,y∈nbs n r hs lim x) (upd H f (.lst [])) [] [] :=
     ⟨(Same.upd ff).x,za1,.nil,by rw[za9 (zc1 hd ff),List.append_nil];exact hd,by rw[List.append_nil];exact nd,fun y=>⟨(fun z=>nomatch z),fun⟨_,x,hx,_⟩=>nomatch hx⟩,fun e he=>nomatch he⟩
   have nbf:∀ {c:Addr} {o:HO},H c=some o->c≠f:=fun e=>zc1 e ff
   have nbd:b≠ld:=fun z=>by obtain⟨_,_,_,hb,_⟩:=B;rw[z,hd] at hb;cases hb
   have nld:l≠ld:=fun z=>by rw[z,hd] at hl;cases hl
   have keepB:∀ {H':Hp},zg9 ld H H'->zf5 t H' b n r hs lim:=fun {H'} s=>by
     obtain⟨ok,dx,h,hb,hh⟩:=B
     exact⟨ok,dx,h,s _ _ hb nbd,s _ _ hh (fun z=>by rw[z,hd] at hh;cases hh)⟩
   have keepT:∀ {H':Hp} {c:Addr} {us:List V},zg9 ld H H'->H c=some (.tup us)->H' c=some (.tup us):=fun s e=>s _ _ e (fun z=>by rw[z,hd] at e;cases e)
   revert N0
   generalize upd H f (.lst [])=H1
   intro N0
   refine⟨_,rfl,l,rfl,⟨_,SqL.of (N0.sx _ _ hl nld)⟩,zp7 (K:=K) (a:=l) (xs:=ys) (fun i σ H'=>∃v4 v5 v6 F zs,σ=[some (.ref b),some (.ref l),some (.ref ld),some (.ref f),v4,v5,v6]/\NL n r hs lim H ld f L kv (fun y=>∃x∈L.take i,y∈nbs n r hs lim x) H' F zs) ⟨none,none,none,[],[],rfl,N0⟩ (fun i σ H' _ ⟨_,_,_,_,_,_,N⟩=>SqL.of (N.sx _ _ hl nld)) ?_ ?_⟩
   . rintro i y σ H2 hi ⟨v4,v5,v6,F,zs,rfl,N2⟩
     obtain⟨st,x,rfl,hx,hst⟩:=zv0 hT hi
     have hxL:x∈L:=List.mem_of_getElem? hx
     have Vx:=hV x hxL
     have hst2:=keepT N2.sx hst
     have hlen:x.length<=5:=by have:=Vx.len;have:=B.1.w;omega
     have etk:L.take (i+1)=L.take i++[x]:=by rw[List.take_succ,hx];rfl
     refine⟨_,rfl,_,rfl,b,st,n,r,lim,hs,x,rfl,keepB N2.sx,Vx,.inr hst2,fun lm rs H3 s3 flm hlm R3=>?_⟩
     have N3:=N2.step s3
     have hms:∀m∈zk9 n r hs lim x x.length,Lets n r hs lim x m.1 m.2:=fun m hm=>(zu1.mp hm).2
     have hnb:∀y,y∈nbs n r hs lim x↔∃m∈zk9 n r hs lim x x.length,y=x.set m.1 m.2:=fun y=>by
       unfold nbs
       rw[List.mem_map]
       exact⟨fun⟨m,h1,h2⟩=>⟨m,h1,h2.symm⟩,fun⟨m,h1,h2⟩=>⟨m,h1,h2.symm⟩⟩
     generalize zk9 n r hs lim x x.length=ms at R3 hms hnb
     refine⟨lm,rfl,⟨_,SqL.of hlm⟩,zp7 (K:=K) (a:=lm) (xs:=rs.map V.ref) (fun j σ H'=>∃v5 v6 F zs,σ=[some (.ref b),some (.ref l),some (.ref ld),some (.ref f),some (.ref st),v5,v6]/\NL n r hs lim H ld f L kv (fun y=>(∃x∈L.take i,y∈nbs n r hs lim x)\/∃m∈ms.take j,y=x.set m.1 m.2) H' F zs/\H' lm=some (.lst (rs.map V.ref))/\Rows H' x rs ms/\H' st=some (.tup (x.map V.int))) ⟨v5,v6,F,zs,rfl,N3.iff fun y=>⟨.inl,fun z=>z.elim id fun⟨m,hm,_⟩=>nomatch hm⟩,hlm,R3,s3 _ _ hst2⟩ (fun j σ H' _ ⟨_,_,_,_,_,_,h,_⟩=>SqL.of h) ?_ ?_⟩
     . rintro j y σ H4 hj ⟨v5,v6,F,zs,rfl,N4,hlm4,R4,hst4⟩
       have hj':j<rs.length:=by
         have:=(List.getElem?_eq_some_iff.mp hj).1
         simpa using this
       have hjm:j<ms.length:=by rw[<-R4.1];exact hj'
       obtain rfl:y = .ref rs[j]:=by
         rw[List.getElem?_map,List.getElem?_eq_getElem hj'] at hj
         exact(Option.some.inj hj).symm
       have hrow:=R4.2 j rs[j] ms[j] (List.getElem?_eq_getElem hj') (List.getElem?_eq_getElem hjm)
       have hLt:=hms ms[j] (List.getElem_mem hjm)
       have etm:ms.take (j+1)=ms.take j++[ms[j]]:=by rw[List.take_succ,List.getElem?_eq_getElem hjm];rfl
       generalize rs[j]=ma at hrow
       generalize ms[j]=m at hrow hLt etm
       obtain⟨mi,mp⟩:=m
       refine⟨_,rfl,_,rfl,st,ma,_,_,mp,mi,x,rfl,hst4,.inr (SqT.of hrow),⟨rfl,hLt.lt,by omega⟩,fun l5 H5 s5 h5=>?_⟩
       have N5:=N4.step s5
       have seen:∀y,((∃x∈L.take i,y∈nbs n r hs lim x)\/∃m∈ms.take (j+1),y=x.set m.1 m.2)↔((∃x∈L.take i,y∈nbs n r hs lim x)\/∃m∈ms.take j,y=x.set m.1 m.2)\/y=x.set mi mp:=fun y=>by
         rw[etm]
         simp only[List.mem_append,List.mem_singleton]
         constructor
         . rintro(z | ⟨m,z | z,e⟩)
           . exact .inl (.inl z)
           . exact .inl (.inr ⟨m,z,e⟩)
           . exact .inr (by rw[e,z])
         . rintro((z | ⟨m,z,e⟩) | z)
           . exact .inl z
           . exact .inr ⟨m,.inl z,e⟩
           . exact .inr ⟨(mi,mp),.inr rfl,z⟩
       refine⟨_,rfl,_,rfl,ld,_,rfl,dget N5.hd h5,_,rfl,?_⟩
       rw[yb8 N5.nd]
       refine ite2 (fun h1=>?_) (fun h1=>?_)
       . have hy:x.set mi mp∉(kv++F).map (·.1):=fun z=>by rw[decide_eq_true z] at h1;cases h1
         refine⟨_,rfl,_,rfl,_,rfl,ld,_,rfl,dput N5.hd h5 (few_ N5).1,?_⟩
         have nfd:f≠ld:=fun z=>by have:=N5.hf;rw[z,N5.hd] at this;cases this
         have hf6:(upd H5 ld (.dT (putK (dOf (kv++F)) (ik (x.set mi mp)) (.ref ma)))) f=some (.lst zs):=by rw[za9 nfd];exact N5.hf
         have N6:=(N5.add ff hxL (s5 _ _ hrow) hLt h5 hy).iff fun y=>(seen y).symm
         have keep6:∀ {c:Addr} {o:HO},H4 c=some o->c≠ld->c≠f->(upd (upd H5 ld (.dT (putK (dOf (kv++F)) (ik (x.set mi mp)) (.ref ma)))) f (.lst (zs++[.ref l5]))) c=some o:=fun e e1 e2=>by rw[za9 e2,za9 e1];exact s5 _ _ e
         have ntup:∀ {c:Addr} {us:List V},H4 c=some (.tup us)->c≠ld/\c≠f:=fun e=>⟨fun z=>(by have:=N4.hd;rw[<-z,e] at this;cases this),fun z=>(by have:=N4.hf;rw[<-z,e] at this;cases this)⟩
         have nlm:lm≠ld/\lm≠f:=⟨fun z=>(by have:=N4.hd;rw[<-z,hlm4] at this;cases this),fun z=>(by have hh:=N2.hf;rw[<-z,flm] at hh;cases hh)⟩
         refine⟨_,rfl,.inl ⟨rfl,_,SqL.of hf6⟩,_,rfl,f,_,_,rfl,rfl,hf6,zc7 (few_ N5).2,?_⟩
         exact⟨_,_,_,_,rfl,N6,keep6 hlm4 nlm.1 nlm.2,⟨R4.1,fun k a m' e1 e2=>by
           have:=R4.2 k a m' e1 e2
           exact keep6 this (ntup this).1 (ntup this).2⟩,keep6 hst4 (ntup hst4).1 (ntup hst4).2⟩
       . have hy:x.set mi mp∈(kv++F).map (·.1):=Classical.byContradiction fun z=>h1 (by rw[decide_eq_false z];rfl)
         refine⟨_,_,_,_,rfl,⟨N5.sx,N5.hf,N5.tu,N5.hd,N5.nd,fun y=>?_,N5.row⟩,s5 _ _ hlm4,R4.same s5,s5 _ _ hst4⟩
         rw[N5.mem,seen]
         constructor
         . rintro⟨h1,h2⟩;exact⟨h1,.inl h2⟩
         . rintro⟨h1,h2 | h2⟩
           . exact⟨h1,h2⟩
           . rw[List.map_append] at hy
             rcases List.mem_append.mp hy with z | z
             . exact absurd (h2▸z) h1
             . rw[h2];exact(N5.mem _).mp z
     . rintro σ H4 ⟨v5,v6,F,zs,rfl,N4,hlm4,R4,hst4⟩
       rw[List.length_map,R4.1,List.take_length] at N4
       refine⟨_,_,_,F,zs,rfl,N4.iff fun y=>?_⟩
       rw[etk]
       simp only[List.mem_append,List.mem_singleton]
       constructor
       . rintro(⟨x',h1,h2⟩ | z)
         . exact⟨x',.inl h1,h2⟩
         . exact⟨x,.inr rfl,(hnb y).mpr z⟩
       . rintro⟨x',h1 | h1,h2⟩
         . exact .inl ⟨x',h1,h2⟩
         . exact .inr ((hnb y).mp (h1▸h2))
   . rintro σ H2 ⟨v4,v5,v6,F,zs,rfl,N2⟩
     rw[zn4 hT,List.take_length] at N2
     refine⟨_,rfl,f,_,_,rfl,SqL.of N2.hf,N2.tu,?_,fun _ k hk=>?_,fun l' zs' js fl' ht hp hso=>?_⟩
     . have:=N2.nd
       rw[List.map_append] at this
       exact(List.nodup_append.mp this).2.1
     . obtain⟨e,he,rfl⟩:=List.mem_map.mp hk
       obtain⟨x',hx',m',i',p',_,_,L',e4⟩:=N2.row e he
       rw[e4]
       intro z
       have h0:(x'.set i' p').length=0:=by rw[z];rfl
       rw[List.length_set] at h0
       have:=L'.lt
       omega
     . have sd:Same H2 (upd H2 l' (.lst zs')):=Same.upd fl'
       have N3:=N2.step sd
       exact q l' _ zs' js F N3.sx (N2.sx.free fl' (by rw[N2.hd];exact fun z=>nomatch z)) za1 (sd.tups ht) hp hso N3.hd N3.nd N3.mem N3.row
end
section
variable {P:Program} {w:World} {K:W.Frag} {mg:Str->Option Value} {base:Heap} {t:Adr}
noncomputable def zQ8 (n r:Int)(hs:List Int)(lim:Int)(s:List Int)(H:Hp)(e:List Int×V):Prop :=
 (e.1=s/\e.2 = .non)\/∃y d m i p,e.2 = .ref m/\zq3 H y m (i,p)/\Lets n r hs lim y i p/\e.1=y.set i p/\Dst n r hs lim s d y/\Dst n r hs lim s (d+1) e.1
theorem zQ8.same {n r:Int}{hs:List Int}{lim:Int}{s:List Int}{H H':Hp}{e:List Int×V}(h:zQ8 n r hs lim s H e)(k:∀b us,H b=some (.tup us)->H' b=some (.tup us)):zQ8 n r hs lim s H' e:=by
 rcases h with h | ⟨y,d,m,i,p,h1,h2,h3⟩
 . exact .inl h
 . exact .inr ⟨y,d,m,i,p,h1,k _ _ h2,h3⟩
inductive zQ9 (K:W.Frag)(t:Adr)(vs:List V)(H:Hp)(Q:VK)(E:XK):Prop
 | mk (g ld:Addr)(n r lim:Int)(hs s x:List Int)(d:Nat)(kv:List (List Int×V))(h0:vs=[.ref g,.ref ld])(h1:H g=some (.tup (x.map V.int)))(h2:H ld=some (.dT (dOf kv)))(h3:(kv.map (·.1)).Nodup)(h4:(∀e∈kv,zQ8 n r hs lim s H e))(h5:Dst n r hs lim s d x)(h6:(∀j y,j<=d->Dst n r hs lim s j y->y∈kv.map (·.1)))(h7:zc8 n r hs.length s)(h8:hs.length<=5)(h9:d<=1000)(h10:∀l H' rs ms,Same H H'->H l=none->H' l=some (.lst (rs.map V.ref))->zf4 H' s rs ms->Goes n r hs lim s ms x->ms.length=d->Q (.ref l) H'):zQ9 K t vs H Q E
noncomputable def zR0 (K:W.Frag)(t:Adr):Sp:=fun vs H Q E=>zQ9 K t vs H Q E
theorem ok_row_to (T:Txt K mg t):FnOk P w K mg base CX0 2 t.a4 t.br ["goal","led"] (zR0 K t):=by
 have Gaq:FnOk P w K mg base CX0 1 t.aq t.aB ["places","move"] (zu0 K t):=zA0 T
 have Gar:FnOk P w K mg base CX0 1 t.a0 t.bp ["move"] (zQ5 K t):=ok_turned T
 refine T.cX.ok zz4 (fun vs H Q E h=>?_) (fun cdv A outer s H vs Q E hr h=>?_)
 . obtain⟨g,ld,n,r,lim,hs,s,x,d,kv,rfl,hg,hd,nd,hled,hx,hcl,V0,hw,hd1,q⟩:=h
   rfl
 . obtain⟨g,ld,n,r,lim,hs,s,x,d,kv,rfl,hg,hd,nd,hled,hx,hcl,V0,hw,hd1,q⟩:=h
   have haq:Room 1 _:=hr.mono (by decide)
   have har:Room 1 _:=hr.mono (by decide)
   refine⟨_,(za4 (zb3 (i:=2) zz4.nd rfl (Or.inl rfl) (ze6 za3))
     (za4 (zb3 (i:=3) zz4.nd rfl (Or.inl rfl) (pv 0))
     (za4 (zJ7 PassesOwn.never (zc6 op_notN (zU6 (zv8 hr) (pv 1) (pv 3) (fun _ _=>rfl)) zE9 (zc5 _)) (za4 (zi9 (zv7 PySem.F.plainAttrs_list PySem.F.slot_list_append PySem.F.type_list_append zk6 (pv 2) (za0 (zU6 (zv8 hr) (pv 1) (pv 3) (fun _ _=>rfl)) za3)))
     (za6 (zb3 (i:=3) zz4.nd rfl (Or.inl rfl) (za7 Gaq haq rfl T.aN T.aO T.aM .nil zb4 (za0 (pv 3) (za0 (za7 Gar har rfl T.cP T.cQ T.cO .nil zb4 (za0 (zU6 (zv8 hr) (pv 1) (pv 3) (fun _ _=>rfl)) za3)) za3)))))))
     (za4 (zi9 (pe_bm0 PySem.F.plainAttrs_list PySem.F.slot_list_reverse PySem.F.type_list_reverse mt_reverse (pv 2)))
     (za6 (zb8 (pv 2))))))),?_⟩
   refine cut5 ?_
   intro rr5 rr4 rr3 rr2
   refine⟨Nat.zero_le _,fun rw_ frw=>?_⟩
   refine⟨_,rfl,?_⟩
   refine zJ9 (fun σ H'=>∃(st:Addr) (z:List Int) (rs:List Addr) (ms:List (Nat×Int)) (j:Nat),σ=[some (.ref g),some (.ref ld),some (.ref rw_),some (.ref st)]/\Same H H'/\H' rw_=some (.lst (rs.map V.ref))/\H' st=some (.tup (z.map V.int))/\zf4 H' z rs.reverse ms/\Goes n r hs lim z ms x/\Dst n r hs lim s j z/\j+ms.length=d)
     (fun σ H'=>match H' rw_ with | some (.lst us)=>d-us.length | _=>0) ⟨g,x,[],[],d,rfl,Same.upd frw,za1,by rw[za9 (zc1 hg frw)];exact hg,trivial,rfl,hx,rfl⟩ ?_ ?_
   . rintro σ H' ⟨st,z,rs,ms,j,rfl,s1,h1,h2,h3,h4,h5,h6⟩
     have hzk:=hcl j z (by omega) h5
     obtain⟨⟨z',v⟩,he,rfl⟩:=List.mem_map.mp hzk
     have hd':=s1 _ _ hd
     have g1:∀ {H2:Hp} {b:Addr},Same H' H2->H2 b=some (.tup (z'.map V.int))->DGet H2 ld (.ref b) (some v):=fun {H2 b} s2 hb=>by
       have:=dget (s2 _ _ hd') hb
       rw[zM5 nd he] at this
       exact this
     refine⟨_,rfl,_,rfl,ld,v,rfl,g1 (Same.refl _) h2,rfl,_,rfl,?_⟩
     rcases hled _ he with⟨e1,e2⟩ | ⟨y,d',m,i,p,e1,e2,e3,e4,e5,e6⟩
     . obtain rfl:v = .non:=e2
       refine iteF ?_
       have hj:j=0:=h5.uniq (by rw[show z'=s from e1];exact Dst.zero)
       obtain rfl:z'=s:=e1
       refine⟨_,rfl,.inl ⟨rfl,_,SqL.of h1⟩,rw_,_,rfl,rfl,h1,?_⟩
       refine⟨_,rfl,q rw_ _ rs.reverse ms (s1.put frw) frw ?_ ?_ h4 (by omega)⟩
       . rw[za1,List.map_reverse]
       . exact zf4.keepL h1 h3
     . have hv:v = .ref m:=e1
       subst hv
       refine iteT ?_
       have ez:z'=y.set i p:=e4
       have ej:j=d'+1:=h5.uniq e6
       have hrow:=s1 _ _ e2
       have hlr:rs.length=ms.length:=by rw[<-List.length_reverse];exact h3.len
       have Vy:=e5.1.valid V0
       have hly:y.length=hs.length:=Vy.len
       refine⟨_,rfl,.inl ⟨rfl,_,SqL.of h1⟩,_,rfl,_,rfl,ld,_,rfl,g1 (Same.refl _) h2,rw_,_,_,rfl,rfl,h1,zc7 (by rw[List.length_map];omega),?_⟩
       have k2:∀ {b:Addr} {us:List V},H' b=some (.tup us)->(upd H' rw_ (.lst (rs.map V.ref++[.ref m]))) b=some (.tup us):=fun hb=>by rw[za9 (fun z=>by rw[z,h1] at hb;cases hb)];exact hb
       have hd2:(upd H' rw_ (.lst (rs.map V.ref++[.ref m]))) ld=some (.dT (dOf kv)):=by rw[za9 (fun z=>by rw[z,h1] at hd';cases hd')];exact hd'
       have g2:DGet (upd H' rw_ (.lst (rs.map V.ref++[.ref m]))) ld (.ref st) (some (.ref m)):=by
         have:=dget hd2 (k2 h2)
         rw[zM5 nd he] at this
         exact this
       have h1':(upd H' rw_ (.lst (rs.map V.ref++[.ref m]))) rw_=some (.lst ((rs++[m]).map V.ref)):=by rw[za1,List.map_append];rfl
       have R2:zf4 (upd H' rw_ (.lst (rs.map V.ref++[.ref m]))) z' rs.reverse ms:=zf4.keepL h1 h3
       have s2:Same H (upd H' rw_ (.lst (rs.map V.ref++[.ref m]))):=s1.put frw
       have hst2:=k2 h2
       have hrow2:=k2 hrow
       revert g2 h1' R2 s2 hst2 hrow2 hd2
       generalize upd H' rw_ (.lst (rs.map V.ref++[.ref m]))=H2
       intro hd2 g2 h1' R2 s2 hst2 hrow2
       refine⟨_,rfl,_,rfl,_,rfl,ld,_,rfl,g2,m,_,_,_,rfl,.inr (SqT.of hrow2),fun lt flt=>?_⟩
       have s3:Same H2 (upd H2 lt (.tup [.int ((i:Int)+1),.int p,.int (y.getD i 0)])):=Same.upd flt
       have h3':(upd H2 lt (.tup [.int ((i:Int)+1),.int p,.int (y.getD i 0)])) lt=some (.tup [.int ((i:Int)+1),.int p,.int (y.getD i 0)]):=za1
       dsimp only
       revert s3 h3'
       generalize upd H2 lt (.tup [.int ((i:Int)+1),.int p,.int (y.getD i 0)])=H3
       intro s3 h3'
       refine⟨st,lt,_,_,y.getD i 0,i,z',rfl,s3 _ _ hst2,.inr (SqT.of h3'),⟨rfl,by rw[ez,List.length_set];exact e3.lt,by rw[ez,List.length_set];omega⟩,fun l4 H4 s4 h4'=>?_⟩
       have ey:z'.set i (y.getD i 0)=y:=by rw[ez];exact set_back p e3.lt
       rw[ey] at h4'
       have s24:=s3.trans s4
       refine⟨⟨l4,y,rs++[m],(i,p)::ms,d',rfl,s2.trans s24,s24 _ _ h1',h4',?_,⟨e3,by rw[<-ez];exact h4⟩,e5,by simp;omega⟩,?_⟩
       . rw[List.reverse_append]
         refine⟨s24 _ _ hrow2,?_⟩
         rw[<-ez]
         exact R2.same s24
       . rw[s24 _ _ h1',h1]
         simp
         omega
   . rintro σ H' Q1 Q2 hQ ⟨_,e1,_,e2,a1,v1,e3,e4,e5,k,e6,e7⟩
     exact⟨_,e1,_,e2,a1,v1,e3,e4,e5,k,e6,hQ _ _ e7⟩
noncomputable def wsOf (ms:List (Nat×Int)):List Int:=ms.map fun m=>(m.1:Int)+1
inductive zx8 (K:W.Frag)(t:Adr)(vs:List V)(H:Hp)(Q:VK)(E:XK):Prop
 | mk (rw_:Addr)(x:List Int)(rs:List Addr)(ms:List (Nat×Int))(h0:vs=[.ref rw_])(h1:H rw_=some (.lst (rs.map V.ref)))(h2:zf4 H x rs ms)(h3:(∀m∈ms,m.1<5))(h4:ms.length<=1000)(h5:∀(l:Addr) (H':Hp) (ag:List Int),Same H H'->H l=none->H' l=some (.lst (ag.map V.int))->ag.Pairwise (· < ·)->(∀k,k∈ag↔k∈wsOf ms/\1<(wsOf ms).count k)->Q (.ref l) H'):zx8 K t vs H Q E
noncomputable def zx9 (K:W.Frag)(t:Adr):Sp:=fun vs H Q E=>zx8 K t vs H Q E
theorem zf4.at_ {H:Hp}:∀ {x:List Int} {rs:List Addr} {ms:List (Nat×Int)},zf4 H x rs ms->∀ {j:Nat} {a:Addr},rs[j]?=some a->∃m u v,ms[j]?=some m/\H a=some (.tup [.int ((m.1:Int)+1),u,v])
 | _,[],[],_,j,a,h=>by simp at h
 | _,[],_::_,h,_,_,_=>h.elim
 | _,_::_,[],h,_,_,_=>h.elim
 | x,b::rs,m::ms,h,0,a,e=>by
   have e':some b=some a:=e
   obtain rfl:=Option.some.inj e'
   exact⟨m,_,_,rfl,h.1⟩
 | x,b::rs,m::ms,h,j+1,a,e=>by
   obtain⟨m',u,v,e1,e2⟩:=zf4.at_ h.2 (j:=j) (a:=a) (by simpa using e)
   exact⟨m',u,v,by simpa using e1,e2⟩
theorem ok_moved_again (T:Txt K mg t):FnOk P w K mg base CX0 1 t.ao t.aH ["row"] (zx9 K t):=by
 refine T.cb.ok zx3 (fun vs H Q E h=>?_) (fun cdv A outer s H vs Q E hr h=>?_)
 . obtain⟨rw_,x,rs,ms,rfl,hr0,R0,h5,hml,q⟩:=h
   rfl
 . obtain⟨rw_,x,rs,ms,rfl,hr0,R0,h5,hml,q⟩:=h
   refine⟨_,(za4 (zb3 (i:=1) zx3.nd rfl (Or.inr rfl) (zm9 rfl zt7 (zg1 (pv 0)) (fun _ _ _ _ _=>(zc4 (i:=0) zt7.nd rfl (Or.inl rfl))) (fun _ _ _ _ _=>zi5) (fun _ _ _ _ _=>(zd3 (zq8 K rfl) (pv 0) za2 (fun _ _=>rfl)))))
     (za6 (zb8 (zb0 (call_sortS rfl) rfl T.aW PyProof.Rows.boot_sorted (za0 (zg3 (call_setI rfl) rfl T.dO PyProof.Rows.boot_set (za0 (zm9 rfl zt8 (zg1 (pv 1)) (fun _ _ _ _ _=>(zc4 (i:=0) zt8.nd rfl (Or.inl rfl))) (fun _ _ _ _ _=>(zW7 (zc6 zA2 (yj0 K rfl PySem.F.plainAttrs_list PySem.F.slot_list_count PySem.F.type_list_count (mt_countLK K rfl) (pv 1) (za0 (pv 0) za3)) za2 (zc5 _)))) (fun _ _ _ _ _=>(pv 0))) za3)) za3))))),?_⟩
   have hlen:=R0.len
   refine⟨_,rfl,rw_,rfl,⟨_,SqL.of hr0⟩,fun D hD=>?_⟩
   refine zm3 (K:=K) (a:=rw_) (xs:=rs.map V.ref) (fun j H'=>H'=upd H D (.lst ((wsOf (ms.take j)).map V.int))) rfl (fun j H' e=>by rw[e];exact SqL.of (by rw[za9 (zc1 hr0 hD)];exact hr0)) ?_ ?_
   . rintro j v H' N hj rfl hN
     have hj':j<rs.length:=by
       have:=(List.getElem?_eq_some_iff.mp hj).1
       simpa using this
     obtain rfl:v = .ref rs[j]:=by
       rw[List.getElem?_map,List.getElem?_eq_getElem hj'] at hj
       exact(Option.some.inj hj).symm
     obtain⟨m,u,w',e1,e2⟩:=R0.at_ (List.getElem?_eq_getElem hj')
     have etk:ms.take (j+1)=ms.take j++[m]:=by rw[List.take_succ,e1];rfl
     have e2':(upd H D (.lst ((wsOf (ms.take j)).map V.int))) rs[j]=some (.tup [.int ((m.1:Int)+1),u,w']):=by rw[za9 (zc1 e2 hD)];exact e2
     dsimp only[zw3]
     refine iteT ?_
     refine⟨_,rfl,_,_,_,_,rfl,rfl,SqT.of e2',rfl,_,za1,zc7 (by unfold wsOf;rw[List.length_map,List.length_map,List.length_take];omega),hN _ ?_⟩
     rw[zk5,etk]
     unfold wsOf
     rw[List.map_append,List.map_append]
     rfl
   . rintro H' rfl
     rw[List.length_map,hlen,List.take_length]
     have s1:Same H (upd H D (.lst ((wsOf ms).map V.int))):=Same.upd hD
     have h1:(upd H D (.lst ((wsOf ms).map V.int))) D=some (.lst ((wsOf ms).map V.int)):=za1
     have hw5:∀k∈wsOf ms,1<=k/\k<=5:=fun k hk=>by
       unfold wsOf at hk
       obtain⟨m,hm,rfl⟩:=List.mem_map.mp hk
       have:=h5 m hm
       omega
     have hwl:(wsOf ms).length<=1000:=by unfold wsOf;rw[List.length_map];omega
     generalize wsOf ms=ws at *
     revert s1 h1
     generalize upd H D (.lst (ws.map V.int))=H1
     intro s1 h1
     refine⟨_,rfl,D,rfl,⟨_,SqL.of h1⟩,fun E hE=>?_⟩
     refine zm3 (K:=K) (a:=D) (xs:=ws.map V.int) (fun j H'=>H'=upd H1 E (.lst (((ws.take j).filter fun k=>decide (1<ws.count k)).map V.int))) rfl (fun j H' e=>by rw[e];exact SqL.of (by rw[za9 (zc1 h1 hE)];exact h1)) ?_ ?_
     . rintro j v H' N hj rfl hN
       obtain⟨z,rfl,hz⟩:=int_at hj
       have etk:ws.take (j+1)=ws.take j++[z]:=by rw[List.take_succ,hz];rfl
       have h1':(upd H1 E (.lst (((ws.take j).filter fun k=>decide (1<ws.count k)).map V.int))) D=some (.lst (ws.map V.int)):=by rw[za9 (zc1 h1 hE)];exact h1
       refine⟨_,rfl,.inl ⟨rfl,_,SqL.of h1'⟩,_,rfl,D,ws,z,rfl,rfl,SqL.of h1',_,_,rfl,rfl,_,rfl,?_⟩
       have ec:decide ((1:Int)<(ws.count z:Int))=decide (1<ws.count z):=by
         by_cases h:1<ws.count z
         . rw[decide_eq_true h,decide_eq_true (by omega)]
         . rw[decide_eq_false h,decide_eq_false (by omega)]
       rw[ec]
       refine ite2 (fun hc=>?_) (fun hc=>?_)
       . refine⟨_,rfl,_,za1,zc7 (by rw[List.length_map];exact Nat.le_trans (List.length_filter_le _ _) (by rw[List.length_take];omega)),hN _ ?_⟩
         rw[zk5,etk,List.filter_append,List.map_append]
         simp[hc]
       . refine hN _ ?_
         rw[etk,List.filter_append,List.map_append]
         simp[hc]
     . rintro H' rfl
       rw[List.length_map,List.take_length]
       have s2:Same H1 (upd H1 E (.lst ((ws.filter fun k=>decide (1<ws.count k)).map V.int))):=Same.upd hE
       have h2:(upd H1 E (.lst ((ws.filter fun k=>decide (1<ws.count k)).map V.int))) E=some (.lst ((ws.filter fun k=>decide (1<ws.count k)).map V.int)):=za1
       revert s2 h2
       generalize upd H1 E (.lst ((ws.filter fun k=>decide (1<ws.count k)).map V.int))=H2
       intro s2 h2
       refine⟨E,_,rfl,SqL.of h2,fun k hk=>hw5 k (List.mem_filter.mp hk).1,fun S ag fS hag up=>?_⟩
       have s3:∀ {o:HO},Same H2 (upd H2 S o):=Same.upd fS
       refine⟨S,ag,rfl,za1,fun l fl=>?_⟩
       refine q l _ ag (((s1.trans s2).trans s3).updT fl) ?_ za1 up fun k=>?_
       . exact((s1.trans s2).trans s3).free fl
       . rw[hag,List.mem_filter,decide_eq_true_eq]
end
section
variable {P:Program} {w:World} {K:W.Frag} {mg:Str->Option Value} {base:Heap} {t:Adr}
noncomputable def zu2 (v1 v2 v3 v4 v5 v6:V):List (Str×V):=putF "shut" v6 (putF "again" v5 (putF "layers" v4 (putF "row" v3 (putF "many" v2 (putF "reached" v1 [])))))
theorem zh5 (v1 v2 v3 v4 v5 v6:V):(zu2 v1 v2 v3 v4 v5 v6).lookup ("reached" : Str)=some v1:=by
 unfold zu2
 rw[zb1,if_neg (by decide +kernel),zb1,if_neg (by decide +kernel),zb1,if_neg (by decide +kernel),zb1,if_neg (by decide +kernel),zb1,if_neg (by decide +kernel),zb1,if_pos rfl]
theorem zE5 (v1 v2 v3 v4 v5 v6:V):(zu2 v1 v2 v3 v4 v5 v6).lookup ("many" : Str)=some v2:=by
 unfold zu2
 rw[zb1,if_neg (by decide +kernel),zb1,if_neg (by decide +kernel),zb1,if_neg (by decide +kernel),zb1,if_neg (by decide +kernel),zb1,if_pos rfl]
theorem zH0 (v1 v2 v3 v4 v5 v6:V):(zu2 v1 v2 v3 v4 v5 v6).lookup ("row" : Str)=some v3:=by
 unfold zu2
 rw[zb1,if_neg (by decide +kernel),zb1,if_neg (by decide +kernel),zb1,if_neg (by decide +kernel),zb1,if_pos rfl]
theorem zu3 (v1 v2 v3 v4 v5 v6:V):(zu2 v1 v2 v3 v4 v5 v6).lookup ("layers" : Str)=some v4:=by
 unfold zu2
 rw[zb1,if_neg (by decide +kernel),zb1,if_neg (by decide +kernel),zb1,if_pos rfl]
theorem zV4 (v1 v2 v3 v4 v5 v6:V):(zu2 v1 v2 v3 v4 v5 v6).lookup ("shut" : Str)=some v6:=by
 unfold zu2
 rw[zb1,if_pos rfl]
inductive zI0 (K:W.Frag)(t:Adr)(vs:List V)(H:Hp)(Q:VK)(E:XK):Prop
 | mk (p dx:Addr)(v1 v2 v3 v4 v5 v6:V)(h0:vs=[.ref p,v1,v2,v3,v4,v5,v6])(h1:H p=some (.ins t.ad dx []))(h2:∀H',H' p=some (.ins t.ad dx (zu2 v1 v2 v3 v4 v5 v6))->zg9 p H H'->Q .non H'):zI0 K t vs H Q E
noncomputable def zI1 (K:W.Frag)(t:Adr):Sp:=fun vs H Q E=>zI0 K t vs H Q E
theorem ok_Way_init (T:Txt K mg t):FnOk P w K mg base CX0 1 t.aJ t.a1 ["self","reached","many","row","layers","again","shut"] (zI1 K t):=by
 refine T.cx.ok sc_Way_init (fun vs H Q E h=>?_) (fun cdv A outer s H vs Q E hr h=>?_)
 . obtain⟨p,dx,v1,v2,v3,v4,v5,v6,rfl,hp,q⟩:=h
   rfl
 . obtain⟨p,dx,v1,v2,v3,v4,v5,v6,rfl,hp,q⟩:=h
   refine⟨_,(za4 (zm1 (pv 0) (pv 1) rfl)
     (za4 (zm1 (pv 0) (pv 2) rfl)
     (za4 (zm1 (pv 0) (pv 3) rfl)
     (za4 (zm1 (pv 0) (pv 4) rfl)
     (za4 (zm1 (pv 0) (pv 5) rfl)
     (za6 (zm1 (pv 0) (pv 6) rfl))))))),?_⟩
   refine cut6 ?_
   intro rr6 rr5 rr4 rr3 rr2
   refine⟨_,rfl,_,rfl,p,_,dx,_,rfl,hp,T.aa,T.ac,by decide,?_⟩
   refine⟨_,rfl,_,rfl,p,_,dx,_,rfl,za1,T.aa,T.ap,zn6 fl0,?_⟩
   refine⟨_,rfl,_,rfl,p,_,dx,_,rfl,za1,T.aa,T.an,zn6 (flS fl0),?_⟩
   refine⟨_,rfl,_,rfl,p,_,dx,_,rfl,za1,T.aa,T.am,zn6 (flS (flS fl0)),?_⟩
   refine⟨_,rfl,_,rfl,p,_,dx,_,rfl,za1,T.aa,T.cs,zn6 (flS (flS (flS fl0))),?_⟩
   refine⟨_,rfl,_,rfl,p,_,dx,_,rfl,za1,T.aa,T.aC,zn6 (flS (flS (flS (flS fl0)))),?_⟩
   refine q _ za1 fun b o e hb=>?_
   rw[za9 hb,za9 hb,za9 hb,za9 hb,za9 hb,za9 hb]
   exact e
noncomputable def yl2 (t:Adr)(H:Hp)(a:Addr)(reached:Bool)(many:V)(row layers again shut:Addr):Prop:=∃dx,H a=some (.ins t.ad dx (zu2 (.bl reached) many (.ref row) (.ref layers) (.ref again) (.ref shut)))
noncomputable abbrev Lay (H:Hp)(as:List Addr)(Ls:List (List (List Int))):Prop:=Paired (fun a L=>∃ys,H a=some (.lst ys)/\Tups H ys L) as Ls
theorem Lay.keep {H H':Hp}(k:∀b o,H b=some o->H' b=some o){as:List Addr}{Ls:List (List (List Int))}(h:Lay H as Ls):Lay H' as Ls:=Paired.mapP h fun a L ⟨ys,h1,h2⟩=>⟨ys,k _ _ h1,Paired.mapP h2 fun y x ⟨b,e,hb⟩=>⟨b,e,k _ _ hb⟩⟩
structure zk4 (n r:Int)(hs:List Int)(lim:Int)(s:List Int)(Ls:List (List (List Int))):Prop where
 mem:∀j L,Ls[j]?=some L->∀x,x∈L↔Dst n r hs lim s j x
 srt:∀L∈Ls,L.Pairwise fun x y=>Sx.lexB x y=true
noncomputable def zv3 (t:Adr)(H:Hp)(a:Addr)(n r:Int)(hs:List Int)(lim:Int)(s g:List Int):Prop :=
 (∃d rw_ rs ms la as Ls ag ags sh,Dst n r hs lim s d g/\yl2 t H a true (.int (d:Int)) rw_ la ag sh/\H rw_=some (.lst (rs.map V.ref))/\zf4 H s rs ms/\Goes n r hs lim s ms g/\ms.length=d/\H la=some (.lst (as.map V.ref))/\Lay H as Ls/\Ls.length=d+1/\zk4 n r hs lim s Ls ∧
   H ag=some (.lst (List.map V.int ags))/\ags.Pairwise (· < ·)/\(∀k,k∈ags↔k∈wsOf ms/\1<(wsOf ms).count k)/\H sh=some (.lst [])) ∨
 ((∀d,¬ Dst n r hs lim s d g)/\∃rw_ la as Ls ag sh zs S,yl2 t H a false .non rw_ la ag sh/\H rw_=some (.lst [])/\H la=some (.lst (as.map V.ref))/\Lay H as Ls/\zk4 n r hs lim s Ls/\(∀d,d<Ls.length↔∃x,Dst n r hs lim s d x) ∧
   H ag=some (.lst [])/\H sh=some (.lst zs)/\Tups H zs S/\S.Pairwise (fun x y=>Sx.lexB x y=true)/\∀x,x∈S↔∃d,Dst n r hs lim s d x)
structure SI (n r:Int)(hs:List Int)(lim:Int)(s:List Int)(H:Hp)(la ld:Addr)(as:List Addr)(Ls:List (List (List Int)))(kv:List (List Int×V))(i:Nat):Prop where
 hla:H la=some (.lst (as.map V.ref))
 nla:la∉as
 lay:Lay H as Ls
 len:Ls.length=i+1
 lof:zk4 n r hs lim s Ls
 hd:H ld=some (.dT (dOf kv))
 nd:(kv.map (·.1)).Nodup
 key:∀x,x∈kv.map (·.1)↔∃j,j<=i/\Dst n r hs lim s j x
 led:∀e∈kv,zQ8 n r hs lim s H e
theorem atI_neg1 {α:Type}{xs:List α}{x:α}:atI (xs++[x]) (-1)=some x:=by
 unfold atI ixN
 rw[List.length_append,List.length_singleton,if_neg (by omega),if_pos (by omega)]
 simp
 rw[show(-1+((xs.length:Int)+1)).toNat=xs.length by omega]
 simp
theorem lexB_irr (x:List Int):Sx.lexB x x=false:=by
 cases h:Sx.lexB x x with
 | false=>rfl
 | true=>have:=Sx.lexB_as h;rw[h] at this;cases this
theorem zg2 {G:List (List Int)}(h:G.Pairwise fun x y=>Sx.lexB x y=true):G.Nodup:=h.imp fun {a b} z e=>by
 subst e
 rw[lexB_irr] at z
 cases z
theorem Goes.lt {n r:Int}{hs:List Int}{lim:Int}{w:Nat}:∀ {x:List Int} {ms:List (Nat×Int)} {y:List Int},Goes n r hs lim x ms y->x.length=w->∀m∈ms,m.1<w
 | _,[],_,_,_,m,hm=>nomatch hm
 | x,m'::ms,y,h,hw,m,hm=>by
   rcases List.mem_cons.mp hm with rfl | hm
   . rw[<-hw];exact h.1.lt
   . exact Goes.lt h.2 (by rw[List.length_set];exact hw) m hm
inductive zR1 (K:W.Frag)(t:Adr)(vs:List V)(H:Hp)(Q:VK)(E:XK):Prop
 | mk (b st go:Addr)(n r lim:Int)(hs s g:List Int)(h0:vs=[.ref b,.ref st,.ref go])(h1:zf5 t H b n r hs lim)(h2:zc8 n r hs.length s)(h3:H st=some (.tup (s.map V.int)))(h4:H go=some (.tup (g.map V.int)))(h5:∀a H',Same H H'->zv3 t H' a n r hs lim s g->Q (.ref a) H'):zR1 K t vs H Q E
noncomputable def zR2 (K:W.Frag)(t:Adr):Sp:=fun vs H Q E=>zR1 K t vs H Q E
theorem ok_search (T:Txt K mg t):FnOk P w K mg base CX0 8 t.a3 t.bq ["beam","start","goal"] (zR2 K t):=by
 have Gat:FnOk P w K mg base CX0 2 t.a4 t.br ["goal","led"] (zR0 K t):=ok_row_to T
 have Gau:FnOk P w K mg base CX0 1 t.aJ t.a1 ["self","reached","many","row","layers","again","shut"] (zI1 K t):=ok_Way_init T
 have Gav:FnOk P w K mg base CX0 7 t.aw t.aM ["beam","layer","led"] (zA9 K t):=ok_next_layer T
 have Gaw:FnOk P w K mg base CX0 1 t.ao t.aH ["row"] (zx9 K t):=ok_moved_again T
 refine T.cT.ok zt6 (fun vs H Q E h=>?_) (fun cdv A outer s H vs Q E hr h=>?_)
 . obtain⟨b,st,go,n,r,lim,hs,s,g,rfl,B,V0,hst,hgo,q⟩:=h
   rfl
 . obtain⟨b,st,go,n,r,lim,hs,s,g,rfl,B,V0,hst,hgo,q⟩:=h
   have hat:Room 2 _:=hr.mono (by decide)
   have hay:Room 2 _:=hr.mono (by decide)
   have hav:Room 7 _:=hr.mono (by decide)
   have haw:Room 1 _:=hr.mono (by decide)
   refine⟨_,(za4 (zb3 (i:=3) zt6.nd rfl (Or.inl rfl) (ze6 (za0 (ze6 (za0 (pv 1) za3)) za3)))
     (za4 (zb3 (i:=4) zt6.nd rfl (Or.inl rfl) (pe_disp1 (zv8 hr) (pv 1) zE9))
     (za4 (zJ7 PassesOwn.never (yb5 (zF7 (zv8 hr) (pv 2) (pv 4))) (za4 (zb3 (i:=5) zt6.nd rfl (Or.inl rfl) (za7 Gav hav rfl T.ci T.cj T.ch .nil zb4 (za0 (pv 0) (za0 (zd3 zd6 (pv 3) (zl7 zi1 za2) (fun _ _=>rfl)) (za0 (pv 4) za3)))))
     (za4 (zd1 (zc6 zl8 (zb0 zb7 rfl T.ad PySem.boot_len (za0 (pv 5) za3)) za2 (zc5 _)) (za6 (zb8 (zC0 T.cr Gau hay rfl T.bF T.bf .nil zb4 (za0 zg8 (za0 zE9 (za0 (ze6 za3) (za0 (pv 3) (za0 (ze6 za3) (za0 (zb0 (call_sortD rfl) rfl T.aW PyProof.Rows.boot_sorted (za0 (pv 4) za3)) za3))))))))) zb9)
     (za6 (zi9 (zv7 PySem.F.plainAttrs_list PySem.F.slot_list_append PySem.F.type_list_append zk6 (pv 3) (za0 (pv 5) za3)))))))
     (za4 (zb3 (i:=6) zt6.nd rfl (Or.inl rfl) (za7 Gat hat rfl T.cZ T.c0 T.cY .nil zb4 (za0 (pv 2) (za0 (pv 4) za3))))
     (za6 (zb8 (zC0 T.cr Gau hay rfl T.bF T.bf .nil zb4 (za0 zg8 (za0 (zb0 zb7 rfl T.ad PySem.boot_len (za0 (pv 6) za3)) (za0 (pv 6) (za0 (pv 3) (za0 (za7 Gaw haw rfl T.cd T.ce T.cc .nil zb4 (za0 (pv 6) za3)) (za0 (ze6 za3) za3))))))))))))),?_⟩
   refine cut5 ?_
   intro rr5 rr4 rr3 rr2
   refine⟨_,rfl,(by show 1<=sizeLine;decide),fun l0 f0=>⟨(by show 1<=sizeLine;decide),fun la fla=>?_⟩⟩
   have fla0:H la=none:=(Same.upd f0).free fla
   have nl0:l0≠la:=fun z=>by rw[<-z,za1] at fla;cases fla
   have s2:Same H (upd (upd H l0 (.lst [.ref st])) la (.lst [.ref l0])):=(Same.upd f0).updT fla
   have h0:(upd (upd H l0 (.lst [.ref st])) la (.lst [.ref l0])) l0=some (.lst [.ref st]):=by rw[za9 nl0];exact za1
   have hla0:(upd (upd H l0 (.lst [.ref st])) la (.lst [.ref l0])) la=some (.lst [.ref l0]):=za1
   dsimp only
   revert s2 h0 hla0
   generalize upd (upd H l0 (.lst [.ref st])) la (.lst [.ref l0])=H2
   intro s2 h0 hla0
   refine fun ld fld=>⟨_,rfl,za1,st,s,rfl,by rw[za9 (zc1 (s2 _ _ hst) fld)];exact s2 _ _ hst,?_⟩
   have fld0:H ld=none:=s2.free fld
   rw[zk5]
   have s3:Same H2 (upd H2 ld (.dT [(ik s,.non)])):=Same.upd fld
   have hd3:(upd H2 ld (.dT [(ik s,.non)])) ld=some (.dT (dOf [(s,.non)])):=za1
   revert s3 hd3
   generalize upd H2 ld (.dT [(ik s,.non)])=H3
   intro s3 hd3
   have okw:=B.1.w
   have I0:SI n r hs lim s H3 la ld [l0] [[s]] [(s,.non)] 0:=by
     refine⟨s3 _ _ hla0,by simpa using nl0.symm,.cons ⟨_,s3 _ _ h0,.cons ⟨st,rfl,s3 _ _ (s2 _ _ hst)⟩ .nil⟩ .nil,rfl,⟨fun j L e x=>?_,fun L hL=>?_⟩,hd3,by simp,fun x=>?_,fun e he=>?_⟩
     . match j,e with
       | 0,e =>
         obtain rfl:[s]=L:=Option.some.inj e
         rw[List.mem_singleton]
         exact⟨fun z=>z▸Dst.zero,fun z=>by obtain⟨w0,_⟩:=z;cases w0;rfl⟩
       | j+1,e=>simp at e
     . obtain rfl:L=[s]:=by simpa using hL
       exact List.pairwise_singleton _ _
     . constructor
       . intro hx
         obtain rfl:x=s:=by simpa using hx
         exact⟨0,Nat.le_refl _,Dst.zero⟩
       . rintro⟨j,hj,hx⟩
         obtain rfl:j=0:=by omega
         obtain⟨w0,_⟩:=hx
         cases w0
         simp
     . obtain rfl:e=(s,.non):=by simpa using he
       exact .inl ⟨rfl,rfl⟩
   have few_:∀ {H':Hp} {as:List Addr} {Ls:List (List (List Int))} {kv:List (List Int×V)} {i:Nat},SI n r hs lim s H' la ld as Ls kv i->kv.length<=1000:=fun {H' as Ls kv i} I=>by
     have:=few B.1 I.nd fun x hx=>by obtain⟨j,_,hj⟩:=(I.key x).mp hx;exact hj.1.valid V0
     rw[List.length_map] at this
     exact this
   refine zJ9 (fun σ H'=>∃v5 as Ls kv i,σ=[some (.ref b),some (.ref st),some (.ref go),some (.ref la),some (.ref ld),v5,none]/\Same H H'/\SI n r hs lim s H' la ld as Ls kv i/\i<kv.length/\(∃x,Dst n r hs lim s i x)/\∀j,j<i->¬ Dst n r hs lim s j g)
     (fun σ H'=>match H' ld with | some (.dT k)=>1001-k.length | _=>0) ⟨none,_,_,_,0,rfl,s2.trans s3,I0,by show 0<1;decide,⟨s,Dst.zero⟩,fun j hj=>absurd hj (Nat.not_lt_zero _)⟩ ?_ ?_
   . rintro σ H4 ⟨v5,as,Ls,kv,i,rfl,s4,I4,hik,hne,hng⟩
     have hkl:=few_ I4
     refine⟨_,rfl,_,rfl,ld,_,rfl,dget I4.hd (s4 _ _ hgo),_,rfl,?_⟩
     rw[yb8 I4.nd]
     refine ite2 (fun h1=>?_) (fun h1=>?_)
     . have hgn:g∉kv.map (·.1):=fun z=>by rw[decide_eq_true z] at h1;cases h1
       obtain⟨as',al,rfl⟩:∃as' al,as=as'++[al]:=by
         have hl:=I4.lay
         have:as.length=Ls.length:=Paired.length hl
         have h0:as≠[]:=fun z=>by rw[z,I4.len] at this;cases this
         exact⟨as.dropLast,as.getLast h0,(List.dropLast_concat_getLast h0).symm⟩
       obtain⟨Ls',Ll,rfl⟩:∃Ls' Ll,Ls=Ls'++[Ll]:=by
         have h0:Ls≠[]:=fun z=>by have:=I4.len;rw[z] at this;cases this
         exact⟨Ls.dropLast,Ls.getLast h0,(List.dropLast_concat_getLast h0).symm⟩
       have hlen':Ls'.length=i:=by have:=I4.len;simpa using this
       obtain⟨ys,hal,htl⟩:∃ys,H4 al=some (.lst ys)/\Tups H4 ys Ll:=by
         have key:∀ {a1:List Addr} {l1:List (List (List Int))} {a:Addr} {l:List (List Int)},Lay H4 (a1++[a]) (l1++[l])->∃ys,H4 a=some (.lst ys)/\Tups H4 ys l:=by
           intro a1 l1 a l h
           have h':Paired (fun a L=>∃ys,H4 a=some (.lst ys)/\Tups H4 ys L) (a1++[a]) (l1++[l]):=h
           have hl:(a1++[a]).length=(l1++[l]).length:=Paired.length h'
           clear h
           induction a1 generalizing l1 with
           | nil =>
             cases l1 with
             | nil=>cases h' with | cons x _=>exact x
             | cons _ _=>simp at hl
           | cons _ a1 ih =>
             cases l1 with
             | nil=>simp at hl
             | cons _ l1=>cases h' with | cons _ t=>exact ih t (by simpa using hl)
         exact key I4.lay
       have hLl:∀x,x∈Ll↔Dst n r hs lim s i x:=I4.lof.mem i Ll (by rw[<-hlen'];simp)
       refine⟨_,rfl,_,rfl,_,rfl,la,_,_,_,rfl,rfl,SqL.of I4.hla,by rw[List.map_append];exact atI_neg1,_,rfl,b,al,ld,n,r,lim,hs,Ll,ys,kv,rfl,B.same s4,hal,htl,fun x hx=>((hLl x).mp hx).1.valid V0,I4.hd,I4.nd,fun x hx=>(by obtain⟨j,_,hj⟩:=(I4.key x).mp hx;exact hj.1.valid V0),fun l5 H5 zs G F sx5 fl5 hl5 ht5 hp5 hs5 hd5 nd5 hm5 hr5=>?_⟩
       have s5:Same H H5:=zg9.same s4 fld0 sx5
       have hF:∀y,y∈F.map (·.1)↔Dst n r hs lim s (i+1) y:=fun y=>by
         rw[hm5,dst_next,I4.key]
         constructor
         . rintro⟨h1,x,h2,h3⟩;exact⟨h1,x,(hLl x).mp h2,h3⟩
         . rintro⟨h1,x,h2,h3⟩;exact⟨h1,x,(hLl x).mpr h2,h3⟩
       have k5:∀ {c:Addr} {o:HO},H4 c=some o->(∀k,o≠.dT k)->H5 c=some o:=fun e ne=>sx5 _ _ e (fun z=>by rw[z,I4.hd] at e;injection e with e;exact ne _ e.symm)
       have hla5:H5 la=some (.lst ((as'++[al]).map V.ref)):=k5 I4.hla (fun k z=>nomatch z)
       have lay5:Lay H5 (as'++[al]) (Ls'++[Ll]):=Paired.mapP I4.lay fun a L ⟨ys,h1,h2⟩=>⟨ys,k5 h1 (fun k z=>nomatch z),Paired.mapP h2 fun y x ⟨b,e,hb⟩=>⟨b,e,k5 hb (fun k z=>nomatch z)⟩⟩
       have led5:∀e∈kv,zQ8 n r hs lim s H5 e:=fun e he=>(I4.led e he).same fun b us hb=>k5 hb (fun k z=>nomatch z)
       have hfew5:(kv++F).length<=1000:=by
         have:=few B.1 nd5 fun x hx=>by
           rw[List.map_append] at hx
           rcases List.mem_append.mp hx with z | z
           . obtain⟨j,_,hj⟩:=(I4.key x).mp z;exact hj.1.valid V0
           . exact((hF x).mp z).1.valid V0
         rw[List.length_map] at this
         exact this
       have hGz:G.length=zs.length:=(zn4 ht5).symm
       have hGF:G.length=F.length:=by rw[hp5.length_eq,List.length_map]
       refine⟨_,rfl,l5,_,rfl,.inl (SqL.of hl5),rfl,_,rfl,?_⟩
       rw[zf7]
       refine ite2 (fun h2=>?_) (fun h2=>?_)
       . -- shut
         have hz0:zs.length=0:=by simpa using h2
         have hF0:F=[]:=List.eq_nil_of_length_eq_zero (by omega)
         subst hF0
         rw[List.append_nil] at hd5 nd5
         have none_:∀e,i<e->∀y,¬ Dst n r hs lim s e y:=dst_none fun y hy=>by have:=(hF y).mpr hy;simp at this
         have all_:∀x,x∈kv.map (·.1)↔∃d,Dst n r hs lim s d x:=fun x=>by
           rw[I4.key]
           exact⟨fun⟨j,_,h⟩=>⟨j,h⟩,fun⟨j,h⟩=>⟨j,Nat.not_lt.mp fun z=>none_ j z x h,h⟩⟩
         refine⟨Nat.zero_le _,fun lr flr=>⟨_,rfl,Nat.zero_le _,fun lg flg=>⟨_,rfl,?_⟩⟩⟩
         have s6:=((Same.refl H5).updT (o:=.lst []) flr).updT (o:=.lst []) flg
         have hlr:(upd (upd H5 lr (.lst [])) lg (.lst [])) lr=some (.lst []):=Same.upd flg _ _ za1
         have hlg:(upd (upd H5 lr (.lst [])) lg (.lst [])) lg=some (.lst []):=za1
         revert s6 hlr hlg
         generalize upd (upd H5 lr (.lst [])) lg (.lst [])=H6
         intro s6 hlr hlg
         refine⟨ld,_,_,rfl,s6 _ _ hd5,dOf_keys kv,nd5,fun h2' k hk=>?_,fun ls zs' S fls ht hp hso=>?_⟩
         . intro z
           rw[List.length_map] at h2'
           obtain⟨j,_,hj⟩:=(I4.key k).mp hk
           have hw0:hs.length=0:=by have:=(hj.1.valid V0).len;rw[z] at this;exact this.symm
           have one:∀e∈kv.map (·.1),e=[]:=fun e he=>by
             obtain⟨j',_,hj'⟩:=(I4.key e).mp he
             exact List.eq_nil_of_length_eq_zero ((hj'.1.valid V0).len.trans hw0)
           have lk:(kv.map (·.1)).length=kv.length:=List.length_map _
           have nd':=nd5
           generalize kv.map (·.1)=ks at nd' one lk
           match ks,nd',one with
           | [],_,_=>simp at lk;omega
           | [_],_,_=>simp at lk;omega
           | x1::x2::_,nd',one' =>
             have e1:=one' x1 (.head _)
             have e2:=one' x2 (.tail _ (.head _))
             rw[e1,e2] at nd'
             simp at nd'
         . have s7:Same H6 (upd H6 ls (.lst zs')):=Same.upd fls
           have hls:(upd H6 ls (.lst zs')) ls=some (.lst zs'):=za1
           have ht7:=s7.tups ht
           revert s7 hls ht7
           generalize upd H6 ls (.lst zs')=H7
           intro s7 hls ht7
           refine fun a dx fa fdx ndx=>?_
           have s8:Same H7 (upd (upd H7 dx (.own a)) a (.ins t.ad dx [])):=(Same.upd fdx).updT (by rw[za9 (Ne.symm ndx)];exact fa)
           refine⟨a,dx,_,_,_,_,_,_,rfl,za1,fun H9 h9 s9=>⟨rfl,?_⟩⟩
           have s79:Same H7 H9:=zg9.same s8 fa s9
           have s59:=(s6.trans s7).trans s79
           refine q a H9 (s5.trans s59) (.inr ⟨fun d hd=>hgn ((all_ g).mpr ⟨d,hd⟩),lr,la,_,_,lg,ls,zs',S,⟨dx,h9⟩,s79 _ _ (s7 _ _ hlr),s59 _ _ hla5,lay5.keep s59,I4.lof,fun d=>?_,s79 _ _ (s7 _ _ hlg),s79 _ _ hls,s79.tups ht7,hso,fun x=>?_⟩)
           . rw[I4.len]
             exact⟨fun hd=>let⟨x,hx⟩:=hne;hx.below d (Nat.le_of_lt_succ hd),fun⟨x,hd⟩=>Nat.lt_succ_of_le (Nat.not_lt.mp fun z=>none_ d z x hd)⟩
           . rw[hp.mem_iff,all_]
       . -- one layer more
         have hz0:zs.length≠0:=by simpa using h2
         have hne1:∃x,Dst n r hs lim s (i+1) x:=by
           cases F with
           | nil=>exact absurd (hGz.symm.trans hGF) hz0
           | cons e F=>exact⟨e.1,(hF e.1).mp (by simp)⟩
         refine⟨_,rfl,.inl ⟨rfl,_,SqL.of hla5⟩,_,rfl,la,_,_,rfl,rfl,hla5,zc7 (by rw[List.length_map,show(as'++[al]).length=i+1 from(Paired.length lay5).trans I4.len];omega),?_⟩
         have nl5:l5≠la:=fun z=>by rw[z,I4.hla] at fl5;cases fl5
         have k6:∀ {c:Addr} {o:HO},H5 c=some o->c≠la->(upd H5 la (.lst ((as'++[al]).map V.ref++[.ref l5]))) c=some o:=fun e ne=>by rw[za9 ne];exact e
         have tk6:∀ {c:Addr} {us:List V},H5 c=some (.tup us)->(upd H5 la (.lst ((as'++[al]).map V.ref++[.ref l5]))) c=some (.tup us):=fun e=>k6 e (fun z=>by rw[z,hla5] at e;cases e)
         have lay6:Lay (upd H5 la (.lst ((as'++[al]).map V.ref++[.ref l5]))) (as'++[al]) (Ls'++[Ll]):=by
           have key:∀ {a1:List Addr} {l1:List (List (List Int))},Lay H5 a1 l1->la∉a1->Lay (upd H5 la (.lst ((as'++[al]).map V.ref++[.ref l5]))) a1 l1:=by
             intro a1 l1 h
             have h':Paired (fun a L=>∃ys,H5 a=some (.lst ys)/\Tups H5 ys L) a1 l1:=h
             clear h
             induction h' with
             | nil=>intro _;exact .nil
             | cons x t ih =>
               intro hn
               rw[List.mem_cons,not_or] at hn
               obtain⟨ys,e1,e2⟩:=x
               exact .cons ⟨ys,k6 e1 (Ne.symm hn.1),Paired.mapP e2 fun y x ⟨b,e,hb⟩=>⟨b,e,tk6 hb⟩⟩ (ih hn.2)
           exact key lay5 I4.nla
         refine⟨⟨_,as'++[al]++[l5],Ls'++[Ll]++[G],kv++F,i+1,rfl,s5.put fla0,⟨?_,?_,?_,?_,⟨?_,?_⟩,?_,nd5,?_,?_⟩,by rw[List.length_append];omega,hne1,fun j hj hy=>hgn ((I4.key g).mpr ⟨j,by omega,hy⟩)⟩,?_⟩
         . rw[za1,List.map_append (l₁:=as'++[al])];rfl
         . rw[List.mem_append,not_or]
           exact⟨I4.nla,by simpa using nl5.symm⟩
         . exact Paired.snoc lay6 ⟨zs,k6 hl5 nl5,Paired.mapP ht5 fun y x ⟨b,e,hb⟩=>⟨b,e,tk6 hb⟩⟩
         . rw[List.length_append,I4.len];rfl
         . intro j L e x
           by_cases hj:j<(Ls'++[Ll]).length
           . rw[List.getElem?_append_left hj] at e
             exact I4.lof.mem j L e x
           . rw[List.getElem?_append_right (by omega)] at e
             have hj0:j-(Ls'++[Ll]).length=0:=by
               rcases Nat.eq_zero_or_pos (j-(Ls'++[Ll]).length) with z | z
               . exact z
               . rw[List.getElem?_eq_none (by rw[List.length_singleton];omega)] at e;cases e
             rw[hj0] at e
             obtain rfl:G=L:=Option.some.inj e
             have:j=i+1:=by have:=I4.len;omega
             rw[this,hp5.mem_iff,hF]
         . intro L hL
           rcases List.mem_append.mp hL with z | z
           . exact I4.lof.srt L z
           . obtain rfl:L=G:=by simpa using z
             exact hs5
         . rw[za9 (fun z=>by rw[z,hla5] at hd5;cases hd5)];exact hd5
         . intro x
           rw[List.map_append,List.mem_append,I4.key,hF]
           constructor
           . rintro(⟨j,hj,h⟩ | h)
             . exact⟨j,by omega,h⟩
             . exact⟨i+1,Nat.le_refl _,h⟩
           . rintro⟨j,hj,h⟩
             rcases Nat.lt_or_ge i j with z | z
             . obtain rfl:j=i+1:=by omega
               exact .inr h
             . exact .inl ⟨j,z,h⟩
         . intro e he
           rcases List.mem_append.mp he with z | z
           . exact(led5 e z).same fun b us hb=>tk6 hb
           . obtain⟨x,hx,m,i',p',e1,e2,e3,e4⟩:=hr5 e z
             exact .inr ⟨x,i,m,i',p',e1,tk6 e2,e3,e4,(hLl x).mp hx,(hF e.1).mp (List.mem_map.mpr ⟨e,z,rfl⟩)⟩
         . rw[za9 (fun z=>by rw[z,hla5] at hd5;cases hd5),hd5,I4.hd]
           simp only[List.length_map,List.length_append]
           omega
     . -- the goal is come to
       have hgk:g∈kv.map (·.1):=Classical.byContradiction fun z=>h1 (by rw[decide_eq_false z];rfl)
       obtain⟨d,hdi,hgd⟩:=(I4.key g).mp hgk
       refine⟨_,rfl,_,rfl,go,ld,n,r,lim,hs,s,g,d,kv,rfl,s4 _ _ hgo,I4.hd,I4.nd,I4.led,hgd,fun j y hj hy=>(I4.key y).mpr ⟨j,by omega,hy⟩,V0,okw,by omega,fun lr H5 rs ms s5 flr hlr R5 G5 hms=>?_⟩
       have hlr':=R5.len
       have hm5:∀m∈ms,m.1<5:=fun m hm=>Nat.lt_of_lt_of_le (G5.lt V0.len m hm) okw
       refine⟨_,rfl,lr,_,rfl,.inl (SqL.of hlr),?_⟩
       rw[List.length_map,hlr',hms]
       refine⟨_,rfl,_,rfl,_,rfl,lr,s,rs,ms,rfl,hlr,R5,hm5,by omega,fun lg H6 ag s6 flg hlg up6 hag=>?_⟩
       refine⟨Nat.zero_le _,fun ls fls=>?_⟩
       have s7:Same H6 (upd H6 ls (.lst [])):=Same.upd fls
       have hls:(upd H6 ls (.lst [])) ls=some (.lst []):=za1
       dsimp only
       revert s7 hls
       generalize upd H6 ls (.lst [])=H7
       intro s7 hls
       refine fun a dx fa fdx ndx=>?_
       have s8:Same H7 (upd (upd H7 dx (.own a)) a (.ins t.ad dx [])):=(Same.upd fdx).updT (by rw[za9 (Ne.symm ndx)];exact fa)
       refine⟨a,dx,_,_,_,_,_,_,rfl,za1,fun H9 h9 s9=>⟨rfl,?_⟩⟩
       have s79:Same H7 H9:=zg9.same s8 fa s9
       have s69:=s7.trans s79
       have s59:=s6.trans s69
       have s49:=s5.trans s59
       have hdi':d=i:=by
         rcases Nat.lt_or_ge d i with z | z
         . exact absurd hgd (hng d z)
         . omega
       refine q a H9 (s4.trans s49) (.inl ⟨d,lr,rs,ms,la,as,Ls,lg,ag,ls,hgd,⟨dx,h9⟩,s59 _ _ hlr,R5.same s59,G5,hms,s49 _ _ I4.hla,I4.lay.keep s49,by rw[hdi'];exact I4.len,I4.lof,s69 _ _ hlg,up6,hag,s79 _ _ hls⟩)
   . rintro σ H' Q1 Q2 hQ ⟨_,e1,_,e2,a1,v1,e3,e4,k,e6,e7⟩
     exact⟨_,e1,_,e2,a1,v1,e3,e4,k,e6,hQ _ _ e7⟩
inductive zR3 (K:W.Frag)(t:Adr)(vs:List V)(H:Hp)(Q:VK)(E:XK):Prop
 | mk (b a1 a2:Addr)(n r lim:Int)(hs s g:List Int)(h0:vs=[.ref b,.ref a1,.ref a2])(h1:zf5 t H b n r hs lim)(h2:zc8 n r hs.length s)(h3:zc8 n r hs.length g)(h4:(SqL K H a1 (s.map V.int)\/H a1=some (.tup (s.map V.int))))(h5:(SqL K H a2 (g.map V.int)\/H a2=some (.tup (g.map V.int))))(h6:absI (zb5 hs s)<=lim)(h7:absI (zb5 hs g)<=lim)(h8:∀a H',Same H H'->zv3 t H' a n r hs lim s g->Q (.ref a) H'):zR3 K t vs H Q E
noncomputable def zH1 (K:W.Frag)(t:Adr):Sp:=fun vs H Q E=>zR3 K t vs H Q E
theorem zR4 (T:Txt K mg t):FnOk P w K mg base CX0 9 t.aL t.a2 ["beam","start","goal"] (zH1 K t):=by
 have Gaf:FnOk P w K mg base CX0 2 t.aa t.ab ["beam","standing"] (zg7 K t):=zi7 T
 have Gaz:FnOk P w K mg base CX0 8 t.a3 t.bq ["beam","start","goal"] (zR2 K t):=ok_search T
 have GaA:FnOk P w K mg base CX0 4 t.bj t.bD ["beam","standing"] (zZ6 K t):=ok_keeps T
 refine T.cS.ok zG3 (fun vs H Q E h=>?_) (fun cdv A outer s H vs Q E hr h=>?_)
 . obtain⟨b,a1,a2,n,r,lim,hs,s,g,rfl,B,V1,V2,h1,h2,k1,k2,q⟩:=h
   rfl
 . obtain⟨b,a1,a2,n,r,lim,hs,s,g,rfl,B,V1,V2,h1,h2,k1,k2,q⟩:=h
   have haf:Room 2 _:=hr.mono (by decide)
   have haz:Room 8 _:=hr.mono (by decide)
   have haA:Room 4 _:=hr.mono (by decide)
   refine⟨_,(za4 (zb3 (i:=3) zG3.nd rfl (Or.inl rfl) (za7 Gaf haf rfl T.ak T.al T.aj .nil zb4 (za0 (pv 0) (za0 (pv 1) za3))))
     (za4 (zb3 (i:=4) zG3.nd rfl (Or.inl rfl) (za7 Gaf haf rfl T.ak T.al T.aj .nil zb4 (za0 (pv 0) (za0 (pv 2) za3))))
     (za4 (zd1 (ze5 (zd4 (za7 GaA haA rfl T.bL T.bM T.bK .nil zb4 (za0 (pv 0) (za0 (pv 3) za3))))) (za6 zh6) zb9)
     (za4 (zd1 (ze5 (zd4 (za7 GaA haA rfl T.bL T.bM T.bK .nil zb4 (za0 (pv 0) (za0 (pv 4) za3))))) (za6 zh6) zb9)
     (za6 (zb8 (za7 Gaz haz rfl T.cV T.cW T.cU .nil zb4 (za0 (pv 0) (za0 (pv 3) (za0 (pv 4) za3)))))))))),?_⟩
   refine cut5 ?_
   intro rr5 rr4 rr3 rr2
   refine⟨_,rfl,_,rfl,b,a1,n,r,lim,hs,s,rfl,B,V1,h1,fun l1 H1 s1 e1=>?_⟩
   refine⟨_,rfl,_,rfl,b,a2,n,r,lim,hs,g,rfl,B.same s1,V2,h2.imp s1.seq (fun e=>s1 _ _ e),fun l2 H2 s2 e2=>?_⟩
   refine⟨_,rfl,_,rfl,b,l1,n,r,lim,hs,s,rfl,(B.same s1).same s2,V1,.inr (s2 _ _ e1),fun H3 s3=>⟨_,rfl,?_⟩⟩
   refine iteB (by rw[decide_eq_true k1];rfl) ?_
   refine⟨_,rfl,_,rfl,b,l2,n,r,lim,hs,g,rfl,((B.same s1).same s2).same s3,V2,.inr (s3 _ _ e2),fun H4 s4=>⟨_,rfl,?_⟩⟩
   refine iteB (by rw[decide_eq_true k2];rfl) ?_
   have s24:=s3.trans s4
   exact⟨_,rfl,_,rfl,_,rfl,b,l1,l2,n,r,lim,hs,s,g,rfl,((B.same s1).same s2).same s24,V1,s24 _ _ (s2 _ _ e1),s24 _ _ e2,fun a H5 s5 R=>q a H5 (s1.trans (s2.trans (s24.trans s5))) R⟩
theorem zJ2:∀ {X Y:List (List Int)},X.Pairwise (fun x y=>Sx.lexB x y=true)->Y.Pairwise (fun x y=>Sx.lexB x y=true)->(∀x,x∈X↔x∈Y)->X=Y
 | [],Y,_,_,h=>(List.eq_nil_iff_forall_not_mem.mpr fun x hx=>nomatch (h x).mpr hx).symm
 | a::X,[],_,_,h=>nomatch (h a).mp (.head _)
 | a::X,b::Y,h1,h2,h=>by
   have n1:=zg2 h1
   have n2:=zg2 h2
   rw[List.pairwise_cons] at h1 h2
   rw[List.nodup_cons] at n1 n2
   have e:a=b:=by
     rcases List.mem_cons.mp ((h a).mp (.head _)) with z | z
     . exact z
     rcases List.mem_cons.mp ((h b).mpr (.head _)) with y | y
     . exact y.symm
     have p:=h1.1 b y
     have q:=Sx.lexB_as (h2.1 a z)
     rw[p] at q
     cases q
   subst e
   rw[zJ2 h1.2 h2.2 fun x=>?_]
   constructor
   . intro hx
     rcases List.mem_cons.mp ((h x).mp (.tail _ hx)) with z | z
     . exact absurd (z▸hx) n1.1
     . exact z
   . intro hx
     rcases List.mem_cons.mp ((h x).mpr (.tail _ hx)) with z | z
     . exact absurd (z▸hx) n2.1
     . exact z
theorem one_of {w:Nat}{n r:Int}{ks:List (List Int)}(nd:ks.Nodup)(hv:∀x∈ks,zc8 n r w x)(h2:2<=ks.length):∀k∈ks,k≠[]:=fun k hk z=>by
 have hw0:w=0:=by have:=(hv k hk).len;rw[z] at this;exact this.symm
 have one:∀e∈ks,e=[]:=fun e he=>List.eq_nil_of_length_eq_zero ((hv e he).len.trans hw0)
 match ks,nd,one,h2 with
 | x1::x2::_,nd',one',_ =>
   have e1:=one' x1 (.head _)
   have e2:=one' x2 (.tail _ (.head _))
   rw[e1,e2] at nd'
   simp at nd'
section
variable {n r:Int} {hs:List Int} {lim:Int} {s:List Int}
theorem zk4.nodup {Ls:List (List (List Int))}(h:zk4 n r hs lim s Ls):Ls.flatten.Nodup:=by
 refine List.pairwise_flatten.mpr ⟨fun L hL=>zg2 (h.srt L hL),?_⟩
 refine List.pairwise_iff_getElem.mpr fun i j hi hj hij x hx y hy e=>?_
 subst e
 have d1:=(h.mem i _ (List.getElem?_eq_getElem hi) x).mp hx
 have d2:=(h.mem j _ (List.getElem?_eq_getElem hj) x).mp hy
 have:=d1.uniq d2
 omega
theorem zk4.ex {Ls:List (List (List Int))}(h:zk4 n r hs lim s Ls){x:List Int}(hx:x∈Ls.flatten):∃d,d<Ls.length/\Dst n r hs lim s d x:=by
 obtain⟨L,hL,hx⟩:=List.mem_flatten.mp hx
 obtain⟨i,hi⟩:=List.getElem?_of_mem hL
 exact⟨i,(List.getElem?_eq_some_iff.mp hi).1,(h.mem i L hi x).mp hx⟩
end
theorem yj9 {H:Hp}:∀ {as:List Addr} {Ls:List (List (List Int))},Lay H as Ls->∀ {i:Nat} {v:V},(as.map V.ref)[i]?=some v->∃a L ys,v = .ref a/\Ls[i]?=some L/\H a=some (.lst ys)/\Tups H ys L
 | _,_,.nil,i,v,h=>by simp at h
 | a::as,L::Ls,.cons ⟨ys,h1,h2⟩ t,0,v,h=>⟨a,L,ys,(Option.some.inj h).symm,rfl,h1,h2⟩
 | a::as,L::Ls,.cons _ t,i+1,v,h=>yj9 t (i:=i) h
end
section
variable {P:Program} {w:World} {K:W.Frag} {mg:Str->Option Value} {base:Heap} {t:Adr}
noncomputable def zl5 (hs x:List Int)(i:Nat)(p:Int):Int:=if absI (zd8 hs x i+hs.getD i 0*p)>absI (zd8 hs x i) then absI (zd8 hs x i+hs.getD i 0*p) else absI (zd8 hs x i)
inductive ya4 (K:W.Frag)(t:Adr)(vs:List V)(H:Hp)(Q:VK)(E:XK):Prop
 | mk (b:Addr)(n r lim L:Int)(hs:List Int)(h0:vs=[.ref b,.int L])(h1:zf5 t H b n r hs lim)(h2:0<=L)(h3:L<=400)(h4:∀b' H',Same H H'->zf5 t H' b' n r hs L->Q (.ref b') H'):ya4 K t vs H Q E
noncomputable def zM6 (K:W.Frag)(t:Adr):Sp:=fun vs H Q E=>ya4 K t vs H Q E
theorem ya5 (T:Txt K mg t):FnOk P w K mg base CX0 5 t.aX t.bi ["beam","limit"] (zM6 K t):=by
 have GaB:FnOk P w K mg base CX0 3 t.am t.aD ["self","notches","room","hefts","limit"] (zv1 K t):=zE3 T
 refine T.ds.ok sc_under (fun vs H Q E h=>?_) (fun cdv A outer s H vs Q E hr h=>?_)
 . obtain⟨b,n,r,lim,L,hs,rfl,B,L0,L1,q⟩:=h
   rfl
 . obtain⟨b,n,r,lim,L,hs,rfl,B,L0,L1,q⟩:=h
   have haC:Room 4 _:=hr.mono (by decide)
   refine⟨_,(za6 (zb8 (zC0 T.b2 GaB haC rfl T.cq T.bb .nil zb4 (za0 (zc9 (pv 0) rfl) (za0 (zc9 (pv 0) rfl) (za0 (zc9 (pv 0) rfl) (za0 (pv 1) za3))))))),?_⟩
   obtain⟨ok,dx,h,hb,hh⟩:=B
   refine⟨_,rfl,b,_,dx,_,_,rfl,hb,T.ab,T.ae,zm8 _ _ _ _,_,rfl,b,_,dx,_,_,rfl,hb,T.ab,T.ar,zV2 _ _ _ _,_,rfl,b,_,dx,_,_,rfl,hb,T.ab,T.ag,zz7 _ _ _ _,_,rfl,fun b' dx' fb fdx ndx=>?_⟩
   have s1:Same H (upd (upd H dx' (.own b')) b' (.ins t.aj dx' [])):=(Same.upd fdx).updT (by rw[za9 (Ne.symm ndx)];exact fb)
   refine⟨b',dx',h,n,r,L,hs,rfl,za1,.inr (s1 _ _ hh),⟨ok.n1,ok.n2,ok.r1,ok.r2,L0,L1,ok.w,ok.h,ok.most⟩,fun H5 B5 s5=>⟨rfl,?_⟩⟩
   exact q b' H5 (fun c o e=>s5 c o (s1 c o e) (zc1 e fb)) B5
inductive zu4 (K:W.Frag)(t:Adr)(vs:List V)(H:Hp)(Q:VK)(E:XK):Prop
 | mk (b a m:Addr)(n r lim p:Int)(i:Nat)(hs xs:List Int)(h0:vs=[.ref b,.ref a,.ref m])(h1:zf5 t H b n r hs lim)(h2:zc8 n r hs.length xs)(h3:H a=some (.tup (xs.map V.int)))(h4:zq3 H xs m (i,p))(h5:Lets n r hs 400 xs i p)(h6:∀H',Same H H'->Q (.int (zl5 hs xs i p)) H'):zu4 K t vs H Q E
noncomputable def zu5 (K:W.Frag)(t:Adr):Sp:=fun vs H Q E=>zu4 K t vs H Q E
theorem ok_limit_to_move (T:Txt K mg t):FnOk P w K mg base CX0 5 t.ag t.ay ["beam","standing","move"] (zu5 K t):=by
 have Gaj:FnOk P w K mg base CX0 4 t.aE t.aT ["beam","standing","weight"] (zB7 K t):=zM0 T
 have Gai:FnOk P w K mg base CX0 3 t.aK t.aY ["beam","standing"] (zE4 K t):=zJ1 T
 have Gaq:FnOk P w K mg base CX0 1 t.aq t.aB ["places","move"] (zu0 K t):=zA0 T
 refine T.bB.ok sc_limit_to_move (fun vs H Q E h=>?_) (fun cdv A outer s H vs Q E hr h=>?_)
 . obtain⟨b,a,m,n,r,lim,p,i,hs,xs,rfl,B,V0,ha,hm,Lt,q⟩:=h
   rfl
 . obtain⟨b,a,m,n,r,lim,p,i,hs,xs,rfl,B,V0,ha,hm,Lt,q⟩:=h
   have haj:Room 4 _:=hr.mono (by decide)
   have hai:Room 3 _:=hr.mono (by decide)
   have haq:Room 1 _:=hr.mono (by decide)
   refine⟨_,(za6 (zb8 (zb0 (zy5 rfl) rfl T.bg PyProof.Rows.boot_max (za0 (zb0 zj9 rfl T.aA PyProof.Rows.boot_abs (za0 (za7 Gaj haj rfl T.bm T.bn T.bl .nil zb4 (za0 (pv 0) (za0 (pv 1) (za0 (zd3 zp8 (pv 2) za2 (fun _ _=>rfl)) za3)))) za3)) (za0 (zb0 zj9 rfl T.aA PyProof.Rows.boot_abs (za0 (za7 Gai hai rfl T.aY T.aZ T.aX .nil zb4 (za0 (pv 0) (za0 (za7 Gaq haq rfl T.aN T.aO T.aM .nil zb4 (za0 (pv 1) (za0 (pv 2) za3))) za3))) za3)) za3))))),?_⟩
   have hlt:=Lt.lt
   have hlen:=V0.len
   have hw:=B.1.w
   refine⟨_,rfl,_,rfl,_,rfl,m,_,_,_,rfl,rfl,SqT.of hm,rfl,b,a,n,r,lim,(i:Int)+1,i,hs,xs,rfl,B,V0,.inr ha,⟨rfl,hlt⟩,fun H1 s1=>?_⟩
   refine⟨_,rfl,_,rfl,_,rfl,_,rfl,a,m,(i:Int)+1,xs.getD i 0,p,i,xs,rfl,s1 _ _ ha,.inr (SqT.of (s1 _ _ hm)),⟨rfl,hlt,by omega⟩,fun l2 H2 s2 h2=>?_⟩
   refine⟨b,l2,n,r,lim,hs,xs.set i p,rfl,(B.same s1).same s2,Lt.valid V0,.inr h2,fun H3 s3=>⟨_,rfl,_,_,rfl,?_⟩⟩
   rw[zx7 hs xs i p hlen.symm hlt]
   exact q H3 (s1.trans (s2.trans s3))
theorem prs_same {H H':Hp}(s:Same H H'){ys:List V}{ks:List (List Int)}(h:Prs H ys ks):Prs H' ys ks:=Paired.mapP h fun y k ⟨p,a,e,h1,h2⟩=>⟨p,a,e,s _ _ h1,s _ _ h2⟩
theorem prs_keep {H:Hp}{l:Addr}{o:HO}{vs:List V}(hl:H l=some (.lst vs)){ys:List V}{ks:List (List Int)}(h:Prs H ys ks):Prs (upd H l o) ys ks:=Paired.mapP h fun y k ⟨p,a,e,h1,h2⟩=>⟨p,a,e,by rw[za9 (fun z=>by rw[z,hl] at h1;cases h1)];exact h1,by rw[za9 (fun z=>by rw[z,hl] at h2;cases h2)];exact h2⟩
noncomputable def zv4 (n r:Int)(hs:List Int)(S:List (List Int))(x:List Int)(i:Nat)(p:Int):Prop:=Lets n r hs 400 x i p/\x.set i p∉S
inductive zr2 (K:W.Frag)(t:Adr)(vs:List V)(H:Hp)(Q:VK)(E:XK):Prop
 | mk (b sh:Addr)(n r lim:Int)(hs:List Int)(S:List (List Int))(zs:List V)(h0:vs=[.ref b,.ref sh])(h1:zf5 t H b n r hs lim)(h2:H sh=some (.lst zs))(h3:Tups H zs S)(h4:S.Nodup)(h5:(∀x∈S,zc8 n r hs.length x))(h6:S.length<=1000)(h7:(∃x∈S,∃i p,zv4 n r hs S x i p))(h8:∀M H',Same H H'->(∃x∈S,∃i p,zv4 n r hs S x i p/\zl5 hs x i p=M)->(∀x∈S,∀i p,zv4 n r hs S x i p->M<=zl5 hs x i p)->Q (.int M) H'):zr2 K t vs H Q E
noncomputable def zr3 (K:W.Frag)(t:Adr):Sp:=fun vs H Q E=>zr2 K t vs H Q E
theorem ok_limit_to_leave (T:Txt K mg t):FnOk P w K mg base CX0 7 t.af t.ar ["beam","shut"] (zr3 K t):=by
 have GaD:FnOk P w K mg base CX0 5 t.aX t.bi ["beam","limit"] (zM6 K t):=ya5 T
 have Gao:FnOk P w K mg base CX0 6 t.aZ t.bk ["beam","standing"] (zM3 K t):=ya1 T
 have Gaq:FnOk P w K mg base CX0 1 t.aq t.aB ["places","move"] (zu0 K t):=zA0 T
 have GaE:FnOk P w K mg base CX0 5 t.ag t.ay ["beam","standing","move"] (zu5 K t):=ok_limit_to_move T
 refine T.bs.ok zf2 (fun vs H Q E h=>?_) (fun cdv A outer s H vs Q E hr h=>?_)
 . obtain⟨b,sh,n,r,lim,hs,S,zs,rfl,B,hsh,TS,nd,VS,hS,hex,q⟩:=h
   rfl
 . obtain⟨b,sh,n,r,lim,hs,S,zs,rfl,B,hsh,TS,nd,VS,hS,hex,q⟩:=h
   have haD:Room 5 _:=hr.mono (by decide)
   have hao:Room 6 _:=hr.mono (by decide)
   have haq:Room 1 _:=hr.mono (by decide)
   have haE:Room 5 _:=hr.mono (by decide)
   refine⟨_,(za4 (zb3 (i:=2) zf2.nd rfl (Or.inl rfl) (za7 GaD haD rfl T.bd T.be T.bc .nil zb4 (za0 (pv 0) (za0 (zo3 (v:=.int 400) rfl T.ba ⟨_,rfl⟩) za3))))
     (za4 (zb3 (i:=3) zf2.nd rfl (Or.inl rfl) (zg3 (call_dictP rfl (hu5_of hr)) rfl T.dK PyProof.Rows.boot_dict (za0 (zm9 rfl zo0 (zg1 (pv 1)) (fun _ _ _ _ _=>(zc4 (i:=0) zo0.nd rfl (Or.inl rfl))) (fun _ _ _ _ _=>zi5) (fun _ _ _ _ _=>(zF3 (za0 (pv 0) (za0 zg8 za3))))) za3)))
     (za4 (zb3 (i:=4) zf2.nd rfl (Or.inl rfl) (ze6 za3))
     (za4 (zi3 PassesOwn.never rfl (zg1 (pv 1)) (zc4 (i:=5) zf2.nd rfl (Or.inl rfl)) (za6 (zi3 PassesOwn.never rfl (zg1 (za7 Gao hao rfl T.bO T.bP T.bN .nil zb4 (za0 (pv 2) (za0 (pv 5) za3)))) (zc4 (i:=6) zf2.nd rfl (Or.inl rfl)) (za6 (zd1 (yb5 (zF7 (zv8 hr) (za7 Gaq haq rfl T.aN T.aO T.aM .nil zb4 (za0 (pv 5) (za0 (pv 6) za3))) (pv 3))) (za6 (zi9 (zv7 PySem.F.plainAttrs_list PySem.F.slot_list_append PySem.F.type_list_append zk6 (pv 4) (za0 (za7 GaE haE rfl T.bD T.bE T.bC .nil zb4 (za0 (pv 0) (za0 (pv 5) (za0 (pv 6) za3)))) za3)))) zb9)))))
     (za6 (zb8 (zb0 (call_minL rfl) rfl T.bh PyProof.Rows.boot_min (za0 (pv 4) za3)))))))),?_⟩
   refine cut5 ?_
   intro rr5 rr4 rr3 rr2
   have hzl:=zn4 TS
   have hw:=B.1.w
   have n1:=B.1.n1
   have n2:=B.1.n2
   refine⟨_,rfl,b,n,r,lim,400,hs,rfl,B,by decide,by decide,fun fb H1 s1 F1=>?_⟩
   have hsh1:=s1 _ _ hsh
   have TS1:=s1.tups TS
   refine⟨_,rfl,sh,rfl,⟨_,SqL.of hsh1⟩,fun D hD=>?_⟩
   refine zm3 (K:=K) (a:=sh) (xs:=zs) (fun j H'=>∃ys,H' D=some (.lst ys)/\Prs H' ys (S.take j)/\Same H1 H') ⟨[],za1,.nil,Same.upd hD⟩ (fun j H' ⟨_,_,_,s⟩=>SqL.of (s _ _ hsh1)) ?_ ?_
   . rintro j v H' N hj ⟨ys,hD',R',s'⟩ hN
     obtain⟨xb,x,rfl,hx,hxb⟩:=zv0 TS1 hj
     dsimp only[zw3]
     refine iteT ?_
     refine⟨_,rfl,(by show 2<=sizeLine;decide),fun lt ft=>?_⟩
     have nDl:D≠lt:=fun z=>by rw[z,ft] at hD';cases hD'
     have nxD:xb≠D:=fun z=>by have:=s' _ _ hxb;rw[z,hD'] at this;cases this
     have etk:S.take (j+1)=S.take j++[x]:=by rw[List.take_succ,hx];rfl
     have hyl:ys.length<=1000:=by have:=ye5 R';rw[List.length_take] at this;omega
     have hD'':(upd H' lt (.tup [.ref xb,.bl true])) D=some (.lst ys):=by rw[za9 nDl];exact hD'
     refine⟨ys,hD'',zc7 hyl,hN _ ⟨ys++[.ref lt],za1,?_,(s'.updT ft).put hD⟩⟩
     rw[etk]
     exact Paired.snoc (prs_keep hD'' (prs_same (Same.upd ft) R')) ⟨lt,xb,rfl,by rw[za9 nDl.symm];exact za1,by rw[za9 nxD];exact(s'.updT ft) _ _ hxb⟩
   . rintro H2 ⟨ys,hD2,R2,s2⟩
     rw[hzl,List.take_length] at R2
     refine⟨D,ys,S,rfl,hD2,R2,nd,hS,fun d fd=>?_⟩
     have s3:Same H2 (upd H2 d (.dT (S.map fun k=>(ik k,.bl true)))):=Same.upd fd
     have hd3:(upd H2 d (.dT (S.map fun k=>(ik k,.bl true)))) d=some (.dT (dOf (S.map fun k=>(k,V.bl true)))):=by rw[za1];unfold dOf;rw[List.map_map];rfl
     have keys:(S.map fun k=>(k,V.bl true)).map (·.1)=S:=by rw[List.map_map];exact List.map_id S
     revert s3 hd3
     generalize upd H2 d (.dT (S.map fun k=>(ik k,.bl true)))=H3
     intro s3 hd3
     refine⟨Nat.zero_le _,fun lz flz=>?_⟩
     have s4:Same H3 (upd H3 lz (.lst [])):=Same.upd flz
     have hz4:(upd H3 lz (.lst [])) lz=some (.lst ([].map V.int)):=za1
     dsimp only
     revert s4 hz4
     generalize upd H3 lz (.lst [])=H4
     intro s4 hz4
     have s14:=s2.trans (s3.trans s4)
     have hd4:=s4 _ _ hd3
     have flz3:=flz
     have fz1:H1 lz=none:=(s2.trans s3).free flz
     have fz0:H lz=none:=s1.free fz1
     have ndz:d≠lz:=fun z=>by rw[<-z,hd3] at flz;cases flz
     refine⟨_,rfl,sh,rfl,⟨_,SqL.of (s14 _ _ hsh1)⟩,zp7 (K:=K) (a:=sh) (xs:=zs) (fun i σ H'=>∃v5 v6 Z,σ=[some (.ref b),some (.ref sh),some (.ref fb),some (.ref d),some (.ref lz),v5,v6]/\Same H1 H'/\H' d=some (.dT (dOf (S.map fun k=>(k,V.bl true))))/\H' lz=some (.lst (Z.map V.int))/\Z.length<=45*i/\∀z,z∈Z↔∃x∈S.take i,∃k p,zv4 n r hs S x k p/\z=zl5 hs x k p) ⟨none,none,[],rfl,s14,hd4,hz4,Nat.zero_le _,fun z=>by simp⟩ (fun i σ H' _ ⟨_,_,_,_,s,_⟩=>SqL.of (s _ _ hsh1)) ?_ ?_⟩
     . rintro i v σ H5 hi ⟨v5,v6,Z,rfl,s5,hd5,hz5,lz5,mZ⟩
       obtain⟨xb,x,rfl,hx,hxb⟩:=zv0 TS1 hi
       have hxm:=List.mem_of_getElem? hx
       have Vx:=VS x hxm
       have hxl:=Vx.len
       have hi1000:i<1000:=by have:=(List.getElem?_eq_some_iff.mp hi).1;omega
       refine⟨_,rfl,_,rfl,fb,xb,n,r,400,hs,x,rfl,F1.same s5,Vx,.inr (s5 _ _ hxb),fun lm rs H6 s6 flm hlm R6=>?_⟩
       have hMl:=zG9 n r hs 400 x x.length
       have hwide:wide n<=9:=by unfold wide;omega
       have hM45:(zk9 n r hs 400 x x.length).length<=45:=Nat.le_trans hMl (Nat.le_trans (Nat.mul_le_mul (show x.length<=5 by omega) hwide) (by decide))
       have hMm:∀m∈zk9 n r hs 400 x x.length,Lets n r hs 400 x m.1 m.2:=fun m hm=>(zu1.mp hm).2
       have hMa:∀k p,Lets n r hs 400 x k p->(k,p)∈zk9 n r hs 400 x x.length:=fun k p L=>zu1.mpr ⟨L.lt,L⟩
       generalize zk9 n r hs 400 x x.length=M at R6 hM45 hMm hMa
       have flm1:H1 lm=none:=s5.free flm
       have nlz:lm≠lz:=fun z=>by rw[z,hz5] at flm;cases flm
       have nld:lm≠d:=fun z=>by rw[z,hd5] at flm;cases flm
       have s16:=s5.trans s6
       refine⟨lm,rfl,⟨_,SqL.of hlm⟩,zp7 (K:=K) (a:=lm) (xs:=rs.map V.ref) (fun j σ H'=>∃v6 Z,σ=[some (.ref b),some (.ref sh),some (.ref fb),some (.ref d),some (.ref lz),some (.ref xb),v6]/\Same H1 H'/\H' d=some (.dT (dOf (S.map fun k=>(k,V.bl true))))/\H' lz=some (.lst (Z.map V.int))/\H' lm=some (.lst (rs.map V.ref))/\Rows H' x rs M/\Z.length<=45*i+j/\∀z,z∈Z↔(∃x∈S.take i,∃k p,zv4 n r hs S x k p/\z=zl5 hs x k p)\/∃m∈M.take j,zv4 n r hs S x m.1 m.2/\z=zl5 hs x m.1 m.2) ⟨v6,Z,rfl,s16,s6 _ _ hd5,s6 _ _ hz5,hlm,R6,lz5,fun z=>by rw[mZ];simp⟩ (fun j σ H' _ ⟨_,_,_,_,_,_,e,_⟩=>SqL.of e) ?_ ?_⟩
       . rintro j v σ H7 hj ⟨v6,Z,rfl,s7,hd7,hz7,hlm7,R7,lz7,mZ⟩
         rw[List.getElem?_map] at hj
         obtain⟨mb,hmb,rfl⟩:=Option.map_eq_some_iff.mp hj
         have hjr:=(List.getElem?_eq_some_iff.mp hmb).1
         have hjM:j<M.length:=by rw[<-R7.1];exact hjr
         have hm:M[j]?=some M[j]:=List.getElem?_eq_getElem hjM
         have hrow:=R7.2 j mb _ hmb hm
         have Lt:=hMm _ (List.mem_of_getElem? hm)
         have hlt:=Lt.lt
         generalize M[j]=m at hm hrow Lt hlt
         have etk:M.take (j+1)=M.take j++[m]:=by rw[List.take_succ,hm];rfl
         have hxb7:=s7 _ _ hxb
         refine⟨_,rfl,_,rfl,xb,mb,(m.1:Int)+1,x.getD m.1 0,m.2,m.1,x,rfl,hxb7,.inr (SqT.of hrow),⟨rfl,hlt,by omega⟩,fun l8 H8 s8 h8=>?_⟩
         refine⟨_,rfl,d,_,rfl,dget (s8 _ _ hd7) h8,_,rfl,?_⟩
         rw[yb8 (by rw[keys];exact nd),keys]
         refine ite2 (fun h9=>?_) (fun h9=>?_)
         . have hn:x.set m.1 m.2∉S:=fun z=>by rw[decide_eq_true z] at h9;cases h9
           refine⟨_,rfl,.inl ⟨rfl,_,SqL.of (s8 _ _ hz7)⟩,_,rfl,_,rfl,_,rfl,b,xb,mb,n,r,lim,m.2,m.1,hs,x,rfl,(B.same s1).same (s7.trans s8),Vx,s8 _ _ hxb7,s8 _ _ hrow,Lt,fun H9 s9=>?_⟩
           have s79:=s8.trans s9
           have hz9:=s79 _ _ hz7
           have hrow9:Rows H9 x rs M:=R7.same s79
           refine⟨lz,_,_,rfl,rfl,hz9,Nat.lt_of_le_of_lt (by rw[List.length_map];exact Nat.le_trans lz7 (show 45*i+j<=100000 by omega)) (by decide),?_⟩
           refine⟨_,Z++[zl5 hs x m.1 m.2],rfl,(s7.trans s79).put fz1,by rw[za9 ndz];exact s79 _ _ hd7,by rw[za1,List.map_append];rfl,by rw[za9 nlz];exact s79 _ _ hlm7,⟨hrow9.1,fun k a m e1 e2=>?_⟩,by rw[List.length_append,List.length_singleton];omega,fun z=>?_⟩
           . have:=hrow9.2 k a m e1 e2
             unfold zq3 at this ⊢
             rw[za9 (fun z=>by rw[z,hz9] at this;cases this)]
             exact this
           . rw[List.mem_append,mZ,etk]
             constructor
             . rintro((h | ⟨m',hm',h⟩) | h)
               . exact .inl h
               . exact .inr ⟨m',List.mem_append_left _ hm',h⟩
               . obtain rfl:z=zl5 hs x m.1 m.2:=by simpa using h
                 exact .inr ⟨m,by simp,⟨Lt,hn⟩,rfl⟩
             . rintro(h | ⟨m',hm',h⟩)
               . exact .inl (.inl h)
               . rcases List.mem_append.mp hm' with hm' | hm'
                 . exact .inl (.inr ⟨m',hm',h⟩)
                 . obtain rfl:m'=m:=by simpa using hm'
                   exact .inr (by rw[h.2];simp)
         . have hin:x.set m.1 m.2∈S:=Classical.byContradiction fun z=>h9 (by rw[decide_eq_false z];rfl)
           refine⟨_,Z,rfl,s7.trans s8,s8 _ _ hd7,s8 _ _ hz7,s8 _ _ hlm7,R7.same s8,by omega,fun z=>?_⟩
           rw[mZ,etk]
           constructor
           . rintro(h | ⟨m',hm',h⟩)
             . exact .inl h
             . exact .inr ⟨m',List.mem_append_left _ hm',h⟩
           . rintro(h | ⟨m',hm',h⟩)
             . exact .inl h
             . rcases List.mem_append.mp hm' with hm' | hm'
               . exact .inr ⟨m',hm',h⟩
               . obtain rfl:m'=m:=by simpa using hm'
                 exact absurd hin h.1.2
       . rintro σ H7 ⟨v6,Z,rfl,s7,hd7,hz7,hlm7,R7,lz7,mZ⟩
         rw[List.length_map,R7.1] at lz7 mZ
         rw[List.take_length] at mZ
         refine⟨_,_,Z,rfl,s7,hd7,hz7,by omega,fun z=>?_⟩
         rw[mZ,List.take_succ,hx]
         constructor
         . rintro(⟨x',hx',h⟩ | ⟨m,hm,h⟩)
           . exact⟨x',List.mem_append_left _ hx',h⟩
           . exact⟨x,by simp,m.1,m.2,h⟩
         . rintro⟨x',hx',k,p,h⟩
           rcases List.mem_append.mp hx' with hx' | hx'
           . exact .inl ⟨x',hx',k,p,h⟩
           . obtain rfl:x'=x:=by simpa using hx'
             exact .inr ⟨(k,p),hMa k p h.1.1,h⟩
     . rintro σ H5 ⟨v5,v6,Z,rfl,s5,hd5,hz5,lz5,mZ⟩
       rw[hzl,List.take_length] at mZ
       obtain⟨x0,hx0,i0,p0,L0⟩:=hex
       have hne:0<Z.length:=List.length_pos_of_mem ((mZ _).mpr ⟨x0,hx0,i0,p0,L0,rfl⟩)
       refine⟨_,rfl,lz,Z,rfl,SqL.of hz5,hne,fun M hM hall=>?_⟩
       obtain⟨x,hx,k,p,L,e⟩:=(mZ M).mp hM
       exact q M H5 (s1.trans s5) ⟨x,hx,k,p,L,e.symm⟩ fun x hx k p L=>hall _ ((mZ _).mpr ⟨x,hx,k,p,L,rfl⟩)
end
section
variable {P:Program} {w:World} {K:W.Frag} {mg:Str->Option Value} {base:Heap} {t:Adr}
section
variable {n r:Int} {hs:List Int}
theorem zu6 {L:Int}(hL:L<=400){x:List Int}{i:Nat}{p:Int}:Lets n r hs L x i p↔Lets n r hs 400 x i p/\zl5 hs x i p<=L:=by
 constructor
 . intro l
   refine⟨⟨l.lt,l.on,l.ne,l.room,Int.le_trans l.held hL,Int.le_trans l.behind hL⟩,?_⟩
   have h1:=l.held
   have h2:=l.behind
   unfold zl5
   split<;>omega
 . rintro⟨l,h⟩
   unfold zl5 at h
   exact⟨l.lt,l.on,l.ne,l.room,by split at h<;>omega,by split at h<;>omega⟩
noncomputable def IsR (n r:Int)(hs:List Int)(L:Int)(s:List Int)(S:List (List Int)):Prop:=∀x,x∈S↔∃d,Dst n r hs L s d x
theorem IsR.walk {L:Int}{s:List Int}{S:List (List Int)}(h:IsR n r hs L s S){x:List Int}:x∈S↔∃d,Walk n r hs L s d x:=by
 rw[h]
 exact⟨fun⟨d,z⟩=>⟨d,z.1⟩,fun⟨d,z⟩=>let⟨e,_,z⟩:=z.dst;⟨e,z⟩⟩
theorem IsR.next {L M:Int}{s:List Int}{S:List (List Int)}(hL:L<=400)(h:IsR n r hs L s S)(hM:∃x∈S,∃i p,zv4 n r hs S x i p/\zl5 hs x i p=M)(hm:∀x∈S,∀i p,zv4 n r hs S x i p->M<=zl5 hs x i p) :
   L<M/\M<=400/\∀L',L<=L'->L'<M->IsR n r hs L' s S:=by
 obtain⟨x,hx,i,p,hl,rfl⟩:=hM
 have h400:=((zu6 (Int.le_refl _)).mp hl.1).2
 have hlt:L<zl5 hs x i p:=Int.not_le.mp fun z=>hl.2 (by
   obtain⟨d,hw⟩:=h.walk.mp hx
   exact h.walk.mpr ⟨d+1,.succ hw (zh4.mpr ⟨i,p,(zu6 hL).mpr ⟨hl.1,z⟩,rfl⟩)⟩)
 refine⟨hlt,h400,fun L' h1 h2=>?_⟩
 have hL':L'<=400:=by omega
 have up:∀ {d y},Walk n r hs L' s d y->y∈S:=fun {d y} w=>by
   induction w with
   | zero=>exact h.walk.mpr ⟨0,.zero⟩
   | succ _ hy ih =>
     obtain⟨k,q,l,rfl⟩:=zh4.mp hy
     obtain⟨l1,l2⟩:=(zu6 hL').mp l
     exact Classical.byContradiction fun z=>by
       have:=hm _ ih k q ⟨l1,z⟩
       omega
 have dn:∀ {d y},Walk n r hs L s d y->Walk n r hs L' s d y:=fun {d y} w=>by
   induction w with
   | zero=>exact .zero
   | succ _ hy ih =>
     obtain⟨k,q,l,rfl⟩:=zh4.mp hy
     obtain⟨l1,l2⟩:=(zu6 hL).mp l
     exact .succ ih (zh4.mpr ⟨k,q,(zu6 hL').mpr ⟨l1,by omega⟩,rfl⟩)
 intro y
 constructor
 . intro hy
   obtain⟨d,w⟩:=h.walk.mp hy
   obtain⟨e,_,z⟩:=(dn w).dst
   exact⟨e,z⟩
 . rintro⟨d,z⟩
   exact up z.1
theorem leave_of {s:List Int}{S:List (List Int)}(hs0:s∈S){d:Nat}{y:List Int}(w:Walk n r hs 400 s d y):y∉S->∃x∈S,∃i p,zv4 n r hs S x i p:=by
 induction w with
 | zero=>exact fun z=>absurd hs0 z
 | @succ d x y hx hy ih =>
   intro hn
   by_cases hxS:x∈S
   . obtain⟨i,p,l,rfl⟩:=zh4.mp hy
     exact⟨x,hxS,i,p,l,hn⟩
   . exact ih hxS
theorem set_on0 {n:Int}{x:List Int}{i:Nat}{p:Int}(hx:∀a∈x,-n<=a/\a<=n)(hp:-n<=p/\p<=n):∀a∈x.set i p,-n<=a/\a<=n:=fun a ha=>by
 rcases List.mem_or_eq_of_mem_set ha with h | h
 . exact hx a h
 . exact h▸hp
theorem valid_zero {x:List Int}(Vx:zc8 n r hs.length x)(hn:0<=n){i:Nat}(hi:i<x.length):zc8 n r hs.length (x.set i 0):=by
 refine⟨by rw[List.length_set];exact Vx.len,set_on0 Vx.on (by omega),fun y hy h0=>?_⟩
 have:(x.set i 0).count y<=x.count y:=by
   have e:=zB6 (xs:=x) (i:=i) (p:=0) (y:=y) hi
   rw[if_neg (fun z:(0:Int)=y=>h0 z.symm)] at e
   split at e<;>omega
 rcases List.mem_or_eq_of_mem_set hy with h | h
 . have:=Vx.room y h h0
   omega
 . exact absurd h h0
noncomputable def nz (x:List Int):Nat:=x.countP fun a=>decide (a≠0)
theorem yf8:∀ {x:List Int},nz x=0->x=List.replicate x.length 0
 | [],_=>rfl
 | a::x,h=>by
   unfold nz at h
   rw[List.countP_cons] at h
   have ha:a=0:=Classical.byContradiction fun z=>by rw[if_pos (decide_eq_true z)] at h;omega
   have ih:=yf8 (x:=x) (by unfold nz;omega)
   rw[ha,List.length_cons,List.replicate_succ,<-ih]
theorem yf9:∀ {x:List Int} {k:Nat},nz x=k+1->∃i,i<x.length/\x.getD i 0≠0/\nz (x.set i 0)=k
 | [],k,h=>nomatch h
 | a::x,k,h=>by
   unfold nz at h
   rw[List.countP_cons] at h
   by_cases ha:a=0
   . rw[if_neg (by simp[ha])] at h
     obtain⟨i,h1,h2,h3⟩:=yf9 (x:=x) (k:=k) (by unfold nz;omega)
     refine⟨i+1,by simpa using h1,h2,?_⟩
     show nz (a::x.set i 0)=k
     unfold nz at h3 ⊢
     rw[List.countP_cons,h3,if_neg (by simp[ha]),Nat.add_zero]
   . rw[if_pos (decide_eq_true ha)] at h
     refine⟨0,by simp,ha,?_⟩
     show nz (0::x)=k
     unfold nz
     rw[List.countP_cons,if_neg (by simp)]
     omega
theorem zV5 {lim:Int}(ok:zg6 n r hs lim):∀ {k:Nat} {x:List Int},zc8 n r hs.length x->nz x=k->∃d,Walk n r hs 400 x d (List.replicate hs.length 0)
 | 0,x,Vx,h=>⟨0,by have:=yf8 h;rw[Vx.len] at this;rw[<-this];exact .zero⟩
 | k+1,x,Vx,h=>by
   obtain⟨i,h1,h2,h3⟩:=yf9 h
   have n1:=ok.n1
   have V1:=valid_zero Vx (by omega) h1
   obtain⟨t1,_⟩:=zz9 ok V1
   rw[zx7 hs x i 0 Vx.len.symm h1] at t1
   have l:Lets n r hs 400 x i 0:=⟨h1,by omega,fun z=>h2 z.symm,fun z=>absurd rfl z,by rw[Int.mul_zero,Int.add_zero] at t1;omega,by omega⟩
   obtain⟨d,w⟩:=zV5 ok V1 h3
   exact⟨d+1,Walk.front (zh4.mpr ⟨i,0,l,rfl⟩) w⟩
theorem all_400 {lim:Int}(ok:zg6 n r hs lim){s g:List Int}(Vs:zc8 n r hs.length s)(Vg:zc8 n r hs.length g):∃d,Walk n r hs 400 s d g:=by
 obtain⟨d,w⟩:=zV5 ok Vs rfl
 obtain⟨e,w'⟩:=zV5 ok Vg rfl
 have kg:absI (zb5 hs g)<=400:=by have:=(zz9 ok Vg).1;omega
 have w2:=w'.rev Vg kg
 have tr:∀ {y z:List Int} {e:Nat},Walk n r hs 400 y e z->∀ {d:Nat} {x:List Int},Walk n r hs 400 x d y->∃f,Walk n r hs 400 x f z:=by
   intro y z e h
   induction h with
   | zero=>intro d x hx;exact⟨d,hx⟩
   | succ _ hy ih=>intro d x hx;obtain⟨f,hf⟩:=ih hx;exact⟨f+1,.succ hf hy⟩
 exact tr w2 w
end
noncomputable def zE6 (v1 v2 v3:V):List (Str×V):=putF "shut" v3 (putF "row" v2 (putF "limit" v1 []))
theorem zu7 (v1 v2 v3:V):(zE6 v1 v2 v3).lookup ("limit" : Str)=some v1:=by
 unfold zE6
 rw[zb1,if_neg (by decide +kernel),zb1,if_neg (by decide +kernel),zb1,if_pos rfl]
theorem lf_row (v1 v2 v3:V):(zE6 v1 v2 v3).lookup ("row" : Str)=some v2:=by
 unfold zE6
 rw[zb1,if_neg (by decide +kernel),zb1,if_pos rfl]
theorem yg0 (v1 v2 v3:V):(zE6 v1 v2 v3).lookup ("shut" : Str)=some v3:=by
 unfold zE6
 rw[zb1,if_pos rfl]
inductive zB0 (K:W.Frag)(t:Adr)(vs:List V)(H:Hp)(Q:VK)(E:XK):Prop
 | mk (p dx:Addr)(v1 v2 v3:V)(h0:vs=[.ref p,v1,v2,v3])(h1:H p=some (.ins t.ac dx []))(h2:∀H',H' p=some (.ins t.ac dx (zE6 v1 v2 v3))->zg9 p H H'->Q .non H'):zB0 K t vs H Q E
noncomputable def zB1 (K:W.Frag)(t:Adr):Sp:=fun vs H Q E=>zB0 K t vs H Q E
theorem ok_Least_init (T:Txt K mg t):FnOk P w K mg base CX0 1 t.ax t.aN ["self","limit","row","shut"] (zB1 K t):=by
 refine T.ck.ok sc_Least_init (fun vs H Q E h=>?_) (fun cdv A outer s H vs Q E hr h=>?_)
 . obtain⟨p,dx,v1,v2,v3,rfl,hp,q⟩:=h
   rfl
 . obtain⟨p,dx,v1,v2,v3,rfl,hp,q⟩:=h
   refine⟨_,(za4 (zm1 (pv 0) (pv 1) rfl)
     (za4 (zm1 (pv 0) (pv 2) rfl)
     (za6 (zm1 (pv 0) (pv 3) rfl)))),?_⟩
   refine cut3 ?_
   intro rr3 rr2
   refine⟨_,rfl,_,rfl,p,_,dx,_,rfl,hp,T.ah,T.ai,by decide,?_⟩
   refine⟨_,rfl,_,rfl,p,_,dx,_,rfl,za1,T.ah,T.a9,zn6 fl0,?_⟩
   refine⟨_,rfl,_,rfl,p,_,dx,_,rfl,za1,T.ah,T.aH,zn6 (flS fl0),?_⟩
   refine q _ za1 fun b o e hb=>?_
   rw[za9 hb,za9 hb,za9 hb]
   exact e
noncomputable def zi8 (hs s g:List Int):Int:=if absI (zb5 hs g)>absI (zb5 hs s) then absI (zb5 hs g) else absI (zb5 hs s)
noncomputable def zV6 (n r:Int)(hs s g:List Int)(L:Int)(S:List (List Int)):Prop:=(L=zi8 hs s g/\S=[])\/(zi8 hs s g<L/\IsR n r hs (L-1) s S)
noncomputable def zq4 (t:Adr)(H:Hp)(l:Addr)(n r:Int)(hs s g:List Int):Prop:=∃(L:Int) (dx rw_ sh:Addr) (d:Nat) (rs:List Addr) (ms:List (Nat×Int)) (zs:List V) (S:List (List Int)),H l=some (.ins t.ac dx (zE6 (.int L) (.ref rw_) (.ref sh)))/\zi8 hs s g<=L/\L<=400/\Dst n r hs L s d g/\H rw_=some (.lst (rs.map V.ref))/\zf4 H s rs ms/\Goes n r hs L s ms g/\ms.length=d ∧
 (∀L',zi8 hs s g<=L'->L'<L->∀d,¬ Dst n r hs L' s d g)/\H sh=some (.lst zs)/\Tups H zs S/\S.Pairwise (fun x y=>Sx.lexB x y=true)/\zV6 n r hs s g L S
inductive ya6 (K:W.Frag)(t:Adr)(vs:List V)(H:Hp)(Q:VK)(E:XK):Prop
 | mk (b a1 a2:Addr)(n r lim:Int)(hs s g:List Int)(h0:vs=[.ref b,.ref a1,.ref a2])(h1:zf5 t H b n r hs lim)(h2:zc8 n r hs.length s)(h3:zc8 n r hs.length g)(h4:(SqL K H a1 (s.map V.int)\/H a1=some (.tup (s.map V.int))))(h5:(SqL K H a2 (g.map V.int)\/H a2=some (.tup (g.map V.int))))(h6:∀l H',Same H H'->zq4 t H' l n r hs s g->Q (.ref l) H'):ya6 K t vs H Q E
noncomputable def ya7 (K:W.Frag)(t:Adr):Sp:=fun vs H Q E=>ya6 K t vs H Q E
theorem ok_least (T:Txt K mg t):FnOk P w K mg base CX0 10 t.bl t.bE ["beam","start","goal"] (ya7 K t):=by
 have Gaf:FnOk P w K mg base CX0 2 t.aa t.ab ["beam","standing"] (zg7 K t):=zi7 T
 have GaF:FnOk P w K mg base CX0 9 t.aL t.a2 ["beam","start","goal"] (zH1 K t):=zR4 T
 have GaG:FnOk P w K mg base CX0 1 t.ax t.aN ["self","limit","row","shut"] (zB1 K t):=ok_Least_init T
 have GaD:FnOk P w K mg base CX0 5 t.aX t.bi ["beam","limit"] (zM6 K t):=ya5 T
 have GaH:FnOk P w K mg base CX0 7 t.af t.ar ["beam","shut"] (zr3 K t):=ok_limit_to_leave T
 have Gai:FnOk P w K mg base CX0 3 t.aK t.aY ["beam","standing"] (zE4 K t):=zJ1 T
 refine T.dv.ok zl3 (fun vs H Q E h=>?_) (fun cdv A outer s H vs Q E hr h=>?_)
 . obtain⟨b,a1,a2,n,r,lim,hs,s,g,rfl,B,Vs,Vg,h1,h2,q⟩:=h
   rfl
 . obtain⟨b,a1,a2,n,r,lim,hs,s,g,rfl,B,Vs,Vg,h1,h2,q⟩:=h
   have haf:Room 2 _:=hr.mono (by decide)
   have haF:Room 9 _:=hr.mono (by decide)
   have haI:Room 2 _:=hr.mono (by decide)
   have haD:Room 5 _:=hr.mono (by decide)
   have haH:Room 7 _:=hr.mono (by decide)
   have hai:Room 3 _:=hr.mono (by decide)
   refine⟨_,(za4 (zb3 (i:=3) zl3.nd rfl (Or.inl rfl) (za7 Gaf haf rfl T.ak T.al T.aj .nil zb4 (za0 (pv 0) (za0 (pv 1) za3))))
     (za4 (zb3 (i:=4) zl3.nd rfl (Or.inl rfl) (za7 Gaf haf rfl T.ak T.al T.aj .nil zb4 (za0 (pv 0) (za0 (pv 2) za3))))
     (za4 (zb3 (i:=5) zl3.nd rfl (Or.inl rfl) (zb0 (zy5 rfl) rfl T.bg PyProof.Rows.boot_max (za0 (zb0 zj9 rfl T.aA PyProof.Rows.boot_abs (za0 (za7 Gai hai rfl T.aY T.aZ T.aX .nil zb4 (za0 (pv 0) (za0 (pv 3) za3))) za3)) (za0 (zb0 zj9 rfl T.aA PyProof.Rows.boot_abs (za0 (za7 Gai hai rfl T.aY T.aZ T.aX .nil zb4 (za0 (pv 0) (za0 (pv 4) za3))) za3)) za3))))
     (za4 (zb3 (i:=6) zl3.nd rfl (Or.inl rfl) (ze6 za3))
     (za4 (zb3 (i:=7) zl3.nd rfl (Or.inl rfl) (za7 GaF haF rfl T.aQ T.aR T.aP .nil zb4 (za0 (za7 GaD haD rfl T.bd T.be T.bc .nil zb4 (za0 (pv 0) (za0 (pv 5) za3))) (za0 (pv 3) (za0 (pv 4) za3)))))
     (za4 (zJ7 PassesOwn.never (ze5 (zd4 (zc9 (pv 7) rfl))) (za4 (zb3 (i:=6) zl3.nd rfl (Or.inl rfl) (zc9 (pv 7) rfl))
     (za4 (zb3 (i:=5) zl3.nd rfl (Or.inl rfl) (za7 GaH haH rfl T.bu T.bv T.bt .nil zb4 (za0 (pv 0) (za0 (pv 6) za3))))
     (za6 (zb3 (i:=7) zl3.nd rfl (Or.inl rfl) (za7 GaF haF rfl T.aQ T.aR T.aP .nil zb4 (za0 (za7 GaD haD rfl T.bd T.be T.bc .nil zb4 (za0 (pv 0) (za0 (pv 5) za3))) (za0 (pv 3) (za0 (pv 4) za3)))))))))
     (za6 (zb8 (zC0 T.dr GaG haI rfl T.b3 T.cl .nil zb4 (za0 (pv 5) (za0 (zc9 (pv 7) rfl) (za0 (pv 6) za3)))))))))))),?_⟩
   refine cut7 ?_
   intro rr7 rr6 rr5 rr4 rr3 rr2
   refine⟨_,rfl,_,rfl,b,a1,n,r,lim,hs,s,rfl,B,Vs,h1,fun f1 H1 s1 hf1=>?_⟩
   have h2':SqL K H1 a2 (g.map V.int)\/H1 a2=some (.tup (g.map V.int)):=h2.imp (fun z=>s1.seq z) (fun z=>s1 _ _ z)
   refine⟨_,rfl,_,rfl,b,a2,n,r,lim,hs,g,rfl,B.same s1,Vg,h2',fun f2 H2 s2 hf2=>?_⟩
   have s02:=s1.trans s2
   have hf12:=s2 _ _ hf1
   refine⟨_,rfl,_,rfl,b,f1,n,r,lim,hs,s,rfl,B.same s02,Vs,.inr hf12,fun H3 s3=>⟨_,rfl,_,rfl,_,rfl,b,f2,n,r,lim,hs,g,rfl,(B.same s02).same s3,Vg,.inr (s3 _ _ hf2),fun H4 s4=>⟨_,rfl,_,_,rfl,?_⟩⟩⟩
   obtain⟨t1,t2⟩:=zz9 B.1 Vs
   obtain⟨t3,t4⟩:=zz9 B.1 Vg
   have elow:(if (if zb5 hs g<0 then -zb5 hs g else zb5 hs g)>(if zb5 hs s<0 then -zb5 hs s else zb5 hs s) then(if zb5 hs g<0 then -zb5 hs g else zb5 hs g) else(if zb5 hs s<0 then -zb5 hs s else zb5 hs s))=zi8 hs s g:=rfl
   rw[elow]
   have w1:absI (zb5 hs s)<=zi8 hs s g:=by unfold zi8;split<;>omega
   have w2:absI (zb5 hs g)<=zi8 hs s g:=by unfold zi8;split<;>omega
   have w3:zi8 hs s g<=240:=by unfold zi8;split<;>omega
   have s24:=s3.trans s4
   have s04:=s02.trans s24
   have B4:=B.same s04
   have hf1:=s24 _ _ hf12
   replace hf2:=s24 _ _ hf2
   refine⟨Nat.zero_le _,fun sh fsh=>?_⟩
   have s5:Same H4 (upd H4 sh (.lst [])):=Same.upd fsh
   have hsh5:(upd H4 sh (.lst [])) sh=some (.lst []):=za1
   dsimp only
   revert s5 hsh5
   generalize upd H4 sh (.lst [])=H5
   intro s5 hsh5
   refine⟨_,rfl,_,rfl,b,n,r,lim,zi8 hs s g,hs,rfl,B4.same s5,by omega,by omega,fun b1 H6 s6 B6=>⟨_,rfl,_,rfl,b1,f1,f2,n,r,zi8 hs s g,hs,s,g,rfl,B6,Vs,Vg,.inr ((s5.trans s6) _ _ hf1),.inr ((s5.trans s6) _ _ hf2),w1,w2,fun wy H7 s7 W7=>?_⟩⟩
   have s57:=s6.trans s7
   refine zJ9 (fun σ H'=>∃L sh wy zs S,σ=[some (.ref b),some (.ref a1),some (.ref a2),some (.ref f1),some (.ref f2),some (.int L),some (.ref sh),some (.ref wy)]/\Same H4 H'/\zi8 hs s g<=L/\L<=400/\zv3 t H' wy n r hs L s g/\(∀L',zi8 hs s g<=L'->L'<L->∀d,¬ Dst n r hs L' s d g)/\H' sh=some (.lst zs)/\Tups H' zs S/\S.Pairwise (fun x y=>Sx.lexB x y=true)/\zV6 n r hs s g L S)
     (fun σ H'=>match σ with | [_,_,_,_,_,some (.int L),_,_]=>(401-L).toNat | _=>0) ⟨zi8 hs s g,sh,wy,[],[],rfl,s5.trans s57,Int.le_refl _,by omega,W7,fun L' h1 h2=>by omega,s57 _ _ hsh5,.nil,.nil,.inl ⟨rfl,rfl⟩⟩ ?_ ?_
   . rintro σ H8 ⟨L,sh,wy,zs,S,rfl,s8,hlo,hL,W,hmin,hsh,TS,srt,hshut⟩
     rcases W with⟨d,rw_,rs,ms,la,as,Ls,ag,ags,sh2,hd,⟨dx,hwy⟩,hrw,hRW,hG,hmsl,_⟩ | ⟨hno,rw_,la,as,Ls,ag,sh2,zs2,S2,⟨dx,hwy⟩,_,_,_,_,_,_,hsh2,TS2,srt2,mem2⟩
     . refine⟨_,rfl,wy,_,dx,_,_,rfl,hwy,T.aa,T.ac,zh5 _ _ _ _ _ _,_,rfl,iteF ?_⟩
       refine⟨_,rfl,_,rfl,wy,_,dx,_,_,rfl,hwy,T.aa,T.an,zH0 _ _ _ _ _ _,_,rfl,fun l dl fl fdl ndl=>?_⟩
       have s9:Same H8 (upd (upd H8 dl (.own l)) l (.ins t.ac dl [])):=(Same.upd fdl).updT (by rw[za9 (Ne.symm ndl)];exact fl)
       refine⟨l,dl,_,_,_,rfl,za1,fun H9 h9 x9=>⟨rfl,?_⟩⟩
       have s89:Same H8 H9:=zg9.same s9 fl x9
       exact q l H9 (s04.trans (s8.trans s89)) ⟨L,dl,rw_,sh,d,rs,ms,zs,S,h9,hlo,hL,hd,s89 _ _ hrw,hRW.same s89,hG,hmsl,hmin,s89 _ _ hsh,s89.tups TS,srt,hshut⟩
     . refine⟨_,rfl,wy,_,dx,_,_,rfl,hwy,T.aa,T.ac,zh5 _ _ _ _ _ _,_,rfl,iteT ?_⟩
       refine⟨_,rfl,wy,_,dx,_,_,rfl,hwy,T.aa,T.aC,zV4 _ _ _ _ _ _,?_⟩
       have hR:IsR n r hs L s S2:=mem2
       have nd2:=zg2 srt2
       have V2:∀x∈S2,zc8 n r hs.length x:=fun x hx=>let⟨_,h⟩:=(mem2 x).mp hx;h.1.valid Vs
       have hsS:s∈S2:=(mem2 s).mpr ⟨0,Dst.zero⟩
       have hgS:g∉S2:=fun z=>let⟨d,h⟩:=(mem2 g).mp z;hno d h
       obtain⟨d4,wk4⟩:=all_400 B.1 Vs Vg
       refine⟨_,rfl,_,rfl,b,sh2,n,r,lim,hs,S2,zs2,rfl,B4.same s8,hsh2,TS2,nd2,V2,few B.1 nd2 V2,leave_of hsS wk4 hgS,fun M H9 s9 hM hm=>?_⟩
       obtain⟨m1,m2,m3⟩:=hR.next hL hM hm
       have s49:=s8.trans s9
       refine⟨_,rfl,_,rfl,b,n,r,lim,M,hs,rfl,B4.same s49,by omega,m2,fun b2 H10 s10 B10=>⟨_,rfl,_,rfl,b2,f1,f2,n,r,M,hs,s,g,rfl,B10,Vs,Vg,.inr ((s49.trans s10) _ _ hf1),.inr ((s49.trans s10) _ _ hf2),by omega,by omega,fun wy2 H11 s11 W11=>?_⟩⟩
       have s911:=s10.trans s11
       have s811:=s9.trans s911
       refine⟨⟨M,sh2,wy2,zs2,S2,rfl,s8.trans s811,by omega,m2,W11,fun L' l1 l2 d hd=>?_,s811 _ _ hsh2,s811.tups TS2,srt2,.inr ⟨by omega,m3 (M-1) (by omega) (by omega)⟩⟩,?_⟩
       . by_cases hlt:L'<L
         . exact hmin L' l1 hlt d hd
         . exact hgS ((m3 L' (by omega) l2 g).mpr ⟨d,hd⟩)
       . show(401-M).toNat<(401-L).toNat
         omega
   . rintro σ H' Q1 Q2 hQ ⟨_,e1,a,C,dx,fs,v,e2,e3,e4,e5,e6,c,e7,h⟩
     exact⟨_,e1,a,C,dx,fs,v,e2,e3,e4,e5,e6,c,e7,hQ _ _ h⟩
end
section
variable {P:Program} {w:World} {K:W.Frag} {mg:Str->Option Value} {base:Heap} {t:Adr}
theorem zE7 (T:Txt K mg t):FnOk P w K mg base CX0 1 t.aF t.aO ["_law_script","_law_k"] (zz8 K t):=by
 refine T.dJ.ok sc_w_at (fun vs H Q E h=>?_) (fun cdv A outer s H vs Q E hr h=>?_)
 . obtain⟨a,ns,k,rfl,hS,q⟩:=h
   rfl
 . obtain⟨a,ns,k,rfl,hS,q⟩:=h
   refine⟨_,(za4 (zd1 (zc6 yc1 (pv 1) (zb0 zb7 rfl T.ad PySem.boot_len (za0 (pv 0) za3)) (zc5 _)) (za6 (zb8 (zd3 zd6 (pv 0) (pv 1) (fun _ _=>rfl)))) zb9)
     (za6 (zb8 za2))),?_⟩
   refine⟨_,rfl,_,rfl,a,_,rfl,.inl hS,_,_,rfl,rfl,_,rfl,?_⟩
   rw[List.length_map]
   refine ite2 (fun h1=>?_) (fun h1=>?_)
   . have hk:k<ns.length:=by have:=of_decide_eq_true h1;omega
     have e:ns.getD k 0=ns[k]:=by simp[hk]
     rw[e] at q
     exact⟨_,rfl,_,rfl,a,_,_,_,rfl,rfl,hS,zI3 (by simp[hk]),q⟩
   . have hk:¬ k<ns.length:=fun z=>h1 (decide_eq_true (by omega))
     have e:ns.getD k 0=0:=by simp[hk]
     rw[e] at q
     exact q
theorem zv5 (T:Txt K mg t):FnOk P w K mg base CX0 1 t.ai t.av ["_law_found"] (zq2 K t):=by
 refine T.cA.ok sc_w_whole (fun vs H Q E h=>?_) (fun cdv A outer s H vs Q E hr h=>?_)
 . obtain⟨i,rfl,q⟩:=h
   rfl
 . obtain⟨i,rfl,q⟩:=h
   refine⟨_,(za6 (zb8 (zT1 (zb0 zk0 rfl T.af PyProof.Rows.boot_isinstance (za0 (pv 0) (za0 (zq5 (v:=.ty "int") rfl T.dP PyProof.Rows.boot_int rfl) za3))) (zJ6 (yg4 (zb0 zk0 rfl T.af PyProof.Rows.boot_isinstance (za0 (pv 0) (za0 (zq5 (v:=.ty "bool") rfl T.ct PyProof.Rows.boot_bool rfl) za3)))))))),?_⟩
   refine⟨_,rfl,_,_,_,_,_,rfl,.ty _,.int _,rfl,_,rfl,iteT ?_⟩
   exact⟨_,rfl,_,_,_,_,_,rfl,.ty _,.int _,rfl,_,rfl,q⟩
theorem zR5 (T:Txt K mg t):FnOk P w K mg base CX0 1 t.aP t.a5 ["_law_cell","_law_count","_law_base","_law_mix"] (zG6 K t):=by
 refine T.c1.ok zm6 (fun vs H Q E h=>?_) (fun cdv A outer s H vs Q E hr h=>?_)
 . obtain⟨cell,base0,n,mix,rfl,⟨hn,hb,hb2⟩,q⟩:=h
   rfl
 . obtain⟨cell,base0,n,mix,rfl,⟨hn,hb,hb2⟩,q⟩:=h
   refine⟨_,(za4 (zb3 (i:=4) zm6.nd rfl (Or.inl rfl) (ze6 za3))
     (za4 (zb3 (i:=5) zm6.nd rfl (Or.inl rfl) (pv 0))
     (za4 (zd1 (zd4 (pv 3)) (za6 (zb3 (i:=5) zm6.nd rfl (Or.inl rfl) (zb6 ze1 (zb6 zn5 (pv 0) za2) za2))) zb9)
     (za4 (zi3 PassesOwn.never rfl (zl9 rfl T.ao (za0 (pv 1) za3)) (zc4 (i:=6) zm6.nd rfl (Or.inl rfl)) (za6 (zd1 (zd4 (pv 3)) (za4 (zb3 (i:=5) zm6.nd rfl (Or.inl rfl) (zb6 ze1 (zb6 zn5 (zb6 zf6 (zb6 zf6 (pv 5) (pv 6)) za2) za2) za2))
     (za6 (zi9 (zv7 PySem.F.plainAttrs_list PySem.F.slot_list_append PySem.F.type_list_append zk6 (pv 4) (za0 (zb6 ze1 (zb6 zl2 (pv 5) za2) (pv 2)) za3))))) (za4 (zi9 (zv7 PySem.F.plainAttrs_list PySem.F.slot_list_append PySem.F.type_list_append zk6 (pv 4) (za0 (zb6 ze1 (pv 5) (pv 2)) za3)))
     (za6 (zb3 (i:=5) zm6.nd rfl (Or.inl rfl) (zb6 zl2 (pv 5) (pv 2))))))))
     (za6 (zb8 (pv 4))))))),?_⟩
   refine cut5 ?_
   intro rr5 rr4 rr3 rr2
   refine⟨Nat.zero_le _,fun l hl=>?_⟩
   refine⟨_,rfl,_,rfl,_,rfl,?_⟩
   have e0:(zo1 cell base0 mix 0).2=[]:=rfl
   cases mix
   . refine iteF ?_
     refine⟨_,rfl,_,rfl,by omega,by omega,zj0 (n:=(n:Int).toNat) (fun i σ H'=>∃v,σ=[some (.int cell),some (.int n),some (.int base0),some (.bl false),some (.ref l),some (.int (zo1 cell base0 false i).1),v]/\H'=upd H l (.lst ((zo1 cell base0 false i).2.map V.int))/\(zo1 cell base0 false i).2.length=i) ⟨none,rfl,rfl,rfl⟩ ?_ ?_⟩
     . rintro i σ H' hi ⟨v,rfl,rfl,hlen⟩
       refine⟨_,rfl,_,rfl,iteF ?_⟩
       refine⟨_,rfl,.inl ⟨rfl,_,SqL.of za1⟩,_,rfl,_,rfl,_,_,rfl,rfl,hb,l,_,_,rfl,rfl,za1,zc7 (by rw[List.length_map];omega),?_⟩
       refine⟨_,rfl,_,rfl,_,_,rfl,rfl,⟨hb,by omega⟩,_,rfl,?_,?_⟩
       . rw[zk5]
         show upd H l (.lst (_++[V.int _]))=upd H l (.lst ((_++[_]).map V.int))
         rw[List.map_append]
         rfl
       . show(_++[_]).length=i+1
         rw[List.length_append,hlen]
         rfl
     . rintro σ H' ⟨v,rfl,rfl,hlen⟩
       exact⟨_,rfl,q l hl⟩
   . refine iteT ?_
     refine⟨_,rfl,_,_,rfl,rfl,.inr ⟨by decide,by decide⟩,_,_,rfl,rfl,(by show(0:Int)<2147483647;decide),?_⟩
     refine⟨_,rfl,_,rfl,by omega,by omega,zj0 (n:=(n:Int).toNat) (fun i σ H'=>∃v,σ=[some (.int cell),some (.int n),some (.int base0),some (.bl true),some (.ref l),some (.int (zo1 cell base0 true i).1),v]/\H'=upd H l (.lst ((zo1 cell base0 true i).2.map V.int))/\(zo1 cell base0 true i).2.length=i) ⟨none,rfl,rfl,rfl⟩ ?_ ?_⟩
     . rintro i σ H' hi ⟨v,rfl,rfl,hlen⟩
       refine⟨_,rfl,_,rfl,iteT ?_⟩
       refine⟨_,rfl,_,rfl,_,_,rfl,rfl,_,_,rfl,rfl,_,_,rfl,rfl,.inr ⟨by decide,by decide⟩,_,_,rfl,rfl,(by show(0:Int)<2147483647;decide),?_⟩
       refine⟨_,rfl,.inl ⟨rfl,_,SqL.of za1⟩,_,rfl,_,_,rfl,rfl,⟨by decide,by decide⟩,_,rfl,_,_,rfl,rfl,hb,l,_,_,rfl,rfl,za1,zc7 (by rw[List.length_map];omega),?_⟩
       refine⟨_,rfl,?_,?_⟩
       . rw[zk5]
         show upd H l (.lst (_++[V.int _]))=upd H l (.lst ((_++[_]).map V.int))
         rw[List.map_append]
         rfl
       . show(_++[_]).length=i+1
         rw[List.length_append,hlen]
         rfl
     . rintro σ H' ⟨v,rfl,rfl,hlen⟩
       exact⟨_,rfl,q l hl⟩
theorem ok_w_same (T:Txt K mg t):FnOk P w K mg base CX0 2 t.ba t.bv ["_law_found","_law_due"] (zQ2 K t):=by
 have GaJ:FnOk P w K mg base CX0 1 t.ai t.av ["_law_found"] (zq2 K t):=zv5 T
 refine T.df.ok zP9 (fun vs H Q E h=>?_) (fun cdv A outer s H vs Q E hr h=>?_)
 . obtain⟨a,b,xs,ys,rfl,hA,hB,hl,q⟩:=h
   rfl
 . obtain⟨a,b,xs,ys,rfl,hA,hB,hl,q⟩:=h
   have haJ:Room 1 _:=hr.mono (by decide)
   refine⟨_,(za4 (zd1 (zc6 zn8 (zb0 zb7 rfl T.ad PySem.boot_len (za0 (pv 0) za3)) (zb0 zb7 rfl T.ad PySem.boot_len (za0 (pv 1) za3)) (zc5 _)) (za6 (zb8 zg8)) zb9)
     (za4 (zi3 PassesOwn.never rfl (zl9 rfl T.ao (za0 (zb0 zb7 rfl T.ad PySem.boot_len (za0 (pv 1) za3)) za3)) (zc4 (i:=2) zP9.nd rfl (Or.inl rfl)) (za6 (zd1 (PW.pt (zn1 (ze5 (zd4 (za7 GaJ haJ rfl T.aJ T.aK T.aI .nil zb4 (za0 (zd3 zr4 (pv 0) (pv 2) (fun _ _=>rfl)) za3)))) (zl0 (zc6 zn8 (zd3 zr4 (pv 0) (pv 2) (fun _ _=>rfl)) (zd3 zr4 (pv 1) (pv 2) (fun _ _=>rfl)) (zc5 _))))) (za6 (zb8 zg8)) zb9)))
     (za6 (zb8 zg8)))),?_⟩
   refine cut3 ?_
   intro rr3 rr2
   refine⟨_,rfl,a,_,rfl,hA,_,rfl,b,_,rfl,hB,rfl,_,rfl,?_⟩
   rw[List.length_map,List.length_map]
   refine ite2 (fun h1=>?_) (fun h1=>?_)
   . have ne:xs≠ys:=by
       intro e
       subst e
       simp at h1
     rw[decide_eq_false ne] at q
     exact q
   . have hlen:xs.length=ys.length:=by
       simp at h1
       omega
     refine⟨_,rfl,b,_,rfl,hB,_,rfl,by omega,by rw[List.length_map];omega,zj0 (n:=((ys.map V.int).length:Int).toNat) (fun i σ H'=>∃v,σ=[some (.ref a),some (.ref b),v]/\H'=H/\xs.take i=ys.take i) ⟨none,rfl,rfl,rfl⟩ ?_ ?_⟩
     . rintro i σ H' hi ⟨v,rfl,rfl,ht⟩
       have hiy:i<ys.length:=by simpa using hi
       have hix:i<xs.length:=by omega
       have ex:xs[i]?=some xs[i]:=by simp[hix]
       have ey:ys[i]?=some ys[i]:=by simp[hiy]
       have e0:(0:Int)+(i:Int)=(i:Int):=by omega
       have ax:atI (xs.map V.int) (0+(i:Int))=some (.int xs[i]):=by rw[e0];exact zI3 ex
       have ay:atI (ys.map V.int) (0+(i:Int))=some (.int ys[i]):=by rw[e0];exact zI3 ey
       have ixA:∀(Q':VK),Q' (.int xs[i]) H'->rIx K (.ref a) (.int (0+(i:Int))) H' Q':=fun Q' h=>by
         rcases hA with hA | hA
         . exact .inl ⟨a,_,_,_,rfl,rfl,hA,ax,h⟩
         . exact .inr (.inl ⟨a,_,_,_,rfl,rfl,hA,ax,h⟩)
       have ixB:∀(Q':VK),Q' (.int ys[i]) H'->rIx K (.ref b) (.int (0+(i:Int))) H' Q':=fun Q' h=>by
         rcases hB with hB | hB
         . exact .inl ⟨b,_,_,_,rfl,rfl,hB,ay,h⟩
         . exact .inr (.inl ⟨b,_,_,_,rfl,rfl,hB,ay,h⟩)
       refine⟨_,rfl,_,rfl,ixA _ ⟨_,rfl,_,rfl,iteF ?_⟩⟩
       refine⟨_,rfl,_,rfl,ixA _ ⟨_,rfl,_,rfl,ixB _ ⟨rfl,_,rfl,?_⟩⟩⟩
       refine ite2 (fun h2=>?_) (fun h2=>?_)
       . have ne:xs≠ys:=by
           intro e
           subst e
           simp at h2
         rw[decide_eq_false ne] at q
         exact q
       . refine⟨_,rfl,rfl,?_⟩
         have e2:xs[i]=ys[i]:=by
           simp at h2
           exact h2
         rw[List.take_succ,List.take_succ,ht,ex,ey,e2]
     . rintro σ H' ⟨v,rfl,rfl,ht⟩
       have e:xs=ys:=by
         have e1:((ys.map V.int).length:Int).toNat=ys.length:=by simp
         rw[e1] at ht
         rw[<-List.take_length (l:=ys),<-ht,<-hlen,List.take_length]
       rw[decide_eq_true e] at q
       exact q
theorem ok_w_shape (T:Txt K mg t):FnOk P w K mg base CX0 2 t.aU t.bf ["_law_script"] (zL8 K t):=by
 have GaK:FnOk P w K mg base CX0 1 t.aF t.aO ["_law_script","_law_k"] (zz8 K t):=zE7 T
 have GaL:FnOk P w K mg base CX0 1 t.aP t.a5 ["_law_cell","_law_count","_law_base","_law_mix"] (zG6 K t):=zR5 T
 refine T.cB.ok zh3 (fun vs H Q E h=>?_) (fun cdv A outer s H vs Q E hr h=>?_)
 . obtain⟨a,ns,rfl,hS,q⟩:=h
   rfl
 . obtain⟨a,ns,rfl,hS,q⟩:=h
   have haK:Room 1 _:=hr.mono (by decide)
   have haL:Room 1 _:=hr.mono (by decide)
   refine⟨_,(za4 (zb3 (i:=1) zh3.nd rfl (Or.inl rfl) (za7 GaK haK rfl T.ay T.az T.ax .nil zb4 (za0 (pv 0) (za0 za2 za3))))
     (za4 (zb3 (i:=2) zh3.nd rfl (Or.inl rfl) (zd3 zd6 (ze6 (za0 za2 (za0 za2 (za0 za2 (za0 za2 za3))))) (zb6 ze1 (pv 1) za2) (fun _ _=>rfl)))
     (za4 (zb3 (i:=3) zh3.nd rfl (Or.inl rfl) (zb0 (zF1 rfl) rfl T.bh PyProof.Rows.boot_min (za0 (zd3 zd6 (ze6 (za0 za2 (za0 za2 (za0 za2 (za0 za2 za3))))) (zb6 zi4 (pv 2) za2) (fun _ _=>rfl)) (za0 (zd3 zd6 (ze6 (za0 za2 (za0 za2 (za0 za2 (za0 za2 (za0 za2 (za0 za2 za3))))))) (zb6 ze1 (zb6 zl2 (pv 1) za2) za2) (fun _ _=>rfl)) za3))))
     (za4 (zb3 (i:=4) zh3.nd rfl (Or.inl rfl) (zb6 zf6 za2 (zb6 ze1 (zb6 zl2 (pv 1) za2) za2)))
     (za4 (zb3 (i:=5) zh3.nd rfl (Or.inl rfl) (za7 GaK haK rfl T.ay T.az T.ax .nil zb4 (za0 (pv 0) (za0 za2 za3))))
     (za4 (yc7 (i:=6) rfl zD9 (zg1 (za7 GaL haL rfl T.bx T.bz T.bw .nil zb4 (za0 (za7 GaK haK rfl T.ay T.az T.ax .nil zb4 (za0 (pv 0) (za0 za2 za3))) (za0 (pv 3) (za0 za2 (za0 (zj1 zl8 (zb6 ze1 (pv 5) za2) za2 (zc5 _)) za3)))))) (fun _ _ _ _ _=>(zc4 (i:=0) zD9.nd rfl (Or.inl rfl))) (fun _ _ _ _ _=>zi5) (fun _ _ _ _ _=>(zb6 zf6 za2 (pv 0))) zh3.nd rfl rfl)
     (za4 (zd1 (zc6 zl8 (zb6 ze1 (zb6 zl2 (pv 5) za2) za2) za2 (zc5 _)) (za6 (zb3 (i:=6) zh3.nd rfl (Or.inl rfl) (zb6 zT8 (zw2 sl_list (pv 6) zC1 (zC2 za2)) (pv 3)))) zb9)
     (za4 (zd1 (zc6 zl8 (zb6 ze1 (zb6 zl2 (pv 5) za2) za2) za2 (zc5 _)) (za6 (zb3 (i:=6) zh3.nd rfl (Or.inl rfl) (zb6 zT8 (ze6 (za0 za2 za3)) (pv 3)))) zb9)
     (za6 (zb8 (ze6 (za0 (pv 2) (za0 (pv 4) (za0 (pv 6) za3)))))))))))))),?_⟩
   refine cut9 ?_
   intro rr9 rr8 rr7 rr6 rr5 rr4 rr3 rr2
   have hm1:0<=at0 ns 1 % 4:=Int.emod_nonneg _ (by decide)
   have hm2:at0 ns 1 % 4<4:=Int.emod_lt_of_pos _ (by decide)
   have hm3:0<=at0 ns 1 / 4 % 6:=Int.emod_nonneg _ (by decide)
   have hm4:at0 ns 1 / 4 % 6<6:=Int.emod_lt_of_pos _ (by decide)
   have hN:=zG5 ns
   obtain⟨hW0,hW5⟩:=yj5 ns
   have h5:(if shN ns=1 then(5:Int) else if shN ns=2 then 4 else 3)<=5:=by repeat (first | decide | split)
   refine⟨_,rfl,a,ns,1,rfl,hS,?_⟩
   refine⟨by decide,fun l1 f1=>⟨_,rfl,_,_,rfl,rfl,(by show(0:Int)<4;decide),l1,_,_,_,rfl,rfl,SqL.of za1,zg4 (xs:=[2,3,1,4]) hm1 hm2,?_⟩⟩
   have s1:Same H (upd H l1 (.lst [.int 2,.int 3,.int 1,.int 4])):=Same.upd f1
   generalize upd H l1 (.lst [.int 2,.int 3,.int 1,.int 4])=H1 at s1 ⊢
   refine⟨by decide,fun l2 f2=>⟨_,rfl,_,_,rfl,rfl,l2,_,_,_,rfl,rfl,SqL.of za1,zg4 (xs:=[5,4,3,3]) (by show 0<=shN ns-1;omega) (by show shN ns-1<4;omega),?_⟩⟩
   have s2:Same H (upd H1 l2 (.lst [.int 5,.int 4,.int 3,.int 3])):=s1.updT f2
   generalize upd H1 l2 (.lst [.int 5,.int 4,.int 3,.int 3])=H2 at s2 ⊢
   refine⟨by decide,fun l3 f3=>⟨_,rfl,_,_,rfl,rfl,⟨by decide,by decide⟩,_,_,rfl,rfl,(by show(0:Int)<6;decide),l3,_,_,_,rfl,rfl,SqL.of za1,zg4 (xs:=[3,2,4,1,5,0]) hm3 hm4,_,_,rfl,?_⟩⟩
   have s3:Same H (upd H2 l3 (.lst [.int 3,.int 2,.int 4,.int 1,.int 5,.int 0])):=s2.updT f3
   generalize upd H2 l3 (.lst [.int 3,.int 2,.int 4,.int 1,.int 5,.int 0])=H3 at s3 ⊢
   refine⟨_,rfl,_,_,rfl,rfl,⟨by decide,by decide⟩,_,_,rfl,rfl,(by show(0:Int)<3;decide),_,_,rfl,rfl,?_⟩
   refine⟨_,rfl,a,ns,0,rfl,s3.seq hS,?_⟩
   have eW:(((shW ns).toNat:Nat):Int)=shW ns:=by omega
   refine⟨_,rfl,a,ns,2,rfl,s3.seq hS,_,rfl,_,rfl,_,_,rfl,rfl,(by show(0:Int)<2;decide),rfl,at0 ns 2,20,(shW ns).toNat,zr1 ns,?_,⟨by omega,by decide,by decide⟩,fun l4 f4=>⟨l4,rfl,⟨_,SqL.of za1⟩,fun D hD=>?_⟩⟩
   . rw[eW];rfl
   have s4:Same H (upd H3 l4 (.lst ((figs (at0 ns 2) (shW ns).toNat 20 (zr1 ns)).map V.int))):=s3.updT f4
   refine zr7 (f:=fun v=>match v with | .int z=>V.int (1+z) | v=>v) (SqL.of za1) hD (Nat.le_of_lt (zc7 (by rw[List.length_map,zE0];omega))) (fun x acc R hx h=>?_) ?_
   . obtain⟨z,hz,rfl⟩:=List.mem_map.mp hx
     exact⟨_,rfl,_,_,rfl,rfl,h⟩
   have em:((figs (at0 ns 2) (shW ns).toNat 20 (zr1 ns)).map V.int).map (fun v=>match v with | .int z=>V.int (1+z) | v=>v)=(shH0 ns).map V.int:=by
     unfold shH0
     rw[List.map_map,List.map_map];rfl
   rw[em]
   have s5:=s4.updT (o:=.lst ((shH0 ns).map V.int)) hD
   have fD:H D=none:=s4.free hD
   have hHD:(upd (upd H3 l4 (.lst ((figs (at0 ns 2) (shW ns).toNat 20 (zr1 ns)).map V.int))) D (.lst ((shH0 ns).map V.int))) D=some (.lst ((shH0 ns).map V.int)):=za1
   clear em
   revert s5 hHD
   generalize upd (upd H3 l4 (.lst ((figs (at0 ns 2) (shW ns).toNat 20 (zr1 ns)).map V.int))) D (.lst ((shH0 ns).map V.int))=H5
   intro s5 hHD
   have hl0:=zY9 ns
   refine⟨_,rfl,_,_,rfl,rfl,⟨by decide,by decide⟩,_,_,rfl,rfl,(by show(0:Int)<5;decide),rfl,_,rfl,?_⟩
   show(if decide (V.int (at0 ns 0 / 2 % 5)=V.int 1)=true then _ else _)
   rw[zf7]
   by_cases m1:at0 ns 0 / 2 % 5=1
   . rw[decide_eq_true m1]
     refine iteT ?_
     refine⟨_,rfl,1,rfl,D,_,rfl,SqL.of hHD,fun l6 f6=>⟨_,rfl,l6,_,_,rfl,rfl,za1,(by show -(2 ^ 63)<=shW ns;omega),(by show shW ns<2 ^ 63;omega),?_,fun l7 f7=>?_⟩⟩
     . refine Nat.le_of_lt (zc7 ?_)
       have h1:(cutV ((shH0 ns).map V.int) none (some 1)).length<=(shW ns).toNat:=by rw[<-hl0,<-List.length_map (f:=V.int)];exact zn2 _ _ _
       have h2:(shW ns).toNat<=5:=by omega
       exact Nat.le_trans (Nat.mul_le_mul (Nat.le_trans h1 h2) h2) (by decide)
     have s6:=(s5.updT (o:=.lst (cutV ((shH0 ns).map V.int) none (some 1))) f6).updT (o:=.lst (List.replicate (shW ns).toNat (cutV ((shH0 ns).map V.int) none (some 1))).flatten) f7
     have f7':H l7=none:=(s5.updT (o:=.lst (cutV ((shH0 ns).map V.int) none (some 1))) f6).free f7
     refine⟨_,rfl,_,_,rfl,rfl,⟨by decide,by decide⟩,_,_,rfl,rfl,(by show(0:Int)<5;decide),rfl,_,rfl,?_⟩
     show(if decide (V.int (at0 ns 0 / 2 % 5)=V.int 2)=true then _ else _)
     rw[zf7,decide_eq_false (by omega)]
     refine iteF ?_
     refine⟨_,rfl,_,rfl,_,rfl,(by show 3<=sizeLine;decide),fun l8 f8=>?_⟩
     refine q l8 l7 _ (s6.updT f8) (s6.free f8) f7' ?_ za1
     rw[za9 (fun e=>by rw[<-e] at f8;rw[za1] at f8;cases f8),za1]
     have ec:cutV ((shH0 ns).map V.int) none (some 1)=((shH0 ns).take 1).map V.int:=by
       unfold cutV
       rw[HT.sIx_none,show(some (1:Int))=some ((1:Nat):Int) from rfl,HT.sIx_nat,List.drop_zero,Nat.sub_zero,List.map_take,List.length_map]
       by_cases h:1<=(shH0 ns).length
       . rw[Nat.min_eq_left h]
       . have:shH0 ns=[]:=List.eq_nil_of_length_eq_zero (by omega)
         rw[this];rfl
     have ef:(List.replicate (shW ns).toNat (((shH0 ns).take 1).map V.int)).flatten=(shH ns).map V.int:=by
       unfold shH
       rw[if_pos m1,List.map_flatten,List.map_replicate]
     show some (HO.lst (List.replicate (shW ns).toNat (cutV ((shH0 ns).map V.int) none (some 1))).flatten)=_
     rw[ec,ef]
   . rw[decide_eq_false m1]
     refine iteF ?_
     refine⟨_,rfl,_,_,rfl,rfl,⟨by decide,by decide⟩,_,_,rfl,rfl,(by show(0:Int)<5;decide),rfl,_,rfl,?_⟩
     show(if decide (V.int (at0 ns 0 / 2 % 5)=V.int 2)=true then _ else _)
     rw[zf7]
     by_cases m2:at0 ns 0 / 2 % 5=2
     . rw[decide_eq_true m2]
       refine iteT ?_
       refine⟨by decide,fun l6 f6=>⟨_,rfl,l6,_,_,rfl,rfl,za1,(by show -(2 ^ 63)<=shW ns;omega),(by show shW ns<2 ^ 63;omega),?_,fun l7 f7=>?_⟩⟩
       . refine Nat.le_of_lt (zc7 ?_)
         show 1*(shW ns).toNat<=1000
         omega
       have s6:=(s5.updT (o:=.lst [.int 20]) f6).updT (o:=.lst (List.replicate (shW ns).toNat [V.int 20]).flatten) f7
       have f7':H l7=none:=(s5.updT (o:=.lst [.int 20]) f6).free f7
       refine⟨_,rfl,_,rfl,_,rfl,(by show 3<=sizeLine;decide),fun l8 f8=>?_⟩
       refine q l8 l7 _ (s6.updT f8) (s6.free f8) f7' ?_ za1
       rw[za9 (fun e=>by rw[<-e] at f8;rw[za1] at f8;cases f8),za1]
       have ef:(List.replicate (shW ns).toNat [V.int 20]).flatten=(shH ns).map V.int:=by
         unfold shH
         rw[if_neg m1,if_pos m2,List.map_flatten,List.map_replicate]
         rfl
       show some (HO.lst (List.replicate (shW ns).toNat [V.int 20]).flatten)=_
       rw[ef]
     . rw[decide_eq_false m2]
       refine iteF ?_
       refine⟨_,rfl,_,rfl,_,rfl,(by show 3<=sizeLine;decide),fun l8 f8=>?_⟩
       refine q l8 D _ (s5.updT f8) (s5.free f8) fD ?_ za1
       rw[za9 (fun e=>by rw[<-e] at f8;rw[hHD] at f8;cases f8),hHD]
       have ef:shH ns=shH0 ns:=by
         unfold shH
         rw[if_neg m1,if_neg m2]
       rw[ef]
theorem ok_w_put (T:Txt K mg t):FnOk P w K mg base CX0 2 t.bm t.bF ["_law_script","_law_k","_law_more","_law_shape_here"] (zZ2 K t):=by
 have GaL:FnOk P w K mg base CX0 1 t.aP t.a5 ["_law_cell","_law_count","_law_base","_law_mix"] (zG6 K t):=zR5 T
 have GaK:FnOk P w K mg base CX0 1 t.aF t.aO ["_law_script","_law_k"] (zz8 K t):=zE7 T
 refine T.dw.ok zi6 (fun vs H Q E h=>?_) (fun cdv A outer s H vs Q E hr h=>?_)
 . obtain⟨a,sh,h,ns,k,more,n,r,hs,rfl,hS,hsh,hh,⟨n1,n2,r1,hw⟩,q⟩:=h
   rfl
 . obtain⟨a,sh,h,ns,k,more,n,r,hs,rfl,hS,hsh,hh,⟨n1,n2,r1,hw⟩,q⟩:=h
   have haL:Room 1 _:=hr.mono (by decide)
   have haK:Room 1 _:=hr.mono (by decide)
   refine⟨_,(za4 (zF0 (pv 3) (zU0 rfl (ze4 (zc4 (i:=4) zi6.nd rfl (Or.inl rfl)) (ze4 (zc4 (i:=5) zi6.nd rfl (Or.inl rfl)) (ze4 (zc4 (i:=6) zi6.nd rfl (Or.inl rfl)) zy4)))))
     (za4 (zb3 (i:=7) zi6.nd rfl (Or.inl rfl) (zj1 zl8 (zb6 ze1 (za7 GaK haK rfl T.ay T.az T.ax .nil zb4 (za0 (pv 0) (za0 za2 za3))) za2) za2 (zc5 _)))
     (za4 (zb3 (i:=8) zi6.nd rfl (Or.inl rfl) (zb6 zf6 (za7 GaK haK rfl T.ay T.az T.ax .nil zb4 (za0 (pv 0) (za0 (pv 1) za3))) (pv 2)))
     (za4 (zb3 (i:=9) zi6.nd rfl (Or.inl rfl) (ze6 za3))
     (za4 (zi3 PassesOwn.never rfl (zg1 (za7 GaL haL rfl T.bx T.bz T.bw .nil zb4 (za0 (pv 8) (za0 (zb0 zb7 rfl T.ad PySem.boot_len (za0 (pv 6) za3)) (za0 (zb6 zf6 (zb6 zn5 za2 (pv 4)) za2) (za0 (pv 7) za3)))))) (zc4 (i:=10) zi6.nd rfl (Or.inl rfl)) (za4 (zb3 (i:=11) zi6.nd rfl (Or.inl rfl) (zb6 zi4 (pv 10) (pv 4)))
     (za4 (zd1 (zc6 zl8 (zb6 ze1 (pv 8) za2) za2 (zc5 _)) (za6 (zb3 (i:=11) zi6.nd rfl (Or.inl rfl) (pv 4))) zb9)
     (za4 (zd1 (PW.pt (zB3 (zc6 zn8 (pv 11) za2 (zc5 _)) (zy3 (zc6 yh1 (zv7 PySem.F.plainAttrs_list PySem.F.slot_list_count PySem.F.type_list_count zO4 (pv 9) (za0 (pv 11) za3)) (pv 5) (zc5 _))))) (za6 (zb3 (i:=11) zi6.nd rfl (Or.inl rfl) za2)) zb9)
     (za6 (zi9 (zv7 PySem.F.plainAttrs_list PySem.F.slot_list_append PySem.F.type_list_append zk6 (pv 9) (za0 (pv 11) za3))))))))
     (za6 (zb8 (pv 9)))))))),?_⟩
   refine cut6 ?_
   intro rr6 rr5 rr4 rr3 rr2
   refine⟨_,rfl,sh,_,rfl,SqL.of hsh,rfl,_,_,rfl,_,_,rfl,_,_,rfl,rfl,?_⟩
   refine⟨_,rfl,a,ns,0,rfl,hS,_,_,rfl,rfl,(by show(0:Int)<2;decide),rfl,?_⟩
   refine⟨_,rfl,_,rfl,a,ns,k,rfl,hS,_,rfl,_,_,rfl,rfl,?_⟩
   refine⟨Nat.zero_le _,fun m fm=>?_⟩
   have s1:Same H (upd H m (.lst [])):=Same.upd fm
   refine⟨_,rfl,_,rfl,h,_,rfl,.inl (s1.seq hh),_,rfl,_,_,rfl,rfl,.inl ⟨by decide,by decide⟩,_,_,rfl,rfl,_,rfl,at0 ns k+more,2*n+1,hs.length,zr1 ns,?_,⟨by omega,by omega,by omega⟩,fun f ff=>⟨f,rfl,⟨_,SqL.of za1⟩,?_⟩⟩
   . rw[List.length_map];rfl
   have hfm:f≠m:=fun e=>by rw[e,za1] at ff;cases ff
   have ff0:H f=none:=s1.free ff
   have hlen:(figs (at0 ns k+more) hs.length (2*n+1) (zr1 ns)).length=hs.length:=zE0 _ _ _ _
   have hin:=zV1 (cell:=at0 ns k+more) (mix:=zr1 ns) (show(0:Int)<2*n+1 by omega) hs.length
   have hq:∀H',Same H H'->H' m=some (.lst ((putL n r (decide (V.int ((at0 ns k+more) % 13)=V.int 12)) (figs (at0 ns k+more) hs.length (2*n+1) (zr1 ns))).map V.int))->Q (.ref m) H':=fun H' s' e=>q m H' s' fm e
   generalize figs (at0 ns k+more) hs.length (2*n+1) (zr1 ns)=fs at hlen hin hq ⊢
   have hput:∀i,(putL n r (decide (V.int ((at0 ns k+more) % 13)=V.int 12)) (fs.take i)).length<=5:=fun i=>by
     rw[(ye8 _ (by omega) r1 (fs.take i) fun x hx=>hin x (List.mem_of_mem_take hx)).1,List.length_take];omega
   refine zp7 (K:=K) (a:=f) (xs:=fs.map V.int) (fun i σ H'=>∃v10 v11,σ=[some (.ref a),some (.int k),some (.int more),some (.ref sh),some (.int n),some (.int r),some (.ref h),some (.bl (zr1 ns)),some (.int (at0 ns k+more)),some (.ref m),v10,v11] ∧
     H'=upd (upd (upd H m (.lst [])) f (.lst (fs.map V.int))) m (.lst ((putL n r (decide (V.int ((at0 ns k+more) % 13)=V.int 12)) (fs.take i)).map V.int))) ⟨none,none,rfl,?_⟩ ?_ ?_ ?_
   . exact(upd_id (by rw[za9 (Ne.symm hfm),za1];rfl)).symm
   . rintro i σ H' _ ⟨_,_,_,rfl⟩
     exact SqL.of (by rw[za9 hfm,za1])
   . rintro i x σ H' hi ⟨v10,v11,rfl,rfl⟩
     obtain⟨z,rfl,hz⟩:=int_at hi
     have etk:fs.take (i+1)=fs.take i++[z]:=by rw[List.take_succ,hz];rfl
     have hpi:=hput i
     generalize hlast:decide (V.int ((at0 ns k+more) % 13)=V.int 12)=last at hput hpi hq ⊢
     generalize hmade:putL n r last (fs.take i)=made at hpi
     have enext:putL n r last (fs.take (i+1))=zo4 n r last made z:=by rw[etk,zQ0,hmade]
     have tail:∀(p:Int),p=(if last=true then n else z-n)->True:=fun _ _=>trivial
     refine⟨_,rfl,_,rfl,_,_,rfl,rfl,?_⟩
     refine⟨_,rfl,_,_,rfl,rfl,(by show(0:Int)<13;decide),rfl,_,rfl,?_⟩
     show(if decide (V.int ((at0 ns k+more) % 13)=V.int 12)=true then _ else _)
     rw[hlast]
     cases last
     . refine iteF ?_
       refine⟨_,rfl,rfl,_,rfl,?_⟩
       refine ite2 (fun h1=>?_) (fun h1=>?_)
       . have hp0:z-n≠0:=fun e=>by
           have h1':(!decide (V.int (z-n)=V.int 0))=true:=h1
           rw[e] at h1';simp at h1'
         refine⟨_,rfl,.inl ⟨rfl,_,SqL.of za1⟩,_,rfl,m,made,z-n,rfl,rfl,SqL.of za1,_,rfl,_,_,rfl,rfl,_,rfl,?_⟩
         refine ite2 (fun h2=>?_) (fun h2=>?_)
         . have h2':r<=(made.count (z-n):Int):=of_decide_eq_true h2
           refine⟨_,rfl,.inl ⟨rfl,_,SqL.of za1⟩,_,rfl,m,_,_,rfl,rfl,za1,zc7 (by rw[List.length_map];omega),_,_,rfl,?_⟩
           rw[zk5,enext]
           unfold zo4
           rw[if_neg (show ¬ (false=true) by decide),if_pos ⟨hp0,h2'⟩,List.map_append]
           rfl
         . have h2':¬ r<=(made.count (z-n):Int):=fun e=>h2 (decide_eq_true e)
           refine⟨_,rfl,.inl ⟨rfl,_,SqL.of za1⟩,_,rfl,m,_,_,rfl,rfl,za1,zc7 (by rw[List.length_map];omega),_,_,rfl,?_⟩
           rw[zk5,enext]
           unfold zo4
           rw[if_neg (show ¬ (false=true) by decide),if_neg (fun e=>h2' e.2),List.map_append]
           rfl
       . have hp0:z-n=0:=by
           have h1':¬ (!decide (V.int (z-n)=V.int 0))=true:=h1
           rw[zf7] at h1'
           simpa using h1'
         refine iteF ?_
         refine⟨_,rfl,.inl ⟨rfl,_,SqL.of za1⟩,_,rfl,m,_,_,rfl,rfl,za1,zc7 (by rw[List.length_map];omega),_,_,rfl,?_⟩
         rw[zk5,enext]
         unfold zo4
         rw[if_neg (show ¬ (false=true) by decide),if_neg (fun e=>e.1 hp0),List.map_append]
         rfl
     . refine iteT ?_
       refine⟨_,rfl,?_⟩
       refine⟨_,rfl,rfl,_,rfl,?_⟩
       have hn0:n≠0:=by omega
       refine iteA (by show(!decide (V.int n=V.int 0))=true;rw[zf7];simpa using hn0) ?_
       refine⟨_,rfl,.inl ⟨rfl,_,SqL.of za1⟩,_,rfl,m,made,n,rfl,rfl,SqL.of za1,_,rfl,_,_,rfl,rfl,_,rfl,?_⟩
       refine ite2 (fun h2=>?_) (fun h2=>?_)
       . have h2':r<=(made.count n:Int):=of_decide_eq_true h2
         refine⟨_,rfl,.inl ⟨rfl,_,SqL.of za1⟩,_,rfl,m,_,_,rfl,rfl,za1,zc7 (by rw[List.length_map];omega),_,_,rfl,?_⟩
         rw[zk5,enext]
         unfold zo4
         rw[if_pos rfl,if_pos ⟨hn0,h2'⟩,List.map_append]
         rfl
       . have h2':¬ r<=(made.count n:Int):=fun e=>h2 (decide_eq_true e)
         refine⟨_,rfl,.inl ⟨rfl,_,SqL.of za1⟩,_,rfl,m,_,_,rfl,rfl,za1,zc7 (by rw[List.length_map];omega),_,_,rfl,?_⟩
         rw[zk5,enext]
         unfold zo4
         rw[if_pos rfl,if_neg (fun e=>h2' e.2),List.map_append]
         rfl
   . rintro σ H' ⟨v10,v11,rfl,rfl⟩
     rw[List.length_map,List.take_length]
     refine⟨_,rfl,hq _ ?_ za1⟩
     exact((s1.updT ff).put fm)
inductive zR6 (K:W.Frag)(t:Adr)(vs:List V)(H:Hp)(Q:VK)(E:XK):Prop
 | mk (h a:Addr)(hs xs:List Int)(h0:vs=[.ref h,.ref a])(h1:SqL K H h (hs.map V.int))(h2:(SqL K H a (xs.map V.int)\/SqT K H a (xs.map V.int)))(h3:(hs.length=xs.length/\xs.length<=5/\∀x∈hs,1<=x/\x<=20))(h4:Q (.int (zb5 hs xs)) H):zR6 K t vs H Q E
noncomputable def zH2 (K:W.Frag)(t:Adr):Sp:=fun vs H Q E=>zR6 K t vs H Q E
theorem zR7 (T:Txt K mg t):FnOk P w K mg base CX0 1 t.aQ t.a6 ["_law_hefts","_law_spots"] (zH2 K t):=by
 refine T.c2.ok zz5 (fun vs H Q E h=>?_) (fun cdv A outer s H vs Q E hr h=>?_)
 . obtain⟨h,a,hs,xs,rfl,hh,hS,⟨hl,h5,hhs⟩,q⟩:=h
   rfl
 . obtain⟨h,a,hs,xs,rfl,hh,hS,⟨hl,h5,hhs⟩,q⟩:=h
   refine⟨_,(za4 (zb3 (i:=2) zz5.nd rfl (Or.inl rfl) za2)
     (za4 (zi3 PassesOwn.never rfl (zl9 rfl T.ao (za0 (zb0 zb7 rfl T.ad PySem.boot_len (za0 (pv 0) za3)) za3)) (zc4 (i:=3) zz5.nd rfl (Or.inl rfl)) (za6 (zb3 (i:=2) zz5.nd rfl (Or.inl rfl) (zb6 zf6 (pv 2) (zb6 zn5 (zd3 zd6 (pv 0) (pv 3) (fun _ _=>rfl)) (zd3 zr4 (pv 1) (pv 3) (fun _ _=>rfl)))))))
     (za6 (zb8 (pv 2))))),?_⟩
   refine cut3 ?_
   intro rr3 rr2
   refine⟨_,rfl,h,_,rfl,.inl hh,?_⟩
   rw[List.length_map]
   refine⟨_,rfl,by omega,by omega,zj0 (n:=((hs.length:Nat):Int).toNat) (fun i σ H'=>∃v,σ=[some (.ref h),some (.ref a),some (.int (zZ8 hs xs i)),v]/\H'=H) ⟨none,rfl,rfl⟩ ?_ ?_⟩
   . rintro j σ H' hj ⟨v,rfl,rfl⟩
     have hjh:j<hs.length:=by simpa using hj
     have e0:(0:Int)+(j:Int)=(j:Int):=by omega
     have ax:atI (xs.map V.int) (0+(j:Int))=some (.int (xs.getD j 0)):=by rw[e0];exact zg4 (by omega) (by omega)
     have ah:atI (hs.map V.int) (0+(j:Int))=some (.int (hs.getD j 0)):=by rw[e0];exact zg4 (by omega) (by omega)
     have hm:=hhs (hs.getD j 0) (zt9 hjh)
     have ixA:∀(Q':VK),Q' (.int (xs.getD j 0)) H'->rIx K (.ref a) (.int (0+(j:Int))) H' Q':=fun Q' h=>by
       rcases hS with hS | hS
       . exact .inl ⟨a,_,_,_,rfl,rfl,hS,ax,h⟩
       . exact .inr (.inl ⟨a,_,_,_,rfl,rfl,hS,ax,h⟩)
     exact⟨_,rfl,_,rfl,_,rfl,h,_,_,_,rfl,rfl,hh,ah,_,rfl,_,rfl,ixA _ ⟨_,_,rfl,rfl,.inl ⟨by omega,by omega⟩,_,_,rfl,rfl,_,rfl,rfl⟩⟩
   . rintro σ H' ⟨v,rfl,rfl⟩
     rw[Int.toNat_natCast,sumTo_tilt hl]
     exact⟨_,rfl,q⟩
noncomputable def zM7 (K:W.Frag)(t:Adr):Sp:=fun vs H Q _=>∃(a:Addr) (ns:List Int) (low:Int),vs=[.ref a,.int low]/\SqL K H a (ns.map V.int)/\(0<=low/\low<=400)/\∀lim,low<=lim->lim<=400->Q (.int lim) H
theorem ok_w_limit (T:Txt K mg t):FnOk P w K mg base CX0 2 t.aV t.bg ["_law_script","_law_low_here"] (zM7 K t):=by
 have GaK:FnOk P w K mg base CX0 1 t.aF t.aO ["_law_script","_law_k"] (zz8 K t):=zE7 T
 refine T.cF.ok zB5 (fun vs H Q E h=>?_) (fun cdv A outer s H vs Q E hr h=>?_)
 . obtain⟨a,ns,low,rfl,hS,⟨h0,h4⟩,q⟩:=h
   rfl
 . obtain⟨a,ns,low,rfl,hS,⟨h0,h4⟩,q⟩:=h
   have haK:Room 1 _:=hr.mono (by decide)
   refine⟨_,(za4 (zb3 (i:=2) zB5.nd rfl (Or.inl rfl) (za7 GaK haK rfl T.ay T.az T.ax .nil zb4 (za0 (pv 0) (za0 za2 za3))))
     (za4 (zb3 (i:=3) zB5.nd rfl (Or.inl rfl) (zb6 ze1 (zb6 zl2 (za7 GaK haK rfl T.ay T.az T.ax .nil zb4 (za0 (pv 0) (za0 za2 za3))) za2) za2))
     (za4 (zd1 (zc6 zl8 (pv 3) za2 (zc5 _)) (za6 (zb8 (zb0 (zF1 rfl) rfl T.bh PyProof.Rows.boot_min (za0 za2 (za0 (zb6 zf6 (pv 1) (zb6 ze1 (pv 2) za2)) za3))))) zb9)
     (za4 (zd1 (zc6 zl8 (pv 3) za2 (zc5 _)) (za6 (zb8 (zb0 (zF1 rfl) rfl T.bh PyProof.Rows.boot_min (za0 za2 (za0 (zb6 zf6 (pv 1) (zb6 ze1 (pv 2) za2)) za3))))) zb9)
     (za4 (zd1 (zc6 zl8 (pv 3) za2 (zc5 _)) (za6 (zb8 (zb0 (zy5 rfl) rfl T.bg PyProof.Rows.boot_max (za0 (pv 1) (za0 (zb6 ze1 (pv 2) za2) za3))))) zb9)
     (za6 (zb8 za2))))))),?_⟩
   refine cut6 ?_
   intro rr6 rr5 rr4 rr3 rr2
   refine⟨_,rfl,a,ns,5,rfl,hS,?_⟩
   refine⟨_,rfl,a,ns,0,rfl,hS,_,_,rfl,rfl,⟨by decide,by decide⟩,_,_,rfl,rfl,(by show(0:Int)<4;decide),?_⟩
   generalize ns.getD 5 0=c
   have m8:0<=c % 8:=Int.emod_nonneg _ (by decide)
   have m41:0<=c % 41:=Int.emod_nonneg _ (by decide)
   have m401:0<=c % 401:=Int.emod_nonneg _ (by decide)
   have m401':c % 401<401:=Int.emod_lt_of_pos _ (by decide)
   refine⟨_,rfl,rfl,_,rfl,?_⟩
   refine ite2 (fun h1=>?_) (fun h1=>?_)
   . refine⟨_,rfl,_,rfl,_,_,rfl,rfl,(by show(0:Int)<8;decide),_,_,rfl,rfl,_,_,rfl,?_⟩
     exact q _ (by split<;>omega) (by split<;>omega)
   refine⟨_,rfl,rfl,_,rfl,?_⟩
   refine ite2 (fun h2=>?_) (fun h2=>?_)
   . refine⟨_,rfl,_,rfl,_,_,rfl,rfl,(by show(0:Int)<41;decide),_,_,rfl,rfl,_,_,rfl,?_⟩
     exact q _ (by split<;>omega) (by split<;>omega)
   refine⟨_,rfl,rfl,_,rfl,?_⟩
   refine ite2 (fun h3=>?_) (fun h3=>?_)
   . refine⟨_,rfl,_,rfl,_,_,rfl,rfl,(by show(0:Int)<401;decide),_,_,rfl,?_⟩
     exact q _ (by split<;>omega) (by split<;>omega)
   exact q 400 h4 (by decide)
end
section
variable {P:Program} {w:World} {K:W.Frag} {mg:Str->Option Value} {base:Heap} {t:Adr}
noncomputable def zl6 (K:W.Frag)(H:Hp)(c:Addr)(n r:Int)(hs:List Int)(lim:Int):Prop:=∃h,zg6 n r hs lim/\SqL K H c [.int n,.int r,.ref h,.int lim]/\SqL K H h (hs.map V.int)
theorem zl6.same {K:W.Frag}{H H':Hp}{c:Addr}{n r:Int}{hs:List Int}{lim:Int}(h:zl6 K H c n r hs lim)(s:Same H H'):zl6 K H' c n r hs lim:=let⟨a,h0,h1,h2⟩:=h;⟨a,h0,s.seq h1,s.seq h2⟩
theorem zH3 {xs ys:List Int}(j:Nat)(x y:V)(hx:(xs.map V.int)[j]?=some x)(hy:(ys.map V.int)[j]?=some y):zP5 x y=true:=by
 obtain⟨a,rfl,_⟩:=int_at hx
 obtain⟨b,rfl,_⟩:=int_at hy
 rfl
theorem kit_self (K:W.Frag)(c:Value):W.kitOne K c c=some true:=if_pos (by simp)
inductive zR8 (K:W.Frag)(t:Adr)(vs:List V)(H:Hp)(Q:VK)(E:XK):Prop
 | mk (c:Addr)(n r lim:Int)(hs:List Int)(h0:vs=[.ref c])(h1:zl6 K H c n r hs lim)(h2:∀b H',Same H H'->zf5 t H' b n r hs lim->Q (.ref b) H'):zR8 K t vs H Q E
noncomputable def zR9 (K:W.Frag)(t:Adr):Sp:=fun vs H Q E=>zR8 K t vs H Q E
theorem ok_w_beam (T:Txt K mg t):FnOk P w K mg base CX0 5 t.bc t.bx ["_law_scale"] (zR9 K t):=by
 have GaB:FnOk P w K mg base CX0 3 t.am t.aD ["self","notches","room","hefts","limit"] (zv1 K t):=zE3 T
 refine T.dp.ok sc_w_beam (fun vs H Q E h=>?_) (fun cdv A outer s H vs Q E hr h=>?_)
 . obtain⟨c,n,r,lim,hs,rfl,⟨h,ok,hc,hh⟩,q⟩:=h
   rfl
 . obtain⟨c,n,r,lim,hs,rfl,⟨h,ok,hc,hh⟩,q⟩:=h
   have haC:Room 4 _:=hr.mono (by decide)
   refine⟨_,(za6 (zb8 (zC0 T.b2 GaB haC rfl T.cq T.bb .nil zb4 (za0 (zd3 zd6 (pv 0) za2 (fun _ _=>rfl)) (za0 (zd3 zd6 (pv 0) za2 (fun _ _=>rfl)) (za0 (zg3 zC4 rfl T.aL PyProof.Rows.boot_list (za0 (zd3 zd6 (pv 0) za2 (fun _ _=>rfl)) za3)) (za0 (zd3 zd6 (pv 0) za2 (fun _ _=>rfl)) za3))))))),?_⟩
   refine⟨_,rfl,c,_,_,_,rfl,rfl,hc,rfl,?_⟩
   refine⟨_,rfl,c,_,_,_,rfl,rfl,hc,rfl,?_⟩
   refine⟨_,rfl,c,_,_,_,rfl,rfl,hc,rfl,h,_,rfl,.inl hh,fun l3 f3=>?_⟩
   have s3:Same H (upd H l3 (.lst (hs.map V.int))):=Same.upd f3
   refine⟨_,rfl,c,_,_,_,rfl,rfl,s3.seq hc,rfl,fun b dx fb fdx ndx=>?_⟩
   have s4:Same H (upd (upd (upd H l3 (.lst (hs.map V.int))) dx (.own b)) b (.ins t.aj dx [])):=(s3.updT fdx).updT (by rw[za9 (Ne.symm ndx)];exact fb)
   have e3b:l3≠b:=fun e=>by rw[<-e,za1] at fb;cases fb
   have e3d:l3≠dx:=fun e=>by rw[<-e,za1] at fdx;cases fdx
   refine⟨b,dx,l3,n,r,lim,hs,rfl,za1,.inl (SqL.of (by rw[za9 e3b,za9 e3d,za1])),ok,fun H5 B5 s5=>⟨rfl,?_⟩⟩
   have fb2:H b=none:=s3.free fb
   exact q b H5 (fun c o e=>s5 c o (s4 c o e) (zc1 e fb2)) B5
end
section
variable {P:Program} {w:World} {K:W.Frag} {mg:Str->Option Value} {base:Heap} {t:Adr}
structure zj8 (H H':Hp)(l sc h st go:Addr)(n r lim:Int)(hs s g:List Int):Prop where
 sm:Same H H'
 fsc:H sc=none
 fh:H h=none
 hl:H' l=some (.lst [.ref sc,.ref st,.ref go])
 hsc:H' sc=some (.lst [.int n,.int r,.ref h,.int lim])
 hh:H' h=some (.lst (hs.map V.int))
 hst:H' st=some (.tup (s.map V.int))
 hgo:H' go=some (.tup (g.map V.int))
 ok:zg6 n r hs lim
 vs:zc8 n r hs.length s
 vg:zc8 n r hs.length g
 ks:absI (zb5 hs s)<=lim
 kg:absI (zb5 hs g)<=lim
theorem zj8.mk5 {H:Hp}{h sc st go l:Addr}{n r lim:Int}{hs s g:List Int}(f1:H h=none)(f2:(upd H h (.lst (hs.map V.int))) sc=none)(f3:(upd (upd H h (.lst (hs.map V.int))) sc (.lst [.int n,.int r,.ref h,.int lim])) st=none)
   (f4:(upd (upd (upd H h (.lst (hs.map V.int))) sc (.lst [.int n,.int r,.ref h,.int lim])) st (.tup (s.map V.int))) go=none) (f5:(upd (upd (upd (upd H h (.lst (hs.map V.int))) sc (.lst [.int n,.int r,.ref h,.int lim])) st (.tup (s.map V.int))) go (.tup (g.map V.int))) l=none)
   (ok:zg6 n r hs lim) (v1:zc8 n r hs.length s) (v2:zc8 n r hs.length g) (k1:absI (zb5 hs s)<=lim) (k2:absI (zb5 hs g)<=lim) :
   zj8 H (upd (upd (upd (upd (upd H h (.lst (hs.map V.int))) sc (.lst [.int n,.int r,.ref h,.int lim])) st (.tup (s.map V.int))) go (.tup (g.map V.int))) l (.lst [.ref sc,.ref st,.ref go])) l sc h st go n r lim hs s g:=by
 have s5:=Same.upd (o:=.lst [.ref sc,.ref st,.ref go]) f5
 have s4:=(Same.upd (o:=.tup (g.map V.int)) f4).trans s5
 have s3:=(Same.upd (o:=.tup (s.map V.int)) f3).trans s4
 have s2:=(Same.upd (o:=.lst [.int n,.int r,.ref h,.int lim]) f2).trans s3
 exact⟨(Same.upd f1).trans s2,(Same.upd f1).free f2,f1,za1,s3 _ _ za1,s2 _ _ za1,s4 _ _ za1,s5 _ _ za1,ok,v1,v2,k1,k2⟩
theorem zj8.mk4 {H:Hp}{h sc st go l:Addr}{n r lim:Int}{hs s g:List Int}(hst:H st=some (.tup (s.map V.int)))(f1:H h=none)(f2:(upd H h (.lst (hs.map V.int))) sc=none)
   (f4:(upd (upd H h (.lst (hs.map V.int))) sc (.lst [.int n,.int r,.ref h,.int lim])) go=none) (f5:(upd (upd (upd H h (.lst (hs.map V.int))) sc (.lst [.int n,.int r,.ref h,.int lim])) go (.tup (g.map V.int))) l=none)
   (ok:zg6 n r hs lim) (v1:zc8 n r hs.length s) (v2:zc8 n r hs.length g) (k1:absI (zb5 hs s)<=lim) (k2:absI (zb5 hs g)<=lim) :
   zj8 H (upd (upd (upd (upd H h (.lst (hs.map V.int))) sc (.lst [.int n,.int r,.ref h,.int lim])) go (.tup (g.map V.int))) l (.lst [.ref sc,.ref st,.ref go])) l sc h st go n r lim hs s g:=by
 have s5:=Same.upd (o:=.lst [.ref sc,.ref st,.ref go]) f5
 have s4:=(Same.upd (o:=.tup (g.map V.int)) f4).trans s5
 have s2:=(Same.upd (o:=.lst [.int n,.int r,.ref h,.int lim]) f2).trans s4
 have s1:=(Same.upd (o:=.lst (hs.map V.int)) f1).trans s2
 exact⟨s1,(Same.upd f1).free f2,f1,za1,s4 _ _ za1,s2 _ _ za1,s1 _ _ hst,s5 _ _ za1,ok,v1,v2,k1,k2⟩
theorem zj8.from {H H1 H':Hp}{l sc h st go:Addr}{n r lim:Int}{hs s g:List Int}(s1:Same H H1)(C:zj8 H1 H' l sc h st go n r lim hs s g):zj8 H H' l sc h st go n r lim hs s g :=
 ⟨s1.trans C.sm,s1.free C.fsc,s1.free C.fh,C.hl,C.hsc,C.hh,C.hst,C.hgo,C.ok,C.vs,C.vg,C.ks,C.kg⟩
noncomputable def zS0 (K:W.Frag)(t:Adr):Sp:=fun vs H Q _=>∃c:Int,vs=[.int c]/\∀l sc h st go H' n r lim hs s g,zj8 H H' l sc h st go n r lim hs s g->Q (.ref l) H'
theorem ok_w_hard (T:Txt K mg t):FnOk P w K mg base CX0 1 t.a7 t.bs ["_law_cell"] (zS0 K t):=by
 refine T.c3.ok zG4 (fun vs H Q E h=>?_) (fun cdv A outer s H vs Q E hr h=>?_)
 . obtain⟨c,rfl,q⟩:=h
   rfl
 . obtain⟨c,rfl,q⟩:=h
   refine⟨_,(WSs.h (zr9 (yj1 (i:=1) zG4.nd rfl (Or.inl rfl) (WE.mk (zb6 ze1 (zb6 zl2 (pv 0) za2) za2)))
     (zr9 (ye3 (zc6 zl8 (zb6 ze1 (pv 0) za2) za2 (zc5 _)) (zD6 (zL4 (zj7 (za8 (zj7 (za8 (WE.mk za2) (za8 (WE.mk za2) (za8 (zj7 (za8 (WE.mk za2) (za8 (WE.mk za2) (za8 (WE.mk za2) (za8 (WE.mk za2) (za8 (WE.mk za2) ze3)))))) (za8 (WE.mk (zb6 zf6 za2 (pv 1))) ze3))))) (za8 (zn7 (za8 (WE.mk (zl7 zi1 za2)) (za8 (WE.mk (zl7 zi1 za2)) (za8 (WE.mk za2) (za8 (WE.mk za2) (za8 (WE.mk za2) ze3)))))) (za8 (zn7 (za8 (WE.mk za2) (za8 (WE.mk za2) (za8 (WE.mk (zl7 zi1 za2)) (za8 (WE.mk za2) (za8 (WE.mk (zl7 zi1 za2)) ze3)))))) ze3)))))) zI9)
     (zr9 (ye3 (zc6 zl8 (zb6 ze1 (pv 0) za2) za2 (zc5 _)) (zD6 (zL4 (zj7 (za8 (zj7 (za8 (WE.mk za2) (za8 (WE.mk za2) (za8 (zj7 (za8 (WE.mk za2) (za8 (WE.mk za2) (za8 (WE.mk za2) (za8 (WE.mk za2) ze3))))) (za8 (WE.mk (zb6 zf6 za2 (pv 1))) ze3))))) (za8 (zn7 (za8 (WE.mk za2) (za8 (WE.mk za2) (za8 (WE.mk za2) (za8 (WE.mk (zl7 zi1 za2)) ze3))))) (za8 (zn7 (za8 (WE.mk (zl7 zi1 za2)) (za8 (WE.mk za2) (za8 (WE.mk (zl7 zi1 za2)) (za8 (WE.mk za2) ze3))))) ze3)))))) zI9)
     (zr9 (ye3 (zc6 zl8 (zb6 ze1 (pv 0) za2) za2 (zc5 _)) (zD6 (zL4 (zj7 (za8 (zj7 (za8 (WE.mk za2) (za8 (WE.mk za2) (za8 (zj7 (za8 (WE.mk za2) (za8 (WE.mk za2) (za8 (WE.mk za2) ze3)))) (za8 (WE.mk (zb6 zf6 za2 (pv 1))) ze3))))) (za8 (zn7 (za8 (WE.mk za2) (za8 (WE.mk (zl7 zi1 za2)) (za8 (WE.mk za2) ze3)))) (za8 (zn7 (za8 (WE.mk za2) (za8 (WE.mk za2) (za8 (WE.mk (zl7 zi1 za2)) ze3)))) ze3)))))) zI9)
     (zr9 (ye3 (zc6 zl8 (zb6 ze1 (pv 0) za2) za2 (zc5 _)) (zD6 (zL4 (zj7 (za8 (zj7 (za8 (WE.mk za2) (za8 (WE.mk za2) (za8 (zj7 (za8 (WE.mk za2) (za8 (WE.mk za2) (za8 (WE.mk za2) ze3)))) (za8 (WE.mk (zb6 zf6 za2 (pv 1))) ze3))))) (za8 (zn7 (za8 (WE.mk za2) (za8 (WE.mk za2) (za8 (WE.mk (zl7 zi1 za2)) ze3)))) (za8 (zn7 (za8 (WE.mk za2) (za8 (WE.mk (zl7 zi1 za2)) (za8 (WE.mk za2) ze3)))) ze3)))))) zI9)
     (zr9 (yj1 (i:=2) zG4.nd rfl (Or.inl rfl) (we_ix zd6 (zj7 (za8 (zn7 (za8 (WE.mk za2) (za8 (WE.mk za2) (za8 (WE.mk za2) ze3)))) (za8 (zn7 (za8 (WE.mk (zl7 zi1 za2)) (za8 (WE.mk (zl7 zi1 za2)) (za8 (WE.mk (zl7 zi1 za2)) ze3)))) (za8 (zn7 (za8 (WE.mk za2) (za8 (WE.mk za2) (za8 (WE.mk za2) ze3)))) ze3)))) (WE.mk (zb6 zi4 (zb6 ze1 (pv 0) za2) za2)) (fun _ _=>rfl)))
     (zD6 (zL4 (zj7 (za8 (zj7 (za8 (WE.mk za2) (za8 (WE.mk za2) (za8 (zj7 (za8 (WE.mk za2) (za8 (WE.mk za2) (za8 (WE.mk za2) ze3)))) (za8 (WE.mk (zb6 zf6 za2 (pv 1))) ze3))))) (za8 (WE.mk (pv 2)) (za8 (zn7 (za8 (WE.mk za2) (za8 (WE.mk za2) (za8 (WE.mk za2) ze3)))) ze3))))))))))))),?_⟩
   refine cut7 ?_
   intro rr7 rr6 rr5 rr4 rr3 rr2
   refine⟨_,rfl,_,_,rfl,rfl,⟨by decide,by decide⟩,_,_,rfl,rfl,(by show(0:Int)<3;decide),?_⟩
   refine⟨_,rfl,_,_,rfl,rfl,(by show(0:Int)<7;decide),rfl,_,rfl,?_⟩
   have m0:0<=c / 7 % 3:=Int.emod_nonneg _ (by decide)
   have m1:c / 7 % 3<3:=Int.emod_lt_of_pos _ (by decide)
   have c0:0<=c % 7:=Int.emod_nonneg _ (by decide)
   have c1:c % 7<7:=Int.emod_lt_of_pos _ (by decide)
   rw[zf7]
   refine ite2 (fun h0=>?_) (fun h0=>?_)
   . refine⟨(by show 5<=sizeLine;decide),fun h f1=>⟨_,rfl,_,_,rfl,rfl,(by show 4<=sizeLine;decide),fun sc f2=>⟨_,rfl,_,rfl,(by show 5<=sizeLine;decide),fun st f3=>⟨_,rfl,_,rfl,(by show 5<=sizeLine;decide),fun go f4=>⟨(by show 3<=sizeLine;decide),fun l f5=>?_⟩⟩⟩⟩⟩
     have t1:absI (zb5 [13,20,16,15,8] [-1,-1,1,0,1])=9:=by decide
     have t2:absI (zb5 [13,20,16,15,8] [1,1,-1,0,-1])=9:=by decide
     exact q l sc h st go _ 1 2 (9+c / 7 % 3) [13,20,16,15,8] [-1,-1,1,0,1] [1,1,-1,0,-1] (zj8.mk5 (n:=1) (r:=2) (lim:=(9+c / 7 % 3)) (hs:=[13,20,16,15,8]) (s:=[-1,-1,1,0,1]) (g:=[1,1,-1,0,-1]) f1 f2 f3 f4 f5 ⟨by decide,by decide,by decide,by decide,by omega,by omega,by decide,by decide,by decide⟩ ⟨rfl,by decide,by decide⟩ ⟨rfl,by decide,by decide⟩ (by omega) (by omega))
   have g0:c % 7≠0:=by simpa using h0
   refine⟨_,rfl,_,_,rfl,rfl,(by show(0:Int)<7;decide),rfl,_,rfl,?_⟩
   rw[zf7]
   refine ite2 (fun h1=>?_) (fun h1=>?_)
   . refine⟨(by show 4<=sizeLine;decide),fun h f1=>⟨_,rfl,_,_,rfl,rfl,(by show 4<=sizeLine;decide),fun sc f2=>⟨_,rfl,(by show 4<=sizeLine;decide),fun st f3=>⟨_,rfl,_,rfl,(by show 4<=sizeLine;decide),fun go f4=>⟨(by show 3<=sizeLine;decide),fun l f5=>?_⟩⟩⟩⟩⟩
     have t1:absI (zb5 [9,16,11,15] [2,0,1,-2])=1:=by decide
     have t2:absI (zb5 [9,16,11,15] [-2,0,-1,2])=1:=by decide
     exact q l sc h st go _ 2 1 (14+c / 7 % 3) [9,16,11,15] [2,0,1,-2] [-2,0,-1,2] (zj8.mk5 (n:=2) (r:=1) (lim:=(14+c / 7 % 3)) (hs:=[9,16,11,15]) (s:=[2,0,1,-2]) (g:=[-2,0,-1,2]) f1 f2 f3 f4 f5 ⟨by decide,by decide,by decide,by decide,by omega,by omega,by decide,by decide,by decide⟩ ⟨rfl,by decide,by decide⟩ ⟨rfl,by decide,by decide⟩ (by omega) (by omega))
   have g1:c % 7≠1:=by simpa using h1
   refine⟨_,rfl,_,_,rfl,rfl,(by show(0:Int)<7;decide),rfl,_,rfl,?_⟩
   rw[zf7]
   refine ite2 (fun h2=>?_) (fun h2=>?_)
   . refine⟨(by show 3<=sizeLine;decide),fun h f1=>⟨_,rfl,_,_,rfl,rfl,(by show 4<=sizeLine;decide),fun sc f2=>⟨_,rfl,(by show 3<=sizeLine;decide),fun st f3=>⟨_,rfl,(by show 3<=sizeLine;decide),fun go f4=>⟨(by show 3<=sizeLine;decide),fun l f5=>?_⟩⟩⟩⟩⟩
     have t1:absI (zb5 [15,19,16] [1,-3,3])=6:=by decide
     have t2:absI (zb5 [15,19,16] [1,3,-3])=24:=by decide
     exact q l sc h st go _ 3 2 (28+c / 7 % 3) [15,19,16] [1,-3,3] [1,3,-3] (zj8.mk5 (n:=3) (r:=2) (lim:=(28+c / 7 % 3)) (hs:=[15,19,16]) (s:=[1,-3,3]) (g:=[1,3,-3]) f1 f2 f3 f4 f5 ⟨by decide,by decide,by decide,by decide,by omega,by omega,by decide,by decide,by decide⟩ ⟨rfl,by decide,by decide⟩ ⟨rfl,by decide,by decide⟩ (by omega) (by omega))
   have g2:c % 7≠2:=by simpa using h2
   refine⟨_,rfl,_,_,rfl,rfl,(by show(0:Int)<7;decide),rfl,_,rfl,?_⟩
   rw[zf7]
   refine ite2 (fun h3=>?_) (fun h3=>?_)
   . refine⟨(by show 3<=sizeLine;decide),fun h f1=>⟨_,rfl,_,_,rfl,rfl,(by show 4<=sizeLine;decide),fun sc f2=>⟨_,rfl,(by show 3<=sizeLine;decide),fun st f3=>⟨_,rfl,(by show 3<=sizeLine;decide),fun go f4=>⟨(by show 3<=sizeLine;decide),fun l f5=>?_⟩⟩⟩⟩⟩
     have t1:absI (zb5 [14,20,18] [2,3,-4])=16:=by decide
     have t2:absI (zb5 [14,20,18] [1,-3,4])=26:=by decide
     exact q l sc h st go _ 4 3 (38+c / 7 % 3) [14,20,18] [2,3,-4] [1,-3,4] (zj8.mk5 (n:=4) (r:=3) (lim:=(38+c / 7 % 3)) (hs:=[14,20,18]) (s:=[2,3,-4]) (g:=[1,-3,4]) f1 f2 f3 f4 f5 ⟨by decide,by decide,by decide,by decide,by omega,by omega,by decide,by decide,by decide⟩ ⟨rfl,by decide,by decide⟩ ⟨rfl,by decide,by decide⟩ (by omega) (by omega))
   have g3:c % 7≠3:=by simpa using h3
   refine⟨(by show 3<=sizeLine;decide),fun t1 e1=>⟨_,rfl,_,rfl,_,rfl,(by show 3<=sizeLine;decide),fun t2 e2=>⟨(by show 3<=sizeLine;decide),fun t3 e3=>⟨(by show 3<=sizeLine;decide),fun ll e4=>?_⟩⟩⟩⟩
   have s4:=(((Same.upd (o:=.tup [.int 0,.int 0,.int 0]) e1).updT (o:=.tup [.int (-4),.int (-4),.int (-4)]) e2).updT (o:=.tup [.int 4,.int 4,.int 4]) e3).updT (o:=.lst [.ref t1,.ref t2,.ref t3]) e4
   have k1:(upd (upd (upd (upd H t1 (.tup [.int 0,.int 0,.int 0])) t2 (.tup [.int (-4),.int (-4),.int (-4)])) t3 (.tup [.int 4,.int 4,.int 4])) ll (.lst [.ref t1,.ref t2,.ref t3])) t1=some (.tup (([0,0,0]:List Int).map V.int)):=Same.upd e4 _ _ (Same.upd e3 _ _ (Same.upd e2 _ _ za1))
   have k2:(upd (upd (upd (upd H t1 (.tup [.int 0,.int 0,.int 0])) t2 (.tup [.int (-4),.int (-4),.int (-4)])) t3 (.tup [.int 4,.int 4,.int 4])) ll (.lst [.ref t1,.ref t2,.ref t3])) t2=some (.tup (([-4,-4,-4]:List Int).map V.int)):=Same.upd e4 _ _ (Same.upd e3 _ _ za1)
   have k3:(upd (upd (upd (upd H t1 (.tup [.int 0,.int 0,.int 0])) t2 (.tup [.int (-4),.int (-4),.int (-4)])) t3 (.tup [.int 4,.int 4,.int 4])) ll (.lst [.ref t1,.ref t2,.ref t3])) t3=some (.tup (([4,4,4]:List Int).map V.int)):=Same.upd e4 _ _ za1
   have k4:(upd (upd (upd (upd H t1 (.tup [.int 0,.int 0,.int 0])) t2 (.tup [.int (-4),.int (-4),.int (-4)])) t3 (.tup [.int 4,.int 4,.int 4])) ll (.lst [.ref t1,.ref t2,.ref t3])) ll=some (.lst [.ref t1,.ref t2,.ref t3]):=za1
   dsimp only
   revert s4 k1 k2 k3 k4
   generalize upd (upd (upd (upd H t1 (.tup [.int 0,.int 0,.int 0])) t2 (.tup [.int (-4),.int (-4),.int (-4)])) t3 (.tup [.int 4,.int 4,.int 4])) ll (.lst [.ref t1,.ref t2,.ref t3])=H4
   intro s4 k1 k2 k3 k4
   have hy:∃y x,atI [V.ref t1,V.ref t2,V.ref t3] (c % 7-4)=some (.ref y)/\H4 y=some (.tup (x.map V.int))/\zc8 4 3 3 x/\absI (zb5 [20,20,20] x)<=240:=by
     have:c % 7=4\/c % 7=5\/c % 7=6:=by omega
     rcases this with e | e | e<;>rw[e]
     . exact⟨t1,[0,0,0],rfl,k1,⟨rfl,by decide,by decide⟩,by decide⟩
     . exact⟨t2,[-4,-4,-4],rfl,k2,⟨rfl,by decide,by decide⟩,by decide⟩
     . exact⟨t3,[4,4,4],rfl,k3,⟨rfl,by decide,by decide⟩,by decide⟩
   obtain⟨y,x,ay,hyx,Vx,kx⟩:=hy
   refine⟨_,rfl,_,_,rfl,rfl,(by show(0:Int)<7;decide),_,_,rfl,rfl,ll,_,_,_,rfl,rfl,SqL.of k4,ay,?_⟩
   refine⟨(by show 3<=sizeLine;decide),fun h f1=>⟨_,rfl,_,_,rfl,rfl,(by show 4<=sizeLine;decide),fun sc f2=>⟨_,rfl,(by show 3<=sizeLine;decide),fun go f4=>⟨(by show 3<=sizeLine;decide),fun l f5=>?_⟩⟩⟩⟩
   have t2:absI (zb5 [20,20,20] [4,4,4])=240:=by decide
   exact q l sc h y go _ 4 3 (240+c / 7 % 3) [20,20,20] x [4,4,4] (zj8.from s4 (zj8.mk4 (n:=4) (r:=3) (lim:=240+c / 7 % 3) (hs:=[20,20,20]) (s:=x) (g:=[4,4,4]) hyx f1 f2 f4 f5 ⟨by decide,by decide,by decide,by decide,by omega,by omega,by decide,by decide,by decide⟩ Vx ⟨rfl,by decide,by decide⟩ (by omega) (by omega)))
end
section
variable {P:Program} {w:World} {K:W.Frag} {mg:Str->Option Value} {base:Heap} {t:Adr}
theorem st_eq {T:TS}{D:Ends}{σ σ':St}{H:Hp}(e:σ=σ')(h:T D σ' H):T D σ H:=e▸h
theorem use_finA {R:Addr->Hp->Prop}{S:Addr->Hp->Prop}{G:Prop}(main:(∀o H',S o H'->R o H')->G)(fin:∀o H',S o H'->R o H'):G:=main fin
theorem use_finB {R:Addr->Addr->Option V->Hp->Prop}{S:Addr->Addr->Hp->Prop}{G:Prop}(main:(∀x y v H',S x y H'->R x y v H')->G)(fin:∀x y v H',S x y H'->R x y v H'):G:=main fin
theorem rep0 (k:Nat):(List.replicate k [V.int 0]).flatten=(List.replicate k (0:Int)).map V.int:=by
 induction k with
 | zero=>rfl
 | succ k ih=>rw[List.replicate_succ,List.flatten_cons,ih,List.replicate_succ,List.map_cons];rfl
theorem valid0 {n r:Int}(hn:1<=n)(k:Nat):zc8 n r k (List.replicate k 0) :=
 ⟨List.length_replicate,fun x hx=>by rw[(List.mem_replicate.mp hx).2];omega,fun x hx h0=>absurd (List.mem_replicate.mp hx).2 h0⟩
theorem validP {n r nt:Int}(hr:1<=r)(h1:1<=nt)(h2:nt<=n)(k:Nat):zc8 n r (k+2) (nt::-nt::List.replicate k 0):=by
 refine⟨by simp,fun x hx=>?_,fun x hx h0=>?_⟩
 . rcases List.mem_cons.mp hx with rfl | hx
   . omega
   . rcases List.mem_cons.mp hx with rfl | hx
     . omega
     . rw[(List.mem_replicate.mp hx).2];omega
 . have hz:(List.replicate k (0:Int)).count x=0:=List.count_eq_zero.mpr fun z=>h0 (List.mem_replicate.mp z).2
   rw[List.count_cons,List.count_cons,hz]
   by_cases e1:nt=x
   . have e2:¬ (-nt=x):=by omega
     simp[e1,e2]
     split<;>omega
   . by_cases e2:-nt=x
     . simp[e1,e2];omega
     . simp[e1,e2];omega
noncomputable def zS1 (K:W.Frag)(t:Adr):Sp:=fun vs H Q _=>∃(a:Addr) (ns:List Int),vs=[.ref a]/\SqL K H a (ns.map V.int)/\∀l sc h st go H' n r lim hs s g,zj8 H H' l sc h st go n r lim hs s g->Q (.ref l) H'
theorem ok_w_case (T:Txt K mg t):FnOk P w K mg base CX0 3 t.a8 t.bt ["_law_script"] (zS1 K t):=by
 have GaM:FnOk P w K mg base CX0 2 t.aU t.bf ["_law_script"] (zL8 K t):=ok_w_shape T
 have GaN:FnOk P w K mg base CX0 2 t.bm t.bF ["_law_script","_law_k","_law_more","_law_shape_here"] (zZ2 K t):=ok_w_put T
 have GaK:FnOk P w K mg base CX0 1 t.aF t.aO ["_law_script","_law_k"] (zz8 K t):=zE7 T
 have GaO:FnOk P w K mg base CX0 1 t.a7 t.bs ["_law_cell"] (zS0 K t):=ok_w_hard T
 have GaP:FnOk P w K mg base CX0 1 t.aQ t.a6 ["_law_hefts","_law_spots"] (zH2 K t):=zR7 T
 have GaQ:FnOk P w K mg base CX0 2 t.aV t.bg ["_law_script","_law_low_here"] (zM7 K t):=ok_w_limit T
 refine T.c7.ok zf3 (fun vs H Q E h=>?_) (fun cdv A outer s H vs Q E hr h=>?_)
 . obtain⟨a,ns,rfl,hS,q⟩:=h
   rfl
 . obtain⟨a,ns,rfl,hS,q⟩:=h
   have haM:Room 2 _:=hr.mono (by decide)
   have haN:Room 2 _:=hr.mono (by decide)
   have haK:Room 1 _:=hr.mono (by decide)
   have haO:Room 1 _:=hr.mono (by decide)
   have haP:Room 1 _:=hr.mono (by decide)
   have haQ:Room 2 _:=hr.mono (by decide)
   refine⟨_,(za4 (zb3 (i:=1) zf3.nd rfl (Or.inl rfl) (za7 GaM haM rfl T.cD T.cE T.cC .nil zb4 (zc3 (pv 0) za3)))
     (za4 (zF0 (pv 1) (zU0 rfl (ze4 (zc4 (i:=2) zf3.nd rfl (Or.inl rfl)) (ze4 (zc4 (i:=3) zf3.nd rfl (Or.inl rfl)) (ze4 (zc4 (i:=4) zf3.nd rfl (Or.inl rfl)) zy4)))))
     (za4 (zb3 (i:=5) zf3.nd rfl (Or.inl rfl) (za7 GaN haN rfl T.bU T.bV T.bT .nil zb4 (zc3 (pv 0) (zc3 za2 (zc3 za2 (zc3 (pv 1) za3))))))
     (za4 (zb3 (i:=6) zf3.nd rfl (Or.inl rfl) (za7 GaN haN rfl T.bU T.bV T.bT .nil zb4 (zc3 (pv 0) (zc3 za2 (zc3 za2 (zc3 (pv 1) za3))))))
     (za4 (zb3 (i:=7) zf3.nd rfl (Or.inl rfl) (za7 GaK haK rfl T.ay T.az T.ax .nil zb4 (zc3 (pv 0) (zc3 za2 za3))))
     (za4 (zd1 (zc6 zl8 (zb6 ze1 (pv 7) za2) za2 (zc5 _)) (za6 (zb8 (za7 GaO haO rfl T.c5 T.c6 T.c4 .nil zb4 (zc3 (zb6 zl2 (pv 7) za2) za3)))) zb9)
     (za4 (zd1 (zc6 zl8 (zb6 ze1 (pv 7) za2) za2 (zc5 _)) (za6 (zb3 (i:=6) zf3.nd rfl (Or.inl rfl) (zg3 zC4 rfl T.aL PyProof.Rows.boot_list (zc3 (pv 5) za3)))) zb9)
     (za4 (zd1 (PW.pt (zB3 (zc6 zl8 (zb6 ze1 (pv 7) za2) za2 (zc5 _)) (zy3 (zc6 zA2 (zb0 zb7 rfl T.ad PySem.boot_len (zc3 (pv 4) za3)) za2 (zc5 _))))) (za4 (zF0 (zd3 zd6 (pv 4) za2 (fun _ _=>rfl)) (pg_sub (pv 4) za2 set_list))
     (za4 (zb3 (i:=8) zf3.nd rfl (Or.inl rfl) (zb6 zf6 za2 (zb6 ze1 (zb6 zl2 (pv 7) za2) (pv 2))))
     (za4 (zb3 (i:=5) zf3.nd rfl (Or.inl rfl) (zb6 zT8 (ze6 (zc3 za2 za3)) (zb0 zb7 rfl T.ad PySem.boot_len (zc3 (pv 4) za3))))
     (za4 (zb3 (i:=6) zf3.nd rfl (Or.inl rfl) (zb6 op_cat (ze6 (zc3 (pv 8) (zc3 (zl7 zi1 (pv 8)) za3))) (zb6 zT8 (ze6 (zc3 za2 za3)) (zb6 zi4 (zb0 zb7 rfl T.ad PySem.boot_len (zc3 (pv 4) za3)) za2))))
     (za6 (zd1 (zc6 zl8 (zb6 ze1 (zb6 zl2 (pv 7) za2) za2) za2 (zc5 _)) (za6 (ps_par (i:=5) (j:=6) rfl zf3.nd rfl rfl (by decide) rfl rfl (zc3 (pv 6) (zc3 (pv 5) za3)) rfl)) zb9)))))) zb9)
     (za4 (zb3 (i:=9) zf3.nd rfl (Or.inl rfl) (zb0 (zy5 rfl) rfl T.bg PyProof.Rows.boot_max (zc3 (zb0 zj9 rfl T.aA PyProof.Rows.boot_abs (zc3 (za7 GaP haP rfl T.a1 T.a2 T.a0 .nil zb4 (zc3 (pv 4) (zc3 (pv 5) za3))) za3)) (zc3 (zb0 zj9 rfl T.aA PyProof.Rows.boot_abs (zc3 (za7 GaP haP rfl T.a1 T.a2 T.a0 .nil zb4 (zc3 (pv 4) (zc3 (pv 6) za3))) za3)) za3))))
     (za6 (zb8 (ze6 (zc3 (ze6 (zc3 (pv 2) (zc3 (pv 3) (zc3 (pv 4) (zc3 (za7 GaQ haQ rfl T.cH T.cI T.cG .nil zb4 (zc3 (pv 0) (zc3 (pv 9) za3))) za3))))) (zc3 (zg3 zh7 rfl T.aq PyProof.Rows.boot_tuple (zc3 (pv 5) za3)) (zc3 (zg3 zh7 rfl T.aq PyProof.Rows.boot_tuple (zc3 (pv 6) za3)) za3))))))))))))))),?_⟩
   refine cut10 ?_
   intro rr10 rr9 rr8 rr7 rr6 rr5 rr4 rr3 rr2
   refine⟨_,rfl,a,ns,rfl,hS,fun sh h H1 s1 fsh fh hh hsh=>?_⟩
   refine⟨_,rfl,sh,_,rfl,SqL.of hsh,rfl,_,_,rfl,_,_,rfl,_,_,rfl,rfl,?_⟩
   have okT:∀lim:Int,0<=lim->lim<=400->zg6 (shN ns) (shR ns) (shH ns) lim:=fun lim z1 z2=>sh_ok ns z1 z2
   have ok0:=okT 0 (by decide) (by decide)
   refine⟨_,rfl,_,rfl,a,sh,h,ns,3,0,shN ns,shR ns,shH ns,rfl,s1.seq hS,hsh,SqL.of hh,⟨ok0.n1,ok0.n2,ok0.r1,ok0.w⟩,fun fi H2 s2 ffi hfi=>?_⟩
   have V1:=yj6 ns 3 0 (shH ns).length ok0.n1 ok0.r1
   generalize zZ0 ns 3 0 (shN ns) (shR ns) (shH ns).length=s0 at V1 hfi
   have s02:=s1.trans s2
   refine⟨_,rfl,_,rfl,a,sh,h,ns,4,1000003,shN ns,shR ns,shH ns,rfl,s02.seq hS,s2 _ _ hsh,SqL.of (s2 _ _ hh),⟨ok0.n1,ok0.n2,ok0.r1,ok0.w⟩,fun la0 H3 s3 fla hla=>?_⟩
   have V2:=yj6 ns 4 1000003 (shH ns).length ok0.n1 ok0.r1
   generalize zZ0 ns 4 1000003 (shN ns) (shR ns) (shH ns).length=g0 at V2 hla
   have s03:=s02.trans s3
   have hh3:=s3 _ _ (s2 _ _ hh)
   have hfi3:=s3 _ _ hfi
   have S3:SqL K H3 a (ns.map V.int):=s03.seq hS
   generalize shN ns=n at *
   generalize shR ns=r at *
   generalize shH ns=hs0 at *
   have n1:=ok0.n1
   have n2:=ok0.n2
   have hw5:=ok0.w
   refine⟨_,rfl,a,ns,6,rfl,S3,?_⟩
   generalize ns.getD 6 0=c
   refine⟨_,rfl,_,_,rfl,rfl,(by show(0:Int)<12;decide),rfl,_,rfl,?_⟩
   refine ite2 (fun h1=>?_) (fun h1=>?_)
   . exact⟨_,rfl,_,_,rfl,rfl,⟨by decide,by decide⟩,_,rfl,fun l sc h' st go H' n r lim hs s g C=>q l sc h' st go H' n r lim hs s g (zj8.from s03 C)⟩
   refine use_finA (R:=?R1) (S:=fun o H'=>Same H H'/\H' h=some (.lst (hs0.map V.int))/\H' fi=some (.lst (s0.map V.int))/\∃g,H' o=some (.lst (g.map V.int))/\zc8 n r hs0.length g) (fun fin1=>?main1) ?fin1
   case main1 =>
     refine⟨_,rfl,_,_,rfl,rfl,(by show(0:Int)<12;decide),rfl,_,rfl,?_⟩
     refine ite2 (fun h2=>?_) (fun h2=>?_)
     . refine⟨_,rfl,fi,_,rfl,.inl (SqL.of hfi3),fun l4 f4=>?_⟩
       have s4:Same H3 (upd H3 l4 (.lst (s0.map V.int))):=Same.upd f4
       have h4:(upd H3 l4 (.lst (s0.map V.int))) l4=some (.lst (s0.map V.int)):=za1
       revert s4 h4
       generalize upd H3 l4 (.lst (s0.map V.int))=H4
       intro s4 h4
       exact fin1 l4 H4 ⟨s03.trans s4,s4 _ _ hh3,s4 _ _ hfi3,s0,h4,V1⟩
     . exact fin1 la0 H3 ⟨s03,hh3,hfi3,g0,hla,V2⟩
   case fin1 =>
     rintro la H4 ⟨s4,hh4,hfi4,g,hla4,V2⟩
     dsimp only[L2.start,List.map,List.length,List.replicate,List.append,List.set]
     refine use_finB (R:=?R2) (S:=fun x y H'=>Same H H'/\∃hs s g,H' h=some (.lst (List.map V.int hs))/\H' x=some (.lst (List.map V.int s))/\H' y=some (.lst (List.map V.int g))/\(∀lim:Int,0<=lim->lim<=400->zg6 n r hs lim)/\zc8 n r hs.length s/\zc8 n r hs.length g) (fun fin2=>?main2) ?fin2
     case main2 =>
       refine⟨_,rfl,_,_,rfl,rfl,(by show(0:Int)<3;decide),rfl,_,rfl,?_⟩
       refine ite2 (fun h3=>?_) (fun h3=>?_)
       . refine⟨_,rfl,h,_,rfl,.inl (SqL.of hh4),_,_,rfl,rfl,_,rfl,?_⟩
         rw[List.length_map]
         refine ite2 (fun h4=>?_) (fun h4=>?_)
         . have h4':1<hs0.length:=by have:=of_decide_eq_true h4;omega
           obtain⟨x0,x1,tl,rfl⟩:∃x0 x1 tl,hs0=x0::x1::tl:=by
             match hs0,h4' with
             | x0::x1::tl,_=>exact⟨x0,x1,tl,rfl⟩
           have a0:atI (List.map V.int (x0::x1::tl)) 0=some (.int x0):=by
             unfold atI ixN
             rw[if_pos (by decide),if_pos (by simp only[List.length_map,List.length_cons];omega)]
             rfl
           have i1:ixN (List.map V.int (x0::x1::tl)).length 1=some 1:=by
             unfold ixN
             rw[if_pos (by decide),if_pos (by simp only[List.length_map,List.length_cons];omega)]
             rfl
           refine⟨_,rfl,h,_,_,_,rfl,rfl,SqL.of hh4,a0,_,rfl,h,_,1,1,rfl,rfl,hh4,i1,?_⟩
           have s5:Same H (upd H4 h (.lst ((List.map V.int (x0::x1::tl)).set 1 (.int x0)))):=s4.put fh
           have hh5:(upd H4 h (.lst ((List.map V.int (x0::x1::tl)).set 1 (.int x0)))) h=some (.lst ((x0::x0::tl).map V.int)):=za1
           revert s5 hh5
           generalize upd H4 h (.lst ((List.map V.int (x0::x1::tl)).set 1 (.int x0)))=H5
           intro s5 hh5
           have ok5:∀lim:Int,0<=lim->lim<=400->zg6 n r (x0::x0::tl) lim:=fun lim z1 z2=>by
             have o:=okT lim z1 z2
             refine⟨o.n1,o.n2,o.r1,o.r2,o.l1,o.l2,o.w,fun x hx=>?_,o.most⟩
             rcases List.mem_cons.mp hx with rfl | hx
             . exact o.h _ (.head _)
             . rcases List.mem_cons.mp hx with rfl | hx
               . exact o.h _ (.head _)
               . exact o.h _ (.tail _ (.tail _ hx))
           refine⟨_,rfl,_,_,rfl,rfl,⟨by decide,by decide⟩,_,rfl,_,_,rfl,rfl,(by show 0<n;omega),_,_,rfl,rfl,?_⟩
           have hm0:0<=c / 3 % n:=Int.emod_nonneg _ (by omega)
           have hm1:c / 3 % n<n:=Int.emod_lt_of_pos _ (by omega)
           have hnt:1<=1+c / 3 % n/\1+c / 3 % n<=n:=by omega
           have wl:tl.length+2<=5:=hw5
           have hsl:sizeLine=16777216:=by decide
           refine⟨(by show 1<=sizeLine;decide),fun l6 f6=>⟨_,rfl,h,_,rfl,.inl (SqL.of (Same.upd f6 _ _ hh5)),l6,_,_,rfl,rfl,za1,?_,?_,?_,fun p6 e6=>?_⟩⟩
           . simp only[List.length_map,List.length_cons];omega
           . simp only[List.length_map,List.length_cons];omega
           . simp only[List.length_map,List.length_cons,List.length_nil,Int.toNat_natCast];omega
           have s6:=(Same.upd (o:=.lst [.int 0]) f6).updT (o:=.lst (List.replicate (((List.map V.int (x0::x0::tl)).length:Nat):Int).toNat [V.int 0]).flatten) e6
           have k6:(upd (upd H5 l6 (.lst [.int 0])) p6 (.lst (List.replicate (((List.map V.int (x0::x0::tl)).length:Nat):Int).toNat [V.int 0]).flatten)) p6=some (.lst ((List.replicate (tl.length+2) (0:Int)).map V.int)):=by
             rw[za1,rep0,Int.toNat_natCast,List.length_map]
             rfl
           dsimp only
           revert s6 k6
           generalize upd (upd H5 l6 (.lst [.int 0])) p6 (.lst (List.replicate (((List.map V.int (x0::x0::tl)).length:Nat):Int).toNat [V.int 0]).flatten)=H6
           intro s6 k6
           have hh6:=s6 _ _ hh5
           generalize hnv:1+c / 3 % n=nt at hnt ⊢
           refine⟨_,rfl,_,rfl,_,rfl,(by show 2<=sizeLine;decide),fun l7 f7=>⟨(by show 1<=sizeLine;decide),fun l8 f8=>?_⟩⟩
           have s78:=(Same.upd (o:=.lst [.int nt,.int (-nt)]) f7).updT (o:=.lst [.int 0]) f8
           have k7:(upd (upd H6 l7 (.lst [.int nt,.int (-nt)])) l8 (.lst [.int 0])) l7=some (.lst [.int nt,.int (-nt)]):=Same.upd f8 _ _ za1
           have k8:(upd (upd H6 l7 (.lst [.int nt,.int (-nt)])) l8 (.lst [.int 0])) l8=some (.lst [.int 0]):=za1
           dsimp only
           revert s78 k7 k8
           generalize upd (upd H6 l7 (.lst [.int nt,.int (-nt)])) l8 (.lst [.int 0])=H8
           intro s78 k7 k8
           refine⟨_,rfl,h,_,rfl,.inl (SqL.of (s78 _ _ hh6)),_,_,rfl,rfl,l8,_,_,rfl,rfl,k8,?_,?_,?_,fun p8 e8=>?_⟩
           . simp only[List.length_map,List.length_cons];omega
           . simp only[List.length_map,List.length_cons];omega
           . simp only[List.length_map,List.length_cons,List.length_nil];omega
           have el:((((List.map V.int (x0::x0::tl)).length:Nat):Int)-2).toNat=tl.length:=by
             simp only[List.length_map,List.length_cons]
             omega
           rw[el,rep0]
           have s9:Same H8 (upd H8 p8 (.lst ((List.replicate tl.length (0:Int)).map V.int))):=Same.upd e8
           have k9:(upd H8 p8 (.lst ((List.replicate tl.length (0:Int)).map V.int))) p8=some (.lst ((List.replicate tl.length (0:Int)).map V.int)):=za1
           revert s9 k9
           generalize upd H8 p8 (.lst ((List.replicate tl.length (0:Int)).map V.int))=H9
           intro s9 k9
           refine⟨l7,p8,_,_,rfl,rfl,s9 _ _ k7,k9,?_,fun p9 e9=>?_⟩
           . simp only[List.length_map,List.length_replicate,List.length_cons,List.length_nil];omega
           have s10:Same H9 (upd H9 p9 (.lst ([V.int nt,V.int (-nt)]++(List.replicate tl.length (0:Int)).map V.int))):=Same.upd e9
           have k10:(upd H9 p9 (.lst ([V.int nt,V.int (-nt)]++(List.replicate tl.length (0:Int)).map V.int))) p9=some (.lst ((nt::-nt::List.replicate tl.length 0).map V.int)):=za1
           revert s10 k10
           generalize upd H9 p9 (.lst ([V.int nt,V.int (-nt)]++(List.replicate tl.length (0:Int)).map V.int))=H10
           intro s10 k10
           have s610:=s78.trans (s9.trans s10)
           have sE:Same H H10:=s5.trans (s6.trans s610)
           have hhE:=s610 _ _ hh6
           have hpE:=s610 _ _ k6
           have Va:zc8 n r (x0::x0::tl).length (List.replicate (tl.length+2) 0):=valid0 n1 _
           have Vb:zc8 n r (x0::x0::tl).length (nt::-nt::List.replicate tl.length 0):=validP ok0.r1 hnt.1 hnt.2 _
           refine⟨_,rfl,_,_,rfl,rfl,⟨by decide,by decide⟩,_,_,rfl,rfl,(by show(0:Int)<2;decide),rfl,_,rfl,?_⟩
           generalize some (V.int nt)=v8
           refine ite2 (fun h5=>?_) (fun h5=>?_)
           . refine⟨_,rfl,_,rfl,_,_,rfl,?_⟩
             exact fin2 p9 p6 v8 H10 ⟨sE,_,_,_,hhE,k10,hpE,ok5,Vb,Va⟩
           . exact fin2 p6 p9 v8 H10 ⟨sE,_,_,_,hhE,hpE,k10,ok5,Va,Vb⟩
         . exact fin2 fi la _ H4 ⟨s4,hs0,s0,g,hh4,hfi4,hla4,okT,V1,V2⟩
       . exact iteF (fin2 fi la _ H4 ⟨s4,hs0,s0,g,hh4,hfi4,hla4,okT,V1,V2⟩)
     case fin2 =>
       rintro x y v H5 ⟨s5,hs,s,g,hh5,hx5,hy5,ok5,V1,V2⟩
       dsimp only[List.set]
       refine st_eq (σ':=[some (.ref a),some (.ref sh),some (.int n),some (.int r),some (.ref h),some (.ref x),some (.ref y),some (.int c),v,none]) rfl ?_
       have hw:hs.length<=5:=(ok5 0 (by decide) (by decide)).w
       have hhs:=(ok5 0 (by decide) (by decide)).h
       have l1:=V1.len
       have l2:=V2.len
       obtain⟨tl1,tl2⟩:=zz9 (ok5 0 (by decide) (by decide)) V1
       obtain⟨tl3,tl4⟩:=zz9 (ok5 0 (by decide) (by decide)) V2
       refine⟨_,rfl,_,rfl,h,x,hs,s,rfl,SqL.of hh5,.inl (SqL.of hx5),⟨l1.symm,by omega,hhs⟩,_,rfl,_,rfl,_,rfl,h,y,hs,g,rfl,SqL.of hh5,.inl (SqL.of hy5),⟨l2.symm,by omega,hhs⟩,_,rfl,_,_,rfl,?_⟩
       have ea1:(if zb5 hs s<0 then -zb5 hs s else zb5 hs s)=absI (zb5 hs s):=rfl
       have ea2:(if zb5 hs g<0 then -zb5 hs g else zb5 hs g)=absI (zb5 hs g):=rfl
       rw[ea1,ea2]
       have hlow:∃low:Int,(if absI (zb5 hs g)>absI (zb5 hs s) then absI (zb5 hs g) else absI (zb5 hs s))=low/\absI (zb5 hs s)<=low/\absI (zb5 hs g)<=low/\low<=240:=⟨_,rfl,by split<;>omega,by split<;>omega,by split<;>omega⟩
       obtain⟨low,elow,w1,w2,w3⟩:=hlow
       rw[elow]
       refine⟨_,rfl,_,rfl,_,rfl,_,rfl,_,rfl,a,ns,low,rfl,s5.seq hS,⟨by omega,by omega⟩,fun lim z1 z2=>⟨(by show 4<=sizeLine;decide),fun sc fsc=>?_⟩⟩
       have s6:Same H5 (upd H5 sc (.lst [.int n,.int r,.ref h,.int lim])):=Same.upd fsc
       have k6:(upd H5 sc (.lst [.int n,.int r,.ref h,.int lim])) sc=some (.lst [.int n,.int r,.ref h,.int lim]):=za1
       dsimp only
       revert s6 k6
       generalize upd H5 sc (.lst [.int n,.int r,.ref h,.int lim])=H6
       intro s6 k6
       refine⟨_,rfl,x,_,rfl,.inl ⟨SqL.of (s6 _ _ hx5),fun st fst=>?_⟩⟩
       have s7:Same H6 (upd H6 st (.tup (s.map V.int))):=Same.upd fst
       have k7:(upd H6 st (.tup (s.map V.int))) st=some (.tup (s.map V.int)):=za1
       revert s7 k7
       generalize upd H6 st (.tup (s.map V.int))=H7
       intro s7 k7
       refine⟨_,rfl,y,_,rfl,.inl ⟨SqL.of (s7 _ _ (s6 _ _ hy5)),fun go fgo=>⟨(by show 3<=sizeLine;decide),fun l fl=>?_⟩⟩⟩
       have s8:Same H7 (upd (upd H7 go (.tup (g.map V.int))) l (.lst [.ref sc,.ref st,.ref go])):=(Same.upd fgo).updT fl
       have s58:=s6.trans (s7.trans s8)
       exact q l sc h st go _ n r lim hs s g ⟨s5.trans s58,s5.free fsc,fh,za1,s8 _ _ (s7 _ _ k6),s58 _ _ hh5,s8 _ _ k7,Same.upd fl _ _ za1,ok5 lim (by omega) z2,V1,V2,by omega,by omega⟩
end
section
variable {P:Program} {w:World} {K:W.Frag} {mg:Str->Option Value} {base:Heap} {t:Adr}
inductive zS2 (K:W.Frag)(t:Adr)(vs:List V)(H:Hp)(Q:VK)(E:XK):Prop
 | mk (sc h a m:Addr)(n r lim p:Int)(i:Nat)(hs xs:List Int)(h0:vs=[.ref sc,.ref a,.ref m])(h1:SqL K H sc [.int n,.int r,.ref h,.int lim])(h2:SqL K H h (hs.map V.int))(h3:H a=some (.tup (xs.map V.int)))(h4:H m=some (.tup [.int ((i:Int)+1),.int (xs.getD i 0),.int p]))(h5:(hs.length=xs.length/\xs.length<=5/\(∀x∈hs,1<=x/\x<=20)/\i<xs.length))(h6:Q (.bl (decide (Lets n r hs lim xs i p))) H):zS2 K t vs H Q E
noncomputable def zS3 (K:W.Frag)(t:Adr):Sp:=fun vs H Q E=>zS2 K t vs H Q E
theorem ok_w_lets (T:Txt K mg t):FnOk P w K mg base CX0 2 t.a9 t.bu ["_law_scale","_law_spots","_law_move"] (zS3 K t):=by
 have GaP:FnOk P w K mg base CX0 1 t.aQ t.a6 ["_law_hefts","_law_spots"] (zH2 K t):=zR7 T
 refine T.db.ok zj6 (fun vs H Q E h=>?_) (fun cdv A outer s H vs Q E hr h=>?_)
 . obtain⟨sc,h,a,m,n,r,lim,p,i,hs,xs,rfl,hsc,hh,hT,hm,⟨hl,h5,hhs,hi⟩,q⟩:=h
   rfl
 . obtain⟨sc,h,a,m,n,r,lim,p,i,hs,xs,rfl,hsc,hh,hT,hm,⟨hl,h5,hhs,hi⟩,q⟩:=h
   have haP:Room 1 _:=hr.mono (by decide)
   refine⟨_,(za4 (zF0 (pv 0) (zU0 rfl (ze4 (zc4 (i:=3) zj6.nd rfl (Or.inl rfl)) (ze4 (zc4 (i:=4) zj6.nd rfl (Or.inl rfl)) (ze4 (zc4 (i:=5) zj6.nd rfl (Or.inl rfl)) (ze4 (zc4 (i:=6) zj6.nd rfl (Or.inl rfl)) zy4))))))
     (za4 (zF0 (pv 2) (yg7 rfl (ze4 (zc4 (i:=7) zj6.nd rfl (Or.inl rfl)) (ze4 (zc4 (i:=8) zj6.nd rfl (Or.inl rfl)) (ze4 (zc4 (i:=9) zj6.nd rfl (Or.inl rfl)) zy4)))))
     (za4 (zd1 (PW.pt (zn1 (zc6 yc1 (pv 7) za2 (zc5 _)) (zn1 (zc6 zA2 (pv 7) (zb0 zb7 rfl T.ad PySem.boot_len (za0 (pv 5) za3)) (zc5 _)) (zl0 (zc6 zn8 (zd3 zp8 (pv 1) (zb6 zi4 (pv 7) za2) (fun _ _=>rfl)) (pv 8) (zc5 _)))))) (za6 (zb8 zg8)) zb9)
     (za4 (zd1 (PW.pt (zn1 (zc6 zA2 (zb0 zj9 rfl T.aA PyProof.Rows.boot_abs (za0 (pv 9) za3)) (pv 3) (zc5 _)) (zl0 (zc6 zl8 (pv 9) (pv 8) (zc5 _))))) (za6 (zb8 zg8)) zb9)
     (za4 (zd1 (PW.pt (zB3 (zc6 zn8 (pv 9) za2 (zc5 _)) (zy3 (zc6 yh1 (yi2 PySem.F.slot_tuple_count PySem.F.type_tuple_count zF5 (pv 1) (za0 (pv 9) za3)) (pv 4) (zc5 _))))) (za6 (zb8 zg8)) zb9)
     (za4 (zb3 (i:=10) zj6.nd rfl (Or.inl rfl) (zb6 zi4 (za7 GaP haP rfl T.a1 T.a2 T.a0 .nil zb4 (za0 (pv 5) (za0 (pv 1) za3))) (zb6 zn5 (zd3 zd6 (pv 5) (zb6 zi4 (pv 7) za2) (fun _ _=>rfl)) (pv 8))))
     (za6 (zb8 (zT1 (zj1 yk8 (zb0 zj9 rfl T.aA PyProof.Rows.boot_abs (za0 (pv 10) za3)) (pv 6) (zc5 _)) (zJ6 (zj1 yk8 (zb0 zj9 rfl T.aA PyProof.Rows.boot_abs (za0 (zb6 zf6 (pv 10) (zb6 zn5 (zd3 zd6 (pv 5) (zb6 zi4 (pv 7) za2) (fun _ _=>rfl)) (pv 9))) za3)) (pv 6) (zc5 _)))))))))))),?_⟩
   refine cut7 ?_
   intro rr7 rr6 rr5 rr4 rr3 rr2
   have hS:SqL K H a (xs.map V.int)\/SqT K H a (xs.map V.int):=.inr (SqT.of hT)
   have e1:((i:Int)+1-1).toNat=i:=by omega
   have ax:atI (xs.map V.int) ((i:Int)+1-1)=some (.int (xs.getD i 0)):=by have:=zg4 (xs:=xs) (i:=(i:Int)+1-1) (by omega) (by omega);rw[e1] at this;exact this
   have ah:atI (hs.map V.int) ((i:Int)+1-1)=some (.int (hs.getD i 0)):=by have:=zg4 (xs:=hs) (i:=(i:Int)+1-1) (by omega) (by omega);rw[e1] at this;exact this
   have hm1:=hhs (hs.getD i 0) (zt9 (by omega))
   have no:¬ Lets n r hs lim xs i p->Q (.bl false) H:=fun z=>by rw[decide_eq_false z] at q;exact q
   refine⟨_,rfl,sc,_,rfl,hsc,rfl,_,_,rfl,_,_,rfl,_,_,rfl,_,_,rfl,rfl,?_⟩
   refine⟨_,rfl,m,_,rfl,SqT.of hm,rfl,_,_,rfl,_,_,rfl,_,_,rfl,rfl,?_⟩
   refine⟨_,rfl,_,_,rfl,rfl,_,rfl,iteB (decide_eq_false (by omega)) ?_⟩
   refine⟨_,rfl,_,rfl,h,_,rfl,.inl hh,_,_,rfl,rfl,_,rfl,iteB (decide_eq_false (by rw[List.length_map];omega)) ?_⟩
   refine⟨_,rfl,_,rfl,_,_,rfl,rfl,a,_,_,_,rfl,rfl,SqT.of hT,ax,_,rfl,rfl,_,rfl,iteB (by simp) ?_⟩
   refine⟨_,rfl,_,rfl,_,rfl,_,_,rfl,rfl,_,rfl,?_⟩
   refine ite2 (fun h1=>?_) (fun h1=>?_)
   . have h1':n<absI p:=of_decide_eq_true h1
     exact no fun L=>by have:=L.on;unfold absI at h1';split at h1'<;>omega
   have h1':¬ n<absI p:=fun z=>h1 (decide_eq_true z)
   have hon:-n<=p/\p<=n:=by unfold absI at h1';split at h1'<;>omega
   refine⟨_,rfl,_,rfl,rfl,_,rfl,?_⟩
   rw[zf7]
   refine ite2 (fun h2=>?_) (fun h2=>?_)
   . exact no fun L=>L.ne (of_decide_eq_true h2)
   have h2':p≠xs.getD i 0:=fun z=>h2 (decide_eq_true z)
   refine⟨_,rfl,rfl,_,rfl,?_⟩
   rw[zf7]
   refine ite2 (fun h3=>?_) (fun h3=>?_)
   . have h3':p≠0:=by simpa using h3
     refine⟨_,rfl,⟨_,_,rfl,hT⟩,_,rfl,a,xs,p,rfl,rfl,SqT.of hT,_,rfl,_,_,rfl,rfl,_,rfl,?_⟩
     refine ite2 (fun h4=>?_) (fun h4=>?_)
     . have h4':r<=(xs.count p:Int):=of_decide_eq_true h4
       exact no fun L=>by have:=L.room h3';omega
     . have h4':¬ r<=(xs.count p:Int):=fun z=>h4 (decide_eq_true z)
       have hroom:p≠0->(xs.count p:Int)<r:=fun _=>by omega
       have yes:∀c d:Bool,(c=decide (absI (zd8 hs xs i)<=lim))->(d=decide (absI (zd8 hs xs i+hs.getD i 0*p)<=lim))->(c && d)=decide (Lets n r hs lim xs i p):=fun c d e1 e2=>by
         subst e1 e2
         by_cases z1:absI (zd8 hs xs i)<=lim
         . by_cases z2:absI (zd8 hs xs i+hs.getD i 0*p)<=lim
           . rw[decide_eq_true z1,decide_eq_true z2,decide_eq_true (⟨hi,hon,h2',hroom,z1,z2⟩:Lets n r hs lim xs i p)];rfl
           . rw[decide_eq_true z1,decide_eq_false z2,decide_eq_false (fun L:Lets n r hs lim xs i p=>z2 L.behind)];rfl
         . rw[decide_eq_false z1,decide_eq_false (fun L:Lets n r hs lim xs i p=>z1 L.held)];rfl
       refine⟨_,rfl,_,rfl,h,a,hs,xs,rfl,hh,hS,⟨hl,h5,hhs⟩,_,rfl,_,rfl,_,_,rfl,rfl,h,_,_,_,rfl,rfl,hh,ah,_,rfl,_,_,rfl,rfl,.inl ⟨by omega,by omega⟩,_,_,rfl,rfl,?_⟩
       refine⟨_,rfl,_,rfl,_,rfl,_,_,rfl,rfl,_,rfl,?_⟩
       refine ite2 (fun h6=>?_) (fun h6=>?_)
       . refine⟨_,rfl,_,rfl,_,rfl,_,_,rfl,rfl,h,_,_,_,rfl,rfl,hh,ah,_,rfl,_,_,rfl,rfl,.inl ⟨by omega,by omega⟩,_,_,rfl,rfl,_,rfl,_,rfl,_,_,rfl,rfl,?_⟩
         have:=yes true _ h6.symm rfl
         rw[<-this] at q
         exact q
       . skip
         exact no fun L=>h6 (decide_eq_true L.held)
   . have h3':p=0:=by simpa using h3
     refine iteF ?_
     have hroom:p≠0->(xs.count p:Int)<r:=fun z=>absurd h3' z
     have yes:∀c d:Bool,(c=decide (absI (zd8 hs xs i)<=lim))->(d=decide (absI (zd8 hs xs i+hs.getD i 0*p)<=lim))->(c && d)=decide (Lets n r hs lim xs i p):=fun c d e1 e2=>by
       subst e1 e2
       by_cases z1:absI (zd8 hs xs i)<=lim
       . by_cases z2:absI (zd8 hs xs i+hs.getD i 0*p)<=lim
         . rw[decide_eq_true z1,decide_eq_true z2,decide_eq_true (⟨hi,hon,h2',hroom,z1,z2⟩:Lets n r hs lim xs i p)];rfl
         . rw[decide_eq_true z1,decide_eq_false z2,decide_eq_false (fun L:Lets n r hs lim xs i p=>z2 L.behind)];rfl
       . rw[decide_eq_false z1,decide_eq_false (fun L:Lets n r hs lim xs i p=>z1 L.held)];rfl
     refine⟨_,rfl,_,rfl,h,a,hs,xs,rfl,hh,hS,⟨hl,h5,hhs⟩,_,rfl,_,rfl,_,_,rfl,rfl,h,_,_,_,rfl,rfl,hh,ah,_,rfl,_,_,rfl,rfl,.inl ⟨by omega,by omega⟩,_,_,rfl,rfl,?_⟩
     refine⟨_,rfl,_,rfl,_,rfl,_,_,rfl,rfl,_,rfl,?_⟩
     refine ite2 (fun h6=>?_) (fun h6=>?_)
     . refine⟨_,rfl,_,rfl,_,rfl,_,_,rfl,rfl,h,_,_,_,rfl,rfl,hh,ah,_,rfl,_,_,rfl,rfl,.inl ⟨by omega,by omega⟩,_,_,rfl,rfl,_,rfl,_,rfl,_,_,rfl,rfl,?_⟩
       have:=yes true _ h6.symm rfl
       rw[<-this] at q
       exact q
     . skip
       exact no fun L=>h6 (decide_eq_true L.held)
noncomputable def zB2 (K:W.Frag)(t:Adr):Sp:=fun vs H Q _=>∃(a:Addr) (k:Int) (xs:List Int),vs=[.ref a,.int k]/\H a=some (.tup (xs.map V.int))/\(xs.length:Int)=k/\Q (.bl true) H
theorem ok_w_is_spots (T:Txt K mg t):FnOk P w K mg base CX0 2 t.az t.aR ["_law_found","_law_count"] (zB2 K t):=by
 have GaJ:FnOk P w K mg base CX0 1 t.ai t.av ["_law_found"] (zq2 K t):=zv5 T
 refine T.cm.ok zA6 (fun vs H Q E h=>?_) (fun cdv A outer s H vs Q E hr h=>?_)
 . obtain⟨a,k,xs,rfl,hT,hk,q⟩:=h
   rfl
 . obtain⟨a,k,xs,rfl,hT,hk,q⟩:=h
   have haJ:Room 1 _:=hr.mono (by decide)
   refine⟨_,(za4 (zd1 (PW.pt (zn1 (ze5 (zd4 (zb0 zk0 rfl T.af PyProof.Rows.boot_isinstance (za0 (pv 0) (za0 (zq5 (v:=.ty "tuple") rfl T.aq PyProof.Rows.boot_tuple rfl) za3))))) (zl0 (zc6 zn8 (zb0 zb7 rfl T.ad PySem.boot_len (za0 (pv 0) za3)) (pv 1) (zc5 _))))) (za6 (zb8 zg8)) zb9)
     (za4 (zi3 PassesOwn.never rfl (yh0 (pv 0)) (zc4 (i:=2) zA6.nd rfl (Or.inl rfl)) (za6 (zd1 (ze5 (zd4 (za7 GaJ haJ rfl T.aJ T.aK T.aI .nil zb4 (za0 (pv 2) za3)))) (za6 (zb8 zg8)) zb9)))
     (za6 (zb8 zg8)))),?_⟩
   refine cut3 ?_
   intro rr3 rr2
   refine⟨_,rfl,_,_,_,_,_,rfl,.ty _,.tup hT,rfl,_,rfl,iteF ?_⟩
   refine⟨_,rfl,a,_,rfl,.inr (SqT.of hT),_,rfl,rfl,_,rfl,iteB (by rw[List.length_map,hk];simp) ?_⟩
   refine⟨_,rfl,a,rfl,⟨_,SqT.of hT⟩,zI2 (K:=K) (a:=a) (xs:=xs.map V.int) (fun i σ H'=>∃v,σ=[some (.ref a),some (.int k),v]/\H'=H) ⟨none,rfl,rfl⟩ (fun i σ H' _ ⟨_,_,e⟩=>e▸SqT.of hT) ?_ ?_⟩
   . rintro i x σ H' hi ⟨v,rfl,rfl⟩
     obtain⟨z,rfl,hz⟩:=int_at hi
     exact⟨_,rfl,z,rfl,_,rfl,iteF ⟨_,rfl,rfl⟩⟩
   . rintro σ H' ⟨v,rfl,rfl⟩
     exact q
theorem Goes.det {n r:Int}{hs:List Int}{lim:Int}:∀ {x:List Int} {ms:List (Nat×Int)} {y z:List Int},Goes n r hs lim x ms y->Goes n r hs lim x ms z->y=z
 | x,[],y,z,h,h'=>h.symm.trans h'
 | x,m::ms,y,z,h,h'=>Goes.det h.2 h'.2
theorem Goes.valid {n r:Int}{hs:List Int}{lim:Int}{w:Nat}:∀ {x:List Int} {ms:List (Nat×Int)} {y:List Int},Goes n r hs lim x ms y->zc8 n r w x->zc8 n r w y
 | x,[],y,h,V0=>h▸V0
 | x,m::ms,y,h,V0=>Goes.valid h.2 (h.1.valid V0)
theorem zf4.at {H:Hp}{n r:Int}{hs:List Int}{lim:Int}:∀ {x:List Int} {rs:List Addr} {ms:List (Nat×Int)} {y:List Int},zf4 H x rs ms->Goes n r hs lim x ms y->∀ {i:Nat} {v:V},(rs.map V.ref)[i]?=some v->∃a m z,v = .ref a/\ms[i]?=some m/\Goes n r hs lim x (ms.take i) z/\zq3 H z a m/\Lets n r hs lim z m.1 m.2
 | _,[],[],_,_,_,i,v,h=>by simp at h
 | _,[],_::_,_,h,_,_,_,_=>h.elim
 | _,_::_,[],_,h,_,_,_,_=>h.elim
 | x,a::rs,m::ms,y,h,hG,0,v,e=>⟨a,m,x,(Option.some.inj e).symm,rfl,rfl,h.1,hG.1⟩
 | x,a::rs,m::ms,y,h,hG,i+1,v,e=>by
   obtain⟨a',m',z,e1,e2,e3,e4⟩:=zf4.at h.2 hG.2 (i:=i) e
   exact⟨a',m',z,e1,e2,⟨hG.1,e3⟩,e4⟩
theorem Goes.snoc {n r:Int}{hs:List Int}{lim:Int}:∀ {x:List Int} {ms:List (Nat×Int)} {y:List Int} {m:Nat×Int},Goes n r hs lim x ms y->Lets n r hs lim y m.1 m.2->Goes n r hs lim x (ms++[m]) (y.set m.1 m.2)
 | x,[],y,m,h,L=>by
   obtain rfl:x=y:=h
   exact⟨L,rfl⟩
 | x,m'::ms,y,m,h,L=>⟨h.1,Goes.snoc h.2 L⟩
inductive zS4 (K:W.Frag)(t:Adr)(vs:List V)(H:Hp)(Q:VK)(E:XK):Prop
 | mk (c a l:Addr)(n r lim:Int)(hs x y:List Int)(rs:List Addr)(ms:List (Nat×Int))(h0:vs=[.ref c,.ref a,.ref l])(h1:zl6 K H c n r hs lim)(h2:zc8 n r hs.length x)(h3:H a=some (.tup (x.map V.int)))(h4:H l=some (.lst (rs.map V.ref)))(h5:zf4 H x rs ms)(h6:Goes n r hs lim x ms y)(h7:∀b H',Same H H'->H' b=some (.tup (y.map V.int))->Q (.ref b) H'):zS4 K t vs H Q E
noncomputable def zA1 (K:W.Frag)(t:Adr):Sp:=fun vs H Q E=>zS4 K t vs H Q E
theorem zH4 (T:Txt K mg t):FnOk P w K mg base CX0 3 t.aC t.aS ["_law_scale","_law_spots","_law_row"] (zA1 K t):=by
 have GaR:FnOk P w K mg base CX0 2 t.az t.aR ["_law_found","_law_count"] (zB2 K t):=ok_w_is_spots T
 have GaS:FnOk P w K mg base CX0 2 t.a9 t.bu ["_law_scale","_law_spots","_law_move"] (zS3 K t):=ok_w_lets T
 refine T.dj.ok zz6 (fun vs H Q E h=>?_) (fun cdv A outer s H vs Q E hr h=>?_)
 . obtain⟨c,a,l,n,r,lim,hs,x,y,rs,ms,rfl,S,V0,ha,hl,hR,hG,q⟩:=h
   rfl
 . obtain⟨c,a,l,n,r,lim,hs,x,y,rs,ms,rfl,S,V0,ha,hl,hR,hG,q⟩:=h
   have haR:Room 2 _:=hr.mono (by decide)
   have haS:Room 2 _:=hr.mono (by decide)
   refine⟨_,(za4 (zd1 (ze5 (zd4 (zb0 zk0 rfl T.af PyProof.Rows.boot_isinstance (za0 (pv 2) (za0 (zq5 (v:=.ty "list") rfl T.aL PyProof.Rows.boot_list rfl) za3))))) (za6 (zb8 zE9)) zb9)
     (za4 (zb3 (i:=3) zz6.nd rfl (Or.inl rfl) (pv 1))
     (za4 (zi3 PassesOwn.never rfl (zg1 (pv 2)) (zc4 (i:=4) zz6.nd rfl (Or.inl rfl)) (za4 (zd1 (PW.pt (zn1 (ze5 (zd4 (za7 GaR haR rfl T.co T.cp T.cn .nil zb4 (za0 (pv 4) (za0 za2 za3))))) (zl0 (ze5 (zd4 (za7 GaS haS rfl T.dd T.de T.dc .nil zb4 (za0 (pv 0) (za0 (pv 3) (za0 (pv 4) za3))))))))) (za6 (zb8 zE9)) zb9)
     (za6 (zb3 (i:=3) zz6.nd rfl (Or.inl rfl) (zb6 zI4 (zb6 zI4 (zw2 zT5 (pv 3) zC1 (zC2 (zb6 zi4 (zd3 zp8 (pv 4) za2 (fun _ _=>rfl)) za2))) (zF3 (za0 (zd3 zp8 (pv 4) za2 (fun _ _=>rfl)) za3))) (zw2 zT5 (pv 3) (zC2 (zd3 zp8 (pv 4) za2 (fun _ _=>rfl))) zC1))))))
     (za6 (zb8 (pv 3)))))),?_⟩
   refine cut4 ?_
   intro rr4 rr3 rr2
   obtain⟨h,ok,hc,hh⟩:=S
   have hw:=ok.w
   refine⟨_,rfl,_,_,_,_,_,rfl,.ty _,.lst hl,rfl,_,rfl,iteF ?_⟩
   refine⟨_,rfl,_,rfl,l,rfl,⟨_,SqL.of hl⟩,zp7 (K:=K) (a:=l) (xs:=rs.map V.ref) (fun i σ H'=>∃b v4 z,σ=[some (.ref c),some (.ref a),some (.ref l),some (.ref b),v4]/\Same H H'/\H' b=some (.tup (z.map V.int))/\Goes n r hs lim x (ms.take i) z) ⟨a,none,x,rfl,Same.refl _,ha,rfl⟩ (fun i σ H' _ ⟨_,_,_,_,s,_⟩=>SqL.of (s _ _ hl)) ?_ ?_⟩
   . rintro i v σ H' hi ⟨b,v4,z,rfl,s',hb,hz⟩
     obtain⟨a',m,z',rfl,hm,hz',hr',L⟩:=hR.at hG hi
     obtain rfl:=hz.det hz'
     have Vz:=hz.valid V0
     have hzl:=Vz.len
     have hlt:=L.lt
     have hra:H' a'=some (.tup [.int ((m.1:Int)+1),.int (z.getD m.1 0),.int m.2]):=s' _ _ hr'
     refine⟨_,rfl,a',3,[(m.1:Int)+1,z.getD m.1 0,m.2],rfl,hra,rfl,_,rfl,iteF ?_⟩
     refine⟨_,rfl,_,rfl,_,rfl,c,h,b,a',n,r,lim,m.2,m.1,hs,z,rfl,s'.seq hc,s'.seq hh,hb,hra,⟨by omega,by omega,ok.h,hlt⟩,_,rfl,?_⟩
     rw[decide_eq_true L]
     refine iteF ?_
     have e1:(m.1:Int)+1-1=(m.1:Int):=by omega
     refine⟨_,rfl,_,rfl,a',_,_,_,rfl,rfl,SqT.of hra,rfl,_,_,rfl,rfl,_,rfl,b,_,rfl,SqT.of hb,?_,fun l1 f1=>?_⟩
     . rw[e1,HT.sIx_none,HT.sIx_nat,List.length_map,Nat.min_eq_left (by omega)]
       omega
     rw[e1] at *
     have sa:Same H' (upd H' l1 (.tup (cutV (z.map V.int) none (some (m.1:Int))))):=Same.upd f1
     have ha1:(upd H' l1 (.tup (cutV (z.map V.int) none (some (m.1:Int))))) l1=some (.tup (cutV (z.map V.int) none (some (m.1:Int)))):=za1
     revert sa ha1
     generalize upd H' l1 (.tup (cutV (z.map V.int) none (some (m.1:Int))))=Ha
     intro sa ha1
     refine⟨_,rfl,a',_,_,_,rfl,rfl,SqT.of (sa _ _ hra),rfl,(by show 1<=sizeLine;decide),fun l2 f2=>?_⟩
     have sb:Same Ha (upd Ha l2 (.tup [.int m.2])):=Same.upd f2
     have hb2:(upd Ha l2 (.tup [.int m.2])) l2=some (.tup [.int m.2]):=za1
     revert sb hb2
     generalize upd Ha l2 (.tup [.int m.2])=Hb
     intro sb hb2
     have len1:=zn2 (z.map V.int) none (some (m.1:Int))
     rw[List.length_map] at len1
     refine⟨l1,l2,_,_,rfl,rfl,sb _ _ ha1,hb2,Nat.le_of_lt (zc7 (by show _+1<=_;omega)),fun l3 Hc sc hc3=>?_⟩
     have s4c:=sa.trans (sb.trans sc)
     refine⟨_,rfl,_,rfl,a',_,_,_,rfl,rfl,SqT.of (s4c _ _ hra),rfl,_,rfl,b,_,rfl,SqT.of (s4c _ _ hb),?_,fun l4 f4=>?_⟩
     . rw[show((m.1:Int)+1)=((m.1+1:Nat):Int) by omega,HT.sIx_nat,List.length_map]
       omega
     have sd:Same Hc (upd Hc l4 (.tup (cutV (z.map V.int) (some ((m.1:Int)+1)) none))):=Same.upd f4
     have hd:(upd Hc l4 (.tup (cutV (z.map V.int) (some ((m.1:Int)+1)) none))) l4=some (.tup (cutV (z.map V.int) (some ((m.1:Int)+1)) none)):=za1
     revert sd hd
     generalize upd Hc l4 (.tup (cutV (z.map V.int) (some ((m.1:Int)+1)) none))=Hd
     intro sd hd
     have e5:=yf5 z m.1 m.2 hlt
     refine⟨l3,l4,_,_,rfl,rfl,sd _ _ hc3,hd,?_,fun l5 He se he=>?_⟩
     . rw[<-List.length_append,e5,List.length_map,List.length_set]
       exact Nat.le_of_lt (zc7 (by omega))
     rw[e5] at he
     refine⟨l5,_,_,rfl,s'.trans (s4c.trans (sd.trans se)),he,?_⟩
     rw[List.take_succ,hm]
     exact hz.snoc L
   . rintro σ H' ⟨b,v4,z,rfl,s',hb,hz⟩
     rw[List.length_map,hR.len,List.take_length] at hz
     obtain rfl:=hG.det hz
     exact⟨_,rfl,q b H' s' hb⟩
inductive zS5 (K:W.Frag)(t:Adr)(vs:List V)(H:Hp)(Q:VK)(E:XK):Prop
 | mk (c:Addr)(n r lim L:Int)(hs:List Int)(h0:vs=[.ref c,.int L])(h1:zl6 K H c n r hs lim)(h2:0<=L)(h3:L<=400)(h4:∀l H',Same H H'->zl6 K H' l n r hs L->Q (.ref l) H'):zS5 K t vs H Q E
noncomputable def zS6 (K:W.Frag)(t:Adr):Sp:=fun vs H Q E=>zS5 K t vs H Q E
theorem ok_w_with (T:Txt K mg t):FnOk P w K mg base CX0 1 t.bb t.bw ["_law_scale","_law_limit_here"] (zS6 K t):=by
 refine T.dk.ok sc_w_with (fun vs H Q E h=>?_) (fun cdv A outer s H vs Q E hr h=>?_)
 . obtain⟨c,n,r,lim,L,hs,rfl,⟨h,ok,hc,hh⟩,L0,L1,q⟩:=h
   rfl
 . obtain⟨c,n,r,lim,L,hs,rfl,⟨h,ok,hc,hh⟩,L0,L1,q⟩:=h
   refine⟨_,(za6 (zb8 (ze6 (za0 (zd3 zd6 (pv 0) za2 (fun _ _=>rfl)) (za0 (zd3 zd6 (pv 0) za2 (fun _ _=>rfl)) (za0 (zd3 zd6 (pv 0) za2 (fun _ _=>rfl)) (za0 (pv 1) za3))))))),?_⟩
   refine⟨_,rfl,c,_,_,_,rfl,rfl,hc,rfl,_,rfl,c,_,_,_,rfl,rfl,hc,rfl,_,rfl,c,_,_,_,rfl,rfl,hc,rfl,_,rfl,(by show 4<=sizeLine;decide),fun l fl=>?_⟩
   have s1:Same H (upd H l (.lst [.int n,.int r,.ref h,.int L])):=Same.upd fl
   exact q l _ s1 ⟨h,⟨ok.n1,ok.n2,ok.r1,ok.r2,L0,L1,ok.w,ok.h,ok.most⟩,SqL.of za1,s1.seq hh⟩
theorem zq4.same {t:Adr}{H H':Hp}{l:Addr}{n r:Int}{hs s g:List Int}(h:zq4 t H l n r hs s g)(e:Same H H'):zq4 t H' l n r hs s g:=by
 obtain⟨L,dx,rw_,sh,d,rs,ms,zs,S,a1,a2,a3,a4,a5,a6,a7,a8,a9,a10,a11,a12,a13⟩:=h
 exact⟨L,dx,rw_,sh,d,rs,ms,zs,S,e _ _ a1,a2,a3,a4,e _ _ a5,a6.same e,a7,a8,a9,e _ _ a10,e.tups a11,a12,a13⟩
theorem low_pos (hs s g:List Int):0<=zi8 hs s g:=by unfold zi8 absI;split<;>split<;>omega
inductive ya8 (K:W.Frag)(t:Adr)(vs:List V)(H:Hp)(Q:VK)(E:XK):Prop
 | mk (c f1 f2 l:Addr)(n r lim:Int)(hs s g:List Int)(h0:vs=[.ref c,.ref f1,.ref f2,.ref l])(h1:zl6 K H c n r hs lim)(h2:zc8 n r hs.length s)(h3:H f1=some (.tup (s.map V.int)))(h4:H f2=some (.tup (g.map V.int)))(h5:zq4 t H l n r hs s g)(h6:∀H',Same H H'->Q (.bl true) H'):ya8 K t vs H Q E
noncomputable def ya9 (K:W.Frag)(t:Adr):Sp:=fun vs H Q E=>ya8 K t vs H Q E
theorem ok_w_low (T:Txt K mg t):FnOk P w K mg base CX0 4 t.bo t.bH ["_law_scale","_law_first","_law_last","_law_found"] (ya9 K t):=by
 have GaT:FnOk P w K mg base CX0 3 t.aC t.aS ["_law_scale","_law_spots","_law_row"] (zA1 K t):=zH4 T
 have GaJ:FnOk P w K mg base CX0 1 t.ai t.av ["_law_found"] (zq2 K t):=zv5 T
 have GaU:FnOk P w K mg base CX0 1 t.bb t.bw ["_law_scale","_law_limit_here"] (zS6 K t):=ok_w_with T
 refine T.dy.ok sc_w_low (fun vs H Q E h=>?_) (fun cdv A outer s H vs Q E hr h=>?_)
 . obtain⟨c,f1,f2,l,n,r,lim,hs,s,g,rfl,S0,V0,h1,h2,hl,q⟩:=h
   rfl
 . obtain⟨c,f1,f2,l,n,r,lim,hs,s,g,rfl,S0,V0,h1,h2,hl,q⟩:=h
   have haT:Room 3 _:=hr.mono (by decide)
   have haJ:Room 1 _:=hr.mono (by decide)
   have haU:Room 1 _:=hr.mono (by decide)
   refine⟨_,(za4 (zd1 (PW.pt (zn1 (ze5 (zd4 (zb0 zk0 rfl T.af PyProof.Rows.boot_isinstance (za0 (pv 3) (za0 (zo3 (v:=.ref t.ac) rfl T.b3 rfl) za3))))) (zl0 (ze5 (zd4 (za7 GaJ haJ rfl T.aJ T.aK T.aI .nil zb4 (za0 (zc9 (pv 3) rfl) za3))))))) (za6 (zb8 zg8)) zb9)
     (za4 (zd1 (PW.pt (zn1 (zc6 yc1 (zc9 (pv 3) rfl) za2 (zc5 _)) (zl0 (zc6 zA2 (zc9 (pv 3) rfl) za2 (zc5 _))))) (za6 (zb8 zg8)) zb9)
     (za6 (zb8 (zj1 (yj3 (Nat.lt_of_succ_lt (zv8 hr))) (za7 GaT haT rfl T.a4 T.a5 T.a3 .nil zb4 (za0 (za7 GaU haU rfl T.dm T.dn T.dl .nil zb4 (za0 (pv 0) (za0 (zc9 (pv 3) rfl) za3))) (za0 (pv 1) (za0 (zc9 (pv 3) rfl) za3)))) (pv 2) (zc5 _)))))),?_⟩
   refine cut3 ?_
   intro rr3 rr2
   obtain⟨L,dx,rw_,sh,d,rs,ms,zs,S,a1,a2,a3,a4,a5,a6,a7,a8,_⟩:=hl
   have hlp:=low_pos hs s g
   refine⟨_,rfl,_,_,_,_,_,rfl,.own _,.ins a1 T.ah T.aV.1 T.aV.2.1 T.aV.2.2.1 T.aV.2.2.2,kit_self _ _,_,rfl,iteF ?_⟩
   refine⟨_,rfl,l,_,dx,_,_,rfl,a1,T.ah,T.ai,zu7 _ _ _,L,rfl,_,rfl,iteF ?_⟩
   refine⟨_,rfl,l,_,dx,_,_,rfl,a1,T.ah,T.ai,zu7 _ _ _,_,_,rfl,rfl,_,rfl,iteB (decide_eq_false (by omega)) ?_⟩
   refine⟨_,rfl,l,_,dx,_,_,rfl,a1,T.ah,T.ai,zu7 _ _ _,_,_,rfl,rfl,_,rfl,iteB (decide_eq_false (by omega)) ?_⟩
   refine⟨_,rfl,_,rfl,l,_,dx,_,_,rfl,a1,T.ah,T.ai,zu7 _ _ _,c,n,r,lim,L,hs,rfl,S0,by omega,a3,fun c2 H1 s1 S1=>?_⟩
   refine⟨_,rfl,_,rfl,l,_,dx,_,_,rfl,s1 _ _ a1,T.ah,T.a9,lf_row _ _ _,c2,f1,rw_,n,r,L,hs,s,g,rs,ms,rfl,S1,V0,s1 _ _ h1,s1 _ _ a5,a6.same s1,a7,fun b H2 s2 hb=>?_⟩
   refine⟨_,rfl,b,f2,_,_,rfl,rfl,SqT.of hb,SqT.of ((s1.trans s2) _ _ h2),zH3,?_⟩
   rw[decide_eq_true rfl]
   exact q H2 (s1.trans s2)
inductive yb0 (K:W.Frag)(t:Adr)(vs:List V)(H:Hp)(Q:VK)(E:XK):Prop
 | mk (c a1 a2 wy:Addr)(n r lim:Int)(hs s g:List Int)(h0:vs=[.ref c,.ref a1,.ref a2,.ref wy])(h1:zl6 K H c n r hs lim)(h2:zc8 n r hs.length s)(h3:H a1=some (.tup (s.map V.int)))(h4:H a2=some (.tup (g.map V.int)))(h5:zv3 t H wy n r hs lim s g)(h6:∀H',Same H H'->Q (.bl true) H'):yb0 K t vs H Q E
noncomputable def yb1 (K:W.Frag)(t:Adr):Sp:=fun vs H Q E=>yb0 K t vs H Q E
theorem ok_w_way (T:Txt K mg t):FnOk P w K mg base CX0 4 t.bn t.bG ["_law_scale","_law_first","_law_last","_law_found"] (yb1 K t):=by
 have GaT:FnOk P w K mg base CX0 3 t.aC t.aS ["_law_scale","_law_spots","_law_row"] (zA1 K t):=zH4 T
 have GaJ:FnOk P w K mg base CX0 1 t.ai t.av ["_law_found"] (zq2 K t):=zv5 T
 refine T.dx.ok sc_w_way (fun vs H Q E h=>?_) (fun cdv A outer s H vs Q E hr h=>?_)
 . obtain⟨c,a1,a2,wy,n,r,lim,hs,s,g,rfl,S,V0,h1,h2,W,q⟩:=h
   rfl
 . obtain⟨c,a1,a2,wy,n,r,lim,hs,s,g,rfl,S,V0,h1,h2,W,q⟩:=h
   have haT:Room 3 _:=hr.mono (by decide)
   have haJ:Room 1 _:=hr.mono (by decide)
   refine⟨_,(za4 (zd1 (PW.pt (zn1 (ze5 (zd4 (zb0 zk0 rfl T.af PyProof.Rows.boot_isinstance (za0 (pv 3) (za0 (zo3 (v:=.ref t.ad) rfl T.bF rfl) za3))))) (zl0 (ze5 (zd4 (zb0 zk0 rfl T.af PyProof.Rows.boot_isinstance (za0 (zc9 (pv 3) rfl) (za0 (zq5 (v:=.ty "bool") rfl T.ct PyProof.Rows.boot_bool rfl) za3)))))))) (za6 (zb8 zg8)) zb9)
     (za4 (zd1 (ze5 (zd4 (zc9 (pv 3) rfl))) (za6 (zb8 (zT1 (zj1 op_isN (zc9 (pv 3) rfl) zE9 (zc5 _)) (zJ6 (zj1 (op_eqE (Nat.lt_of_succ_lt (zv8 hr))) (zc9 (pv 3) rfl) (ze6 za3) (zc5 _)))))) zb9)
     (za4 (zd1 (PW.pt (zn1 (ze5 (zd4 (za7 GaJ haJ rfl T.aJ T.aK T.aI .nil zb4 (za0 (zc9 (pv 3) rfl) za3)))) (zn1 (ze5 (zd4 (zb0 zk0 rfl T.af PyProof.Rows.boot_isinstance (za0 (zc9 (pv 3) rfl) (za0 (zq5 (v:=.ty "list") rfl T.aL PyProof.Rows.boot_list rfl) za3))))) (zl0 (zc6 zn8 (zb0 zb7 rfl T.ad PySem.boot_len (za0 (zc9 (pv 3) rfl) za3)) (zc9 (pv 3) rfl) (zc5 _)))))) (za6 (zb8 zg8)) zb9)
     (za6 (zb8 (zj1 (yj3 (Nat.lt_of_succ_lt (zv8 hr))) (za7 GaT haT rfl T.a4 T.a5 T.a3 .nil zb4 (za0 (pv 0) (za0 (pv 1) (za0 (zc9 (pv 3) rfl) za3)))) (pv 2) (zc5 _))))))),?_⟩
   refine cut4 ?_
   intro rr4 rr3 rr2
   rcases W with⟨d,rw_,rs,ms,la,as,Ls,ag,ags,sh,hd,⟨dx,hwy⟩,hrw,hRW,hG,hmsl,_⟩ | ⟨hno,rw_,la,as,Ls,ag,sh,zs,Sh,⟨dx,hwy⟩,hrw,_⟩
   . refine⟨_,rfl,_,_,_,_,_,rfl,.own _,.ins hwy T.aa T.aB.1 T.aB.2.1 T.aB.2.2.1 T.aB.2.2.2,kit_self _ _,_,rfl,iteF ?_⟩
     refine⟨_,rfl,wy,_,dx,_,_,rfl,hwy,T.aa,T.ac,zh5 _ _ _ _ _ _,_,_,_,_,_,rfl,.ty _,.bl _,rfl,_,rfl,iteF ?_⟩
     refine⟨_,rfl,wy,_,dx,_,_,rfl,hwy,T.aa,T.ac,zh5 _ _ _ _ _ _,_,rfl,iteF ?_⟩
     refine⟨_,rfl,wy,_,dx,_,_,rfl,hwy,T.aa,T.ap,zE5 _ _ _ _ _ _,(d:Int),rfl,_,rfl,iteF ?_⟩
     refine⟨_,rfl,wy,_,dx,_,_,rfl,hwy,T.aa,T.an,zH0 _ _ _ _ _ _,_,_,_,_,_,rfl,.ty _,.lst hrw,rfl,_,rfl,iteF ?_⟩
     refine⟨_,rfl,wy,_,dx,_,_,rfl,hwy,T.aa,T.an,zH0 _ _ _ _ _ _,rw_,_,rfl,.inl (SqL.of hrw),_,rfl,wy,_,dx,_,_,rfl,hwy,T.aa,T.ap,zE5 _ _ _ _ _ _,rfl,_,rfl,?_⟩
     rw[List.length_map,hRW.len,hmsl,decide_eq_true rfl]
     refine iteF ?_
     refine⟨_,rfl,_,rfl,_,rfl,wy,_,dx,_,_,rfl,hwy,T.aa,T.an,zH0 _ _ _ _ _ _,c,a1,rw_,n,r,lim,hs,s,g,rs,ms,rfl,S,V0,h1,hrw,hRW,hG,fun b H' s' hb=>?_⟩
     refine⟨_,rfl,b,a2,_,_,rfl,rfl,SqT.of hb,SqT.of (s' _ _ h2),zH3,?_⟩
     rw[decide_eq_true rfl]
     exact q H' s'
   . refine⟨_,rfl,_,_,_,_,_,rfl,.own _,.ins hwy T.aa T.aB.1 T.aB.2.1 T.aB.2.2.1 T.aB.2.2.2,kit_self _ _,_,rfl,iteF ?_⟩
     refine⟨_,rfl,wy,_,dx,_,_,rfl,hwy,T.aa,T.ac,zh5 _ _ _ _ _ _,_,_,_,_,_,rfl,.ty _,.bl _,rfl,_,rfl,iteF ?_⟩
     refine⟨_,rfl,wy,_,dx,_,_,rfl,hwy,T.aa,T.ac,zh5 _ _ _ _ _ _,_,rfl,iteT ?_⟩
     refine⟨_,rfl,wy,_,dx,_,_,rfl,hwy,T.aa,T.ap,zE5 _ _ _ _ _ _,rfl,_,rfl,iteT ?_⟩
     refine⟨_,rfl,wy,_,dx,_,_,rfl,hwy,T.aa,T.an,zH0 _ _ _ _ _ _,Nat.zero_le _,fun l5 f5=>?_⟩
     refine⟨rw_,l5,[],rfl,rfl,SqL.of (Same.upd f5 _ _ hrw),SqL.of za1,?_⟩
     exact q _ (Same.upd f5)
section
variable {n r:Int} {hs:List Int}
end
end
section
variable {P:Program} {w:World} {K:W.Frag} {mg:Str->Option Value} {base:Heap} {t:Adr}
theorem take_eq_succ {X Y:List (List Int)}{i:Nat}{x y:List Int}(hx:X[i]?=some x)(hy:Y[i]?=some y)(h:X.take i=Y.take i):X.take (i+1)=Y.take (i+1)↔x=y:=by
 rw[List.take_succ,List.take_succ,hx,hy,h]
 simp
inductive zy0 (K:W.Frag)(t:Adr)(vs:List V)(H:Hp)(Q:VK)(E:XK):Prop
 | mk (a b:Addr)(ys zs:List V)(X Y:List (List Int))(h0:vs=[.ref a,.ref b])(h1:H a=some (.lst ys))(h2:Tups H ys X)(h3:H b=some (.lst zs))(h4:Tups H zs Y)(h5:Y.length<=1000)(h6:(∀y∈Y,y.length<=1000))(h7:Q (.bl (decide (X=Y))) H):zy0 K t vs H Q E
noncomputable def zy1 (K:W.Frag)(t:Adr):Sp:=fun vs H Q E=>zy0 K t vs H Q E
theorem ok_w_same_rows (T:Txt K mg t):FnOk P w K mg base CX0 3 t.ap t.aI ["_law_found","_law_due"] (zy1 K t):=by
 have GaV:FnOk P w K mg base CX0 2 t.ba t.bv ["_law_found","_law_due"] (zQ2 K t):=ok_w_same T
 refine T.cf.ok zx4 (fun vs H Q E h=>?_) (fun cdv A outer s H vs Q E hr h=>?_)
 . obtain⟨a,b,ys,zs,X,Y,rfl,ha,TX,hb,TY,hY,hY2,q⟩:=h
   rfl
 . obtain⟨a,b,ys,zs,X,Y,rfl,ha,TX,hb,TY,hY,hY2,q⟩:=h
   have haV:Room 2 _:=hr.mono (by decide)
   refine⟨_,(za4 (zd1 (PW.pt (zn1 (ze5 (zd4 (zb0 zk0 rfl T.af PyProof.Rows.boot_isinstance (za0 (pv 0) (za0 (zq5 (v:=.ty "list") rfl T.aL PyProof.Rows.boot_list rfl) za3))))) (zl0 (zc6 zn8 (zb0 zb7 rfl T.ad PySem.boot_len (za0 (pv 0) za3)) (zb0 zb7 rfl T.ad PySem.boot_len (za0 (pv 1) za3)) (zc5 _))))) (za6 (zb8 zg8)) zb9)
     (za4 (zi3 PassesOwn.never rfl (zl9 rfl T.ao (za0 (zb0 zb7 rfl T.ad PySem.boot_len (za0 (pv 1) za3)) za3)) (zc4 (i:=2) zx4.nd rfl (Or.inl rfl)) (za6 (zd1 (PW.pt (zn1 (ze5 (zd4 (zb0 zk0 rfl T.af PyProof.Rows.boot_isinstance (za0 (zd3 zd6 (pv 0) (pv 2) (fun _ _=>rfl)) (za0 (zq5 (v:=.ty "tuple") rfl T.aq PyProof.Rows.boot_tuple rfl) za3))))) (zl0 (ze5 (zd4 (za7 GaV haV rfl T.dh T.di T.dg .nil zb4 (za0 (zd3 zd6 (pv 0) (pv 2) (fun _ _=>rfl)) (za0 (zd3 zd6 (pv 1) (pv 2) (fun _ _=>rfl)) za3)))))))) (za6 (zb8 zg8)) zb9)))
     (za6 (zb8 zg8)))),?_⟩
   refine cut3 ?_
   intro rr3 rr2
   have l1:=zn4 TX
   have l2:=zn4 TY
   refine⟨_,rfl,_,_,_,_,_,rfl,.ty _,.lst ha,rfl,_,rfl,iteF ?_⟩
   refine⟨_,rfl,a,_,rfl,.inl (SqL.of ha),_,rfl,b,_,rfl,.inl (SqL.of hb),rfl,_,rfl,?_⟩
   rw[zf7]
   refine ite2 (fun h1=>?_) (fun h1=>?_)
   . have:X≠Y:=fun z=>by
       subst z
       simp[l1,l2] at h1
     rw[decide_eq_false this] at q
     exact q
   have hXY:X.length=Y.length:=by
     simp at h1
     omega
   refine⟨_,rfl,b,_,rfl,.inl (SqL.of hb),_,rfl,by omega,by omega,zj0 (n:=((zs.length:Nat):Int).toNat) (fun i σ H'=>∃v,σ=[some (.ref a),some (.ref b),v]/\H'=H/\X.take i=Y.take i) ⟨none,rfl,rfl,rfl⟩ ?_ ?_⟩
   . rintro i σ H' hi ⟨v,rfl,rfl,ht⟩
     have hi':i<zs.length:=by simpa using hi
     have e0:(0:Int)+(i:Int)=(i:Int):=by omega
     rw[e0]
     obtain⟨xb,x,ex,hx,hxb⟩:=zv0 TX (List.getElem?_eq_getElem (show i<ys.length by omega))
     obtain⟨yb,y,ey,hy,hyb⟩:=zv0 TY (List.getElem?_eq_getElem hi')
     have ax:atI ys (i:Int)=some (.ref xb):=zC3 (by rw[List.getElem?_eq_getElem (show i<ys.length by omega),ex])
     have ay:atI zs (i:Int)=some (.ref yb):=zC3 (by rw[List.getElem?_eq_getElem hi',ey])
     refine⟨_,rfl,_,rfl,a,_,_,_,rfl,rfl,SqL.of ha,ax,_,_,_,_,_,rfl,.ty _,.tup hxb,rfl,_,rfl,iteF ?_⟩
     refine⟨_,rfl,_,rfl,a,_,_,_,rfl,rfl,SqL.of ha,ax,_,rfl,_,rfl,b,_,_,_,rfl,rfl,SqL.of hb,ay,xb,yb,x,y,rfl,.inr (SqT.of hxb),.inr (SqT.of hyb),hY2 y (List.mem_of_getElem? hy),_,rfl,?_⟩
     have key:=take_eq_succ hx hy ht
     refine ite2 (fun h2=>?_) (fun h2=>?_)
     . have hne:X≠Y:=fun z=>by
         have:x=y:=key.mp (by rw[z])
         rw[decide_eq_true this] at h2
         cases h2
       rw[decide_eq_false hne] at q
       exact q
     . have:x=y:=Classical.byContradiction fun z=>h2 (by rw[decide_eq_false z];rfl)
       exact⟨_,rfl,rfl,key.mpr this⟩
   . rintro σ H' ⟨v,rfl,rfl,ht⟩
     rw[Int.toNat_natCast] at ht
     have:X=Y:=by
       rw[List.take_of_length_le (by omega),List.take_of_length_le (by omega)] at ht
       exact ht
     rw[decide_eq_true this] at q
     exact q
theorem zv3.same {t:Adr}{H H':Hp}{a:Addr}{n r:Int}{hs:List Int}{lim:Int}{s g:List Int}(h:zv3 t H a n r hs lim s g)(e:Same H H'):zv3 t H' a n r hs lim s g:=by
 rcases h with⟨d,rw_,rs,ms,la,as,Ls,ag,ags,sh,h1,⟨dx,h2⟩,h3,h4,h5,h6,h7,h8,h9,h10,h11,h12,h13,h14⟩ | ⟨h0,rw_,la,as,Ls,ag,sh,zs,S,⟨dx,h2⟩,h3,h4,h5,h6,h7,h8,h9,h10,h11,h12⟩
 . exact .inl ⟨d,rw_,rs,ms,la,as,Ls,ag,ags,sh,h1,⟨dx,e _ _ h2⟩,e _ _ h3,h4.same e,h5,h6,e _ _ h7,h8.keep e,h9,h10,e _ _ h11,h12,h13,e _ _ h14⟩
 . exact .inr ⟨h0,rw_,la,as,Ls,ag,sh,zs,S,⟨dx,e _ _ h2⟩,e _ _ h3,e _ _ h4,h5.keep e,h6,h7,e _ _ h8,e _ _ h9,e.tups h10,h11,h12⟩
inductive WV (t:Adr)(H:Hp)(wy:Addr)(n r:Int)(hs:List Int)(lim:Int)(s g:List Int):Prop
 | mk (b:Bool)(mn:V)(rw_ la ag sh dx:Addr)(rs:List Addr)(ms:List (Nat×Int))(as:List Addr)(Ls:List (List (List Int)))(zs:List V)(S:List (List Int))
   (p1:H wy=some (.ins t.ad dx (zu2 (.bl b) mn (.ref rw_) (.ref la) (.ref ag) (.ref sh)))) (p2:H rw_=some (.lst (rs.map V.ref))) (p3:zf4 H s rs ms) (p4:H la=some (.lst (as.map V.ref))) (p5:Lay H as Ls) (p6:zk4 n r hs lim s Ls) (p7:∀j,j<Ls.length↔(∃x,Dst n r hs lim s j x)/\∀e,Dst n r hs lim s e g->j<=e) (p8:H sh=some (.lst zs)) (p9:Tups H zs S) (p10:S.Pairwise (fun x y=>Sx.lexB x y=true))
   (p11:(b=true/\∃d:Nat,mn = .int (d:Int)/\Dst n r hs lim s d g/\Goes n r hs lim s ms g/\ms.length=d/\S=[])\/(b=false/\mn = .non/\(∀d,¬ Dst n r hs lim s d g)/\ms=[]/\∀x,x∈S↔∃d,Dst n r hs lim s d x))
theorem zv3.view {t:Adr}{H:Hp}{wy:Addr}{n r:Int}{hs:List Int}{lim:Int}{s g:List Int}(W:zv3 t H wy n r hs lim s g):WV t H wy n r hs lim s g:=by
 rcases W with⟨d,rw_,rs,ms,la,as,Ls,ag,ags,sh,hd,⟨dx,hwy⟩,a1,a2,a3,a4,a5,a6,a7,a8,a9,a10,a11,a12⟩ | ⟨hno,rw_,la,as,Ls,ag,sh,zs,S,⟨dx,hwy⟩,a1,a2,a3,a4,a5,a6,a7,a8,a9,a10⟩
 . refine⟨true,_,rw_,la,ag,sh,dx,rs,ms,as,Ls,[],[],hwy,a1,a2,a5,a6,a8,fun j=>⟨fun hj=>⟨hd.below j (by omega),fun e he=>by rw[he.uniq hd];omega⟩,fun h=>by have:=h.2 d hd;omega⟩,a12,.nil,.nil,.inl ⟨rfl,d,rfl,hd,a3,a4,rfl⟩⟩
 . exact⟨false,_,rw_,la,ag,sh,dx,[],[],as,Ls,zs,S,hwy,a1,trivial,a2,a3,a4,fun j=>⟨fun hj=>⟨(a5 j).mp hj,fun e he=>absurd he (hno e)⟩,fun h=>(a5 j).mpr h.1⟩,a7,a8,a9,.inr ⟨rfl,rfl,hno,rfl,a10⟩⟩
inductive LV (t:Adr)(H:Hp)(l:Addr)(n r:Int)(hs s g:List Int):Prop
 | mk (L:Int)(dx rw_ sh:Addr)(d:Nat)(rs:List Addr)(ms:List (Nat×Int))(zs:List V)(S:List (List Int))(a1:H l=some (.ins t.ac dx (zE6 (.int L) (.ref rw_) (.ref sh))))(a2:zi8 hs s g<=L)(a3:L<=400)(a4:Dst n r hs L s d g)(a5:H rw_=some (.lst (rs.map V.ref)))(a6:zf4 H s rs ms)(a7:Goes n r hs L s ms g)(a8:ms.length=d)
   (a9:∀L',zi8 hs s g<=L'->L'<L->∀d,¬ Dst n r hs L' s d g) (a10:H sh=some (.lst zs)) (a11:Tups H zs S) (a12:S.Pairwise (fun x y=>Sx.lexB x y=true)) (a13:zV6 n r hs s g L S)
theorem zq4.view {t:Adr}{H:Hp}{l:Addr}{n r:Int}{hs s g:List Int}(h:zq4 t H l n r hs s g):LV t H l n r hs s g:=by
 obtain⟨L,dx,rw_,sh,d,rs,ms,zs,S,a1,a2,a3,a4,a5,a6,a7,a8,a9,a10,a11,a12,a13⟩:=h
 exact⟨L,dx,rw_,sh,d,rs,ms,zs,S,a1,a2,a3,a4,a5,a6,a7,a8,a9,a10,a11,a12,a13⟩
theorem yg1 {H:Hp}{as:List Addr}{Ls:List (List (List Int))}(h:Lay H as Ls){i:Nat}(hi:i<Ls.length):∃b L ys,(as.map V.ref)[i]?=some (.ref b)/\Ls[i]?=some L/\H b=some (.lst ys)/\Tups H ys L:=by
 have hl:as.length=Ls.length:=Paired.length h
 have e:=List.getElem?_eq_getElem (l:=as.map V.ref) (i:=i) (by rw[List.length_map];omega)
 obtain⟨b,L,ys,ev,h1,h2,h3⟩:=yj9 h e
 exact⟨b,L,ys,by rw[e,ev],h1,h2,h3⟩
theorem nat_ext {a b:Nat}(h:∀j,j<a↔j<b):a=b:=by
 have h1:=(h a).mpr
 have h2:=(h b).mp
 omega
section
variable {n r:Int} {hs:List Int} {lim:Int} {s:List Int} {n' r':Int} {hs':List Int} {lim':Int}
end
theorem use_finH {R:Hp->Prop}{S:Hp->Prop}{G:Prop}(main:(∀H',S H'->R H')->G)(fin:∀H',S H'->R H'):G:=main fin
theorem flat_few {n r:Int}{hs:List Int}{lim:Int}{s:List Int}(ok:zg6 n r hs lim)(V0:zc8 n r hs.length s){Ls:List (List (List Int))}(h:zk4 n r hs lim s Ls):∀ {i:Nat} {L:List (List Int)},Ls[i]?=some L->L.length<=1000/\∀x∈L,zc8 n r hs.length x:=fun {i L} e=>by
 have hv:∀x∈L,zc8 n r hs.length x:=fun x hx=>((h.mem i L e x).mp hx).1.valid V0
 exact⟨few ok (zg2 (h.srt L (List.mem_of_getElem? e))) hv,hv⟩
theorem yb2:∀ {Ls:List (List (List Int))},(∀L∈Ls,L≠[])->Ls.length<=Ls.flatten.length
 | [],_=>Nat.le_refl _
 | L::Ls,h=>by
   have ih:=yb2 (Ls:=Ls) fun L hL=>h L (.tail _ hL)
   have h1:0<L.length:=List.length_pos_iff.mpr (h L (.head _))
   rw[List.flatten_cons,List.length_append,List.length_cons]
   omega
theorem lay_few {n r:Int}{hs:List Int}{lim:Int}{s:List Int}(ok:zg6 n r hs lim)(V0:zc8 n r hs.length s){Ls:List (List (List Int))}(h:zk4 n r hs lim s Ls)(hne:∀j,j<Ls.length->∃x,Dst n r hs lim s j x):Ls.length<=1000 :=
 Nat.le_trans (yb2 fun L hL z=>by
     obtain⟨i,hi⟩:=List.getElem?_of_mem hL
     obtain⟨x,hx⟩:=hne i (List.getElem?_eq_some_iff.mp hi).1
     have:=(h.mem i L hi x).mpr hx
     rw[z] at this
     cases this) (few ok h.nodup fun x hx=>let⟨d,_,hd⟩:=h.ex hx;hd.1.valid V0)
end
section
variable {P:Program} {w:World} {K:W.Frag} {mg:Str->Option Value} {base:Heap} {t:Adr}
theorem yb3 {α:Type}:∀ {xs:List α} {i:Nat} {y:α},xs[i]?=some y->xs.Perm (y::xs.eraseIdx i)
 | [],_,_,h=>by simp at h
 | x::xs,0,y,h=>by
   obtain rfl:=Option.some.inj h
   exact .refl _
 | x::xs,i+1,y,h=>by
   have:=yb3 (xs:=xs) (i:=i) (y:=y) (by simpa using h)
   exact(List.Perm.cons x this).trans (.swap y x _)
theorem seq_nat {k n:Nat}(h:k<n):seqIndex? (k:Int) n=some k:=by
 have e:(if (k:Int)<0 then(k:Int)+(n:Int) else(k:Int))=(k:Int):=if_neg (by omega)
 have e2:(decide (0<=(k:Int)) && decide ((k:Int)<(n:Int)))=true:=by rw[decide_eq_true (by omega),decide_eq_true (by omega)];rfl
 unfold seqIndex?
 simp only[e,e2]
 rfl
theorem mem_rng {w:Nat}{x:Int}:x∈rngL w↔∃k:Nat,k<w/\x=(k:Int):=by
 unfold rngL
 rw[List.mem_map]
 exact⟨fun⟨k,h,e⟩=>⟨k,List.mem_range.mp h,e.symm⟩,fun⟨k,h,e⟩=>⟨k,List.mem_range.mpr h,e.symm⟩⟩
noncomputable def zM8 (K:W.Frag)(t:Adr):Sp:=fun vs H Q _=>∃(w:Nat) (cell:Int),vs=[.int (w:Int),.int cell]/\w<=5/\∀(l:Addr) (H':Hp) (os:List Int),Same H H'->H' l=some (.lst (os.map V.int))->os.Perm (rngL w)->Q (.ref l) H'
theorem ok_w_order (T:Txt K mg t):FnOk P w K mg base CX0 1 t.aW t.bh ["_law_count","_law_cell"] (zM8 K t):=by
 refine T.cJ.ok zm7 (fun vs H Q E h=>?_) (fun cdv A outer s H vs Q E hr h=>?_)
 . obtain⟨w,cell,rfl,hw,q⟩:=h
   rfl
 . obtain⟨w,cell,rfl,hw,q⟩:=h
   refine⟨_,(za4 (zb3 (i:=2) zm7.nd rfl (Or.inl rfl) (pe_lrange rfl rfl T.aL rfl T.ao (za0 (pv 0) za3)))
     (za4 (zb3 (i:=3) zm7.nd rfl (Or.inl rfl) (ze6 za3))
     (za4 (zb3 (i:=4) zm7.nd rfl (Or.inl rfl) (pv 1))
     (za4 (zi3 PassesOwn.never rfl (zl9 rfl T.ao (za0 (pv 0) za3)) (zc4 (i:=5) zm7.nd rfl (Or.inl rfl)) (za4 (zb3 (i:=4) zm7.nd rfl (Or.inl rfl) (zb6 ze1 (zb6 zn5 (zb6 zf6 (zb6 zf6 (pv 4) (pv 5)) za2) za2) za2))
     (za6 (zi9 (zv7 PySem.F.plainAttrs_list PySem.F.slot_list_append PySem.F.type_list_append zk6 (pv 3) (za0 (zv7 PySem.F.plainAttrs_list PySem.F.slot_list_pop PySem.F.type_list_pop mt_popAt (pv 2) (za0 (zb6 ze1 (pv 4) (zb0 zb7 rfl T.ad PySem.boot_len (za0 (pv 2) za3))) za3)) za3))))))
     (za6 (zb8 (pv 3))))))),?_⟩
   refine cut5 ?_
   intro rr5 rr4 rr3 rr2
   have hrl:(rngL w).length=w:=by unfold rngL;rw[List.length_map,List.length_range]
   refine⟨_,rfl,w,rfl,by omega,fun lf flf=>⟨Nat.zero_le _,fun md fmd=>?_⟩⟩
   have s1:Same H (upd (upd H lf (.lst ((rngL w).map V.int))) md (.lst [])):=(Same.upd flf).updT fmd
   have nlm:lf≠md:=fun z=>by rw[<-z,za1] at fmd;cases fmd
   have h1:(upd (upd H lf (.lst ((rngL w).map V.int))) md (.lst [])) lf=some (.lst ((rngL w).map V.int)):=by rw[za9 nlm];exact za1
   have h2:(upd (upd H lf (.lst ((rngL w).map V.int))) md (.lst [])) md=some (.lst (([]:List Int).map V.int)):=za1
   have fmd0:H md=none:=(Same.upd flf).free fmd
   dsimp only
   revert s1 h1 h2
   generalize upd (upd H lf (.lst ((rngL w).map V.int))) md (.lst [])=H1
   intro s1 h1 h2
   refine⟨_,rfl,?_⟩
   refine⟨_,rfl,_,rfl,by omega,by omega,zj0 (n:=((w:Nat):Int).toNat) (fun i σ H'=>∃rest v5 lft mad,σ=[some (.int (w:Int)),some (.int cell),some (.ref lf),some (.ref md),some (.int rest),v5]/\Same H H'/\H' lf=some (.lst (List.map V.int lft))/\H' md=some (.lst (List.map V.int mad))/\(mad++lft).Perm (rngL w)/\mad.length=i) ⟨cell,none,rngL w,[],rfl,s1,h1,h2,.refl _,rfl⟩ ?_ ?_⟩
   . rintro i σ H2 hi ⟨rest,v5,lft,mad,rfl,s2,hl2,hm2,pm,hml⟩
     have hiw:i<w:=by simpa using hi
     have hll:lft.length=w-i:=by have:=pm.length_eq;rw[List.length_append,hrl] at this;omega
     refine⟨_,rfl,_,rfl,_,_,rfl,rfl,_,_,rfl,rfl,_,_,rfl,rfl,.inr ⟨by decide,by decide⟩,_,_,rfl,rfl,(by show(0:Int)<2147483647;decide),?_⟩
     have j1:0<=((rest+(0+(i:Int))+1)*48271 % 2147483647) % (lft.length:Int):=Int.emod_nonneg _ (by omega)
     have j2:((rest+(0+(i:Int))+1)*48271 % 2147483647) % (lft.length:Int)<lft.length:=Int.emod_lt_of_pos _ (by omega)
     obtain⟨j,ej⟩:∃j:Nat,((rest+(0+(i:Int))+1)*48271 % 2147483647) % (lft.length:Int)=(j:Int):=⟨_,(Int.toNat_of_nonneg j1).symm⟩
     have hj:j<lft.length:=by omega
     have ey:=List.getElem?_eq_getElem hj
     refine⟨_,rfl,.inl ⟨rfl,_,SqL.of hm2⟩,_,rfl,.inl ⟨rfl,_,SqL.of hl2⟩,_,rfl,_,rfl,lf,_,rfl,.inl (SqL.of hl2),?_⟩
     rw[List.length_map]
     refine⟨_,_,rfl,rfl,(by show(0:Int)<(lft.length:Int);omega),lf,_,_,j,.int lft[j],rfl,rfl,hl2,(by show -(2 ^ 63)<=((rest+(0+(i:Int))+1)*48271 % 2147483647) % (lft.length:Int);omega),(by show((rest+(0+(i:Int))+1)*48271 % 2147483647) % (lft.length:Int)<2 ^ 63;omega),(by show seqIndex? (((rest+(0+(i:Int))+1)*48271 % 2147483647) % (lft.length:Int)) _=_;rw[ej,List.length_map];exact seq_nat hj),(by rw[List.getElem?_map,ey];rfl),md,_,_,rfl,rfl,(by rw[za9 nlm.symm];exact hm2),zc7 (by rw[List.length_map];omega),?_⟩
     have er:(List.map V.int lft).eraseIdx j=(lft.eraseIdx j).map V.int:=by rw[List.eraseIdx_eq_take_drop_succ,List.eraseIdx_eq_take_drop_succ,List.map_append,List.map_take,List.map_drop]
     refine⟨((rest+(0+(i:Int))+1)*48271 % 2147483647),_,lft.eraseIdx j,mad++[lft[j]],rfl,(s2.put flf).put fmd0,by rw[za9 nlm,za1,er],by rw[za1,List.map_append,List.map_singleton],?_,by rw[List.length_append,hml];rfl⟩
     refine .trans ?_ pm
     rw[List.append_assoc]
     exact .append_left mad (yb3 ey).symm
   . rintro σ H2 ⟨rest,v5,lft,mad,rfl,s2,hl2,hm2,pm,hml⟩
     have hmw:mad.length=w:=by simpa using hml
     have hl0:lft=[]:=List.eq_nil_of_length_eq_zero (by have:=pm.length_eq;rw[List.length_append,hrl] at this;omega)
     subst hl0
     rw[List.append_nil] at pm
     exact⟨_,rfl,q md H2 mad s2 hm2 pm⟩
noncomputable def rn (ks:List Nat)(x:List Int):List Int:=ks.map fun k=>x.getD k 0
theorem zB8 (ks:List Nat)(x:List Int):(rn ks x).length=ks.length:=List.length_map _
theorem zM9 (x:List Int):(List.range x.length).map (fun k=>x.getD k 0)=x:=by
 refine List.ext_getElem (by simp) fun i h1 h2=>?_
 rw[List.getElem_map,List.getElem_range,List.getD_eq_getElem?_getD,List.getElem?_eq_getElem h2]
 rfl
theorem sum_perm {a b:List Int}(h:a.Perm b):a.sum=b.sum:=by
 induction h with
 | nil=>rfl
 | cons x _ ih=>rw[List.sum_cons,List.sum_cons,ih]
 | swap x y l=>rw[List.sum_cons,List.sum_cons,List.sum_cons,List.sum_cons];omega
 | trans _ _ h1 h2=>rw[h1,h2]
section
variable {ks:List Nat} {w:Nat} (pm:ks.Perm (List.range w))
include pm
theorem zV7:ks.length=w:=by rw[pm.length_eq,List.length_range]
theorem ks_nd:ks.Nodup:=pm.nodup_iff.mpr List.nodup_range
theorem zV8 {k:Nat}:k∈ks↔k<w:=by rw[pm.mem_iff,List.mem_range]
theorem yg2 {i:Nat}(h:i<w):ks.idxOf i<ks.length:=List.idxOf_lt_length_iff.mpr ((zV8 pm).mpr h)
theorem yk0 {i:Nat}(h:i<w):ks[ks.idxOf i]?=some i:=by
 rw[List.getElem?_eq_getElem (yg2 pm h)]
 exact congrArg some (List.getElem_idxOf _)
theorem yk1 {i j:Nat}(h:ks[j]?=some i):ks.idxOf i=j:=by
 have hi:i<w:=(zV8 pm).mp (List.mem_of_getElem? h)
 obtain⟨hj,e⟩:=List.getElem?_eq_some_iff.mp h
 rw[<-e]
 exact(ks_nd pm).idxOf_getElem j hj
theorem zJ3 {x:List Int}(hx:x.length=w):(rn ks x).Perm x:=by
 have:=pm.map fun k=>x.getD k 0
 rw[<-hx,zM9] at this
 exact this
theorem zN0 {x:List Int}(hx:x.length=w)(p:Int):(rn ks x).count p=x.count p:=(zJ3 pm hx).count_eq p
theorem zv6 (x:List Int){i:Nat}(h:i<w):(rn ks x).getD (ks.idxOf i) 0=x.getD i 0:=by
 unfold rn
 rw[List.getD_eq_getElem?_getD,List.getElem?_map,yk0 pm h]
 rfl
theorem yb9 {x:List Int}(hx:x.length=w){i:Nat}(h:i<w)(p:Int):(rn ks x).set (ks.idxOf i) p=rn ks (x.set i p):=by
 refine List.ext_getElem? fun j=>?_
 unfold rn
 rw[List.getElem?_set,List.getElem?_map,List.getElem?_map,List.length_map]
 by_cases e:ks.idxOf i=j
 . subst e
   rw[if_pos rfl,if_pos (yg2 pm h),yk0 pm h]
   show some p=some ((x.set i p).getD i 0)
   rw[List.getD_eq_getElem?_getD,List.getElem?_set,if_pos rfl,if_pos (by omega)]
   rfl
 . rw[if_neg e]
   cases q:ks[j]? with
   | none=>rfl
   | some k =>
     have hne:i≠k:=fun z=>e (yk1 pm (z▸q))
     show some (x.getD k 0)=some ((x.set i p).getD k 0)
     rw[List.getD_eq_getElem?_getD,List.getD_eq_getElem?_getD,List.getElem?_set,if_neg hne]
theorem yk2 {x y:List Int}(hx:x.length=w)(hy:y.length=w)(h:rn ks x=rn ks y):x=y:=by
 refine List.ext_getElem (by omega) fun i h1 h2=>?_
 have e:=zv6 pm x (i:=i) (by omega)
 rw[h,zv6 pm y (by omega),List.getD_eq_getElem?_getD,List.getD_eq_getElem?_getD,List.getElem?_eq_getElem h1,List.getElem?_eq_getElem h2] at e
 exact e.symm
theorem yk3 (ks':List Nat)(hs x:List Int):zb5 (rn ks' hs) (rn ks' x)=(ks'.map fun k=>hs.getD k 0*x.getD k 0).sum:=by
 induction ks' with
 | nil=>rfl
 | cons k r ih =>
   unfold zb5 rn at ih ⊢
   rw[List.map_cons,List.map_cons,List.zipWith_cons_cons,List.sum_cons,ih,List.map_cons,List.sum_cons]
theorem zE8 {hs x:List Int}(hh:hs.length=w)(hx:x.length=w):zb5 (rn ks hs) (rn ks x)=zb5 hs x:=by
 have e1:=yk3 pm ks hs x
 have e2:=yk3 pm (List.range w) hs x
 have e3:rn (List.range w) hs=hs:=by rw[<-hh];exact zM9 hs
 have e4:rn (List.range w) x=x:=by rw[<-hx];exact zM9 x
 rw[e3,e4] at e2
 rw[e1,e2]
 exact sum_perm (pm.map _)
theorem held_rn {hs x:List Int}(hh:hs.length=w)(hx:x.length=w){i:Nat}(h:i<w):zd8 (rn ks hs) (rn ks x) (ks.idxOf i)=zd8 hs x i:=by
 unfold zd8
 rw[zE8 pm hh hx,zv6 pm _ h,zv6 pm _ h]
theorem yb4 {n r:Int}{x:List Int}(h:zc8 n r w x):zc8 n r w (rn ks x) :=
 ⟨by rw[zB8,zV7 pm],fun a ha=>h.on a ((zJ3 pm h.len).mem_iff.mp ha),fun a ha z=>by rw[zN0 pm h.len];exact h.room a ((zJ3 pm h.len).mem_iff.mp ha) z⟩
theorem rn_ok {n r:Int}{hs:List Int}{lim:Int}(hh:hs.length=w)(h:zg6 n r hs lim):zg6 n r (rn ks hs) lim:=by
 have e:(rn ks hs).length=hs.length:=by rw[zB8,zV7 pm,hh]
 exact⟨h.n1,h.n2,h.r1,h.r2,h.l1,h.l2,by rw[e];exact h.w,fun a ha=>h.h a ((zJ3 pm hh).mem_iff.mp ha),by rw[e];exact h.most⟩
theorem zV9 {n r:Int}{hs:List Int}{L:Int}{x:List Int}(hh:hs.length=w)(hx:x.length=w){i:Nat}(hi:i<w){p:Int}:Lets n r (rn ks hs) L (rn ks x) (ks.idxOf i) p↔Lets n r hs L x i p:=by
 have e1:=held_rn pm hh hx hi
 have e2:=zv6 pm x hi
 have e3:=zv6 pm hs hi
 constructor
 . intro l
   exact⟨by omega,l.on,by rw[<-e2];exact l.ne,fun z=>by rw[<-zN0 pm hx];exact l.room z,by rw[<-e1];exact l.held,by rw[<-e1,<-e3];exact l.behind⟩
 . intro l
   exact⟨by rw[zB8];exact yg2 pm hi,l.on,by rw[e2];exact l.ne,fun z=>by rw[zN0 pm hx];exact l.room z,by rw[e1];exact l.held,by rw[e1,e3];exact l.behind⟩
theorem nbs_rn {n r:Int}{hs:List Int}{L:Int}{x y:List Int}(hh:hs.length=w)(hx:x.length=w)(h:y∈nbs n r hs L x):rn ks y∈nbs n r (rn ks hs) L (rn ks x):=by
 obtain⟨i,p,l,rfl⟩:=zh4.mp h
 have hi:i<w:=by have:=l.lt;omega
 exact zh4.mpr ⟨_,p,(zV9 pm hh hx hi).mpr l,(yb9 pm hx hi p).symm⟩
theorem rn_back {n r:Int}{hs:List Int}{L:Int}{x y:List Int}(hh:hs.length=w)(hx:x.length=w)(h:y∈nbs n r (rn ks hs) L (rn ks x)):∃z,y=rn ks z/\z∈nbs n r hs L x:=by
 obtain⟨j,p,l,rfl⟩:=zh4.mp h
 have hj:j<ks.length:=by have:=l.lt;rwa [zB8] at this
 have hi:ks[j]<w:=(zV8 pm).mp (List.getElem_mem hj)
 have e:=yk1 pm (List.getElem?_eq_getElem hj)
 rw[<-e] at l ⊢
 exact⟨_,yb9 pm hx hi p,zh4.mpr ⟨_,p,(zV9 pm hh hx hi).mp l,rfl⟩⟩
theorem nbs_len {n r:Int}{hs:List Int}{L:Int}{x y:List Int}(h:y∈nbs n r hs L x):y.length=x.length:=by
 obtain⟨i,p,l,rfl⟩:=zh4.mp h
 exact List.length_set
theorem zy2 {n r:Int}{hs:List Int}{L:Int}{s x:List Int}{d:Nat}(k:Walk n r hs L s d x):x.length=s.length:=by
 induction k with
 | zero=>rfl
 | succ k hy ih=>rw[nbs_len pm hy,ih]
theorem walk_rn {n r:Int}{hs:List Int}{L:Int}{s x:List Int}{d:Nat}(hh:hs.length=w)(hs0:s.length=w)(k:Walk n r hs L s d x):Walk n r (rn ks hs) L (rn ks s) d (rn ks x):=by
 induction k with
 | zero=>exact .zero
 | succ k hy ih=>exact ih.succ (nbs_rn pm hh ((zy2 pm k).trans hs0) hy)
theorem zS7 {n r:Int}{hs:List Int}{L:Int}{s x':List Int}{d:Nat}(hh:hs.length=w)(hs0:s.length=w)(k:Walk n r (rn ks hs) L (rn ks s) d x'):∃x,x'=rn ks x/\Walk n r hs L s d x:=by
 induction k with
 | zero=>exact⟨s,rfl,.zero⟩
 | succ k hy ih =>
   obtain⟨x,rfl,k'⟩:=ih
   obtain⟨z,rfl,hz⟩:=rn_back pm hh ((zy2 pm k').trans hs0) hy
   exact⟨z,rfl,k'.succ hz⟩
theorem zN1 {n r:Int}{hs:List Int}{L:Int}{s y:List Int}{d:Nat}(hh:hs.length=w)(hs0:s.length=w)(hy:y.length=w):Walk n r (rn ks hs) L (rn ks s) d (rn ks y)↔Walk n r hs L s d y:=by
 constructor
 . intro k
   obtain⟨x,e,k'⟩:=zS7 pm hh hs0 k
   rw[yk2 pm hy ((zy2 pm k').trans hs0) e]
   exact k'
 . exact walk_rn pm hh hs0
theorem zJ4 {n r:Int}{hs:List Int}{L:Int}{s y:List Int}{d:Nat}(hh:hs.length=w)(hs0:s.length=w)(hy:y.length=w):Dst n r (rn ks hs) L (rn ks s) d (rn ks y)↔Dst n r hs L s d y:=by
 unfold Dst
 rw[zN1 pm hh hs0 hy]
 constructor
 . exact fun h=>⟨h.1,fun j hj z=>h.2 j hj ((zN1 pm hh hs0 hy).mpr z)⟩
 . exact fun h=>⟨h.1,fun j hj z=>h.2 j hj ((zN1 pm hh hs0 hy).mp z)⟩
theorem yk4 {n r:Int}{hs:List Int}{L:Int}{s:List Int}{d:Nat}(hh:hs.length=w)(hs0:s.length=w)(y:List Int):Dst n r (rn ks hs) L (rn ks s) d y↔∃x,Dst n r hs L s d x/\y=rn ks x:=by
 constructor
 . intro h
   obtain⟨x,rfl,k⟩:=zS7 pm hh hs0 h.1
   exact⟨x,(zJ4 pm hh hs0 ((zy2 pm k).trans hs0)).mp h,rfl⟩
 . rintro⟨x,h,rfl⟩
   exact(zJ4 pm hh hs0 ((zy2 pm h.1).trans hs0)).mpr h
theorem zW0 {n r:Int}{hs:List Int}{L:Int}(hh:hs.length=w):∀ {x:List Int} {ms:List (Nat×Int)} {y:List Int},x.length=w->Goes n r hs L x ms y->Goes n r (rn ks hs) L (rn ks x) (ms.map fun m=>(ks.idxOf m.1,m.2)) (rn ks y)
 | x,[],y,_,h=>by
   obtain rfl:x=y:=h
   rfl
 | x,m::ms,y,hx,h=>by
   have hi:m.1<w:=by have:=h.1.lt;omega
   refine⟨(zV9 pm hh hx hi).mpr h.1,?_⟩
   show Goes n r (rn ks hs) L ((rn ks x).set (ks.idxOf m.1) m.2) (ms.map fun m=>(ks.idxOf m.1,m.2)) (rn ks y)
   rw[yb9 pm hx hi]
   exact zW0 hh (by rw[List.length_set];exact hx) h.2
theorem yk5 {hs s g:List Int}(hh:hs.length=w)(h1:s.length=w)(h2:g.length=w):zi8 (rn ks hs) (rn ks s) (rn ks g)=zi8 hs s g:=by
 unfold zi8
 rw[zE8 pm hh h1,zE8 pm hh h2]
end
theorem ks_of {os:List Int}{w:Nat}(h:os.Perm (rngL w)):∃ks:List Nat,os=ks.map (fun k:Nat=>(k:Int))/\ks.Perm (List.range w):=by
 refine⟨os.map Int.toNat,?_,?_⟩
 . rw[List.map_map]
   refine(List.map_id _).symm.trans (List.map_congr_left fun a ha=>?_)
   obtain⟨k,_,rfl⟩:=mem_rng.mp (h.mem_iff.mp ha)
   rfl
 . have:=h.map Int.toNat
   unfold rngL at this
   rw[List.map_map] at this
   refine this.trans (List.Perm.of_eq ?_)
   exact(List.map_congr_left fun a _=>rfl).trans (List.map_id _)
theorem zf4.snoc {H:Hp}{n r:Int}{hs:List Int}{lim:Int}{a:Addr}{m:Nat×Int}:∀ {x:List Int} {rs:List Addr} {ms:List (Nat×Int)} {z:List Int},zf4 H x rs ms->Goes n r hs lim x ms z->zq3 H z a m->zf4 H x (rs++[a]) (ms++[m])
 | x,[],[],z,_,g,h=>by
   obtain rfl:x=z:=g
   exact⟨h,trivial⟩
 | _,[],_::_,_,h,_,_=>h.elim
 | _,_::_,[],_,h,_,_=>h.elim
 | _,_::_,_::_,_,h,g,h'=>⟨h.1,zf4.snoc h.2 g.2 h'⟩
noncomputable def rnV (x:List Int):V->V
 | .int z=>.int (x.getD z.toNat 0)
 | v=>v
theorem zJ5 (ks:List Nat)(x:List Int):((ks.map fun k:Nat=>(k:Int)).map V.int).map (rnV x)=(rn ks x).map V.int:=by
 unfold rn
 rw[List.map_map,List.map_map,List.map_map]
 exact List.map_congr_left fun a _=>rfl
theorem ks_v {ks:List Nat}{w:Nat}(pm:ks.Perm (List.range w)){v:V}(h:v∈(ks.map fun k:Nat=>(k:Int)).map V.int):∃k:Nat,v = .int (k:Int)/\k<w:=by
 rw[List.map_map] at h
 obtain⟨k,hk,rfl⟩:=List.mem_map.mp h
 exact⟨k,rfl,(zV8 pm).mp hk⟩
theorem zW1 {x:List Int}{k:Nat}(h:k<x.length):atI (x.map V.int) (k:Int)=some (.int (x.getD k 0)):=by
 have:=zg4 (xs:=x) (i:=(k:Int)) (by omega) (by omega)
 exact this
inductive zS8 (K:W.Frag)(t:Adr)(vs:List V)(H:Hp)(Q:VK)(E:XK):Prop
 | mk (l o:Addr)(zs:List V)(X:List (List Int))(n r:Int)(w:Nat)(ks:List Nat)(h0:vs=[.ref l,.ref o])(h1:H l=some (.lst zs))(h2:Tups H zs X)(h3:X.Nodup)(h4:(∀x∈X,zc8 n r w x))(h5:X.length<=1000)(h6:w<=5)(h7:H o=some (.lst ((ks.map fun k:Nat=>(k:Int)).map V.int)))(h8:ks.Perm (List.range w))(h9:∀(l':Addr) (H':Hp) (ys:List V) (Y:List (List Int)),Same H H'->H' l'=some (.lst ys)->Tups H' ys Y->(∀y,y∈Y↔∃x∈X,y=rn ks x)->Y.Pairwise (fun x y=>Sx.lexB x y=true)->Y.length<=1000->(∀y∈Y,y.length<=5)->Q (.ref l') H'):zS8 K t vs H Q E
noncomputable def zS9 (K:W.Frag)(t:Adr):Sp:=fun vs H Q E=>zS8 K t vs H Q E
theorem ok_w_told (T:Txt K mg t):FnOk P w K mg base CX0 1 t.bd t.bz ["_law_rows","_law_order_here"] (zS9 K t):=by
 refine T.dq.ok sc_w_told (fun vs H Q E h=>?_) (fun cdv A outer s H vs Q E hr h=>?_)
 . obtain⟨l,o,zs,X,n,r,w,ks,rfl,hl,TX,nd,VX,hX,hw,ho,pm,q⟩:=h
   rfl
 . obtain⟨l,o,zs,X,n,r,w,ks,rfl,hl,TX,nd,VX,hX,hw,ho,pm,q⟩:=h
   refine⟨_,(za6 (zb8 (zb0 zL1 rfl T.aW PyProof.Rows.boot_sorted (za0 (pe_compC rfl zH8 (zg1 (pv 0)) (fun _ _ _ _ _=>(zc4 (i:=0) zH8.nd rfl (Or.inr rfl))) (fun _ _ _ _ _=>zi5) (fun _ _ _ _ _=>(zg3 (call_tuple_ofK K rfl) rfl T.aq PyProof.Rows.boot_tuple (za0 (zm9 rfl zH9 (pi_listK K rfl (pv 1)) (fun _ _ _ _ _=>(zc4 (i:=0) zH9.nd rfl (Or.inl rfl))) (fun _ _ _ _ _=>zi5) (fun _ _ _ _ _=>(zd3 (zq8 K rfl) (pv 1) (pv 0) (fun _ _=>rfl)))) za3)))) za3)))),?_⟩
   have hzl:=zn4 TX
   have hkl:=zV7 pm
   refine⟨_,rfl,l,rfl,⟨_,SqL.of hl⟩,fun D hD=>?_⟩
   refine zm3 (K:=K) (a:=l) (xs:=zs) (fun j H'=>∃ys,H' D=some (.lst ys)/\Tups H' ys ((X.take j).map (rn ks))/\Same H H'/\ys.length=j) ⟨[],za1,.nil,Same.upd hD,rfl⟩ (fun j H' ⟨_,_,_,s',_⟩=>SqL.of (s' _ _ hl)) ?_ ?_
   . rintro j v H' N hj ⟨ys,hD',TY,s',hyl⟩ hN
     obtain⟨xb,x,rfl,hx,hxb⟩:=zv0 TX hj
     have hxl:=(VX x (List.mem_of_getElem? hx)).len
     have hjX:j<X.length:=(List.getElem?_eq_some_iff.mp hx).1
     have hxb':=s' _ _ hxb
     have ho':=s' _ _ ho
     dsimp only[zw3]
     refine iteT ?_
     refine⟨_,rfl,o,rfl,⟨_,SqL.of ho'⟩,fun D2 hD2=>?_⟩
     refine zr7 (f:=rnV x) (SqL.of ho') hD2 (by rw[List.length_map,List.length_map];exact Nat.le_of_lt (zc7 (by omega))) (fun v acc R hv h=>?_) ?_
     . obtain⟨k,rfl,hk⟩:=ks_v pm hv
       exact⟨_,rfl,_,rfl,xb,_,_,_,rfl,rfl,SqT.of (by rw[za9 (fun z=>by rw[z,hD2] at hxb';cases hxb')];exact hxb'),zW1 (by omega),h⟩
     rw[zJ5]
     refine⟨D2,_,rfl,.inl ⟨SqL.of za1,fun l2 hl2=>?_⟩⟩
     have s2:Same H' (upd (upd H' D2 (.lst ((rn ks x).map V.int))) l2 (.tup ((rn ks x).map V.int))):=(Same.upd hD2).updT hl2
     have h2:(upd (upd H' D2 (.lst ((rn ks x).map V.int))) l2 (.tup ((rn ks x).map V.int))) l2=some (.tup ((rn ks x).map V.int)):=za1
     revert s2 h2
     generalize upd (upd H' D2 (.lst ((rn ks x).map V.int))) l2 (.tup ((rn ks x).map V.int))=H2
     intro s2 h2
     have hD3:=s2 _ _ hD'
     refine⟨_,hD3,zc7 (by omega),hN _ ⟨ys++[.ref l2],za1,?_,(s'.trans s2).put hD,by rw[List.length_append,hyl];rfl⟩⟩
     rw[List.take_succ,hx,List.map_append]
     refine zP4 (tups_keep hD3 (fun _ z=>nomatch z) (s2.tups TY)) ?_
     rw[za9 (fun z=>by rw[z,hD3] at h2;cases h2)]
     exact h2
   . rintro H' ⟨ys,hD',TY,s',hyl⟩
     rw[hzl,List.take_length] at TY
     have ndm:(X.map (rn ks)).Nodup:=List.pairwise_map.mpr (nd.imp_of_mem fun ha hb hab z=>hab (yk2 pm (VX _ ha).len (VX _ hb).len z))
     refine⟨D,ys,X.map (rn ks),rfl,SqL.of hD',TY,ndm,fun h2 k hk=>?_,fun l' zs' Y fl' TZ pm' hs=>?_⟩
     . have h2':2<=X.length:=by have:=zn4 TY;rw[List.length_map] at this;omega
       obtain⟨x,hx,rfl⟩:=List.mem_map.mp hk
       intro z
       exact one_of nd VX h2' x hx (List.eq_nil_of_length_eq_zero (by rw[(VX x hx).len,<-hkl,<-zB8 ks x,z];rfl))
     . have s2:Same H' (upd H' l' (.lst zs')):=Same.upd fl'
       refine q l' _ zs' Y (s'.trans s2) za1 (s2.tups TZ) (fun y=>?_) hs (by rw[pm'.length_eq,List.length_map];exact hX) fun y hy=>?_
       . rw[pm'.mem_iff,List.mem_map]
         exact⟨fun⟨x,hx,e⟩=>⟨x,hx,e.symm⟩,fun⟨x,hx,e⟩=>⟨x,hx,e.symm⟩⟩
       . obtain⟨x,hx,rfl⟩:=List.mem_map.mp (pm'.mem_iff.mp hy)
         rw[zB8,hkl]
         exact hw
end
section
variable {P:Program} {w:World} {K:W.Frag} {mg:Str->Option Value} {base:Heap} {t:Adr}
theorem ok_law (T:Txt K mg t):FnOk P w K mg base CX0 11 t.bK t.bM ["_law_script"] (sp_law K t):=by
 have GaW:FnOk P w K mg base CX0 3 t.a8 t.bt ["_law_script"] (zS1 K t):=ok_w_case T
 have GaX:FnOk P w K mg base CX0 1 t.aW t.bh ["_law_count","_law_cell"] (zM8 K t):=ok_w_order T
 have GaF:FnOk P w K mg base CX0 9 t.aL t.a2 ["beam","start","goal"] (zH1 K t):=zR4 T
 have GaY:FnOk P w K mg base CX0 10 t.bl t.bE ["beam","start","goal"] (ya7 K t):=ok_least T
 have GaZ:FnOk P w K mg base CX0 3 t.ap t.aI ["_law_found","_law_due"] (zy1 K t):=ok_w_same_rows T
 have GaK:FnOk P w K mg base CX0 1 t.aF t.aO ["_law_script","_law_k"] (zz8 K t):=zE7 T
 have Ga0:FnOk P w K mg base CX0 5 t.bc t.bx ["_law_scale"] (zR9 K t):=ok_w_beam T
 have Ga2:FnOk P w K mg base CX0 1 t.bd t.bz ["_law_rows","_law_order_here"] (zS9 K t):=ok_w_told T
 have Ga3:FnOk P w K mg base CX0 4 t.bn t.bG ["_law_scale","_law_first","_law_last","_law_found"] (yb1 K t):=ok_w_way T
 have GaT:FnOk P w K mg base CX0 3 t.aC t.aS ["_law_scale","_law_spots","_law_row"] (zA1 K t):=zH4 T
 have Ga4:FnOk P w K mg base CX0 4 t.bo t.bH ["_law_scale","_law_first","_law_last","_law_found"] (ya9 K t):=ok_w_low T
 refine T.dL.ok zl4 (fun vs H Q E h=>?_) (fun cdv A outer s H vs Q E hr h=>?_)
 . obtain⟨a,ns,rfl,hS,hlen,q⟩:=h
   rfl
 . obtain⟨a,ns,rfl,hS,hlen,q⟩:=h
   have haW:Room 3 _:=hr.mono (by decide)
   have haX:Room 1 _:=hr.mono (by decide)
   have haF:Room 9 _:=hr.mono (by decide)
   have haY:Room 10 _:=hr.mono (by decide)
   have haZ:Room 3 _:=hr.mono (by decide)
   have haK:Room 1 _:=hr.mono (by decide)
   have ha0:Room 5 _:=hr.mono (by decide)
   have ha2:Room 1 _:=hr.mono (by decide)
   have ha3:Room 4 _:=hr.mono (by decide)
   have haT:Room 3 _:=hr.mono (by decide)
   have ha4:Room 4 _:=hr.mono (by decide)
   refine⟨_,(za4 (zF0 (za7 GaW haW rfl T.c9 T.da T.c8 .nil zb4 (za0 (pv 0) za3)) (zU0 rfl (ze4 (zc4 (i:=1) zl4.nd rfl (Or.inr rfl)) (ze4 (zc4 (i:=2) zl4.nd rfl (Or.inr rfl)) (ze4 (zc4 (i:=3) zl4.nd rfl (Or.inr rfl)) zy4)))))
     (za4 (zb3 (i:=4) zl4.nd rfl (Or.inr rfl) (za7 GaX haX rfl T.cL T.cM T.cK .nil zb4 (za0 (zb0 zb7 rfl T.ad PySem.boot_len (za0 (pv 2) za3)) (za0 (za7 GaK haK rfl T.ay T.az T.ax .nil zb4 (za0 (pv 0) (za0 za2 za3))) za3))))
     (za4 (zb3 (i:=5) zl4.nd rfl (Or.inl rfl) (pe_lstS (za0 (zd3 zd6 (pv 1) za2 (fun _ _=>rfl)) (za0 (zd3 zd6 (pv 1) za2 (fun _ _=>rfl)) (za0 (zm9 rfl zY5 (zg1 (pv 4)) (fun _ _ _ _ _=>(zc4 (i:=0) zY5.nd rfl (Or.inl rfl))) (fun _ _ _ _ _=>zi5) (fun _ _ _ _ _=>(zd3 (zW8 K rfl) (zd3 (zW8 K rfl) (pv 1) za2 (fun _ _=>rfl)) (pv 0) (fun _ _=>rfl)))) (za0 (zd3 zd6 (pv 1) za2 (fun _ _=>rfl)) za3))))))
     (za4 (zb3 (i:=6) zl4.nd rfl (Or.inl rfl) (zg3 (zw9 K rfl) rfl T.aq PyProof.Rows.boot_tuple (za0 (zm9 rfl zY6 (zg1 (pv 4)) (fun _ _ _ _ _=>(zc4 (i:=0) zY6.nd rfl (Or.inl rfl))) (fun _ _ _ _ _=>zi5) (fun _ _ _ _ _=>(zd3 (zq8 K rfl) (pv 1) (pv 0) (fun _ _=>rfl)))) za3)))
     (za4 (zb3 (i:=7) zl4.nd rfl (Or.inl rfl) (zg3 (zw9 K rfl) rfl T.aq PyProof.Rows.boot_tuple (za0 (zm9 rfl zY7 (zg1 (pv 4)) (fun _ _ _ _ _=>(zc4 (i:=0) zY7.nd rfl (Or.inl rfl))) (fun _ _ _ _ _=>zi5) (fun _ _ _ _ _=>(zd3 (zq8 K rfl) (pv 1) (pv 0) (fun _ _=>rfl)))) za3)))
     (za4 (zb3 (i:=8) zl4.nd rfl (Or.inl rfl) (za7 GaF haF rfl T.aQ T.aR T.aP .nil zb4 (za0 (za7 Ga0 ha0 rfl T.aT T.aU T.aS .nil zb4 (za0 (pv 1) za3)) (za0 (pv 2) (za0 (pv 3) za3)))))
     (za4 (zb3 (i:=9) zl4.nd rfl (Or.inl rfl) (za7 GaF haF rfl T.aQ T.aR T.aP .nil zb4 (za0 (za7 Ga0 ha0 rfl T.aT T.aU T.aS .nil zb4 (za0 (pv 5) za3)) (za0 (pv 6) (za0 (pv 7) za3)))))
     (za4 (zd1 (PW.pt (zn1 (ze5 (zd4 (za7 Ga3 ha3 rfl T.bX T.bY T.bW .nil zb4 (za0 (pv 1) (za0 (pv 2) (za0 (pv 3) (za0 (pv 8) za3))))))) (zl0 (ze5 (zd4 (za7 Ga3 ha3 rfl T.bX T.bY T.bW .nil zb4 (za0 (pv 5) (za0 (pv 6) (za0 (pv 7) (za0 (pv 9) za3)))))))))) (za6 (zb8 zg8)) zb9)
     (za4 (zd1 (PW.pt (zn1 (zc6 zn8 (zc9 (pv 8) rfl) (zc9 (pv 9) rfl) (zc5 _)) (zn1 (zc6 zn8 (zc9 (pv 8) rfl) (zc9 (pv 9) rfl) (zc5 _)) (zl0 (zc6 zn8 (zb0 zb7 rfl T.ad PySem.boot_len (za0 (zc9 (pv 8) rfl) za3)) (zb0 zb7 rfl T.ad PySem.boot_len (za0 (zc9 (pv 9) rfl) za3)) (zc5 _)))))) (za6 (zb8 zg8)) zb9)
     (za4 (yc7 (i:=10) rfl zY8 (zg1 (zc9 (pv 8) rfl)) (fun _ _ _ _ _=>(zc4 (i:=0) zY8.nd rfl (Or.inl rfl))) (fun _ _ _ _ _=>zi5) (fun _ _ _ _ _=>(pe_tupS (za0 (zb6 zf6 (yj0 K rfl PySem.F.plainAttrs_list PySem.F.slot_list_index PySem.F.type_list_index mt_index (pv 1) (za0 (zb6 zi4 (zd3 (zq8 K rfl) (pv 0) za2 (fun _ _=>rfl)) za2) za3)) za2) (za0 (zd3 (zq8 K rfl) (pv 0) za2 (fun _ _=>rfl)) (za0 (zd3 (zq8 K rfl) (pv 0) za2 (fun _ _=>rfl)) za3))))) zl4.nd rfl rfl)
     (za4 (zd1 (PW.pt (zB3 (zd4 (zc9 (pv 8) rfl)) (zy3 (zc6 (op_neT (Nat.lt_of_succ_lt (zv8 hr))) (za7 GaT haT rfl T.a4 T.a5 T.a3 .nil zb4 (za0 (pv 5) (za0 (pv 6) (za0 (pv 10) za3)))) (pv 7) (zc5 _))))) (za6 (zb8 zg8)) zb9)
     (za4 (zi3 PassesOwn.never rfl (zl9 rfl T.ao (za0 (zb0 zb7 rfl T.ad PySem.boot_len (za0 (zc9 (pv 8) rfl) za3)) za3)) (zc4 (i:=11) zl4.nd rfl (Or.inl rfl)) (za6 (zd1 (ze5 (zd4 (za7 GaZ haZ rfl T.aE T.aF T.aD .nil zb4 (za0 (zd3 zd6 (zc9 (pv 9) rfl) (pv 11) (fun _ _=>rfl)) (za0 (za7 Ga2 ha2 rfl T.a7 T.a8 T.a6 .nil zb4 (za0 (zd3 zd6 (zc9 (pv 8) rfl) (pv 11) (fun _ _=>rfl)) (za0 (pv 4) za3))) za3))))) (za6 (zb8 zg8)) zb9)))
     (za4 (zb3 (i:=12) zl4.nd rfl (Or.inl rfl) (za7 GaY haY rfl T.bR T.bS T.bQ .nil zb4 (za0 (za7 Ga0 ha0 rfl T.aT T.aU T.aS .nil zb4 (za0 (pv 1) za3)) (za0 (pv 2) (za0 (pv 3) za3)))))
     (za4 (zb3 (i:=13) zl4.nd rfl (Or.inl rfl) (za7 GaY haY rfl T.bR T.bS T.bQ .nil zb4 (za0 (za7 Ga0 ha0 rfl T.aT T.aU T.aS .nil zb4 (za0 (pv 5) za3)) (za0 (pv 6) (za0 (pv 7) za3)))))
     (za4 (zd1 (PW.pt (zn1 (ze5 (zd4 (za7 Ga4 ha4 rfl T.b0 T.b1 T.bZ .nil zb4 (za0 (pv 1) (za0 (pv 2) (za0 (pv 3) (za0 (pv 12) za3))))))) (zl0 (ze5 (zd4 (za7 Ga4 ha4 rfl T.b0 T.b1 T.bZ .nil zb4 (za0 (pv 5) (za0 (pv 6) (za0 (pv 7) (za0 (pv 13) za3)))))))))) (za6 (zb8 zg8)) zb9)
     (za4 (zd1 (zc6 zn8 (zc9 (pv 12) rfl) (zc9 (pv 13) rfl) (zc5 _)) (za6 (zb8 zg8)) zb9)
     (za4 (zd1 (ze5 (zd4 (za7 GaZ haZ rfl T.aE T.aF T.aD .nil zb4 (za0 (zc9 (pv 13) rfl) (za0 (za7 Ga2 ha2 rfl T.a7 T.a8 T.a6 .nil zb4 (za0 (zc9 (pv 12) rfl) (za0 (pv 4) za3))) za3))))) (za6 (zb8 zg8)) zb9)
     (za6 (zb8 (za7 GaZ haZ rfl T.aE T.aF T.aD .nil zb4 (za0 (zc9 (pv 9) rfl) (za0 (za7 Ga2 ha2 rfl T.a7 T.a8 T.a6 .nil zb4 (za0 (zc9 (pv 8) rfl) (za0 (pv 4) za3))) za3)))))))))))))))))))))),?_⟩
   refine cut18 ?_
   intro rr18 rr17 rr16 rr15 rr14 rr13 rr12 rr11 rr10 rr9 rr8 rr7 rr6 rr5 rr4 rr3 rr2
   refine⟨_,rfl,a,ns,rfl,hS,fun l sc h st go H1 n r lim hs s g C=>?_⟩
   refine⟨l,_,rfl,SqL.of C.hl,rfl,_,_,rfl,_,_,rfl,_,_,rfl,rfl,?_⟩
   have okl:=C.ok
   have hw:=okl.w
   have hl1:=C.vs.len
   have hl2:=C.vg.len
   have vs:=C.vs
   have vg:=C.vg
   have ks0:=C.ks
   have kg0:=C.kg
   have S1:zl6 K H1 sc n r hs lim:=⟨h,C.ok,SqL.of C.hsc,SqL.of C.hh⟩
   have hst1:=C.hst
   have hgo1:=C.hgo
   have hsc1:=C.hsc
   have hh1:=C.hh
   have sA:Same H H1:=C.sm
   clear C
   refine⟨_,rfl,st,_,rfl,.inr (SqT.of hst1),_,rfl,a,ns,7,rfl,sA.seq hS,?_⟩
   refine⟨s.length,_,(by rw[List.length_map];rfl),(by omega),fun o H2 os s2 ho pm0=>?_⟩
   obtain⟨ks,rfl,pm⟩:=ks_of pm0
   rw[hl1] at pm
   have hkl:=zV7 pm
   refine⟨_,rfl,sc,_,_,_,rfl,rfl,SqL.of (s2 _ _ hsc1),rfl,_,rfl,sc,_,_,_,rfl,rfl,SqL.of (s2 _ _ hsc1),rfl,_,rfl,o,rfl,⟨_,SqL.of ho⟩,fun D hD=>?_⟩
   have sD:Same H2 (upd H2 D (.lst [])):=Same.upd hD
   refine zr7 (f:=rnV hs) (SqL.of ho) hD (by rw[List.length_map,List.length_map];exact Nat.le_of_lt (zc7 (by omega))) (fun v acc R hv h=>?_) ?_
   . obtain⟨k,rfl,hk⟩:=ks_v pm hv
     have so:Same H2 (upd H2 D (.lst acc)):=Same.upd hD
     exact⟨_,rfl,sc,_,_,_,rfl,rfl,SqL.of (so _ _ (s2 _ _ hsc1)),rfl,_,rfl,_,_,_,_,rfl,rfl,SqL.of (so _ _ (s2 _ _ hh1)),zW1 (by omega),h⟩
   rw[zJ5]
   have sD1:Same H2 (upd H2 D (.lst ((rn ks hs).map V.int))):=Same.upd hD
   have hD1:(upd H2 D (.lst ((rn ks hs).map V.int))) D=some (.lst ((rn ks hs).map V.int)):=za1
   revert sD1 hD1
   generalize upd H2 D (.lst ((rn ks hs).map V.int))=H3
   intro s3 hD1
   have s13:=s2.trans s3
   refine⟨_,rfl,sc,_,_,_,rfl,rfl,SqL.of (s13 _ _ hsc1),rfl,(by show 4<=sizeLine;decide),fun ot H4 s4 f4 hot=>?_⟩
   have s14:=s13.trans s4
   have okr:zg6 n r (rn ks hs) lim:=rn_ok pm rfl okl
   have hrl:(rn ks hs).length=hs.length:=by rw[zB8,hkl]
   have S4:zl6 K H4 ot n r (rn ks hs) lim:=⟨D,okr,SqL.of hot,SqL.of (s4 _ _ hD1)⟩
   have ho4:=s4 _ _ (s3 _ _ ho)
   refine⟨_,rfl,o,rfl,⟨_,SqL.of ho4⟩,fun D5 hD5=>?_⟩
   refine zr7 (f:=rnV s) (SqL.of ho4) hD5 (by rw[List.length_map,List.length_map];exact Nat.le_of_lt (zc7 (by omega))) (fun v acc R hv h=>?_) ?_
   . obtain⟨k,rfl,hk⟩:=ks_v pm hv
     have so:Same H4 (upd H4 D5 (.lst acc)):=Same.upd hD5
     exact⟨_,rfl,_,rfl,st,_,_,_,rfl,rfl,SqT.of (so _ _ (s14 _ _ hst1)),zW1 (by omega),h⟩
   rw[zJ5]
   have s5:Same H4 (upd H4 D5 (.lst ((rn ks s).map V.int))):=Same.upd hD5
   have hD51:(upd H4 D5 (.lst ((rn ks s).map V.int))) D5=some (.lst ((rn ks s).map V.int)):=za1
   revert s5 hD51
   generalize upd H4 D5 (.lst ((rn ks s).map V.int))=H5
   intro s5 hD51
   refine⟨D5,_,rfl,.inl ⟨SqL.of hD51,fun st2 H6 s6 f6 hst2=>?_⟩⟩
   have s46:=s5.trans s6
   have s16:=s14.trans s46
   refine⟨_,rfl,o,rfl,⟨_,SqL.of (s46 _ _ ho4)⟩,fun D7 hD7=>?_⟩
   refine zr7 (f:=rnV g) (SqL.of (s46 _ _ ho4)) hD7 (by rw[List.length_map,List.length_map];exact Nat.le_of_lt (zc7 (by omega))) (fun v acc R hv h=>?_) ?_
   . obtain⟨k,rfl,hk⟩:=ks_v pm hv
     have so:Same H6 (upd H6 D7 (.lst acc)):=Same.upd hD7
     exact⟨_,rfl,_,rfl,go,_,_,_,rfl,rfl,SqT.of (so _ _ (s16 _ _ hgo1)),zW1 (by omega),h⟩
   rw[zJ5]
   have s7:Same H6 (upd H6 D7 (.lst ((rn ks g).map V.int))):=Same.upd hD7
   have hD71:(upd H6 D7 (.lst ((rn ks g).map V.int))) D7=some (.lst ((rn ks g).map V.int)):=za1
   revert s7 hD71
   generalize upd H6 D7 (.lst ((rn ks g).map V.int))=H7
   intro s7 hD71
   refine⟨D7,_,rfl,.inl ⟨SqL.of hD71,fun go2 H8 s8 f8 hgo2=>?_⟩⟩
   have s68:=s7.trans s8
   have s18:=s16.trans s68
   have hst8:=s18 _ _ hst1
   have hgo8:=s18 _ _ hgo1
   replace hst2:=s68 _ _ hst2
   have S8:=S1.same s18
   replace S4:=S4.same (s46.trans s68)
   replace ho:=s68 _ _ (s46 _ _ ho4)
   have vs2:zc8 n r (rn ks hs).length (rn ks s):=by rw[hrl];exact yb4 pm vs
   have vg2:zc8 n r (rn ks hs).length (rn ks g):=by rw[hrl];exact yb4 pm vg
   have ks2:absI (zb5 (rn ks hs) (rn ks s))<=lim:=by rw[zE8 pm rfl hl1];exact ks0
   have kg2:absI (zb5 (rn ks hs) (rn ks g))<=lim:=by rw[zE8 pm rfl hl2];exact kg0
   have hks:ks.length<=5:=by omega
   clear hsc1 hh1 hst1 hgo1 sA pm0 s2 sD s3 hD1 s13 s4 f4 hot s14 ho4 hD5 s5 hD51 s6 f6 s46 s16 hD7 s7 hD71 s8 f8 s68 hD S1 s18
   refine⟨_,rfl,sc,n,r,lim,hs,rfl,S8,fun b H9 s9 B9=>?_⟩
   refine⟨_,rfl,_,rfl,b,st,go,n,r,lim,hs,s,g,rfl,B9,vs,vg,.inr (s9 _ _ hst8),.inr (s9 _ _ hgo8),ks0,kg0,fun w1 H10 s10 R1=>?_⟩
   have s80:=s9.trans s10
   refine⟨_,rfl,ot,n,r,lim,_,rfl,S4.same s80,fun b2 H11 s11 B11=>?_⟩
   have s81:=s80.trans s11
   refine⟨_,rfl,_,rfl,b2,st2,go2,n,r,lim,_,_,_,rfl,B11,vs2,vg2,.inr (s81 _ _ hst2),.inr (s81 _ _ hgo2),ks2,kg2,fun w2 H12 s12 R2=>?_⟩
   have s82:=s81.trans s12
   replace R1:=R1.same (s11.trans s12)
   refine⟨_,rfl,_,rfl,_,rfl,_,rfl,sc,st,go,w1,n,r,lim,hs,s,g,rfl,S8.same s82,vs,s82 _ _ hst8,s82 _ _ hgo8,R1,fun H13 s13=>⟨_,rfl,iteF ?_⟩⟩
   have s83:=s82.trans s13
   refine⟨_,rfl,_,rfl,_,rfl,_,rfl,ot,st2,go2,w2,n,r,lim,_,_,_,rfl,S4.same s83,vs2,s83 _ _ hst2,s83 _ _ hgo2,R2.same s13,fun H14 s14=>⟨_,rfl,iteF ?_⟩⟩
   have s84:=s83.trans s14
   replace R1:=R1.same (s13.trans s14)
   replace R2:=R2.same (s13.trans s14)
   have S14:=S8.same s84
   replace S4:=S4.same s84
   replace ho:=s84 _ _ ho
   replace hst2:=s84 _ _ hst2
   replace hgo2:=s84 _ _ hgo2
   have hst:=s84 _ _ hst8
   have hgo:=s84 _ _ hgo8
   clear s9 B9 s10 s80 s11 B11 s81 s12 s82 s13 s83 s14 s84 S8 hst8 hgo8
   have dst2:∀(j:Nat) (y:List Int),Dst n r (rn ks hs) lim (rn ks s) j y↔∃x,Dst n r hs lim s j x/\y=rn ks x:=fun j y=>yk4 pm rfl hl1 y
   have dg:∀ {d},Dst n r (rn ks hs) lim (rn ks s) d (rn ks g)↔Dst n r hs lim s d g:=fun {d}=>zJ4 pm rfl hl1 hl2
   obtain⟨c1,m1,rw1,la1,ag1,sh1,dx1,rs1,ms1,as1,L1,zs1,S1,p1,p2,p3,p4,p5,p6,p7,p8,p9,p10,p11⟩:=R1.view
   obtain⟨c2,m2,rw2,la2,ag2,sh2,dx2,rs2,ms2,as2,L2,zs2,S2,q1,q2,q3,q4,q5,q6,q7,q8,q9,q10,q11⟩:=R2.view
   have hL:L1.length=L2.length:=nat_ext fun j=>by
     rw[p7,q7]
     simp only[dg,dst2]
     exact⟨fun⟨⟨x,hx⟩,h2⟩=>⟨⟨rn ks x,x,hx,rfl⟩,h2⟩,fun⟨⟨_,x,hx,_⟩,h2⟩=>⟨⟨x,hx⟩,h2⟩⟩
   have hSS:∀y,y∈S2↔∃x∈S1,y=rn ks x:=fun y=>by
     rcases p11 with⟨_,d,_,h1,_,_,e1⟩ | ⟨_,_,h1,_,h2⟩
     . rcases q11 with⟨_,d',_,h1',_,_,e2⟩ | ⟨_,_,h1',_,h2'⟩
       . rw[e1,e2]
         exact⟨(fun z=>nomatch z),fun⟨_,z,_⟩=>nomatch z⟩
       . exact absurd (dg.mpr h1) (h1' d)
     . rcases q11 with⟨_,d',_,h1',_,_,e2⟩ | ⟨_,_,h1',_,h2'⟩
       . exact absurd (dg.mp h1') (h1 d')
       . rw[h2']
         simp only[dst2,h2]
         exact⟨fun⟨d,x,hx,e⟩=>⟨x,⟨d,hx⟩,e⟩,fun⟨x,⟨d,hx⟩,e⟩=>⟨d,x,hx,e⟩⟩
   have hcm:c1=c2/\m1=m2:=by
     rcases p11 with⟨e1,d,e2,h1,_⟩ | ⟨e1,e2,h1,_⟩
     . rcases q11 with⟨e3,d',e4,h1',_⟩ | ⟨e3,e4,h1',_⟩
       . exact⟨by rw[e1,e3],by rw[e2,e4,h1.uniq (dg.mp h1')]⟩
       . exact absurd (dg.mpr h1) (h1' d)
     . rcases q11 with⟨e3,d',e4,h1',_⟩ | ⟨e3,e4,h1',_⟩
       . exact absurd (dg.mp h1') (h1 d')
       . exact⟨by rw[e1,e3],by rw[e2,e4]⟩
   obtain⟨rfl,rfl⟩:=hcm
   have hsc:scal m1 m1=true:=by rcases p11 with⟨_,d,rfl,_⟩ | ⟨_,rfl,_⟩<;>rfl
   have la1l:as1.length=L1.length:=Paired.length p5
   have la2l:as2.length=L2.length:=Paired.length q5
   refine⟨_,rfl,w1,_,dx1,_,_,rfl,p1,T.aa,T.ac,zh5 _ _ _ _ _ _,_,rfl,w2,_,dx2,_,_,rfl,q1,T.aa,T.ac,zh5 _ _ _ _ _ _,rfl,_,rfl,iteB (by rw[decide_eq_true rfl];rfl) ?_⟩
   refine⟨_,rfl,w1,_,dx1,_,_,rfl,p1,T.aa,T.ap,zE5 _ _ _ _ _ _,_,rfl,w2,_,dx2,_,_,rfl,q1,T.aa,T.ap,zE5 _ _ _ _ _ _,hsc,_,rfl,iteB (by rw[decide_eq_true rfl];rfl) ?_⟩
   refine⟨_,rfl,w1,_,dx1,_,_,rfl,p1,T.aa,T.am,zu3 _ _ _ _ _ _,la1,_,rfl,.inl (SqL.of p4),_,rfl,w2,_,dx2,_,_,rfl,q1,T.aa,T.am,zu3 _ _ _ _ _ _,la2,_,rfl,.inl (SqL.of q4),rfl,_,rfl,iteB (by rw[List.length_map,List.length_map,la1l,la2l,hL,decide_eq_true rfl];rfl) ?_⟩
   have hLb:L1.length<=1000:=lay_few okl vs p6 fun j hj=>((p7 j).mp hj).1
   have hrow:∃e,Goes n r hs lim s ms1 e/\ms1.length<=1000/\(c1=true->e=g):=by
     rcases p11 with⟨e1,d,_,h1,hG,hml,_⟩ | ⟨e1,_,_,e3,_⟩
     . refine⟨g,hG,?_,fun _=>rfl⟩
       have:=(p7 d).mpr ⟨⟨g,h1⟩,fun e he=>by rw[h1.uniq he];exact Nat.le_refl _⟩
       omega
     . exact⟨s,by rw[e3];rfl,by rw[e3];decide,fun z=>by rw[e1] at z;cases z⟩
   obtain⟨e,hG,hml,hce⟩:=hrow
   refine⟨_,rfl,w1,_,dx1,_,_,rfl,p1,T.aa,T.an,zH0 _ _ _ _ _ _,rw1,rfl,⟨_,SqL.of p2⟩,fun D hD=>?_⟩
   have hrl1:=p3.len
   refine zm3 (K:=K) (a:=rw1) (xs:=rs1.map V.ref) (fun j H'=>∃as:List Addr,H' D=some (.lst (as.map V.ref))/\Same H14 H'/\zf4 H' (rn ks s) as ((ms1.take j).map fun m=>(ks.idxOf m.1,m.2))/\as.length=j) ⟨[],za1,Same.upd hD,trivial,rfl⟩ (fun j H' ⟨_,_,s',_⟩=>SqL.of (s' _ _ p2)) ?_ ?_
   . rintro j v H' N hj ⟨as,hD',s',hR',hal⟩ hN
     have hjl:j<rs1.length:=by have:=(List.getElem?_eq_some_iff.mp hj).1;rwa [List.length_map] at this
     obtain⟨a',m,z0,rfl,hm,hz0,hr',Lt⟩:=p3.at hG hj
     have hra:H' a'=some (.tup [.int ((m.1:Int)+1),.int (z0.getD m.1 0),.int m.2]):=s' _ _ hr'
     have hi:m.1<hs.length:=by have:=Lt.lt;have:=(hz0.valid vs).len;omega
     dsimp only[zw3]
     refine iteT ?_
     refine⟨_,rfl,.inl ⟨rfl,_,SqL.of (s' _ _ ho)⟩,_,rfl,a',_,_,_,rfl,rfl,SqT.of hra,rfl,_,_,rfl,rfl,?_⟩
     refine⟨o,ks.map fun k:Nat=>(k:Int),_,ks.idxOf m.1,rfl,rfl,s' _ _ ho,by rw[List.getElem?_map,yk0 pm hi];exact congrArg some (show((m.1:Nat):Int)=((m.1:Nat):Int)+1-1 by omega),fun m' a2 hm' e2=>?_,by have:=yg2 pm hi;omega,?_⟩
     . rw[List.getElem?_map] at e2
       cases q9:ks[m']? with
       | none=>rw[q9] at e2;cases e2
       | some k =>
         rw[q9] at e2
         obtain rfl:=Option.some.inj e2
         have:=yk1 pm q9
         exact beq_false_of_ne fun z=>by
           have z':((k:Nat):Int)=((m.1:Nat):Int)+1-1:=z
           have:k=m.1:=by omega
           subst this
           omega
     refine⟨_,_,rfl,rfl,_,rfl,a',_,_,_,rfl,rfl,SqT.of hra,rfl,_,rfl,a',_,_,_,rfl,rfl,SqT.of hra,rfl,(by show 3<=sizeLine;decide),fun l2 H2 s2 f2 h2=>?_⟩
     have hrow:zq3 H2 (rn ks z0) l2 (ks.idxOf m.1,m.2):=by
       unfold zq3
       rw[h2,zv6 pm _ hi]
     have hD2:=s2 _ _ hD'
     refine⟨_,hD2,zc7 (by rw[List.length_map];omega),hN _ ⟨as++[l2],by rw[za1,List.map_append];rfl,(s'.trans s2).put hD,?_,by rw[List.length_append,hal];rfl⟩⟩
     rw[List.take_succ,hm,List.map_append]
     exact((hR'.same s2).snoc (zW0 pm rfl hl1 hz0) hrow).keepL hD2
   rintro H15 ⟨as,hD15,s15,hR15,hal⟩
   rw[List.length_map,hrl1,List.take_length] at hR15
   replace p1:=s15 _ _ p1
   have q1':=s15 _ _ q1
   have p4':=s15 _ _ p4
   have q4':=s15 _ _ q4
   have p5':=p5.keep s15
   have q5':=q5.keep s15
   have p8':=s15 _ _ p8
   have q8':=s15 _ _ q8
   have p9':=s15.tups p9
   have q9':=s15.tups q9
   have ho15:=s15 _ _ ho
   have hst15:=s15 _ _ hst
   have hgo15:=s15 _ _ hgo
   have hst215:=s15 _ _ hst2
   have hgo215:=s15 _ _ hgo2
   have S15:=S14.same s15
   have S415:=S4.same s15
   have hG2:=zW0 pm rfl hl1 hG
   clear hD p2 p3 p4 p5 p8 p9 q2 q3 q4 q5 q8 q9 ho hst hgo hst2 hgo2 S14 S4 R1 R2
   refine use_finH (R:=?R) (S:=fun H'=>Same H15 H') (fun fin=>?main) ?fin
   case main =>
     refine⟨_,rfl,w1,_,dx1,_,_,rfl,p1,T.aa,T.ac,zh5 _ _ _ _ _ _,c1,rfl,ite2 (fun hc=>?_) (fun hc=>?_)⟩
     . obtain rfl:=hce hc
       refine⟨_,rfl,_,rfl,_,rfl,ot,st2,D,n,r,lim,_,_,_,as,_,rfl,S415,vs2,hst215,hD15,hR15,hG2,fun tb H16 s16 htb=>?_⟩
       refine⟨_,rfl,tb,go2,_,_,rfl,rfl,SqT.of htb,SqT.of (s16 _ _ hgo215),zH3,_,rfl,iteB (by rw[decide_eq_true rfl];rfl) ?_⟩
       exact fin H16 s16
     . exact iteF (fin H15 (Same.refl _))
   case fin =>
   intro H16 s16
   clear hD15 hR15 hG2 hG hce hsc
   replace p1:=s16 _ _ p1
   replace q1':=s16 _ _ q1'
   replace p4':=s16 _ _ p4'
   replace q4':=s16 _ _ q4'
   replace p5':=p5'.keep s16
   replace q5':=q5'.keep s16
   replace p8':=s16 _ _ p8'
   replace q8':=s16 _ _ q8'
   replace p9':=s16.tups p9'
   replace q9':=s16.tups q9'
   replace ho15:=s16 _ _ ho15
   have hst16:=s16 _ _ hst15
   have hgo16:=s16 _ _ hgo15
   have hst216:=s16 _ _ hst215
   have hgo216:=s16 _ _ hgo215
   have S16:=S15.same s16
   have S416:=S415.same s16
   clear hst15 hgo15 hst215 hgo215 S15 S415
   refine⟨_,rfl,w1,_,dx1,_,_,rfl,p1,T.aa,T.am,zu3 _ _ _ _ _ _,la1,_,rfl,.inl (SqL.of p4'),?_⟩
   rw[List.length_map,la1l]
   refine⟨_,rfl,by omega,by omega,zj0 (n:=((L1.length:Nat):Int).toNat) (fun i σ H'=>∃v,σ=[some (.ref a),some (.ref sc),some (.ref st),some (.ref go),some (.ref o),some (.ref ot),some (.ref st2),some (.ref go2),some (.ref w1),some (.ref w2),some (.ref D),v,none,none]/\Same H16 H') ⟨none,rfl,Same.refl _⟩ ?_ ?_⟩
   . rintro j σ H' hj ⟨v,rfl,s'⟩
     have hj1:j<L1.length:=by simpa using hj
     have hj2:j<L2.length:=by omega
     have e0:(0:Int)+(j:Int)=(j:Int):=by omega
     obtain⟨x1,X1,z1,i1,j1,hx1,t1⟩:=yg1 (p5'.keep s') hj1
     obtain⟨x2,X2,z2,i2,j2,hx2,t2⟩:=yg1 (q5'.keep s') hj2
     obtain⟨fw,fv⟩:=flat_few okl vs p6 j1
     have sr1:=p6.srt X1 (List.mem_of_getElem? j1)
     refine⟨_,rfl,w2,_,dx2,_,_,rfl,s' _ _ q1',T.aa,T.am,zu3 _ _ _ _ _ _,_,rfl,la2,_,_,_,rfl,rfl,SqL.of (s' _ _ q4'),(by rw[e0];exact zC3 i2),_,rfl,w1,_,dx1,_,_,rfl,s' _ _ p1,T.aa,T.am,zu3 _ _ _ _ _ _,_,rfl,la1,_,_,_,rfl,rfl,SqL.of (s' _ _ p4'),(by rw[e0];exact zC3 i1),_,rfl,x1,o,z1,X1,n,r,hs.length,ks,rfl,hx1,t1,zg2 sr1,fv,fw,hw,s' _ _ ho15,pm,fun ly H'' ys Y s'' hly tY mY sY lY vY=>?_⟩
     have eX:X2=Y:=zJ2 (q6.srt X2 (List.mem_of_getElem? j2)) sY fun x=>by
       rw[mY,q6.mem j X2 j2,dst2]
       simp only[p6.mem j X1 j1]
     refine⟨x2,ly,z2,ys,X2,Y,rfl,s'' _ _ hx2,s''.tups t2,hly,tY,lY,fun y hy=>(by have:=vY y hy;omega),_,rfl,?_⟩
     rw[decide_eq_true eX]
     exact iteF ⟨_,rfl,s'.trans s''⟩
   rintro σ H17 ⟨v,rfl,s17⟩
   refine⟨_,rfl,sc,n,r,lim,hs,rfl,S16.same s17,fun b3 H18 s18 B18=>?_⟩
   have t18:=s17.trans s18
   refine⟨_,rfl,_,rfl,b3,st,go,n,r,lim,hs,s,g,rfl,B18,vs,vg,.inr (t18 _ _ hst16),.inr (t18 _ _ hgo16),fun lt1 H19 s19 E1=>?_⟩
   have t19:=t18.trans s19
   refine⟨_,rfl,ot,n,r,lim,_,rfl,S416.same t19,fun b4 H20 s20 B20=>?_⟩
   have t20:=t19.trans s20
   refine⟨_,rfl,_,rfl,b4,st2,go2,n,r,lim,_,_,_,rfl,B20,vs2,vg2,.inr (t20 _ _ hst216),.inr (t20 _ _ hgo216),fun lt2 H21 s21 E2=>?_⟩
   have t21:=t20.trans s21
   replace E1:=E1.same (s20.trans s21)
   refine⟨_,rfl,_,rfl,_,rfl,_,rfl,sc,st,go,lt1,n,r,lim,hs,s,g,rfl,S16.same t21,vs,t21 _ _ hst16,t21 _ _ hgo16,E1,fun H22 s22=>⟨_,rfl,iteF ?_⟩⟩
   have t22:=t21.trans s22
   refine⟨_,rfl,_,rfl,_,rfl,_,rfl,ot,st2,go2,lt2,n,r,lim,_,_,_,rfl,S416.same t22,vs2,t22 _ _ hst216,t22 _ _ hgo216,E2.same s22,fun H23 s23=>⟨_,rfl,iteF ?_⟩⟩
   have s2123:=s22.trans s23
   have t23:=t22.trans s23
   obtain⟨La,dl1,rwa,sha,da,rsa,msa,zsa,Sa,a1,a2,a3,a4,a5,a6,a7,a8,a9,a10,a11,a12,a13⟩:=(E1.same s2123).view
   obtain⟨Lb,dl2,rwb,shb,db,rsb,msb,zsb,Sb,b1',b2',b3',b4',b5',b6',b7',b8',b9,b10,b11,b12,b13⟩:=(E2.same s2123).view
   rw[yk5 pm rfl hl1 hl2] at b2' b9
   have dgl:∀ {L d},Dst n r (rn ks hs) L (rn ks s) d (rn ks g)↔Dst n r hs L s d g:=fun {L d}=>zJ4 pm rfl hl1 hl2
   have hLL:La=Lb:=by
     rcases Int.lt_trichotomy La Lb with z | z | z
     . exact absurd (dgl.mpr a4) (b9 La a2 z da)
     . exact z
     . exact absurd (dgl.mp b4') (a9 Lb b2' z db)
   subst hLL
   have hSl:∀y,y∈Sb↔∃x∈Sa,y=rn ks x:=fun y=>by
     unfold zV6 at a13 b13
     rw[yk5 pm rfl hl1 hl2] at b13
     rcases a13 with⟨e1,e2⟩ | ⟨e1,e2⟩
     . rcases b13 with⟨e3,e4⟩ | ⟨e3,e4⟩
       . rw[e2,e4]
         exact⟨(fun z=>nomatch z),fun⟨_,z,_⟩=>nomatch z⟩
       . omega
     . rcases b13 with⟨e3,e4⟩ | ⟨e3,e4⟩
       . omega
       . rw[e4]
         have e2':∀x,x∈Sa↔∃d,Dst n r hs (La-1) s d x:=e2
         simp only[yk4 pm rfl hl1,e2']
         exact⟨fun⟨d,x,hx,e⟩=>⟨x,⟨d,hx⟩,e⟩,fun⟨x,⟨d,hx⟩,e⟩=>⟨d,x,hx,e⟩⟩
   have vSa:∀x∈Sa,zc8 n r hs.length x:=fun x hx=>by
     rcases a13 with⟨_,e2⟩ | ⟨_,e2⟩
     . rw[e2] at hx
       cases hx
     . obtain⟨d,hd⟩:=(e2 x).mp hx
       exact hd.1.valid vs
   have ndSa:=zg2 a12
   refine⟨_,rfl,lt1,_,dl1,_,_,rfl,a1,T.ah,T.ai,zu7 _ _ _,_,rfl,lt2,_,dl2,_,_,rfl,b1',T.ah,T.ai,zu7 _ _ _,rfl,_,rfl,iteB (by rw[decide_eq_true rfl];rfl) ?_⟩
   refine⟨_,rfl,lt2,_,dl2,_,_,rfl,b1',T.ah,T.aH,yg0 _ _ _,_,rfl,lt1,_,dl1,_,_,rfl,a1,T.ah,T.aH,yg0 _ _ _,_,rfl,sha,o,zsa,Sa,n,r,hs.length,ks,rfl,a10,a11,ndSa,vSa,few okl ndSa vSa,hw,t23 _ _ ho15,pm,fun ly H24 ys Y s24 hly tY mY sY lY vY=>?_⟩
   have eX:Sb=Y:=zJ2 b12 sY fun x=>by rw[mY,hSl]
   refine⟨shb,ly,zsb,ys,Sb,Y,rfl,s24 _ _ b10,s24.tups b11,hly,tY,lY,fun y hy=>(by have:=vY y hy;omega),_,rfl,?_⟩
   rw[decide_eq_true eX]
   refine iteF ?_
   have t24:=t23.trans s24
   have vS1:∀x∈S1,zc8 n r hs.length x:=fun x hx=>by
     rcases p11 with⟨_,d,_,_,_,_,e1⟩ | ⟨_,_,_,_,h2⟩
     . rw[e1] at hx
       cases hx
     . obtain⟨d,hd⟩:=(h2 x).mp hx
       exact hd.1.valid vs
   have ndS1:=zg2 p10
   refine⟨_,rfl,w2,_,dx2,_,_,rfl,t24 _ _ q1',T.aa,T.aC,zV4 _ _ _ _ _ _,_,rfl,w1,_,dx1,_,_,rfl,t24 _ _ p1,T.aa,T.aC,zV4 _ _ _ _ _ _,_,rfl,sh1,o,zs1,S1,n,r,hs.length,ks,rfl,t24 _ _ p8',t24.tups p9',ndS1,vS1,few okl ndS1 vS1,hw,t24 _ _ ho15,pm,fun ly2 H25 ys2 Y2 s25 hly2 tY2 mY2 sY2 lY2 vY2=>?_⟩
   have eX2:S2=Y2:=zJ2 q10 sY2 fun x=>by rw[mY2,hSS]
   refine⟨sh2,ly2,zs2,ys2,S2,Y2,rfl,(t24.trans s25) _ _ q8',(t24.trans s25).tups q9',hly2,tY2,lY2,fun y hy=>(by have:=vY2 y hy;omega),?_⟩
   rw[decide_eq_true eX2]
   exact q _
end
theorem ar1 {us:List Value}(h:us.length=1):∃x0,us=[x0]:=by
 match us,h with
 | [a0],_=>exact⟨a0,rfl⟩
theorem ar2 {us:List Value}(h:us.length=2):∃x0 x1,us=[x0,x1]:=by
 match us,h with
 | [a0,a1],_=>exact⟨a0,a1,rfl⟩
theorem ar3 {us:List Value}(h:us.length=3):∃x0 x1 x2,us=[x0,x1,x2]:=by
 match us,h with
 | [a0,a1,a2],_=>exact⟨a0,a1,a2,rfl⟩
theorem ar4 {us:List Value}(h:us.length=4):∃x0 x1 x2 x3,us=[x0,x1,x2,x3]:=by
 match us,h with
 | [a0,a1,a2,a3],_=>exact⟨a0,a1,a2,a3,rfl⟩
theorem ar5 {us:List Value}(h:us.length=5):∃x0 x1 x2 x3 x4,us=[x0,x1,x2,x3,x4]:=by
 match us,h with
 | [a0,a1,a2,a3,a4],_=>exact⟨a0,a1,a2,a3,a4,rfl⟩
theorem ar7 {us:List Value}(h:us.length=7):∃x0 x1 x2 x3 x4 x5 x6,us=[x0,x1,x2,x3,x4,x5,x6]:=by
 match us,h with
 | [a0,a1,a2,a3,a4,a5,a6],_=>exact⟨a0,a1,a2,a3,a4,a5,a6,rfl⟩
theorem all_mk {l:W.OpenLaw} {w:World} {K:W.Frag} {h:Heap} {mg:Str->Option Value} {fa:Addr} (X:K.In h) (G:h.Ns mainGlobals mg) (hfa:mg "law" = some (.ref fa))
   {eD eE eF eG bA eH:Value} {eI eJ:Option Addr} {eK:Array (Option Value)} {aj:Addr}
   {fN fO fP fQ cJ fR:Value} {fS fT:Option Addr} {fU:Array (Option Value)} {aN:Addr}
   {cK cL cM cN aO cO:Value} {cP cQ:Option Addr} {cR:Array (Option Value)} {ah:Addr}
   {c6 c7 c8 c9 aZ da:Value} {db dc:Option Addr} {dd:Array (Option Value)} {ak:Addr}
   {bB bC bD bE az bF:Value} {bG bH:Option Addr} {bI:Array (Option Value)} {ac:Addr}
   {i5 i6 i7 i8 eL i9:Value} {ja jb:Option Addr} {jc:Array (Option Value)} {bX:Addr}
   {de df dg dh a0 di:Value} {dj dk:Option Addr} {dl:Array (Option Value)} {al:Addr}
   {kG kH kI kJ fy kK:Value} {kL kM:Option Addr} {kN:Array (Option Value)} {cS:Addr}
   {kO kP kQ kR fz kS:Value} {kT kU:Option Addr} {kV:Array (Option Value)} {cT:Addr}
   {jd je jf jg eM jh:Value} {ji jj:Option Addr} {jk:Array (Option Value)} {bY:Addr}
   {fV fW fX fY cU fZ:Value} {f0 f1:Option Addr} {f2:Array (Option Value)} {aP:Addr}
   {jl jm jn jo eN jp:Value} {jq jr:Option Addr} {js:Array (Option Value)} {bZ:Addr}
   {gF gG gH gI dM gJ:Value} {gK gL:Option Addr} {gM:Array (Option Value)} {a8:Addr}
   {gN gO gP gQ dN gR:Value} {gS gT:Option Addr} {gU:Array (Option Value)} {a9:Addr}
   {kW kX kY kZ fA k0:Value} {k1 k2:Option Addr} {k3:Array (Option Value)} {cV:Addr}
   {k4 k5 k6 k7 fB k8:Value} {k9 la:Option Addr} {lb:Array (Option Value)} {cW:Addr}
   {fn fo fp fq ce fr:Value} {fs ft:Option Addr} {fu:Array (Option Value)} {aq:Addr}
   {gV gW gX gY dO gZ:Value} {g0 g1:Option Addr} {g2:Array (Option Value)} {ba:Addr}
   {g3 g4 g5 g6 dP g7:Value} {g8 g9:Option Addr} {ha:Array (Option Value)} {bb:Addr}
   {d7 d8 d9 ea bo eb:Value} {ec ed:Option Addr} {ee:Array (Option Value)} {ar:Addr}
   {hb hc hd he dQ hf:Value} {hg hh:Option Addr} {hi:Array (Option Value)} {bc:Addr}
   {dm dn dp dq a1 dr:Value} {ds dt:Option Addr} {du:Array (Option Value)} {am:Addr}
   {ef eg eh ei bp ej:Value} {ek el:Option Addr} {em:Array (Option Value)} {ag:Addr}
   {jt ju jv jw eO jx:Value} {jy jz:Option Addr} {jA:Array (Option Value)} {b0:Addr}
   {b4 b5 b6 b7 aE b8:Value} {b9 ca:Option Addr} {cb:Array (Option Value)} {ae:Addr}
   {ck cl cm cn aG co:Value} {cp cq:Option Addr} {cr:Array (Option Value)} {af:Addr}
   {lc ld le lf fC lg:Value} {lh li:Option Addr} {lj:Array (Option Value)} {cX:Addr}
   {f3 f4 f5 f6 cY f7:Value} {f8 f9:Option Addr} {ga:Array (Option Value)} {aQ:Addr}
   {hj hk hm hn dR ho:Value} {hp hq:Option Addr} {hr:Array (Option Value)} {bd:Addr}
   {gb gc gd ge cZ gf:Value} {gg gh:Option Addr} {gi:Array (Option Value)} {aR:Addr}
   {jB jC jD jE eP jF:Value} {jG jH:Option Addr} {jI:Array (Option Value)} {b1:Addr}
   {hs ht hu hv dS hw:Value} {hx hy:Option Addr} {hz:Array (Option Value)} {be:Addr}
   {gj gk gl gm c0 gn:Value} {go gp:Option Addr} {gq:Array (Option Value)} {aS:Addr}
   {hA hB hC hD dT hE:Value} {hF hG:Option Addr} {hH:Array (Option Value)} {bf:Addr}
   {hI hJ hK hL dU hM:Value} {hN hO:Option Addr} {hP:Array (Option Value)} {bg:Addr}
   {hQ hR hS hT dV hU:Value} {hV hW:Option Addr} {hX:Array (Option Value)} {bh:Addr}
   {en eo ep eq bq er:Value} {es et:Option Addr} {eu:Array (Option Value)} {au:Addr}
   {hY hZ h0 h1 dW h2:Value} {h3 h4:Option Addr} {h5:Array (Option Value)} {bi:Addr}
   {dv dw dx dy a2 dz:Value} {dA dB:Option Addr} {dC:Array (Option Value)} {an:Addr}
   {h6 h7 h8 h9 dX ia:Value} {ib ic:Option Addr} {id:Array (Option Value)} {bj:Addr}
   {ie ig ih ii dY ij:Value} {ik il:Option Addr} {im:Array (Option Value)} {bk:Addr}
   {io ip iq ir dZ it:Value} {iu iv:Option Addr} {iw:Array (Option Value)} {bl:Addr}
   {jJ jK jL jM eQ jN:Value} {jO jP:Option Addr} {jQ:Array (Option Value)} {b2:Addr}
   {jR jS jT jU eR jV:Value} {jW jX:Option Addr} {jY:Array (Option Value)} {b3:Addr}
   {gr gs gt gu c1 gv:Value} {gw gx:Option Addr} {gy:Array (Option Value)} {aT:Addr}
   {ix iy iz iA d0 iB:Value} {iC iD:Option Addr} {iE:Array (Option Value)} {bm:Addr}
   {lI lJ lK lL iF lM:Value} {lN lO:Option Addr} {lP:Array (Option Value)} {gz:Addr}
   {ad:Addr}
   {ab:Addr}
   {aa:Addr}
   {aw:Tok}
   {aW:Tok}
   {aH:Tok}
   {ax:Tok}
   {aX:Tok}
   {ao:Tok}
   (lQ:W.nsIn K mainGlobals "Beam" = some (some (.ref ad)))
   (l6:W.nsIn K mainGlobals "Way" = some (some (.ref ab)))
   (lk:W.nsIn K mainGlobals "Least" = some (some (.ref aa)))
   (cf:W.findIn K (.ref ad) "__init__" = some (some (.ref aj)))
   (fv:W.isFn K (.ref aj)=true)
   (fw:K.lookup aj=some ⟨eD,eI,.func (W.fnOf "__init__" "Beam.__init__" (zc0 zk7) (zb2 zk7) (za5 zk7) .none eE eF eG eJ bA eH),eK⟩)
   (fx:W.codeIn K bA "Beam.__init__" = true) (aY:W.keepIn K (.ref aj)=true)
   (d1:W.nsIn K mainGlobals "outside" = some (some (.ref aN)))
   (iG:K.lookup aN=some ⟨fN,fS,.func (W.fnOf "outside" "outside" (zc0 zo7) (zb2 zo7) (za5 zo7) .none fO fP fQ fT cJ fR),fU⟩)
   (iH:W.codeIn K cJ "outside" = true) (bJ:W.keepIn K (.ref aN)=true)
   (a3:W.nsIn K mainGlobals "check_bounds" = some (some (.ref ah)))
   (dD:K.lookup ah=some ⟨cK,cP,.func (W.fnOf "check_bounds" "check_bounds" (zc0 zg5) (zb2 zg5) (za5 zg5) .none cL cM cN cQ aO cO),cR⟩)
   (dE:W.codeIn K aO "check_bounds" = true) (ay:W.keepIn K (.ref ah)=true)
   (br:W.nsIn K mainGlobals "check_hefts" = some (some (.ref ak)))
   (ev:K.lookup ak=some ⟨c6,db,.func (W.fnOf "check_hefts" "check_hefts" (zc0 zh8) (zb2 zh8) (za5 zh8) .none c7 c8 c9 dc aZ da),dd⟩)
   (ew:W.codeIn K aZ "check_hefts" = true) (aA:W.keepIn K (.ref ak)=true)
   (aF:W.nsIn K mainGlobals "check_standings" = some (some (.ref ac)))
   (cc:K.lookup ac=some ⟨bB,bG,.func (W.fnOf "check_standings" "check_standings" (zc0 zf1) (zb2 zf1) (za5 zf1) .none bC bD bE bH az bF),bI⟩)
   (cd:W.codeIn K az "check_standings" = true) (ai:W.keepIn K (.ref ac)=true)
   (fD:W.nsIn K mainGlobals "under" = some (some (.ref bX)))
   (ll:K.lookup bX=some ⟨i5,ja,.func (W.fnOf "under" "under" (zc0 zy8) (zb2 zy8) (za5 zy8) .none i6 i7 i8 jb eL i9),jc⟩)
   (lm:W.codeIn K eL "under" = true) (dF:W.keepIn K (.ref bX)=true)
   (bs:W.nsIn K mainGlobals "as_standing" = some (some (.ref al)))
   (ex:K.lookup al=some ⟨de,dj,.func (W.fnOf "as_standing" "as_standing" (zc0 zh9) (zb2 zh9) (za5 zh9) .none df dg dh dk a0 di),dl⟩)
   (ey:W.codeIn K a0 "as_standing" = true) (aB:W.keepIn K (.ref al)=true)
   (iI:W.nsIn K mainGlobals "tilt" = some (some (.ref cS)))
   (lR:K.lookup cS=some ⟨kG,kL,.func (W.fnOf "tilt" "tilt" (zc0 zx0) (zb2 zx0) (za5 zx0) .none kH kI kJ kM fy kK),kN⟩)
   (lS:W.codeIn K fy "tilt" = true) (eS:W.keepIn K (.ref cS)=true)
   (iJ:W.nsIn K mainGlobals "past" = some (some (.ref cT)))
   (lT:K.lookup cT=some ⟨kO,kT,.func (W.fnOf "past" "past" (zc0 zF9) (zb2 zF9) (za5 zF9) .none kP kQ kR kU fz kS),kV⟩)
   (lU:W.codeIn K fz "past" = true) (eT:W.keepIn K (.ref cT)=true)
   (fE:W.nsIn K mainGlobals "keeps" = some (some (.ref bY)))
   (ln:K.lookup bY=some ⟨jd,ji,.func (W.fnOf "keeps" "keeps" (zc0 zy9) (zb2 zy9) (za5 zy9) .none je jf jg jj eM jh),jk⟩)
   (lo:W.codeIn K eM "keeps" = true) (dG:W.keepIn K (.ref bY)=true)
   (d2:W.nsIn K mainGlobals "in_hand" = some (some (.ref aP)))
   (iK:K.lookup aP=some ⟨fV,f0,.func (W.fnOf "in_hand" "in_hand" (zc0 zo8) (zb2 zo8) (za5 zo8) .none fW fX fY f1 cU fZ),f2⟩)
   (iL:W.codeIn K cU "in_hand" = true) (bK:W.keepIn K (.ref aP)=true)
   (fF:W.nsIn K mainGlobals "moves" = some (some (.ref bZ)))
   (lp:K.lookup bZ=some ⟨jl,jq,.func (W.fnOf "moves" "moves" (zc0 zq9) (zb2 zq9) (za5 zq9) .none jm jn jo jr eN jp),js⟩)
   (lq:W.codeIn K eN "moves" = true) (dH:W.keepIn K (.ref bZ)=true)
   (eU:W.nsIn K mainGlobals "turned" = some (some (.ref a8)))
   (jZ:K.lookup a8=some ⟨gF,gK,.func (W.fnOf "turned" "turned" (zc0 zs0) (zb2 zs0) (za5 zs0) .none gG gH gI gL dM gJ),gM⟩)
   (j0:W.codeIn K dM "turned" = true) (cs:W.keepIn K (.ref a8)=true)
   (eV:W.nsIn K mainGlobals "behind" = some (some (.ref a9)))
   (j1:K.lookup a9=some ⟨gN,gS,.func (W.fnOf "behind" "behind" (zc0 zs3) (zb2 zs3) (za5 zs3) .none gO gP gQ gT dN gR),gU⟩)
   (j2:W.codeIn K dN "behind" = true) (ct:W.keepIn K (.ref a9)=true)
   (iM:W.nsIn K mainGlobals "full" = some (some (.ref cV)))
   (lV:K.lookup cV=some ⟨kW,k1,.func (W.fnOf "full" "full" (zc0 zG0) (zb2 zG0) (za5 zG0) .none kX kY kZ k2 fA k0),k3⟩)
   (lW:W.codeIn K fA "full" = true) (eW:W.keepIn K (.ref cV)=true)
   (iN:W.nsIn K mainGlobals "puts" = some (some (.ref cW)))
   (lX:K.lookup cW=some ⟨k4,k9,.func (W.fnOf "puts" "puts" (zc0 zx1) (zb2 zx1) (za5 zx1) .none k5 k6 k7 la fB k8),lb⟩)
   (lY:W.codeIn K fB "puts" = true) (eX:W.keepIn K (.ref cW)=true)
   (c2:W.findIn K (.ref ab) "__init__" = some (some (.ref aq)))
   (gA:W.isFn K (.ref aq)=true)
   (gB:K.lookup aq=some ⟨fn,fs,.func (W.fnOf "__init__" "Way.__init__" (zc0 zm5) (zb2 zm5) (za5 zm5) .none fo fp fq ft ce fr),fu⟩)
   (gC:W.codeIn K ce "Way.__init__" = true) (bn:W.keepIn K (.ref aq)=true)
   (eY:W.nsIn K mainGlobals "fewest" = some (some (.ref ba)))
   (j3:K.lookup ba=some ⟨gV,g0,.func (W.fnOf "fewest" "fewest" (zc0 zs4) (zb2 zs4) (za5 zs4) .none gW gX gY g1 dO gZ),g2⟩)
   (j4:W.codeIn K dO "fewest" = true) (cu:W.keepIn K (.ref ba)=true)
   (eZ:W.nsIn K mainGlobals "search" = some (some (.ref bb)))
   (j5:K.lookup bb=some ⟨g3,g8,.func (W.fnOf "search" "search" (zc0 zs5) (zb2 zs5) (za5 zs5) .none g4 g5 g6 g9 dP g7),ha⟩)
   (j6:W.codeIn K dP "search" = true) (cv:W.keepIn K (.ref bb)=true)
   (bL:W.nsIn K mainGlobals "next_layer" = some (some (.ref ar)))
   (e0:K.lookup ar=some ⟨d7,ec,.func (W.fnOf "next_layer" "next_layer" (zc0 zj3) (zb2 zj3) (za5 zj3) .none d8 d9 ea ed bo eb),ee⟩)
   (e1:W.codeIn K bo "next_layer" = true) (aI:W.keepIn K (.ref ar)=true)
   (e2:W.nsIn K mainGlobals "row_to" = some (some (.ref bc)))
   (j7:K.lookup bc=some ⟨hb,hg,.func (W.fnOf "row_to" "row_to" (zc0 zs6) (zb2 zs6) (za5 zs6) .none hc hd he hh dQ hf),hi⟩)
   (j8:W.codeIn K dQ "row_to" = true) (cw:W.keepIn K (.ref bc)=true)
   (bt:W.nsIn K mainGlobals "moved_again" = some (some (.ref am)))
   (ez:K.lookup am=some ⟨dm,ds,.func (W.fnOf "moved_again" "moved_again" (zc0 ze0) (zb2 ze0) (za5 ze0) .none dn dp dq dt a1 dr),du⟩)
   (eA:W.codeIn K a1 "moved_again" = true) (aC:W.keepIn K (.ref am)=true)
   (bM:W.findIn K (.ref aa) "__init__" = some (some (.ref ag)))
   (e3:W.isFn K (.ref ag)=true)
   (e4:K.lookup ag=some ⟨ef,ek,.func (W.fnOf "__init__" "Least.__init__" (zc0 zj4) (zb2 zj4) (za5 zj4) .none eg eh ei el bp ej),em⟩)
   (e5:W.codeIn K bp "Least.__init__" = true) (aJ:W.keepIn K (.ref ag)=true)
   (fG:W.nsIn K mainGlobals "least" = some (some (.ref b0)))
   (lr:K.lookup b0=some ⟨jt,jy,.func (W.fnOf "least" "least" (zc0 zz0) (zb2 zz0) (za5 zz0) .none ju jv jw jz eO jx),jA⟩)
   (ls:W.codeIn K eO "least" = true) (dI:W.keepIn K (.ref b0)=true)
   (aK:W.nsIn K mainGlobals "limit_to_leave" = some (some (.ref ae)))
   (cx:K.lookup ae=some ⟨b4,b9,.func (W.fnOf "limit_to_leave" "limit_to_leave" (zc0 zd9) (zb2 zd9) (za5 zd9) .none b5 b6 b7 ca aE b8),cb⟩)
   (cy:W.codeIn K aE "limit_to_leave" = true) (ap:W.keepIn K (.ref ae)=true)
   (aU:W.nsIn K mainGlobals "limit_to_move" = some (some (.ref af)))
   (c3:K.lookup af=some ⟨ck,cp,.func (W.fnOf "limit_to_move" "limit_to_move" (zc0 zf9) (zb2 zf9) (za5 zf9) .none cl cm cn cq aG co),cr⟩)
   (c4:W.codeIn K aG "limit_to_move" = true) (av:W.keepIn K (.ref af)=true)
   (iO:W.nsIn K mainGlobals "_law_at" = some (some (.ref cX)))
   (lZ:K.lookup cX=some ⟨lc,lh,.func (W.fnOf "_law_at" "_law_at" (zc0 zG1) (zb2 zG1) (za5 zG1) .none ld le lf li fC lg),lj⟩)
   (l0:W.codeIn K fC "_law_at" = true) (e6:W.keepIn K (.ref cX)=true)
   (d3:W.nsIn K mainGlobals "_law_whole" = some (some (.ref aQ)))
   (iP:K.lookup aQ=some ⟨f3,f8,.func (W.fnOf "_law_whole" "_law_whole" (zc0 zo9) (zb2 zo9) (za5 zo9) .none f4 f5 f6 f9 cY f7),ga⟩)
   (iQ:W.codeIn K cY "_law_whole" = true) (bN:W.keepIn K (.ref aQ)=true)
   (e7:W.nsIn K mainGlobals "_law_figs" = some (some (.ref bd)))
   (j9:K.lookup bd=some ⟨hj,hp,.func (W.fnOf "_law_figs" "_law_figs" (zc0 zs7) (zb2 zs7) (za5 zs7) .none hk hm hn hq dR ho),hr⟩)
   (ka:W.codeIn K dR "_law_figs" = true) (cz:W.keepIn K (.ref bd)=true)
   (d4:W.nsIn K mainGlobals "_law_shape" = some (some (.ref aR)))
   (iR:K.lookup aR=some ⟨gb,gg,.func (W.fnOf "_law_shape" "_law_shape" (zc0 zk8) (zb2 zk8) (za5 zk8) .none gc gd ge gh cZ gf),gi⟩)
   (iS:W.codeIn K cZ "_law_shape" = true) (bO:W.keepIn K (.ref aR)=true)
   (fH:W.nsIn K mainGlobals "_law_put" = some (some (.ref b1)))
   (lt:K.lookup b1=some ⟨jB,jG,.func (W.fnOf "_law_put" "_law_put" (zc0 zz1) (zb2 zz1) (za5 zz1) .none jC jD jE jH eP jF),jI⟩)
   (lu:W.codeIn K eP "_law_put" = true) (dJ:W.keepIn K (.ref b1)=true)
   (e8:W.nsIn K mainGlobals "_law_tilt" = some (some (.ref be)))
   (kb:K.lookup be=some ⟨hs,hx,.func (W.fnOf "_law_tilt" "_law_tilt" (zc0 zs8) (zb2 zs8) (za5 zs8) .none ht hu hv hy dS hw),hz⟩)
   (kc:W.codeIn K dS "_law_tilt" = true) (cA:W.keepIn K (.ref be)=true)
   (d5:W.nsIn K mainGlobals "_law_limit" = some (some (.ref aS)))
   (iT:K.lookup aS=some ⟨gj,go,.func (W.fnOf "_law_limit" "_law_limit" (zc0 zp0) (zb2 zp0) (za5 zp0) .none gk gl gm gp c0 gn),gq⟩)
   (iU:W.codeIn K c0 "_law_limit" = true) (bP:W.keepIn K (.ref aS)=true)
   (e9:W.nsIn K mainGlobals "_law_hard" = some (some (.ref bf)))
   (kd:K.lookup bf=some ⟨hA,hF,.func (W.fnOf "_law_hard" "_law_hard" (zc0 zs9) (zb2 zs9) (za5 zs9) .none hB hC hD hG dT hE),hH⟩)
   (ke:W.codeIn K dT "_law_hard" = true) (cB:W.keepIn K (.ref bf)=true)
   (fb:W.nsIn K mainGlobals "_law_case" = some (some (.ref bg)))
   (kf:K.lookup bg=some ⟨hI,hN,.func (W.fnOf "_law_case" "_law_case" (zc0 zt0) (zb2 zt0) (za5 zt0) .none hJ hK hL hO dU hM),hP⟩)
   (kg:W.codeIn K dU "_law_case" = true) (cC:W.keepIn K (.ref bg)=true)
   (fc:W.nsIn K mainGlobals "_law_lets" = some (some (.ref bh)))
   (kh:K.lookup bh=some ⟨hQ,hV,.func (W.fnOf "_law_lets" "_law_lets" (zc0 zt1) (zb2 zt1) (za5 zt1) .none hR hS hT hW dV hU),hX⟩)
   (ki:W.codeIn K dV "_law_lets" = true) (cD:W.keepIn K (.ref bh)=true)
   (bQ:W.nsIn K mainGlobals "_law_is_spots" = some (some (.ref au)))
   (fe:K.lookup au=some ⟨en,es,.func (W.fnOf "_law_is_spots" "_law_is_spots" (zc0 zj5) (zb2 zj5) (za5 zj5) .none eo ep eq et bq er),eu⟩)
   (ff:W.codeIn K bq "_law_is_spots" = true) (aL:W.keepIn K (.ref au)=true)
   (fg:W.nsIn K mainGlobals "_law_same" = some (some (.ref bi)))
   (kj:K.lookup bi=some ⟨hY,h3,.func (W.fnOf "_law_same" "_law_same" (zc0 zt2) (zb2 zt2) (za5 zt2) .none hZ h0 h1 h4 dW h2),h5⟩)
   (kk:W.codeIn K dW "_law_same" = true) (cE:W.keepIn K (.ref bi)=true)
   (bu:W.nsIn K mainGlobals "_law_same_rows" = some (some (.ref an)))
   (eB:K.lookup an=some ⟨dv,dA,.func (W.fnOf "_law_same_rows" "_law_same_rows" (zc0 zi0) (zb2 zi0) (za5 zi0) .none dw dx dy dB a2 dz),dC⟩)
   (eC:W.codeIn K a2 "_law_same_rows" = true) (aD:W.keepIn K (.ref an)=true)
   (fh:W.nsIn K mainGlobals "_law_walk" = some (some (.ref bj)))
   (kl:K.lookup bj=some ⟨h6,ib,.func (W.fnOf "_law_walk" "_law_walk" (zc0 zt3) (zb2 zt3) (za5 zt3) .none h7 h8 h9 ic dX ia),id⟩)
   (km:W.codeIn K dX "_law_walk" = true) (cF:W.keepIn K (.ref bj)=true)
   (fi:W.nsIn K mainGlobals "_law_with" = some (some (.ref bk)))
   (kn:K.lookup bk=some ⟨ie,ik,.func (W.fnOf "_law_with" "_law_with" (zc0 zt4) (zb2 zt4) (za5 zt4) .none ig ih ii il dY ij),im⟩)
   (ko:W.codeIn K dY "_law_with" = true) (cG:W.keepIn K (.ref bk)=true)
   (fj:W.nsIn K mainGlobals "_law_beam" = some (some (.ref bl)))
   (kp:K.lookup bl=some ⟨io,iu,.func (W.fnOf "_law_beam" "_law_beam" (zc0 zt5) (zb2 zt5) (za5 zt5) .none ip iq ir iv dZ it),iw⟩)
   (kq:W.codeIn K dZ "_law_beam" = true) (cH:W.keepIn K (.ref bl)=true)
   (fI:W.nsIn K mainGlobals "_law_way" = some (some (.ref b2)))
   (lv:K.lookup b2=some ⟨jJ,jO,.func (W.fnOf "_law_way" "_law_way" (zc0 zz2) (zb2 zz2) (za5 zz2) .none jK jL jM jP eQ jN),jQ⟩)
   (lw:W.codeIn K eQ "_law_way" = true) (dK:W.keepIn K (.ref b2)=true)
   (fJ:W.nsIn K mainGlobals "_law_low" = some (some (.ref b3)))
   (lx:K.lookup b3=some ⟨jR,jW,.func (W.fnOf "_law_low" "_law_low" (zc0 zz3) (zb2 zz3) (za5 zz3) .none jS jT jU jX eR jV),jY⟩)
   (ly:W.codeIn K eR "_law_low" = true) (dL:W.keepIn K (.ref b3)=true)
   (d6:W.nsIn K mainGlobals "_law_order" = some (some (.ref aT)))
   (iV:K.lookup aT=some ⟨gr,gw,.func (W.fnOf "_law_order" "_law_order" (zc0 zp6) (zb2 zp6) (za5 zp6) .none gs gt gu gx c1 gv),gy⟩)
   (iW:W.codeIn K c1 "_law_order" = true) (bR:W.keepIn K (.ref aT)=true)
   (fk:W.nsIn K mainGlobals "_law_told" = some (some (.ref bm)))
   (kr:K.lookup bm=some ⟨ix,iC,.func (W.fnOf "_law_told" "_law_told" (zc0 zk1) (zb2 zk1) (za5 zk1) .none iy iz iA iD d0 iB),iE⟩)
   (ks:W.codeIn K d0 "_law_told" = true) (cI:W.keepIn K (.ref bm)=true)
   (gD:W.nsIn K mainGlobals "law" = some (some (.ref gz)))
   (l7:K.lookup gz=some ⟨lI,lN,.func (W.fnOf "law" "law" (zc0 zr0) (zb2 zr0) (za5 zr0) .none lJ lK lL lO iF lM),lP⟩)
   (l8:W.codeIn K iF "law" = true) (gE:W.keepIn K (.ref gz)=true)
   (lz:W.plainGet K ad Str.empty=true) (lA:W.hasDictIn K ad=true) (lB:W.plainOver K ad=true) (lC:W.findIn K (.ref ad) "__setattr__" = some (some (.builtin "object.__setattr__"))) (fK:W.makesIn K ad=true) (lD:W.keepIn K (.ref ad)=true)
   (aV:W.findIn K (.ref ad) "notches" = some none)
   (bS:W.findIn K (.ref ad) "room" = some none)
   (bv:W.findIn K (.ref ad) "hefts" = some none)
   (bw:W.findIn K (.ref ad) "limit" = some none)
   (l1:W.plainGet K ab Str.empty=true) (l2:W.hasDictIn K ab=true) (l3:W.plainOver K ab=true) (l4:W.findIn K (.ref ab) "__setattr__" = some (some (.builtin "object.__setattr__"))) (iX:W.makesIn K ab=true) (l5:W.keepIn K (.ref ab)=true)
   (a4:W.findIn K (.ref ab) "reached" = some none)
   (cg:W.findIn K (.ref ab) "many" = some none)
   (c5:W.findIn K (.ref ab) "row" = some none)
   (bx:W.findIn K (.ref ab) "layers" = some none)
   (bT:W.findIn K (.ref ab) "again" = some none)
   (ch:W.findIn K (.ref ab) "shut" = some none)
   (kt:W.plainGet K aa Str.empty=true) (ku:W.hasDictIn K aa=true) (kv:W.plainOver K aa=true) (kw:W.findIn K (.ref aa) "__setattr__" = some (some (.builtin "object.__setattr__"))) (fl:W.makesIn K aa=true) (kx:W.keepIn K (.ref aa)=true)
   (a5:W.findIn K (.ref aa) "limit" = some none)
   (bU:W.findIn K (.ref aa) "row" = some none)
   (bz:W.findIn K (.ref aa) "shut" = some none)
   (lE:W.findIn K (.ref ab) "__class__" = some (some (.builtin "object.__class__")))
   (lF:W.specialIn K (.builtin "object.__class__") "__get__" = some (some (.builtin "getset_descriptor.__get__")))
   (lG:W.takesIn K (.builtin "object.__class__")=some true)
   (lH:W.mroIn K ab (.type "object")=some true)
   (iY:W.findIn K (.ref aa) "__class__" = some (some (.builtin "object.__class__")))
   (iZ:W.specialIn K (.builtin "object.__class__") "__get__" = some (some (.builtin "getset_descriptor.__get__")))
   (i0:W.takesIn K (.builtin "object.__class__")=some true)
   (i1:W.mroIn K aa (.type "object")=some true)
   (fL:W.nsIn K mainGlobals "tuple" = some none)
   (ky:W.nsIn K mainGlobals "len" = some none)
   (fM:W.nsIn K mainGlobals "range" = some none)
   (kz:W.nsIn K mainGlobals "sum" = some none)
   (kA:W.nsIn K mainGlobals "zip" = some none)
   (kB:W.nsIn K mainGlobals "abs" = some none)
   (fm:W.nsIn K mainGlobals "sorted" = some none)
   (kC:W.nsIn K mainGlobals "set" = some none)
   (kD:W.nsIn K mainGlobals "max" = some none)
   (i2:W.nsIn K mainGlobals "dict" = some none)
   (kE:W.nsIn K mainGlobals "min" = some none)
   (bV:W.nsIn K mainGlobals "isinstance" = some none)
   (kF:W.nsIn K mainGlobals "int" = some none)
   (i3:W.nsIn K mainGlobals "bool" = some none)
   (i4:W.nsIn K mainGlobals "list" = some none)
   (a6:W.nsIn K mainGlobals "MOST_NOTCHES" = some (some (.int 4 aw)))
   (ci:W.nsIn K mainGlobals "MOST_ROOM" = some (some (.int 3 aW)))
   (bW:W.nsIn K mainGlobals "MOST_LIMIT" = some (some (.int 400 aH)))
   (a7:W.nsIn K mainGlobals "MOST_WEIGHTS" = some (some (.int 5 ax)))
   (cj:W.nsIn K mainGlobals "MOST_HEFT" = some (some (.int 20 aX)))
   (aM:W.nsIn K mainGlobals "MOST_STANDINGS" = some (some (.int 1000 ao))) :
   ∃fd:FuncData,(∀(s:Shared) (v:Value),BindsTo s fd ⟨[v],[]⟩ [("_law_script",v)])/\∀base:Heap,K.In base->base.Ns mainGlobals mg->FnOk l.prog w K mg base CX0 11 fa fd ["_law_script"] (zZ3 K):=by
 have e:=hfa.symm.trans (W.mg_of X G gD)
 cases e
 have F_Beam_init:=zd0 (st:=zk7) fw fx aY
 have b_Beam_init:=F_Beam_init.binds (ps:=["self","notches","room","hefts","limit"]) fun _ _ _ _ _ _ us hl=>by obtain⟨x0,x1,x2,x3,x4,rfl⟩:=ar5 hl;rfl
 have F_outside:=zd0 (st:=zo7) iG iH bJ
 have b_outside:=F_outside.binds (ps:=["number","low","high"]) fun _ _ _ _ _ _ us hl=>by obtain⟨x0,x1,x2,rfl⟩:=ar3 hl;rfl
 have F_check_bounds:=zd0 (st:=zg5) dD dE ay
 have b_check_bounds:=F_check_bounds.binds (ps:=["notches","room","limit"]) fun _ _ _ _ _ _ us hl=>by obtain⟨x0,x1,x2,rfl⟩:=ar3 hl;rfl
 have F_check_hefts:=zd0 (st:=zh8) ev ew aA
 have b_check_hefts:=F_check_hefts.binds (ps:=["hefts"]) fun _ _ _ _ _ _ us hl=>by obtain⟨x0,rfl⟩:=ar1 hl;rfl
 have F_check_standings:=zd0 (st:=zf1) cc cd ai
 have b_check_standings:=F_check_standings.binds (ps:=["notches","weights"]) fun _ _ _ _ _ _ us hl=>by obtain⟨x0,x1,rfl⟩:=ar2 hl;rfl
 have F_under:=zd0 (st:=zy8) ll lm dF
 have b_under:=F_under.binds (ps:=["beam","limit"]) fun _ _ _ _ _ _ us hl=>by obtain⟨x0,x1,rfl⟩:=ar2 hl;rfl
 have F_as_standing:=zd0 (st:=zh9) ex ey aB
 have b_as_standing:=F_as_standing.binds (ps:=["beam","standing"]) fun _ _ _ _ _ _ us hl=>by obtain⟨x0,x1,rfl⟩:=ar2 hl;rfl
 have F_tilt:=zd0 (st:=zx0) lR lS eS
 have b_tilt:=F_tilt.binds (ps:=["beam","standing"]) fun _ _ _ _ _ _ us hl=>by obtain⟨x0,x1,rfl⟩:=ar2 hl;rfl
 have F_past:=zd0 (st:=zF9) lT lU eT
 have b_past:=F_past.binds (ps:=["beam","tipped"]) fun _ _ _ _ _ _ us hl=>by obtain⟨x0,x1,rfl⟩:=ar2 hl;rfl
 have F_keeps:=zd0 (st:=zy9) ln lo dG
 have b_keeps:=F_keeps.binds (ps:=["beam","standing"]) fun _ _ _ _ _ _ us hl=>by obtain⟨x0,x1,rfl⟩:=ar2 hl;rfl
 have F_in_hand:=zd0 (st:=zo8) iK iL bK
 have b_in_hand:=F_in_hand.binds (ps:=["beam","standing","weight"]) fun _ _ _ _ _ _ us hl=>by obtain⟨x0,x1,x2,rfl⟩:=ar3 hl;rfl
 have F_moves:=zd0 (st:=zq9) lp lq dH
 have b_moves:=F_moves.binds (ps:=["beam","standing"]) fun _ _ _ _ _ _ us hl=>by obtain⟨x0,x1,rfl⟩:=ar2 hl;rfl
 have F_turned:=zd0 (st:=zs0) jZ j0 cs
 have b_turned:=F_turned.binds (ps:=["move"]) fun _ _ _ _ _ _ us hl=>by obtain⟨x0,rfl⟩:=ar1 hl;rfl
 have F_behind:=zd0 (st:=zs3) j1 j2 ct
 have b_behind:=F_behind.binds (ps:=["places","move"]) fun _ _ _ _ _ _ us hl=>by obtain⟨x0,x1,rfl⟩:=ar2 hl;rfl
 have F_full:=zd0 (st:=zG0) lV lW eW
 have b_full:=F_full.binds (ps:=["beam","places","place"]) fun _ _ _ _ _ _ us hl=>by obtain⟨x0,x1,x2,rfl⟩:=ar3 hl;rfl
 have F_puts:=zd0 (st:=zx1) lX lY eX
 have b_puts:=F_puts.binds (ps:=["beam","places","weight"]) fun _ _ _ _ _ _ us hl=>by obtain⟨x0,x1,x2,rfl⟩:=ar3 hl;rfl
 have F_Way_init:=zd0 (st:=zm5) gB gC bn
 have b_Way_init:=F_Way_init.binds (ps:=["self","reached","many","row","layers","again","shut"]) fun _ _ _ _ _ _ us hl=>by obtain⟨x0,x1,x2,x3,x4,x5,x6,rfl⟩:=ar7 hl;rfl
 have F_fewest:=zd0 (st:=zs4) j3 j4 cu
 have b_fewest:=F_fewest.binds (ps:=["beam","start","goal"]) fun _ _ _ _ _ _ us hl=>by obtain⟨x0,x1,x2,rfl⟩:=ar3 hl;rfl
 have F_search:=zd0 (st:=zs5) j5 j6 cv
 have b_search:=F_search.binds (ps:=["beam","start","goal"]) fun _ _ _ _ _ _ us hl=>by obtain⟨x0,x1,x2,rfl⟩:=ar3 hl;rfl
 have F_next_layer:=zd0 (st:=zj3) e0 e1 aI
 have b_next_layer:=F_next_layer.binds (ps:=["beam","layer","led"]) fun _ _ _ _ _ _ us hl=>by obtain⟨x0,x1,x2,rfl⟩:=ar3 hl;rfl
 have F_row_to:=zd0 (st:=zs6) j7 j8 cw
 have b_row_to:=F_row_to.binds (ps:=["goal","led"]) fun _ _ _ _ _ _ us hl=>by obtain⟨x0,x1,rfl⟩:=ar2 hl;rfl
 have F_moved_again:=zd0 (st:=ze0) ez eA aC
 have b_moved_again:=F_moved_again.binds (ps:=["row"]) fun _ _ _ _ _ _ us hl=>by obtain⟨x0,rfl⟩:=ar1 hl;rfl
 have F_Least_init:=zd0 (st:=zj4) e4 e5 aJ
 have b_Least_init:=F_Least_init.binds (ps:=["self","limit","row","shut"]) fun _ _ _ _ _ _ us hl=>by obtain⟨x0,x1,x2,x3,rfl⟩:=ar4 hl;rfl
 have F_least:=zd0 (st:=zz0) lr ls dI
 have b_least:=F_least.binds (ps:=["beam","start","goal"]) fun _ _ _ _ _ _ us hl=>by obtain⟨x0,x1,x2,rfl⟩:=ar3 hl;rfl
 have F_limit_to_leave:=zd0 (st:=zd9) cx cy ap
 have b_limit_to_leave:=F_limit_to_leave.binds (ps:=["beam","shut"]) fun _ _ _ _ _ _ us hl=>by obtain⟨x0,x1,rfl⟩:=ar2 hl;rfl
 have F_limit_to_move:=zd0 (st:=zf9) c3 c4 av
 have b_limit_to_move:=F_limit_to_move.binds (ps:=["beam","standing","move"]) fun _ _ _ _ _ _ us hl=>by obtain⟨x0,x1,x2,rfl⟩:=ar3 hl;rfl
 have F_w_at:=zd0 (st:=zG1) lZ l0 e6
 have b_w_at:=F_w_at.binds (ps:=["_law_script","_law_k"]) fun _ _ _ _ _ _ us hl=>by obtain⟨x0,x1,rfl⟩:=ar2 hl;rfl
 have F_w_whole:=zd0 (st:=zo9) iP iQ bN
 have b_w_whole:=F_w_whole.binds (ps:=["_law_found"]) fun _ _ _ _ _ _ us hl=>by obtain⟨x0,rfl⟩:=ar1 hl;rfl
 have F_w_figs:=zd0 (st:=zs7) j9 ka cz
 have b_w_figs:=F_w_figs.binds (ps:=["_law_cell","_law_count","_law_base","_law_mix"]) fun _ _ _ _ _ _ us hl=>by obtain⟨x0,x1,x2,x3,rfl⟩:=ar4 hl;rfl
 have F_w_shape:=zd0 (st:=zk8) iR iS bO
 have b_w_shape:=F_w_shape.binds (ps:=["_law_script"]) fun _ _ _ _ _ _ us hl=>by obtain⟨x0,rfl⟩:=ar1 hl;rfl
 have F_w_put:=zd0 (st:=zz1) lt lu dJ
 have b_w_put:=F_w_put.binds (ps:=["_law_script","_law_k","_law_more","_law_shape_here"]) fun _ _ _ _ _ _ us hl=>by obtain⟨x0,x1,x2,x3,rfl⟩:=ar4 hl;rfl
 have F_w_tilt:=zd0 (st:=zs8) kb kc cA
 have b_w_tilt:=F_w_tilt.binds (ps:=["_law_hefts","_law_spots"]) fun _ _ _ _ _ _ us hl=>by obtain⟨x0,x1,rfl⟩:=ar2 hl;rfl
 have F_w_limit:=zd0 (st:=zp0) iT iU bP
 have b_w_limit:=F_w_limit.binds (ps:=["_law_script","_law_low_here"]) fun _ _ _ _ _ _ us hl=>by obtain⟨x0,x1,rfl⟩:=ar2 hl;rfl
 have F_w_hard:=zd0 (st:=zs9) kd ke cB
 have b_w_hard:=F_w_hard.binds (ps:=["_law_cell"]) fun _ _ _ _ _ _ us hl=>by obtain⟨x0,rfl⟩:=ar1 hl;rfl
 have F_w_case:=zd0 (st:=zt0) kf kg cC
 have b_w_case:=F_w_case.binds (ps:=["_law_script"]) fun _ _ _ _ _ _ us hl=>by obtain⟨x0,rfl⟩:=ar1 hl;rfl
 have F_w_lets:=zd0 (st:=zt1) kh ki cD
 have b_w_lets:=F_w_lets.binds (ps:=["_law_scale","_law_spots","_law_move"]) fun _ _ _ _ _ _ us hl=>by obtain⟨x0,x1,x2,rfl⟩:=ar3 hl;rfl
 have F_w_is_spots:=zd0 (st:=zj5) fe ff aL
 have b_w_is_spots:=F_w_is_spots.binds (ps:=["_law_found","_law_count"]) fun _ _ _ _ _ _ us hl=>by obtain⟨x0,x1,rfl⟩:=ar2 hl;rfl
 have F_w_same:=zd0 (st:=zt2) kj kk cE
 have b_w_same:=F_w_same.binds (ps:=["_law_found","_law_due"]) fun _ _ _ _ _ _ us hl=>by obtain⟨x0,x1,rfl⟩:=ar2 hl;rfl
 have F_w_same_rows:=zd0 (st:=zi0) eB eC aD
 have b_w_same_rows:=F_w_same_rows.binds (ps:=["_law_found","_law_due"]) fun _ _ _ _ _ _ us hl=>by obtain⟨x0,x1,rfl⟩:=ar2 hl;rfl
 have F_w_walk:=zd0 (st:=zt3) kl km cF
 have b_w_walk:=F_w_walk.binds (ps:=["_law_scale","_law_spots","_law_row"]) fun _ _ _ _ _ _ us hl=>by obtain⟨x0,x1,x2,rfl⟩:=ar3 hl;rfl
 have F_w_with:=zd0 (st:=zt4) kn ko cG
 have b_w_with:=F_w_with.binds (ps:=["_law_scale","_law_limit_here"]) fun _ _ _ _ _ _ us hl=>by obtain⟨x0,x1,rfl⟩:=ar2 hl;rfl
 have F_w_beam:=zd0 (st:=zt5) kp kq cH
 have b_w_beam:=F_w_beam.binds (ps:=["_law_scale"]) fun _ _ _ _ _ _ us hl=>by obtain⟨x0,rfl⟩:=ar1 hl;rfl
 have F_w_way:=zd0 (st:=zz2) lv lw dK
 have b_w_way:=F_w_way.binds (ps:=["_law_scale","_law_first","_law_last","_law_found"]) fun _ _ _ _ _ _ us hl=>by obtain⟨x0,x1,x2,x3,rfl⟩:=ar4 hl;rfl
 have F_w_low:=zd0 (st:=zz3) lx ly dL
 have b_w_low:=F_w_low.binds (ps:=["_law_scale","_law_first","_law_last","_law_found"]) fun _ _ _ _ _ _ us hl=>by obtain⟨x0,x1,x2,x3,rfl⟩:=ar4 hl;rfl
 have F_w_order:=zd0 (st:=zp6) iV iW bR
 have b_w_order:=F_w_order.binds (ps:=["_law_count","_law_cell"]) fun _ _ _ _ _ _ us hl=>by obtain⟨x0,x1,rfl⟩:=ar2 hl;rfl
 have F_w_told:=zd0 (st:=zk1) kr ks cI
 have b_w_told:=F_w_told.binds (ps:=["_law_rows","_law_order_here"]) fun _ _ _ _ _ _ us hl=>by obtain⟨x0,x1,rfl⟩:=ar2 hl;rfl
 have F_law:=zd0 (st:=zr0) l7 l8 gE
 have b_law:=F_law.binds (ps:=["_law_script"]) fun _ _ _ _ _ _ us hl=>by obtain⟨x0,rfl⟩:=ar1 hl;rfl
 have T:Txt K mg { am:=aj,aD:=_,ah:=aN,au:=_,ak:=ah,aA:=_,an:=ak,aG:=_,ae:=ac,al:=_,aX:=bX,bi:=_,aa:=al,ab:=_,aK:=cS,aY:=_,be:=cT,bA:=_,bj:=bY,bD:=_,aE:=aP,aT:=_,aZ:=bZ,bk:=_,a0:=a8,bp:=_,aq:=a9,aB:=_,bB:=cV,bI:=_,bC:=cW,bJ:=_,aJ:=aq,a1:=_,aL:=ba,a2:=_,a3:=bb,bq:=_,aw:=ar,aM:=_,a4:=bc,br:=_,ao:=am,aH:=_,ax:=ag,aN:=_,bl:=b0,bE:=_,af:=ae,ar:=_,ag:=af,ay:=_,aF:=cX,aO:=_,ai:=aQ,av:=_,aP:=bd,a5:=_,aU:=aR,bf:=_,bm:=b1,bF:=_,aQ:=be,a6:=_,aV:=aS,bg:=_,a7:=bf,bs:=_,a8:=bg,bt:=_,a9:=bh,bu:=_,az:=au,aR:=_,ba:=bi,bv:=_,ap:=an,aI:=_,aC:=bj,aS:=_,bb:=bk,bw:=_,bc:=bl,bx:=_,bn:=b2,bG:=_,bo:=b3,bH:=_,aW:=aT,bh:=_,bd:=bm,bz:=_,bK:=fa,bM:=_,aj:=ad,ad:=ab,ac:=aa,bN:=aw,bQ:=aW,bP:=aH,bO:=ax,bR:=aX,bL:=ao }:={ cu:=F_Beam_init,bb:=b_Beam_init,dQ:=aY,cy:=F_outside,au:=b_outside,av:=W.mg_of X G d1,aw:=bJ,bG:=F_check_bounds,bH:=b_check_bounds,bI:=W.mg_of X G a3,bJ:=ay,b6:=F_check_hefts,b7:=b_check_hefts,b8:=W.mg_of X G br,b9:=aA,bo:=F_check_standings,bp:=b_check_standings,bq:=W.mg_of X G aF,br:=ai,ds:=F_under,bc:=b_under,bd:=W.mg_of X G fD,be:=dF,ca:=F_as_standing,aj:=b_as_standing,ak:=W.mg_of X G bs,al:=aB,dz:=F_tilt,aX:=b_tilt,aY:=W.mg_of X G iI,aZ:=eS,dA:=F_past,bi:=b_past,bj:=W.mg_of X G iJ,bk:=eT,dt:=F_keeps,bK:=b_keeps,bL:=W.mg_of X G fE,bM:=dG,cz:=F_in_hand,bl:=b_in_hand,bm:=W.mg_of X G d2,bn:=bK,du:=F_moves,bN:=b_moves,bO:=W.mg_of X G fF,bP:=dH,cN:=F_turned,cO:=b_turned,cP:=W.mg_of X G eU,cQ:=cs,cR:=F_behind,aM:=b_behind,aN:=W.mg_of X G eV,aO:=ct,dB:=F_full,dC:=b_full,dD:=W.mg_of X G iM,dE:=eW,dF:=F_puts,dG:=b_puts,dH:=W.mg_of X G iN,dI:=eX,cx:=F_Way_init,bf:=b_Way_init,dR:=bn,cS:=F_fewest,aP:=b_fewest,aQ:=W.mg_of X G eY,aR:=cu,cT:=F_search,cU:=b_search,cV:=W.mg_of X G eZ,cW:=cv,cg:=F_next_layer,ch:=b_next_layer,ci:=W.mg_of X G bL,cj:=aI,cX:=F_row_to,cY:=b_row_to,cZ:=W.mg_of X G e2,c0:=cw,cb:=F_moved_again,cc:=b_moved_again,cd:=W.mg_of X G bt,ce:=aC,ck:=F_Least_init,cl:=b_Least_init,dS:=aJ,dv:=F_least,bQ:=b_least,bR:=W.mg_of X G fG,bS:=dI,bs:=F_limit_to_leave,bt:=b_limit_to_leave,bu:=W.mg_of X G aK,bv:=ap,bB:=F_limit_to_move,bC:=b_limit_to_move,bD:=W.mg_of X G aU,bE:=av,dJ:=F_w_at,ax:=b_w_at,ay:=W.mg_of X G iO,az:=e6,cA:=F_w_whole,aI:=b_w_whole,aJ:=W.mg_of X G d3,aK:=bN,c1:=F_w_figs,bw:=b_w_figs,bx:=W.mg_of X G e7,bz:=cz,cB:=F_w_shape,cC:=b_w_shape,cD:=W.mg_of X G d4,cE:=bO,dw:=F_w_put,bT:=b_w_put,bU:=W.mg_of X G fH,bV:=dJ,c2:=F_w_tilt,a0:=b_w_tilt,a1:=W.mg_of X G e8,a2:=cA,cF:=F_w_limit,cG:=b_w_limit,cH:=W.mg_of X G d5,cI:=bP,c3:=F_w_hard,c4:=b_w_hard,c5:=W.mg_of X G e9,c6:=cB,c7:=F_w_case,c8:=b_w_case,c9:=W.mg_of X G fb,da:=cC,db:=F_w_lets,dc:=b_w_lets,dd:=W.mg_of X G fc,de:=cD,cm:=F_w_is_spots,cn:=b_w_is_spots,co:=W.mg_of X G bQ,cp:=aL,df:=F_w_same,dg:=b_w_same,dh:=W.mg_of X G fg,di:=cE,cf:=F_w_same_rows,aD:=b_w_same_rows,aE:=W.mg_of X G bu,aF:=aD,dj:=F_w_walk,a3:=b_w_walk,a4:=W.mg_of X G fh,a5:=cF,dk:=F_w_with,dl:=b_w_with,dm:=W.mg_of X G fi,dn:=cG,dp:=F_w_beam,aS:=b_w_beam,aT:=W.mg_of X G fj,aU:=cH,dx:=F_w_way,bW:=b_w_way,bX:=W.mg_of X G fI,bY:=dK,dy:=F_w_low,bZ:=b_w_low,b0:=W.mg_of X G fJ,b1:=dL,cJ:=F_w_order,cK:=b_w_order,cL:=W.mg_of X G d6,cM:=bR,dq:=F_w_told,a6:=b_w_told,a7:=W.mg_of X G fk,a8:=cI,dL:=F_law,dT:=b_law,dU:=W.mg_of X G gD,dV:=gE,ab:=⟨lz,lA,lB,lC⟩,cq:=W.mg_of X G lQ,b2:=⟨fK,cf,fv,lD⟩,ae:=aV,ar:=bS,ag:=bv,aG:=bw,aa:=⟨l1,l2,l3,l4⟩,bF:=W.mg_of X G l6,cr:=⟨iX,c2,gA,l5⟩,ac:=a4,ap:=cg,an:=c5,am:=bx,cs:=bT,aC:=ch,ah:=⟨kt,ku,kv,kw⟩,b3:=W.mg_of X G lk,dr:=⟨fl,bM,e3,kx⟩,ai:=a5,a9:=bU,aH:=bz,aB:=⟨lE,lF,lG,lH⟩,aV:=⟨iY,iZ,i0,i1⟩,aq:=W.mg_none_of X G fL,ad:=W.mg_none_of X G ky,ao:=W.mg_none_of X G fM,dM:=W.mg_none_of X G kz,dN:=W.mg_none_of X G kA,aA:=W.mg_none_of X G kB,aW:=W.mg_none_of X G fm,dO:=W.mg_none_of X G kC,bg:=W.mg_none_of X G kD,dK:=W.mg_none_of X G i2,bh:=W.mg_none_of X G kE,af:=W.mg_none_of X G bV,dP:=W.mg_none_of X G kF,ct:=W.mg_none_of X G i3,aL:=W.mg_none_of X G i4,b4:=W.mg_of X G a6,cv:=W.mg_of X G ci,ba:=W.mg_of X G bW,b5:=W.mg_of X G a7,cw:=W.mg_of X G cj,bA:=W.mg_of X G aM }
 exact⟨_,fun s v=>.of_eq rfl,fun base _ _=>ok_law T⟩
theorem walk {l:W.OpenLaw}{q:Program}{loose:List Str}{XP:(Str->Option Value)->Heap->Prop}{YP:World->Heap->Prop}{d:DefRec}{K:Params->W.Frag}(hn:l.most=some 63)(hdf:d.params.defaults=[])
   (hY:∀(w:World) (h:Heap),YP w h->(K w.params).In h)
   (F:∀(w:World) (mg:Str->Option Value) (fa:Addr) (h:Heap),(K w.params).In h->h.Ns mainGlobals mg->mg d.name=some (.ref fa) →
     ∃fd:FuncData,(∀(s:Shared) (u:Value),BindsTo s fd ⟨[u],[]⟩ [("_law_script",u)])/\∀base:Heap,(K w.params).In base->base.Ns mainGlobals mg->FnOk l.prog w (K w.params) mg base CX0 11 fa fd ["_law_script"] (zZ3 (K w.params))) :
   W.WalkO q loose XP YP l.row.toRowW d [] (fun f vs=>PySem.call f vs) :=
 L2.walk_of (n:=63) (k:=11) (x:="_law_script") (CX:=fun _=>CX0) (sp:=fun w=>zZ3 (K w.params)) hn (by decide) hdf ⟨rfl,by decide,by decide⟩ hY F (fun _ _ a ns hl _ hS=>⟨a,ns,rfl,hS,hl,fun _=>rfl⟩) fun _ _ _ _ _ z=>z
theorem walkZ {l:W.OpenLaw}{q:Program}{loose:List Str}{XP:(Str->Option Value)->Heap->Prop}{d:DefRec}{K:Params->W.Frag}(hn:l.most=some 63)(hdf:d.params.defaults=[])
 (F:∀(w:World) (mg:Str->Option Value) (fa:Addr) (h:Heap),(K w.params).In h->h.Ns mainGlobals mg->mg d.name=some (.ref fa) →
   ∃fd:FuncData,(∀(s:Shared) (u:Value),BindsTo s fd ⟨[u],[]⟩ [("_law_script",u)])/\∀base:Heap,(K w.params).In base->base.Ns mainGlobals mg->FnOk l.prog w (K w.params) mg base CX0 11 fa fd ["_law_script"] (zZ3 (K w.params))) :
 W.WalkO q loose XP (fun w h=>(K w.params).In h) l.row.toRowW d [] (fun f vs=>PySem.call f vs):=walk hn hdf (fun _ _ Y=>Y) F
end Bt
open PySem PySem.W PyProof.Rows
set_option maxRecDepth 100000 in
set_option maxHeartbeats 0 in
theorem PySem.Challenge.cw_beamtender_k43_whole_renumbered_holds : PySem.Challenge.rw_beamtender_k43_whole_renumbered.Holds := by
  w_on; o_law; z_head; (case hw => w_witness2)
  k_fill
  intro w0 s0 s1 mg0 mb0 G0 y0 fa0 o0 pm0 cd0 doc0 dV0 kV0 ho0 hd0 hcd0 hD0 hmg0 hg0 args0 vals0 as0 L0 hpre0 hlay0 hrd0 hwl0 hlo0
  z_open y0 L0 KX0 ZH0 ZN0 ZT0
  clear ZH0 ZN0 ZT0
  refine Bt.walkZ (l := PySem.Challenge.rw_beamtender_k43_whole_renumbered) rfl rfl ?F w0 s0 s1 mg0 mb0 G0 KX0 fa0 o0 pm0 cd0 doc0 dV0 kV0 ho0 hd0 hcd0 hD0 hmg0 hg0 args0 vals0 as0 hpre0 hlay0 hrd0 hwl0 hlo0
  case F =>
    clear y0 L0 KX0 G0 ho0 hd0 hcd0 hD0 hmg0 hg0 hpre0 hlay0 hrd0 hwl0 hlo0
    intro w mg fa h KX G hmg
    refine' Bt.all_mk KX G hmg ?aa ?ab ?ac ?ad ?ae ?af ?ag ?ah ?ai ?aj ?ak ?al ?am ?an ?ao ?ap ?aq ?ar ?au ?av ?aw ?ax ?ay ?az ?aA ?aB ?aC ?aD ?aE ?aF ?aG ?aH ?aI ?aJ ?aK ?aL ?aM ?aN ?aO ?aP ?aQ ?aR ?aS ?aT ?aU ?aV ?aW ?aX ?aY ?aZ ?a0 ?a1 ?a2 ?a3 ?a4 ?a5 ?a6 ?a7 ?a8 ?a9 ?ba ?bb ?bc ?bd ?be ?bf ?bg ?bh ?bi ?bj ?bk ?bl ?bm ?bn ?bo ?bp ?bq ?br ?bs ?bt ?bu ?bv ?bw ?bx ?bz ?bA ?bB ?bC ?bD ?bE ?bF ?bG ?bH ?bI ?bJ ?bK ?bL ?bM ?bN ?bO ?bP ?bQ ?bR ?bS ?bT ?bU ?bV ?bW ?bX ?bY ?bZ ?b0 ?b1 ?b2 ?b3 ?b4 ?b5 ?b6 ?b7 ?b8 ?b9 ?ca ?cb ?cc ?cd ?ce ?cf ?cg ?ch ?ci ?cj ?ck ?cl ?cm ?cn ?co ?cp ?cq ?cr ?cs ?ct ?cu ?cv ?cw ?cx ?cy ?cz ?cA ?cB ?cC ?cD ?cE ?cF ?cG ?cH ?cI ?cJ ?cK ?cL ?cM ?cN ?cO ?cP ?cQ ?cR ?cS ?cT ?cU ?cV ?cW ?cX ?cY ?cZ ?c0 ?c1 ?c2 ?c3 ?c4 ?c5 ?c6 ?c7 ?c8 ?c9 ?da ?db ?dc ?dd ?de ?df ?dg ?dh ?di ?dj ?dk ?dl ?dm ?dn ?dp ?dq ?dr ?ds ?dt ?du ?dv ?dw ?dx ?dy ?dz ?dA ?dB ?dC ?dD ?dE ?dF ?dG ?dH ?dI ?dJ ?dK ?dL ?dM ?dN ?dO ?dP ?dQ ?dR ?dS ?dT ?dU ?dV ?dW ?dX ?dY ?dZ ?d0 ?d1 ?d2 ?d3 ?d4 ?d5 ?d6 ?d7 ?d8 ?d9 ?ea ?eb ?ec ?ed ?ee ?ef ?eg ?eh ?ei ?ej
    (case aa|ab|ac|ad|ae|af|ag|ah|ai|aj|ak|al|am|an|ao|ap|aq|ar|au|av|aw|ax|ay|az|aA|aB|aC|aD|aE|aF|aG|aH|aI|aJ|aK|aL|aM|aN|aO|aP|aQ|aR|aS|aT|aU|aV|aW|aX|aY|aZ|a0|a1|a2|a3|a4|a5|a6|a7|a8|a9|ba|bb|bc|bd|be|bf|bg|bh|bi|bj|bk|bl|bm|bn|bo|bp|bq|br|bs|bt|bu|bv|bw|bx|bz|bA|bB|bC|bD|bE|bF|bG|bH|bI|bJ|bK|bL|bM|bN|bO|bP|bQ|bR|bS|bT|bU|bV|bW|bX|bY|bZ|b0|b1|b2|b3|b4|b5|b6|b7|b8|b9|ca|cb|cc|cd|ce|cf|cg|ch|ci|cj|ck|cl|cm|cn|co|cp|cq|cr|cs|ct|cu|cv|cw|cx|cy|cz|cA|cB|cC|cD|cE|cF|cG|cH|cI|cJ|cK|cL|cM|cN|cO|cP|cQ|cR|cS|cT|cU|cV|cW|cX|cY|cZ|c0|c1|c2|c3|c4|c5|c6|c7|c8|c9|da|db|dc|dd|de|df|dg|dh|di|dj|dk|dl|dm|dn|dp|dq|dr|ds|dt|du|dv|dw|dx|dy|dz|dA|dB|dC|dD|dE|dF|dG|dH|dI|dJ|dK|dL|dM|dN|dO|dP|dQ|dR|dS|dT|dU|dV|dW|dX|dY|dZ|d0|d1|d2|d3|d4|d5|d6|d7|d8|d9|ea|eb|ec|ed|ee|ef|eg|eh|ei|ej=>k_is)
