import PyProof.Rows.All
import Wide.All
import OpenK.AllK
import Wide.FinOn
import Lean
import PyProof.EqAt
import PyProof.EqKinds
import PyProof.TupleCall
import PySem.Challenge.RW_curveseat_k82_rows_answered
set_option compiler.extract_closed false
set_option genSizeOfSpec false
namespace PySem.W.Fast
def tw15459999541951112369:=()
def tw7666253776775433650:=()
def tw3064193002956871579:=()
def tw13142136341556958820:=()
def tw2165819293632727570:=()
def tw962558688525839116:=()
def tw12109846481167808144:=()
def tw12665458362740114512:=()
def tw2401665488728952885:=()
def tw7293218364360784653:=()
def tw580048653017721461:=()
def tw18061153432697211988:=()
def tw10844264100745758355:=()
def tw6296701191780720042:=()
def tw9750682550894588961:=()
def tw2595136901704644208:=()
def tw9068632220142004237:=()
def tw7112173745652576424:=()
def tw2828585431269281339:=()
def tw17672443971495169011:=()
def tw2446199843457893039:=()
def tw97570846037188166:=()
def tw14282468448278250713:=()
def tw981040758255422675:=()
def tw1701385488245007143:=()
def tw6826746498095962308:=()
def tw9789232565991587228:=()
def tw11342010421109779691:=()
def tw12100007556439842079:=()
def tw3832742643511574290:=()
def tw10514448551287639011:=()
def tw2372516232563740481:=()
def tw13859706365918141256:=()
def tw13078670297135388665:=()
def tw2197828299957753393:=()
def tw16969704345564039304:=()
def tw1748754851390228431:=()
def tw8113331891062703951:=()
def tw18076295708547195754:=()
def tw9606175499109465239:=()
def tw366331451690361998:=()
def tw10097070526359433574:=()
def tw8168279007100999128:=()
def tw2055436783235201784:=()
def tw7992091087421065525:=()
def tw14420565108152672544:=()
def tw120137534253117889:=()
def tw4351760884830257606:=()
def tw2512277081739014238:=()
def tw14833076504490892920:=()
def tw372705577949467794:=()
def tw1089634208069773921:=()
def tw16307694812774260298:=()
def tw11237150374529004461:=()
def tw16718719106658063338:=()
def tw18293877796726216430:=()
def tw17942596276575903404:=()
def tw8898918152862947513:=()
def tw16461625648039248550:=()
def tw16036949379165638026:=()
def tw15984519005532039854:=()
def tw9074952337378788591:=()
def tw15478613370969340508:=()
def tw1740401887132945357:=()
def tw2199412905178529517:=()
def tw10847674280561166296:=()
def tw1346291476111734017:=()
def tw12401595624889231764:=()
def tw14421026591188307309:=()
def tw14617791956703152317:=()
def tw10047800788980375385:=()
def tw18143556430318703612:=()
def tw9313208443289582795:=()
def tw10581267604403680770:=()
def tw3973764940005507577:=()
def tw170251491017075239:=()
def tw11150652306450671395:=()
def tw4956513490923805065:=()
def tw333990172984466584:=()
def tw18071384487298729504:=()
def tw15214198174409905278:=()
def tw3314247053317264699:=()
def tw15906206620822930936:=()
def tw14805307032153112129:=()
def tw14493009885362050570:=()
def tw9714362472030897:=()
def tw15241799487332796131:=()
def tw12371136129837495777:=()
def tw7130915175593620883:=()
def tw4974125836377556537:=()
def tw1187911649390420294:=()
def tw1233188749632113231:=()
def tw8784296543312788018:=()
def tw7588541275564770590:=()
def tw10851515332859517681:=()
def tw7477176916052452505:=()
def tw15238872059292222622:=()
def tw12507972329674006357:=()
def tw12812866402708766386:=()
def tw11751842783178084176:=()
def tw1271421503088332433:=()
def tw11852335610189098836:=()
def tw6152786127214775598:=()
def tw9564716613325892455:=()
def tw9443164190765559442:=()
def tw12874302874668516298:=()
def tw3079008124891911163:=()
def tw5831874760900548513:=()
def tw16369724517501914473:=()
def tw9905649595601307292:=()
def tw16437610163713187072:=()
def tw1772938844624159809:=()
def tw5165844009288568064:=()
def tw4009658625111479079:=()
def tw11364682437984922598:=()
def tw15419020136845420314:=()
def tw3664140324065565695:=()
def tw12818259919301894119:=()
def tw18421635881949575033:=()
def tw7564544927980523204:=()
def tw11261979057251681921:=()
def tw17140571103348944156:=()
def tw7762547968985019612:=()
def tw1540013118605420525:=()
def tw12143910707306979198:=()
def tw389647583879146809:=()
def tw7060652311768910250:=()
def tw9660044657020378024:=()
def tw13780326465285049585:=()
def tw18408609690013746053:=()
def tw1216993504940735136:=()
def tw13818604923001645360:=()
def tw6076604100442469318:=()
def tw4578689679669494814:=()
def tw12068078095655279916:=()
def tw14072870810624792719:=()
def tw1307544517649236653:=()
def tw8082180073376180952:=()
def tw16781657597451507402:=()
def tw14801348024677534380:=()
def tw7378987556493023211:=()
def tw4234808333531907733:=()
def tw12092030939463643703:=()
def tw11868256525469760066:=()
def tw7353031866715975536:=()
def tw16799590033982659744:=()
def tw14724681895851314546:=()
def tw9042772513372197739:=()
def tw17306229243007822734:=()
def tw16634890714048211630:=()
def tw16145104072800542444:=()
def tw13672730643753728169:=()
def tw11093866389113654287:=()
def tw18319175815023979770:=()
def tw13702389117912800083:=()
def tw16224988962004053935:=()
def tw16805975289183331402:=()
def tw14388750321966320756:=()
def tw11983369837766696663:=()
def tw13045303804812601973:=()
def tw2730072353906291176:=()
def tw14957552757839196941:=()
def tw13363481224997400183:=()
def tw13090987628170915532:=()
def tw16747490768754045392:=()
def tw14910780149313064056:=()
def tw365629403579338611:=()
def tw95572204306565601:=()
def tw4522816173415733426:=()
def tw1666679556902451307:=()
def tw16469773384832941556:=()
def tw12607227250138164087:=()
def tw5178512111789623745:=()
def tw16983011464461837671:=()
def tw15158403086938942238:=()
def tw14167058417776253351:=()
def tw2586712174980408459:=()
def tw582618362446524093:=()
def tw5133583030638905497:=()
def tw17159432555244463622:=()
def tw17250714651373087243:=()
def tw1076946980225071251:=()
def tw16698387450391250657:=()
def tw7627941543250629633:=()
def tw8550978916979560658:=()
def tw1192946221631968421:=()
def tw7003445867973374302:=()
def tw16581347508636109685:=()
def tw18105053691666077780:=()
def tw18226427417811874203:=()
def tw17522886773253096614:=()
def tw11779120806630224400:=()
def tw15661089724687817102:=()
def tw13345195406568346208:=()
def tw17699388886554733363:=()
def tw18385213215298084024:=()
def tw13706428779999024845:=()
def tw14753917520251517004:=()
def tw18196018887990321184:=()
def tw15861724738582485581:=()
def tw1620988162688172409:=()
def tw10408940060685388612:=()
def tw10549032260908969022:=()
def tw6678230588932015427:=()
def tw12227550958925363048:=()
def tw10016047190813537263:=()
def tw11379516828804789618:=()
def tw10278211930537500644:=()
def tw11622972726491010256:=()
def tw7552495746430463500:=()
def tw18374591759984712911:=()
def tw6486670416505404582:=()
def tw9108205621574202849:=()
def tw2772090732980931709:=()
def tw3592020752537553122:=()
def tw16056820320595613041:=()
def tw15515948033143384942:=()
def tw12772911655095732349:=()
def tw13814467088097185078:=()
def tw1811098888097083818:=()
def tw258287850494591731:=()
def tw9547341971309296183:=()
def tw6476153527072990976:=()
def tw2611869362727654997:=()
def tw3216324239484387941:=()
def tw2888833562329926887:=()
def tw16646678960635044842:=()
def tw15608607486276140019:=()
def tw4943243604507581561:=()
def tw14430088040792934217:=()
def tw7091741958856001832:=()
def tw2252818471909989666:=()
def tw12702557817115599687:=()
def tw8377035607316753342:=()
def tw15216444562089056340:=()
def tw6801707981123503691:=()
def tw11377404536228635815:=()
def tw3413535675917065481:=()
def tw8029579459780279218:=()
def tw1670818424060235977:=()
def tw2644780895813444972:=()
def tw16448729762544004391:=()
def tw15054692431916818254:=()
def tw4246312744528290381:=()
def tw17765790531198141263:=()
def tw10276468582073716014:=()
def tw9276421780130564366:=()
def tw4588774759668917408:=()
def tw3144421934987846125:=()
def tw3204136953407620268:=()
def tw9261648936678541953:=()
def tw16508868069758685577:=()
def tw14298663547372751475:=()
def tw3860752877520889514:=()
def tw13368307743263618239:=()
def tw4958865110567352428:=()
def tw17212226867452117169:=()
def tw11657591724630571746:=()
def tw5407645601617200665:=()
def tw11001553700069462592:=()
def tw15971181016167941623:=()
def tw14895445295330000865:=()
def tw9700779035832978713:=()
def tw1912829305223355231:=()
def tw3158207737666613825:=()
def tw17756597300941349540:=()
def tw3325334372134383419:=()
def tw4015035716111146667:=()
def tw7179224416934820646:=()
def tw6109945495831742970:=()
def tw6839504604506100846:=()
def tw12734407967820786615:=()
def tw14199361362081790695:=()
def tw10384668667194626609:=()
def tw5635792521117248947:=()
def tw1843205527520058522:=()
def tw1397559949288055999:=()
def tw17152690180580219694:=()
def tw6501241430669126558:=()
def tw2678670420748611951:=()
def tw17768876628511054826:=()
def tw12782252635615276621:=()
def tw3263751099904863739:=()
def tw937854416487961857:=()
def tw14477069552254250060:=()
def tw267006007872569261:=()
def tw7184596365544187216:=()
def tw13139631453090804566:=()
def tw1187033297105661393:=()
def tw9507617998182158433:=()
def tw16116915640527910531:=()
def tw317573127263013989:=()
def tw9853221705927213335:=()
def tw18107860583872117837:=()
def tw6819991749207337822:=()
def tw5080615944410116028:=()
def tw13548420054045215075:=()
def tw16032803950187051327:=()
def tw9528827945037062083:=()
def tw17565508183013162979:=()
def tw1139385915668885940:=()
def tw1545582802096692404:=()
def tw3913347505370881297:=()
def tw1607176097599782568:=()
def tw2642494765961881847:=()
def tw12936346536540194081:=()
def tw2209150306729927428:=()
def tw13387854885727506428:=()
def tw8044219072776302579:=()
def tw745924457070224368:=()
def tw1004063739933343330:=()
def tw11846878545671543940:=()
def tw9930277786627216681:=()
def tw7868530840450387886:=()
def tw4774881524738024024:=()
def tw1584820896624699745:=()
def tw2235637557011350492:=()
def tw3937696544352913350:=()
def tw16507204292847841254:=()
def tw8046910096311646053:=()
def tw10858990383136344616:=()
def tw13198675807055767690:=()
def tw13198158076830399586:=()
def tw14907247378833677498:=()
def tw17586002574282205070:=()
def tw7318806361892800065:=()
def tw4897600365243231265:=()
def tw14316161235529185489:=()
def tw11745191987992968581:=()
def tw13614234386733213407:=()
def tw18170276750649900342:=()
def tw8077606329523699452:=()
def tw8351627974109496823:=()
def tw10337402731520964013:=()
def tw14524031900889373522:=()
def tw1192542567494721732:=()
def tw10454209705317671204:=()
def tw13307127114154652342:=()
def tw6480659047598807115:=()
def tw1202718847852180587:=()
def tw11337501427314897520:=()
def tw13448188581724705420:=()
def tw2875985028478379802:=()
def tw12949150019295721573:=()
def tw645510614354777538:=()
def tw96421264558844868:=()
def tw13166403148718675889:=()
def tw11050576205349479127:=()
def tw16473870233533617575:=()
def tw17022546605506292451:=()
def tw6978425996682022183:=()
def tw15058838550514291857:=()
def tw14074471830934200099:=()
def tw12141901401403158613:=()
def tw8960227252004481240:=()
def tw7932501090293021772:=()
def tw11714156960381242135:=()
def tw17879537115947260135:=()
def tw17959503838820564395:=()
def tw15611806250934879002:=()
def tw7363854430287473164:=()
def tw3752080633866904074:=()
def tw15786899232095692334:=()
def tw8071136475525697130:=()
def tw17819000228080150962:=()
def tw2019014117894173420:=()
def tw340356246176368470:=()
def tw7026781313873389495:=()
def tw939985695285672137:=()
def tw2098295172405078329:=()
def tw12859212860772137639:=()
def tw8879912589907317513:=()
def tw1379085409483374145:=()
def tw3520238175604346402:=()
def tw4026812246319505553:=()
def tw7206733268082254902:=()
def tw5876159510524607863:=()
def tw2512559148672137944:=()
def tw5847947119029632702:=()
def tw11437970829072937337:=()
def tw11236358311219613623:=()
def tw17101449246477809468:=()
def tw16668428028533450329:=()
def tw4111352754974094591:=()
def tw3905440491831548048:=()
def tw4559837002807536828:=()
def tw2500541276105634157:=()
def tw11243951283596518302:=()
def tw13949789123905926822:=()
def tw1047161464921872683:=()
def tw9028910396885521513:=()
def tw4380216989765791715:=()
def tw18247047712889141747:=()
def tw14968570535790112629:=()
def tw7643350467479749822:=()
def tw13437520765331568663:=()
def tw5493948308951807977:=()
def tw9920014988752395597:=()
def tw14330643835020508827:=()
def tw10395374684045662483:=()
def tw6434814783639691676:=()
def tw24120745580504581:=()
def tw6703231599120628427:=()
def tw5840105123684120824:=()
def tw5879723351994623944:=()
def tw821838875068739408:=()
def tw15927217310669849286:=()
def tw16513407560280735054:=()
def tw132312023946369498:=()
def tw8810737301426988611:=()
def tw9805759821130691384:=()
def tw4294795405917148940:=()
def tw3856156831723774285:=()
def tw11466867229890755447:=()
def tw15223242735854331230:=()
def tw12732133447103914106:=()
def tw15426374686812687659:=()
def tw14790733298395880771:=()
def tw9796672696798510013:=()
def tw11355075949086435880:=()
def tw11164572861118197138:=()
def tw1619364940263727432:=()
def tw12313240154344821118:=()
def tw17279946125675722012:=()
def tw6795827934304140712:=()
def tw272414407718897747:=()
def tw8522911836460537921:=()
def tw5125902329600813007:=()
def tw10279853205273502924:=()
def tw14143297859550852761:=()
def tw6658056638868060823:=()
def tw16378877237507860884:=()
def tw15181114245914725214:=()
def tw7670503328336913240:=()
def tw3799360441605527404:=()
def tw1523992902475003206:=()
def tw10700964905809910098:=()
def tw9424949636836385747:=()
def tw14302426909589535042:=()
def tw2922135571185126343:=()
def tw1505799551857144533:=()
def tw10220525544098816314:=()
def tw10370810761488217159:=()
def tw8969305769929263996:=()
def tw14440457228326410814:=()
def tw9715683876368936954:=()
def tw5269157927828368363:=()
def tw17316438363188904608:=()
def tw16276460340522316463:=()
def tw917238404159160941:=()
def tw17324484252147749204:=()
def tw1855064328809336148:=()
def tw8866080311738850038:=()
def tw6658997654635417615:=()
def tw14166359898798298914:=()
def tw6500458096220878194:=()
def tw6814035425785265378:=()
def tw11040475512637201946:=()
def tw7820106058900936240:=()
def tw9628156189103085589:=()
def tw123252447063739892:=()
def tw11384399960839148905:=()
def tw4185292886951901653:=()
def tw7594530266199554015:=()
def tw7911242462171602343:=()
def tw3126656141973698738:=()
def tw15131910147779579116:=()
def tw12014905042615377351:=()
def tw7671156900531632688:=()
def tw723585037853555267:=()
def tw9846954724393677346:=()
def tw13214793481703176260:=()
def tw16032041348175851401:=()
def tw9944906891487525696:=()
def tw7948341611616440000:=()
def tw7125961242275861838:=()
def tw5633104835938055048:=()
def tw8837352726955021921:=()
def tw12933343187105548209:=()
def tw6703355599123128070:=()
def tw15868162799876405908:=()
def tw15595329034860267844:=()
def tw13928815369927131642:=()
def tw12590188269334665086:=()
def tw3100116705997579468:=()
def tw7214954984201353345:=()
def tw5443527535709880651:=()
def tw2891646476441944070:=()
def tw6319302734721901286:=()
def tw363858592387605640:=()
def tw16912533795940224609:=()
def tw1918159993926046603:=()
def tw14651721151055038810:=()
def tw18037374899272194191:=()
def tw3429817316532027904:=()
def tw13401472436377257902:=()
def tw5642000341445860429:=()
def tw8438195342225247443:=()
def tw15636578878853366329:=()
def tw14473211858467934769:=()
def tw11498973353784414794:=()
def tw12385298341892883887:=()
def tw1086349124452407340:=()
def tw8149208729520114148:=()
def tw8030270533405716318:=()
def tw12480579585030148731:=()
def tw3373588494152176629:=()
def tw9234685670112933303:=()
def tw17813818960517545874:=()
def tw18399809104934917678:=()
def tw1481689027518235227:=()
def tw10267934130912434303:=()
def tw12003343989536561346:=()
def tw4155339814422901494:=()
def tw12554842729265250534:=()
def tw8115146464899600842:=()
def tw6337080490633152495:=()
def tw3728465604126413238:=()
def tw6241712652902430436:=()
def tw13222773375705210178:=()
def tw13903470039269198963:=()
def tw17264933459387042188:=()
def tw10304861242043295218:=()
def tw10659322124561709424:=()
def tw3103634768227436004:=()
def tw15073793739098221644:=()
def tw5896898893013447698:=()
def tw17862591656216272903:=()
def tw2352347185708408701:=()
def tw6218321659538894532:=()
def tw13308024751022956737:=()
def tw3220530331377714172:=()
def tw6676574835985664114:=()
def tw2423666753985652453:=()
def tw14806190727053298716:=()
def tw6304323498158830412:=()
def tw17173125672246528311:=()
def tw16993320342971191610:=()
def tw5196046629836670177:=()
def tw17094118961176399596:=()
def tw11589772226658516798:=()
def tw6511857247275716340:=()
def tw5398001924936108485:=()
def tw5319865405037278380:=()
def tw7882571899570293392:=()
def tw14599653974639694870:=()
def tw10516252586153852562:=()
def tw10965996779182102468:=()
def tw11574309551526052036:=()
def tw1175350035138013936:=()
def tw9913828625323033187:=()
def tw1724060235790768161:=()
def tw5593453782800423674:=()
def tw11746956354810936607:=()
def tw13240468154198919999:=()
def tw320572328483368748:=()
def tw2449974907105912648:=()
def tw17236301101485976707:=()
def tw18014869804901614612:=()
def tw12020353986487549014:=()
def tw2253788114108940190:=()
def tw17818194342445672663:=()
def tw3796871875780065912:=()
def tw17716900039274834684:=()
def tw16746244529710754298:=()
def tw1500298729137862689:=()
def tw7623122013779115656:=()
def tw13800529389162618539:=()
def tw262281692240113857:=()
def tw14139676661036398107:=()
def tw15802211198025856330:=()
def tw5151546529558931705:=()
def tw12206618856542964190:=()
def tw14162246421751708851:=()
def tw11817475662956488852:=()
def tw12087809514317960707:=()
def tw2720456635321247415:=()
def tw10417364843514681369:=()
def tw5617995014272594291:=()
def tw280082568366894777:=()
def tw3137347045975110312:=()
def tw2259396768125309752:=()
def tw15043754845464883989:=()
def tw1105734635470919236:=()
def tw11134151892724712813:=()
def tw18006534930022886576:=()
def tw9970736179821579367:=()
def tw4326416898503113170:=()
def tw13574703246211975658:=()
def tw14262653312651016472:=()
def tw13559375696279271233:=()
def tw4943624160252128758:=()
def tw7233186432071303517:=()
def tw13259902993251929493:=()
def tw14737460311538721288:=()
def tw14235462234962020230:=()
def tw11260040182678512183:=()
def tw11743232349859745121:=()
def tw5019791453918923181:=()
def tw4451646446723643036:=()
def tw3036206538785027325:=()
def tw5355822735237576765:=()
def tw2165427046657641791:=()
def tw10854355354327969894:=()
def tw6927928390475277170:=()
def tw14943559226728228492:=()
def tw7426779611419659082:=()
def tw8664015577616920263:=()
def tw8330683269938441344:=()
def tw17563897300793036393:=()
def tw16565658239420374652:=()
def tw3597698214158622219:=()
def tw298196834947034605:=()
def tw16008819588229656377:=()
def tw5938356688883107787:=()
def tw11480765070077123607:=()
def tw2876119661508079377:=()
def tw16733324396403997661:=()
def tw6501793129490287485:=()
def tw16801954765476590260:=()
def tw438269555141164403:=()
def tw17712115701571842464:=()
def tw11376074636424972021:=()
def tw7766296894371063188:=()
def tw14133926522883972428:=()
def tw5854233028082716645:=()
def tw14000955482559518939:=()
def tw14661930078616245174:=()
def tw14100419263761528781:=()
def tw16364046999656807170:=()
def tw5774360924740999603:=()
def tw9028028707285055231:=()
def tw10791921362825213650:=()
def tw3151836274723982165:=()
def tw9884767146109902331:=()
def tw11384864817768066251:=()
def tw4941547788567587118:=()
def tw9408972503291585648:=()
def tw828215436906949473:=()
def tw969573476373087880:=()
def tw1994371606826405874:=()
def tw2992370260669344907:=()
def tw4770353877650002124:=()
def tw16001227437851992653:=()
def tw4155031546626114665:=()
def tw2540687117147513246:=()
def tw14950789087441866567:=()
def tw17544996334459727867:=()
def tw7057305661907801184:=()
def tw8743771361468159448:=()
def tw18162723256775326978:=()
def tw12969855329532343182:=()
def tw11480763924806694908:=()
def tw13857851954716519585:=()
def tw11710344018352000596:=()
def tw1902073479606318173:=()
def tw16187735149076787035:=()
def tw1537069241792894881:=()
def tw18118228700892131048:=()
def tw13071125879692793956:=()
def tw6901405696209909285:=()
def tw15958716142951166885:=()
def tw2112029229534775625:=()
def tw7079088173277573033:=()
def tw10316007810473130026:=()
def tw13088985915923397550:=()
def tw14417329436479298232:=()
def tw18409732391304292763:=()
def tw12630062826685504208:=()
def tw16668885764681230466:=()
def tw5526047579603917330:=()
def tw6297084803296411212:=()
def tw5496137370698637381:=()
def tw1287669941819321750:=()
def tw12606746211475660415:=()
def tw9752272241628949389:=()
def tw4757383691073227407:=()
def tw15965359321085307784:=()
def tw1508273482482555976:=()
def tw17815733258356814847:=()
def tw11982378672315914841:=()
def tw16286244142211522007:=()
def tw14178013935485074783:=()
def tw15958409038403167275:=()
def tw8310222320536907157:=()
def tw663654296060529174:=()
def tw9184150067709781921:=()
def tw18204180708616866365:=()
def tw10250755924934837518:=()
def tw5391031062125839660:=()
def tw1489212306062861916:=()
def tw11930294046861750024:=()
def tw7633098152542276755:=()
def tw4555555413766001988:=()
def tw4508774735610447569:=()
def tw3347759717915215588:=()
def tw14572978365769512679:=()
def tw1900091956776757254:=()
def tw3132280227633751539:=()
def tw13826222323325201535:=()
def tw10704104766925890046:=()
def tw202105041486777106:=()
def tw4084020376158554448:=()
def tw6238813059836169407:=()
def tw9840212822138458537:=()
def tw17664804018522301268:=()
def tw4246261781712365091:=()
def tw2806052483649317352:=()
def tw6459604101962690226:=()
def tw7367778119502916015:=()
def tw3670972764327689167:=()
def tw10997125007986749583:=()
def tw18311508398867906737:=()
def tw10589557588793223054:=()
def tw4852639776007339117:=()
def tw15258535413709081150:=()
def tw8555955569179009728:=()
def tw5071161761448536715:=()
def tw6849060695115569865:=()
def tw7731498322564318133:=()
def tw190999873308285346:=()
def tw11672457085144302239:=()
def tw5869076125656701718:=()
def tw3598321646686574629:=()
def tw14344523647107736107:=()
def tw12346164953334824039:=()
def tw9478739386457540064:=()
def tw9694362172795511750:=()
def tw3603900547500054345:=()
def tw7959862210917358826:=()
def tw16697037862899449546:=()
def tw4028471865815533570:=()
def tw7796811217169807529:=()
def tw14874262951674831871:=()
def tw16370961503594010453:=()
def tw12238466966932648833:=()
def tw4253807544959680042:=()
def tw2916952065257191269:=()
def tw4256040346436575973:=()
def tw73500579372210588:=()
def tw12944178394623586595:=()
def tw2057991941832037960:=()
def tw1801852925333311520:=()
def tw4116259356553729760:=()
def tw5667614584416071868:=()
def tw17415639196230943147:=()
def tw5240977084332044700:=()
def tw5483037510641953111:=()
def tw13984529628019847078:=()
def tw10552697228896680924:=()
def tw2801887253645067015:=()
def tw748266195468023014:=()
def tw13057705471275082291:=()
def tw17272007116300918129:=()
def tw9690550218306867222:=()
def tw12493610742611273648:=()
def tw8219361816384294351:=()
def tw591540618718540409:=()
def tw1801205312971531959:=()
def tw15067121089786023298:=()
def tw5689101420803690345:=()
def tw8887477493347120928:=()
def tw8036409724223825656:=()
def tw2039823320281896837:=()
def tw1642154752135420559:=()
def tw12333502128202095565:=()
def tw11267537544900910787:=()
def tw1553859329949480596:=()
def tw11402816171597108955:=()
def tw17073848150419809714:=()
def tw3882754404749028592:=()
def tw9487171837251185339:=()
def tw15626240373778093564:=()
def tw8542723357461806498:=()
def tw9561064350137881375:=()
def tw12121572021131719793:=()
def tw16218639240112353719:=()
def tw10809273608459607164:=()
def tw250133274070326214:=()
def tw2132266428601290770:=()
def tw12555885013468616709:=()
def tw7610011133211222951:=()
def tw10962887813887726167:=()
def tw168300127694398170:=()
def tw17788731557703788940:=()
def tw7874246132010050040:=()
def tw5904773143146341459:=()
def tw17826411951113093592:=()
def tw16350943164666367381:=()
def tw18249197659781248107:=()
def tw11555914456830123479:=()
def tw15062547439217590232:=()
def tw4694434705293919084:=()
def tw10267073686017606271:=()
def tw4878973396096349333:=()
def tw17047089703744737481:=()
def tw15518998289308922414:=()
def tw12160875088434791690:=()
def tw15046248282087834421:=()
def tw3212711722976697328:=()
def tw5996210215754287376:=()
def tw125916542019793192:=()
def tw1364709780229603583:=()
def tw79348742800242665:=()
def tw4990951851074028049:=()
def tw7322786218376149255:=()
def tw8844799890061134033:=()
def tw4556106943334943683:=()
def tw14968393992038817506:=()
def tw14336012728169825540:=()
def tw4454069304077230732:=()
def tw5524546622297826134:=()
def tw42115337068005414:=()
def tw14776468336853498460:=()
end PySem.W.Fast
set_option Elab.async false
set_option linter.all false
set_option maxRecDepth 100000
namespace L2
open PySem PySem.Spec PyProof.Rows
noncomputable abbrev Key := Sum Int Str
noncomputable def keyIs : Key → Value → Bool
  | .inl k, v => Value.isInt k v
  | .inr x, v => Value.isStrOf x v
noncomputable def keyH (w : World) : Key → Int
  | .inl k => hashInt k
  | .inr x => hashStr w x
theorem keyIs_shape : ∀ {k : Key} {v : Value}, keyIs k v = true → (∃ i t, k = Sum.inl i ∧ v = Value.int i t) ∨ (∃ x t, k = Sum.inr x ∧ v = Value.str x t)
  | .inl i, v, h => by
    obtain ⟨t, e⟩ := Value.isInt_shape (k := i) (v := v) h
    exact .inl ⟨i, t, rfl, e⟩
  | .inr x, v, h => by
    obtain ⟨t, e⟩ := Value.isStrOf_shape (x := x) (v := v) h
    exact .inr ⟨x, t, rfl, e⟩
theorem keyIs_int (i : Int) (t : Tok) : keyIs (.inl i) (.int i t) = true := by simp [keyIs, Value.isInt]
theorem keyIs_str (x : Str) (t : Tok) : keyIs (.inr x) (.str x t) = true := by simp [keyIs, Value.isStrOf]
theorem key_ll (a b : Int) : decide ((Sum.inl a : Key) = Sum.inl b) = (a == b) := by
  by_cases e : a = b
  · subst e; simp
  · have h : ¬ (Sum.inl a : Key) = Sum.inl b := fun q => e (Sum.inl.inj q)
    rw [decide_eq_false h]
    exact (beq_eq_false_iff_ne.mpr e).symm
theorem key_rr (a b : Str) : decide ((Sum.inr a : Key) = Sum.inr b) = decide (a = b) := by
  by_cases e : a = b
  · subst e; simp
  · have h : ¬ (Sum.inr a : Key) = Sum.inr b := fun q => e (Sum.inr.inj q)
    rw [decide_eq_false h, decide_eq_false e]
theorem key_lr (a : Int) (b : Str) : decide ((Sum.inl a : Key) = Sum.inr b) = false := decide_eq_false (fun q => nomatch q)
theorem key_rl (a : Str) (b : Int) : decide ((Sum.inr a : Key) = Sum.inl b) = false := decide_eq_false (fun q => nomatch q)
noncomputable def mixKind (prog : Program) (w : World) : PySem.KeyKind prog w Key where
  is := keyIs
  hash := keyH w
  inj := fun v a b ha hb => by
    rcases keyIs_shape ha with ⟨i, t, rfl, rfl⟩ | ⟨x, t, rfl, rfl⟩
    · rcases keyIs_shape hb with ⟨j, u, rfl, e⟩ | ⟨y, u, rfl, e⟩
      · injection e with e1 _; rw [e1]
      · exact nomatch e
    · rcases keyIs_shape hb with ⟨j, u, rfl, e⟩ | ⟨y, u, rfl, e⟩
      · exact nomatch e
      · injection e with e1 _; rw [e1]
  byValue := fun k v h => by
    rcases keyIs_shape h with ⟨i, t, rfl, rfl⟩ | ⟨x, t, rfl, rfl⟩ <;> rfl
  pyHash := fun hv h => by
    rcases keyIs_shape hv with ⟨i, t, rfl, rfl⟩ | ⟨x, t, rfl, rfl⟩
    · exact wpAny_pyHash_int h
    · exact wpAny_pyHash_str h
  eqBool := fun hu hv h => by
    rcases keyIs_shape hu with ⟨i, t, rfl, rfl⟩ | ⟨x, t, rfl, rfl⟩
    · rcases keyIs_shape hv with ⟨j, u, rfl, rfl⟩ | ⟨y, u, rfl, rfl⟩
      · rw [key_ll] at h; exact wpAny_eqBool_int h
      · rw [key_lr] at h; exact SeqAt.EqAt.int_str i t y u _ _ _ _ h
    · rcases keyIs_shape hv with ⟨j, u, rfl, rfl⟩ | ⟨y, u, rfl, rfl⟩
      · rw [key_rl] at h; exact SeqAt.EqAt.str_int x t j u _ _ _ _ h
      · rw [key_rr] at h; exact wpAny_eqBool_str h
  «strs» := fun k x t v h => by
    rcases keyIs_shape h with ⟨i, u, rfl, e⟩ | ⟨y, u, rfl, e⟩
    · exact nomatch e
    · injection e with e1 _
      subst e1
      cases v <;> rfl
theorem mixKind_int (prog : Program) (w : World) (i : Int) (t : Tok) : (mixKind prog w).is (.inl i) (.int i t) = true := keyIs_int i t
theorem mixKind_str (prog : Program) (w : World) (x : Str) (t : Tok) : (mixKind prog w).is (.inr x) (.str x t) = true := keyIs_str x t
end L2
namespace L2
open PySem PySem.Spec PyProof.Rows
inductive V where
  | non | bl (b : Bool) | int (i : Int) | str (x : Str) | byt (b : Array UInt8) | flt (b : UInt64) | ref (a : Addr) | ty (n : String)
  deriving DecidableEq
noncomputable def RelV : V → Value → Prop
  | .non, u => u = Value.none
  | .bl b, u => u = Value.bool b
  | .int i, u => ∃ t, u = Value.int i t
  | .str x, u => ∃ t, u = Value.str x t
  | .byt b, u => ∃ t, u = Value.bytes b t
  | .flt b, u => ∃ t, u = Value.float b t
  | .ref a, u => u = Value.ref a
  | .ty n, u => u = Value.type n
noncomputable abbrev Vals : List V → List Value → Prop := Paired RelV
theorem Vals.length {xs : List V} {us : List Value} (r : Vals xs us) : xs.length = us.length := Paired.length r
theorem Vals.get : ∀ {xs : List V} {us : List Value} {i : Nat} {x : V}, Vals xs us → xs[i]? = some x → ∃ u, us[i]? = some u ∧ RelV x u
  | _, _, _, _, .nil, e => by simp at e
  | _, _, 0, _, .cons r _, e => by simp at e; subst e; exact ⟨_, rfl, r⟩
  | _, _, i + 1, x, .cons _ t, e => by
    obtain ⟨u, h1, h2⟩ := Vals.get (i := i) (x := x) t (by simpa using e)
    exact ⟨u, by simpa using h1, h2⟩
theorem Vals.append : ∀ {xs ys : List V} {us ws : List Value}, Vals xs us → Vals ys ws → Vals (xs ++ ys) (us ++ ws)
  | _, _, _, _, .nil, s => s
  | _, _, _, _, .cons r t, s => .cons r (Vals.append t s)
theorem Vals.take : ∀ {xs : List V} {us : List Value} (n : Nat), Vals xs us → Vals (xs.take n) (us.take n)
  | _, _, 0, _ => .nil
  | _, _, _ + 1, .nil => .nil
  | _, _, n + 1, .cons r t => .cons r (Vals.take n t)
theorem Vals.drop : ∀ {xs : List V} {us : List Value} (n : Nat), Vals xs us → Vals (xs.drop n) (us.drop n)
  | _, _, 0, r => r
  | _, _, _ + 1, .nil => .nil
  | _, _, n + 1, .cons _ t => Vals.drop n t
theorem Vals.none_of : ∀ {xs : List V} {us : List Value} {i : Nat}, Vals xs us → xs[i]? = none → us[i]? = none := fun {xs us i} r e => by
  have h1 := r.length
  have h2 : xs.length ≤ i := List.getElem?_eq_none_iff.mp e
  exact List.getElem?_eq_none_iff.mpr (by omega)
noncomputable def RelO : Option V → Option Value → Prop
  | some v, some u => RelV v u
  | none, none => True
  | _, _ => False
noncomputable def KV {κ : Type} : List (κ × V) → List (κ × Value) → Prop := Paired fun (p : κ × V) (q : κ × Value) => p.1 = q.1 ∧ RelV p.2 q.2
noncomputable def kV : Key → V
  | .inl i => .int i
  | .inr x => .str x
inductive HO where
  | lst (xs : List V)
  | tup (xs : List V)
  | dK (kvs : List (Key × V)) | dT (kvs : List (List Key × V))
  | set (S : Int → Bool) (n : Nat)
  | ins (C dx : Addr) (fs : List (Str × V))
  | own (x : Addr)
  | xd (fs : List (Str × V))
  | met (f x : Addr)
  | rng (lo hi : Int)
  | frz (o : Obj) (u : HO)
  | tbl (ps : Array Value)
  | ext (φ : Heap → Prop)
noncomputable abbrev Hp := Addr → Option HO
noncomputable def upd (H : Hp) (a : Addr) (o : HO) : Hp := fun b => if b = a then some o else H b
theorem upd_same {H : Hp} {a : Addr} {o : HO} : upd H a o a = some o := by unfold upd; rw [if_pos rfl]
theorem upd_ne {H : Hp} {a b : Addr} {o : HO} (h : b ≠ a) : upd H a o b = H b := by unfold upd; rw [if_neg h]
theorem ne_of {H : Hp} {a b : Addr} {o u : HO} (h : H a = some o) (h' : H b = some u) (d : o ≠ u) : a ≠ b := by
  intro e; subst e; rw [h] at h'; exact d (Option.some.inj h')
theorem ne_of_none {H : Hp} {a b : Addr} {o : HO} (h : H a = some o) (h' : H b = none) : a ≠ b := by
  intro e; subst e; rw [h] at h'; cases h'
section
variable (P : Program) (w : World)
noncomputable def ObjOk (H : Hp) (h : Heap) (a : Addr) : HO → Prop
  | .lst xs => xs.length ≤ sizeLine ∧ ∃ (its : List Value) (n : Nat), Vals xs its ∧ h.get? a = some { cls := .type "list", data := .seq its.toArray n }
  | .tup xs => xs.length ≤ sizeLine ∧ ∃ its : List Value, Vals xs its ∧ IsTup h a its.toArray
  | .dK kvs => kvs.length ≤ sizeLine ∧ (a == sysModules) = false ∧ ∃ vs, KV kvs vs ∧ h.DictOf (mixKind P w) a vs
  | .dT kvs => kvs.length ≤ sizeLine ∧ (a == sysModules) = false ∧ ∃ xs : List (List Key × Addr × Value),
      Paired (fun (p : List Key × V) (q : List Key × Addr × Value) => p.1 = q.1 ∧ H q.2.1 = some (.tup (p.1.map kV)) ∧ RelV p.2 q.2.2) kvs xs ∧
      ∃ o es ep, h.get? a = some o ∧ o.ExactDict ∧ o.data = .dict es ep ∧ es.toList = xs.map (entryOfKey (tupleKind (mixKind P w))) ∧ (xs.map (·.1)).Nodup
  | .set S n => h.SetOf (intKind P w) a S n
  | .ins C dx fs => H dx = some (.own a) ∧ fs.length ≤ 1000 ∧ dx ≠ a ∧ h.get? a = some (PySem.W.instObj C dx) ∧
      ∃ mA, h.Ns1 dx mA ∧ (∀ f, RelO (fs.lookup f) (mA f)) ∧ PySem.Within mA (fs.map (·.1))
  | .own _ => ∃ o, h.get? a = some o
  | .xd fs => ∃ mA, h.Ns1 a mA ∧ ∀ f, RelO (fs.lookup f) (mA f)
  | .rng lo hi => ∃ t u v, h.get? a = some { cls := .type "range", data := .fields #[.int lo t, .int hi u, .int 1 v] }
  | .frz o u => h.get? a = some o ∧ ObjOk H h a u
  | .tbl ps => h.get? a = some { cls := .none, data := .fields ps }
  | .met f x => h.get? a = some (PySem.W.methodObj (.ref f) (.ref x))
  | .ext φ => φ h ∧ (∃ o, h.get? a = some o) ∧ ∀ h1 h2 : Heap, φ h1 → (∀ o, h1.get? a = some o → h2.get? a = some o) → φ h2
noncomputable def HOk (H : Hp) (h : Heap) : Prop := ∀ a o, H a = some o → ObjOk P w H h a o
end
section
variable {P : Program} {w : World} {H H' : Hp} {h h' : Heap} {a : Addr} {o : HO}
theorem ObjOk.lt (x : ObjOk P w H h a o) : a < h.objs.size := by
  cases o with
  | lst xs => obtain ⟨_, _, _, _, e⟩ := x; exact Heap.lt_size e
  | tup xs => obtain ⟨_, _, _, p⟩ := x; exact p.lt
  | dK kvs => obtain ⟨_, _, _, _, o, _, _, e, _⟩ := x; exact Heap.lt_size e
  | dT kvs => obtain ⟨_, _, _, _, o, _, _, e, _⟩ := x; exact Heap.lt_size e
  | set S n => obtain ⟨o, _, _, _, e, _⟩ := x; exact Heap.lt_size e
  | ins C dx fs => obtain ⟨_, _, _, e, _⟩ := x; exact Heap.lt_size e
  | own y => obtain ⟨_, e⟩ := x; exact Heap.lt_size e
  | xd fs => obtain ⟨_, ⟨_, _, _, e, _⟩, _⟩ := x; exact Heap.lt_size e
  | rng lo hi => obtain ⟨_, _, _, e⟩ := x; exact Heap.lt_size e
  | frz ob u => obtain ⟨e, _⟩ := x; exact Heap.lt_size e
  | tbl ps => exact Heap.lt_size (show h.get? a = some _ from x)
  | met f y => exact Heap.lt_size (show h.get? a = some _ from x)
  | ext φ => obtain ⟨_, ⟨_, e⟩, _⟩ := x; exact Heap.lt_size e
theorem Paired.mapP {α β : Type} {F G : α → β → Prop} : ∀ {l₁ : List α} {l₂ : List β}, Paired F l₁ l₂ → (∀ a b, F a b → G a b) → Paired G l₁ l₂
  | _, _, .nil, _ => .nil
  | _, _, .cons r t, f => .cons (f _ _ r) (Paired.mapP t f)
theorem ObjOk.stay (x : ObjOk P w H h a o) (k : ∀ b u, (b = a ∨ H b = some (.own a)) → h.get? b = some u → h'.get? b = some u)
    (ho : ∀ b, H b = some (.own a) → H' b = some (.own a)) (ht : ∀ b xs, H b = some (.tup xs) → H' b = some (.tup xs)) : ObjOk P w H' h' a o := by
  induction o with
  | lst xs => obtain ⟨z, its, n, r, e⟩ := x; exact ⟨z, its, n, r, k _ _ (.inl rfl) e⟩
  | tup xs => obtain ⟨z, its, r, ob, e, c⟩ := x; exact ⟨z, its, r, ob, k _ _ (.inl rfl) e, c⟩
  | dK kvs => obtain ⟨z, y, vs, r, ob, es, ep, e, c⟩ := x; exact ⟨z, y, vs, r, ob, es, ep, k _ _ (.inl rfl) e, c⟩
  | dT kvs =>
    obtain ⟨z, y, xs, r, ob, es, ep, e, c⟩ := x
    exact ⟨z, y, xs, Paired.mapP r fun p q z => ⟨z.1, ht _ _ z.2.1, z.2.2⟩, ob, es, ep, k _ _ (.inl rfl) e, c⟩
  | set S n => obtain ⟨ob, es, ep, t, e, c⟩ := x; exact ⟨ob, es, ep, t, k _ _ (.inl rfl) e, c⟩
  | ins C dx fs =>
    obtain ⟨d, z, ne, e, mA, ⟨od, es, ep, e2, c⟩, r⟩ := x
    exact ⟨ho _ d, z, ne, k _ _ (.inl rfl) e, mA, ⟨od, es, ep, k _ _ (.inr d) e2, c⟩, r⟩
  | own y => obtain ⟨ob, e⟩ := x; exact ⟨ob, k _ _ (.inl rfl) e⟩
  | xd fs => obtain ⟨mA, ⟨od, es, ep, e, c⟩, r⟩ := x; exact ⟨mA, ⟨od, es, ep, k _ _ (.inl rfl) e, c⟩, r⟩
  | rng lo hi => obtain ⟨t, u, v, e⟩ := x; exact ⟨t, u, v, k _ _ (.inl rfl) e⟩
  | frz ob u ih => obtain ⟨e, q⟩ := x; exact ⟨k _ _ (.inl rfl) e, ih q⟩
  | tbl ps =>
    have e : h.get? a = some { cls := .none, data := .fields ps } := x
    show h'.get? a = some { cls := .none, data := .fields ps }
    exact k a _ (.inl rfl) e
  | met f y =>
    have e : h.get? a = some (PySem.W.methodObj (.ref f) (.ref y)) := x
    show h'.get? a = some (PySem.W.methodObj (.ref f) (.ref y))
    exact k a _ (.inl rfl) e
  | ext φ => obtain ⟨p, ⟨o, e⟩, st⟩ := x; exact ⟨st _ _ p fun o q => k _ _ (.inl rfl) q, ⟨o, k _ _ (.inl rfl) e⟩, st⟩
theorem HOk.lt (x : HOk P w H h) (e : H a = some o) : a < h.objs.size := (x a o e).lt
theorem HOk.fresh (x : HOk P w H h) (e : h.objs.size ≤ a) : H a = none := by
  cases q : H a with
  | none => rfl
  | some u => exact absurd (Nat.lt_of_lt_of_le (x.lt q) e) (Nat.lt_irrefl _)
theorem HOk.kept (x : HOk P w H h) (k : ∀ b u, h.get? b = some u → h'.get? b = some u) : HOk P w H h' := fun a o e =>
  (x a o e).stay (fun b u _ q => k b u q) (fun _ q => q) fun _ _ q => q
theorem HOk.laid (x : HOk P w H h) (k : ∀ b u, h.get? b = some u → h'.get? b = some u) (hp : h.objs.size ≤ a) (new : ObjOk P w (upd H a o) h' a o) : HOk P w (upd H a o) h' := fun b u e => by
  have hn := x.fresh hp
  by_cases hb : b = a
  · subst hb; rw [upd_same] at e; cases e; exact new
  · rw [upd_ne hb] at e
    exact (x b u e).stay (fun c v _ q => k c v q) (fun c q => by rw [upd_ne (ne_of_none q hn)]; exact q) fun c xs q => by rw [upd_ne (ne_of_none q hn)]; exact q
end
noncomputable def Rd (H : Hp) (a : Addr) (u : HO) : Prop := H a = some u ∨ ∃ o, H a = some (.frz o u)
theorem Rd.of {H : Hp} {a : Addr} {u : HO} (h : H a = some u) : Rd H a u := .inl h
theorem Rd.ok {P : Program} {w : World} {H : Hp} {h : Heap} {a : Addr} {u : HO} (r : Rd H a u) (x : HOk P w H h) : ObjOk P w H h a u := by
  rcases r with r | ⟨o, r⟩
  · exact x a u r
  · obtain ⟨_, q⟩ := x a _ r
    exact q
noncomputable def Mut : Option HO → Prop
  | some (.lst _) => True
  | some (.dK _) => True
  | some (.dT _) => True
  | some (.set _ _) => True
  | some (.ins _ _ _) => True
  | some (.ext _) => True
  | _ => False
section
variable {P : Program} {w : World} {H : Hp} {h h' : Heap} {x e : Addr} {o' : HO}
theorem HOk.write (ok : HOk P w H h) (mu : Mut (H x)) (he : e = x ∨ H e = some (.own x)) (k : ∀ b u, b ≠ e → h.get? b = some u → h'.get? b = some u) (heo : ∃ u, h'.get? e = some u)
    (new : ObjOk P w (upd H x o') h' x o') : HOk P w (upd H x o') h' := fun b u q => by
  have nown : ∀ c y, H c = some (.own y) → c ≠ x := fun c y r z => by subst z; rw [r] at mu; exact mu
  have ntup : ∀ c xs, H c = some (.tup xs) → c ≠ x := fun c xs r z => by subst z; rw [r] at mu; exact mu
  by_cases hb : b = x
  · subst hb; rw [upd_same] at q; cases q; exact new
  · rw [upd_ne hb] at q
    by_cases hbe : b = e
    · have q' : H b = some (.own x) := by
        rcases he with z | z
        · exact absurd (hbe.trans z) hb
        · rw [hbe]; exact z
      rw [q] at q'; cases q'
      obtain ⟨v, hv⟩ := heo
      exact ⟨v, by rw [hbe]; exact hv⟩
    · refine (ok b u q).stay (fun c v hc r => k c v ?_ r) (fun c r => by rw [upd_ne (nown c b r)]; exact r) fun c xs r => by rw [upd_ne (ntup c xs r)]; exact r
      rcases hc with rfl | hc
      · exact hbe
      · rintro rfl
        rcases he with z | z
        · exact nown c b hc z
        · rw [hc] at z; cases z; exact hb rfl
end
structure Un (fs ex : List Addr) (H H' : Hp) (h h' : Heap) : Prop where
  keep : ∀ b o, h.get? b = some o → H b = none → b ∉ fs → b ∉ ex → h'.get? b = some o
  slot : ∀ b o, h.get? b = some o → H b = none → b ∈ fs → b ∉ ex → ∃ sl, h'.get? b = some { o with slots := sl }
  free : ∀ b o, h.get? b = some o → H b = none → b ∉ ex → H' b = none
  there : ∀ b o, h.get? b = some o → b ∉ ex → ∃ o', h'.get? b = some o'
  tups : ∀ b xs, H b = some (.tup xs) → H' b = some (.tup xs)
  frzs : ∀ b o u, H b = some (.frz o u) → H' b = some (.frz o u)
  tbls : ∀ b ps, H b = some (.tbl ps) → ∃ more, H' b = some (.tbl (ps ++ more))
section
variable {fs fs' ex ex' : List Addr} {H H1 H2 : Hp} {h h1 h2 h' : Heap} {a x e : Addr} {o : HO}
theorem Un.any (u : Un fs ex H H1 h h1) {b : Addr} {ob : Obj} (q : h.get? b = some ob) (n : H b = none) (hx : b ∉ ex) : ∃ sl, h1.get? b = some { ob with slots := sl } := by
  by_cases hb : b ∈ fs
  · exact u.slot b ob q n hb hx
  · exact ⟨ob.slots, u.keep b ob q n hb hx⟩
theorem Un.trans (a : Un fs ex H H1 h h1) (b : Un fs ex H1 H2 h1 h2) : Un fs ex H H2 h h2 where
  keep := fun c ob q n hc hx => b.keep c ob (a.keep c ob q n hc hx) (a.free c ob q n hx) hc hx
  slot := fun c ob q n hc hx => by
    obtain ⟨sl, e1⟩ := a.slot c ob q n hc hx
    obtain ⟨sl', e2⟩ := b.slot c _ e1 (a.free c ob q n hx) hc hx
    exact ⟨sl', e2⟩
  free := fun c ob q n hx => by
    obtain ⟨o', e1⟩ := a.there c ob q hx
    exact b.free c o' e1 (a.free c ob q n hx) hx
  there := fun c ob q hx => by
    obtain ⟨o', e1⟩ := a.there c ob q hx
    exact b.there c o' e1 hx
  tups := fun c xs q => b.tups c xs (a.tups c xs q)
  frzs := fun c ob xs q => b.frzs c ob xs (a.frzs c ob xs q)
  tbls := fun c ps q => by
    obtain ⟨m1, e1⟩ := a.tbls c ps q
    obtain ⟨m2, e2⟩ := b.tbls c _ e1
    exact ⟨m1 ++ m2, by rw [e2, Array.append_assoc]⟩
theorem Un.kept (k : ∀ b u, h.get? b = some u → h'.get? b = some u) : Un fs ex H H h h' :=
  ⟨fun b ob q _ _ _ => k b ob q, fun b ob q _ _ _ => ⟨ob.slots, k b ob q⟩, fun _ _ _ n _ => n, fun b ob q _ => ⟨ob, k b ob q⟩, fun _ _ q => q, fun _ _ _ q => q, fun _ ps q => ⟨#[], by rw [q]; simp⟩⟩
theorem Un.refl : Un fs ex H H h h := Un.kept fun _ _ q => q
theorem Un.laid (k : ∀ b u, h.get? b = some u → h'.get? b = some u) (hp : h.objs.size ≤ a) (hn : H a = none) : Un fs ex H (upd H a o) h h' where
  keep := fun b u q _ _ _ => k b u q
  slot := fun b u q _ _ _ => ⟨u.slots, k b u q⟩
  free := fun b u q n _ => by rw [upd_ne (Nat.ne_of_lt (Nat.lt_of_lt_of_le (Heap.lt_size q) hp))]; exact n
  there := fun b u q _ => ⟨u, k b u q⟩
  tups := fun b xs q => by rw [upd_ne (ne_of_none q hn)]; exact q
  frzs := fun b u xs q => by rw [upd_ne (ne_of_none q hn)]; exact q
  tbls := fun b ps q => ⟨#[], by rw [upd_ne (ne_of_none q hn), q]; simp⟩
theorem Un.write (mu : Mut (H x)) (he : e = x ∨ H e = some (.own x)) (k : ∀ b u, b ≠ e → h.get? b = some u → h'.get? b = some u) (heo : ∃ u, h'.get? e = some u) : Un fs ex H (upd H x o) h h' := by
  have hx : ∀ b, H b = none → b ≠ x := fun b n z => by subst z; rw [n] at mu; exact mu
  have hb : ∀ b, H b = none → b ≠ e := fun b n z => by
    subst z
    rcases he with r | r
    · exact hx b n r
    · rw [n] at r; cases r
  have hm : ∀ b u, H b = some u → ¬ Mut (some u) → b ≠ x := fun b u q nm z => by subst z; rw [q] at mu; exact nm mu
  refine ⟨fun b u q n _ _ => k b u (hb b n) q, fun b u q n _ _ => ⟨u.slots, k b u (hb b n) q⟩, fun b u q n _ => by rw [upd_ne (hx b n)]; exact n, fun b u q _ => ?_,
    fun b xs q => by rw [upd_ne (hm b _ q fun z => z)]; exact q, fun b u xs q => by rw [upd_ne (hm b _ q fun z => z)]; exact q, fun b ps q => ⟨#[], by rw [upd_ne (hm b _ q fun z => z), q]; simp⟩⟩
  by_cases hbe : b = e
  · subst hbe; exact heo
  · exact ⟨u, k b u hbe q⟩
theorem Un.mono (u : Un fs ex H H1 h h1) (hs : ∀ b ∈ fs, b ∈ fs') (hx : ∀ b ∈ ex, b ∈ ex') : Un fs' ex' H H1 h h1 :=
  ⟨fun b ob q n hb he => u.keep b ob q n (fun z => hb (hs b z)) fun z => he (hx b z), fun _ _ q n _ he => u.any q n fun z => he (hx _ z), fun b ob q n he => u.free b ob q n fun z => he (hx b z), fun b ob q he => u.there b ob q fun z => he (hx b z), u.tups, u.frzs, u.tbls⟩
end
noncomputable def trk (h : Heap) (H : Hp) : List Addr := (List.range h.objs.size).filter fun a => (H a).isSome
noncomputable def hidT (h : Heap) (H : Hp) : Heap := PySem.W.hideAll h (trk h H)
theorem hidT_size (h : Heap) (H : Hp) : (hidT h H).objs.size = h.objs.size := PySem.W.hideAll_size _ _
theorem hidT_get {h : Heap} {H : Hp} {b : Addr} {o : Obj} (e : h.get? b = some o) (n : H b = none) : (hidT h H).get? b = some o :=
  PySem.W.hideAll_get _ e fun hm => by
    have q : (H b).isSome = true := (List.mem_filter.mp hm).2
    rw [n] at q; simp at q
theorem of_hidT {h : Heap} {H : Hp} {b : Addr} {o : Obj} (e : (hidT h H).get? b = some o) : h.get? b = some o ∧ H b = none := by
  have e' : h.get? b = some o := PySem.W.of_hideAll (trk h H) e
  refine ⟨e', ?_⟩
  cases q : H b with
  | none => rfl
  | some x =>
    have hm : b ∈ trk h H := List.mem_filter.mpr ⟨List.mem_range.mpr (Heap.lt_size e'), by simp [q]⟩
    have z : (hidT h H).get? b = none := PySem.W.hideAll_none (trk h H) hm
    rw [z] at e; cases e
noncomputable def allNews (g h : Heap) (L : Addr) : List (Addr × Obj) := (List.range h.objs.size).filterMap fun a => if a = L ∨ (g.get? a).isSome = true then none else (h.get? a).map fun o => (a, o)
noncomputable def rest (g h : Heap) (L d : Addr) : List (Addr × Obj) := (allNews g h L).filter fun p => decide (p.1 ≠ d)
end L2
namespace L2
open PySem PySem.Spec PyProof.Rows
structure Mod (K : PySem.W.Frag) (mg : Str → Option Value) (base : Heap) : Prop where
  kin : K.In base
  glob : base.Ns mainGlobals mg
  blt : ∃ mb, base.Ns builtinsNs mb ∧ ∀ x : Str, x ≠ "__name__" → mb x = bootBuiltins x
  nolimit : base.NoLimit
structure Cx where
  prog : Program
  w : World
  K : PySem.W.Frag
  mg : Str → Option Value
  base : Heap
  A : Around
  N : List Str
  s₀ : Shared
  H₀ : Hp
  env : Env
  outer : List Env
  stack : List Env
  ex : List Addr
  fn : Str → Bool
  calm : Bool
  pn : List (Addr × Obj)
  xe : Value → Shared → Prop
noncomputable def frs (l : List Env) : List Addr := l.filterMap (·.frame)
noncomputable abbrev Cx.fs (X : Cx) : List Addr := frs X.outer
noncomputable def Vis (sc : Scope) (x : Str) : Prop := sc.names.lookup x = some .local ∨ sc.names.lookup x = some .cell ∨ sc.names.lookup x = some .free
noncomputable def Loc (sc : Scope) (x : Str) : Prop := sc.names.lookup x = some .local ∨ sc.names.lookup x = some .cell
noncomputable def Look (env : Env) (h : Heap) (m : Str → Option Value) (x : Str) (u : Value) : Prop :=
  (env.kindOf x = some .local ∧ m x = some u) ∨ ((env.kindOf x = some .cell ∨ env.kindOf x = some .free) ∧ ∃ c, env.cells.lookup x = some c ∧ h.IsCell c (some u))
structure Cx.Ok (X : Cx) : Prop where
  mod : Mod X.K X.mg X.base
  kind : X.env.scope.kind = .function
  glob : X.env.globals = mainGlobals
  blt : X.env.builtins = builtinsNs
  above : X.s₀.heap.objs.size ≤ X.env.locals
  inj : ∀ x y c, X.env.cells.lookup x = some c → X.env.cells.lookup y = some c → x = y
  has : ∀ x, (X.env.kindOf x = some .cell ∨ X.env.kindOf x = some .free) → ∃ c, X.env.cells.lookup x = some c
  cab : ∀ x c, X.fn x = true → X.env.cells.lookup x = some c → X.s₀.heap.objs.size ≤ c
  hd : X.calm = true → X.A.handled = none
  frames : X.A.frames = some X.stack
  stk : X.stack = X.outer ∨ (X.stack = X.env :: X.outer ∧ X.env.frame = some X.env.locals)
  exf : ∀ b ∈ X.ex, b ≠ X.env.locals ∧ ∀ x c, X.env.cells.lookup x = some c → c ≠ b
  bs : ∀ b o, X.base.get? b = some o → X.s₀.heap.get? b = some o ∧ X.H₀ b = none
  bsz : X.base.objs.size ≤ X.s₀.heap.objs.size
  noex : ∀ b o, X.base.get? b = some o → b ∉ X.ex
  exfs : ∀ b ∈ X.ex, b ∉ X.fs
  funs : X.s₀.heap.FunFrames X.base X.outer
  frf : ∀ b ∈ X.fs, X.H₀ b = none
structure Inv (X : Cx) (pins : List (Addr × Obj)) (σ : List (Option V)) (H : Hp) (s : Shared) : Prop where
  ok : X.Ok
  os : s.os = X.s₀.os
  bare : AllBare s.gens
  base : Un X.fs X.ex X.H₀ H X.s₀.heap s.heap
  loc : ∃ m, s.heap.Ns X.env.locals m ∧ ∀ (i : Nat) (x : Str) (v : V), X.N[i]? = some x → σ[i]? = some (some v) → Vis X.env.scope x → ∃ u, RelV v u ∧ Look X.env s.heap m x u
  cell : ∀ x c, X.env.cells.lookup x = some c → ∃ v, s.heap.IsCell c v
  free : H X.env.locals = none
  freeC : ∀ x c, X.env.cells.lookup x = some c → H c = none
  pin : ∀ p ∈ X.pn ++ pins, s.heap.get? p.1 = some p.2 ∧ H p.1 = none ∧ p.1 ≠ X.env.locals ∧ p.1 ∉ X.fs ∧ ∀ v, p.2.data ≠ .cell v
  hok : HOk X.prog X.w H s.heap
  len : σ.length = X.N.length
section
variable {X : Cx} {pins : List (Addr × Obj)} {σ : List (Option V)} {H H' : Hp} {s : Shared} {h' : Heap}
theorem Cx.Ok.nofr (ok : X.Ok) {b : Addr} {o : Obj} (e : X.base.get? b = some o) : b ∉ X.fs := fun hb => by
  have := (ok.funs.mem hb).1
  rw [e] at this; cases this
theorem Inv.bs (I : Inv X pins σ H s) : ∀ b o, X.base.get? b = some o → s.heap.get? b = some o ∧ H b = none := fun b o e =>
  ⟨I.base.keep b o (I.ok.bs b o e).1 (I.ok.bs b o e).2 (I.ok.nofr e) (I.ok.noex b o e), I.base.free b o (I.ok.bs b o e).1 (I.ok.bs b o e).2 (I.ok.noex b o e)⟩
theorem Inv.bk (I : Inv X pins σ H s) : ∀ b o, X.base.get? b = some o → s.heap.get? b = some o := fun b o e => (I.bs b o e).1
theorem Inv.mod (I : Inv X pins σ H s) : Mod X.K X.mg X.base := I.ok.mod
theorem Inv.kIn (I : Inv X pins σ H s) : X.K.In s.heap := I.ok.mod.kin.keeps I.bk
theorem Inv.fr (I : Inv X pins σ H s) : ∃ m, Fr X.base X.env.locals s.heap m :=
  let ⟨m, hn, _⟩ := I.loc
  ⟨m, hn, I.bk, Nat.le_trans I.ok.bsz I.ok.above⟩
theorem Inv.lt (I : Inv X pins σ H s) : X.env.locals < s.heap.objs.size := let ⟨_, hn, _⟩ := I.loc; hn.lt
theorem Inv.sz (I : Inv X pins σ H s) : X.s₀.heap.objs.size ≤ s.heap.objs.size := Nat.le_trans I.ok.above (Nat.le_of_lt I.lt)
theorem Inv.nofs (I : Inv X pins σ H s) {a : Addr} (h : s.heap.objs.size ≤ a) : a ∉ X.fs := fun hb => by
  obtain ⟨_, o, ho, _⟩ := I.ok.funs.mem hb
  exact absurd (Nat.lt_of_lt_of_le (Heap.lt_size ho) (Nat.le_trans I.sz h)) (Nat.lt_irrefl _)
theorem Inv.cne (I : Inv X pins σ H s) : ∀ x c, X.env.cells.lookup x = some c → c ≠ X.env.locals := fun x c e z => by
  obtain ⟨v, o, ho, hd⟩ := I.cell x c e
  obtain ⟨m, ⟨o', es, ep, ho', hd', _⟩, _⟩ := I.loc
  rw [z, ho'] at ho; cases ho; rw [hd'] at hd; cases hd
theorem Inv.funs (I : Inv X pins σ H s) : s.heap.FunFrames X.base X.outer := by
  have all : ∀ (l : List Env), (∀ b ∈ frs l, b ∈ X.fs) → X.s₀.heap.FunFrames X.base l → s.heap.FunFrames X.base l := by
    intro l
    induction l with
    | nil => intro _ _; trivial
    | cons env r ih =>
      intro hs hl
      obtain ⟨hk, ⟨L, o, hf, hn, ho, hd⟩, hr⟩ := hl
      have hL : L ∈ X.fs := hs L (by unfold frs; rw [List.filterMap_cons, hf]; exact List.mem_cons_self)
      obtain ⟨sl, e⟩ := I.base.slot L o ho (I.ok.frf L hL) hL fun z => I.ok.exfs L z hL
      exact ⟨hk, ⟨L, _, hf, hn, e, hd⟩, ih (fun b hb => hs b (by unfold frs; rw [List.filterMap_cons, hf]; exact List.mem_cons_of_mem _ hb)) hr⟩
  exact all X.outer (fun _ hb => hb) I.ok.funs
theorem Inv.stack (I : Inv X pins σ H s) : s.heap.FunFrames X.base X.stack := by
  rcases I.ok.stk with e | ⟨e, hf⟩
  · rw [e]; exact I.funs
  · rw [e]
    obtain ⟨m, hn, _⟩ := I.loc
    refine .cons (by rw [I.ok.kind]; decide) hf hn ?_ I.funs
    exact Heap.get?_none_of_le (Nat.le_trans I.ok.bsz I.ok.above)
theorem Inv.stkSub (I : Inv X pins σ H s) : ∀ b ∈ frs X.stack, b ∈ X.env.locals :: X.fs := fun b hb => by
  rcases I.ok.stk with e | ⟨e, hf⟩
  · rw [e] at hb; exact List.mem_cons_of_mem _ hb
  · rw [e] at hb
    unfold frs at hb
    rw [List.filterMap_cons, hf] at hb
    exact hb
theorem Inv.stkFree (I : Inv X pins σ H s) : ∀ b ∈ frs X.stack, H b = none := fun b hb => by
  rcases List.mem_cons.mp (I.stkSub b hb) with e | hb
  · rw [e]; exact I.free
  · obtain ⟨_, o, ho, _⟩ := I.ok.funs.mem hb
    exact I.base.free b o ho (I.ok.frf b hb) fun z => I.ok.exfs b z hb
theorem Inv.step {g' : Array GenState} {t' : Nat} {d' : Drawn} {ch : List Addr} (I : Inv X pins σ H s)
    (hch : ∀ b ∈ ch, (b ∈ X.ex ∨ X.s₀.heap.objs.size ≤ b) ∧ b ≠ X.env.locals ∧ (∀ x c, X.env.cells.lookup x = some c → c ≠ b) ∧ ∀ p ∈ X.pn ++ pins, p.1 ≠ b)
    (keep : ∀ b o, b ≠ X.env.locals → b ∉ X.fs → b ∉ ch → s.heap.get? b = some o → H b = none → h'.get? b = some o)
    (slot : ∀ b o, b ≠ X.env.locals → b ∈ X.fs → b ∉ ch → s.heap.get? b = some o → H b = none → ∃ sl, h'.get? b = some { o with slots := sl }) (free : ∀ b o, b ∉ ch → s.heap.get? b = some o → H b = none → H' b = none)
    (there : ∀ b o, b ∉ ch → s.heap.get? b = some o → ∃ o', h'.get? b = some o')
    (tups : ∀ b xs, H b = some (.tup xs) → H' b = some (.tup xs)) (frzs : ∀ b o u, H b = some (.frz o u) → H' b = some (.frz o u)) (tbls : ∀ b ps, H b = some (.tbl ps) → ∃ more, H' b = some (.tbl (ps ++ more)))
    (ns : ∀ m, s.heap.Ns X.env.locals m → h'.Ns X.env.locals m) (hok : HOk X.prog X.w H' h') (hg : AllBare g') :
    Inv X pins σ H' { s with heap := h', gens := g', drawn := d', toks := t' } := by
  have neL : ∀ b o, X.s₀.heap.get? b = some o → b ≠ X.env.locals := fun b o e => Nat.ne_of_lt (Nat.lt_of_lt_of_le (Heap.lt_size e) I.ok.above)
  have neC : ∀ b o, X.s₀.heap.get? b = some o → b ∉ X.ex → b ∉ ch := fun b o e hx hb => by
    rcases (hch b hb).1 with z | z
    · exact hx z
    · exact absurd (Nat.lt_of_lt_of_le (Heap.lt_size e) z) (Nat.lt_irrefl _)
  have cellK : ∀ x c, X.env.cells.lookup x = some c → ∀ v, s.heap.IsCell c v → h'.IsCell c v := fun x c e v ⟨o, ho, hd⟩ => by
    have nch : c ∉ ch := fun z => (hch c z).2.2.1 x c e rfl
    by_cases hc : c ∈ X.fs
    · obtain ⟨sl, q⟩ := slot c o (I.cne x c e) hc nch ho (I.freeC x c e)
      exact ⟨_, q, hd⟩
    · exact ⟨o, keep c o (I.cne x c e) hc nch ho (I.freeC x c e), hd⟩
  refine ⟨I.ok, I.os, hg, ⟨fun b o e n hb hx => ?_, fun b o e n hb hx => ?_, fun b o e n hx => ?_, fun b o e hx => ?_, fun b xs e => tups b xs (I.base.tups b xs e), fun b o xs e => frzs b o xs (I.base.frzs b o xs e), fun b ps e => ?_⟩, ?_, fun x c e => ?_, ?_, fun x c e => ?_, fun p hp => ?_, hok, I.len⟩
  · exact keep b o (neL b o e) hb (neC b o e hx) (I.base.keep b o e n hb hx) (I.base.free b o e n hx)
  · obtain ⟨sl, e1⟩ := I.base.slot b o e n hb hx
    obtain ⟨sl', e2⟩ := slot b _ (neL b o e) hb (neC b o e hx) e1 (I.base.free b o e n hx)
    exact ⟨sl', e2⟩
  · obtain ⟨o', e1⟩ := I.base.there b o e hx
    exact free b o' (neC b o e hx) e1 (I.base.free b o e n hx)
  · obtain ⟨o', e1⟩ := I.base.there b o e hx
    exact there b o' (neC b o e hx) e1
  · obtain ⟨m1, e1⟩ := I.base.tbls b ps e
    obtain ⟨m2, e2⟩ := tbls b _ e1
    exact ⟨m1 ++ m2, by rw [e2, Array.append_assoc]⟩
  · obtain ⟨m, hn, hl⟩ := I.loc
    refine ⟨m, ns m hn, fun i x v e1 e2 e3 => ?_⟩
    obtain ⟨u, r, l⟩ := hl i x v e1 e2 e3
    refine ⟨u, r, ?_⟩
    rcases l with l | ⟨k, c, e, z⟩
    · exact .inl l
    · exact .inr ⟨k, c, e, cellK x c e _ z⟩
  · obtain ⟨v, z⟩ := I.cell x c e
    exact ⟨v, cellK x c e v z⟩
  · obtain ⟨m, ⟨o, _, _, ho, _⟩, _⟩ := I.loc
    exact free _ o (fun z => (hch _ z).2.1 rfl) ho I.free
  · obtain ⟨v, o, ho, hd⟩ := I.cell x c e
    exact free c o (fun z => (hch c z).2.2.1 x c e rfl) ho (I.freeC x c e)
  · obtain ⟨e, n, ne, nf, d⟩ := I.pin p hp
    have nch : p.1 ∉ ch := fun z => (hch p.1 z).2.2.2 p hp rfl
    exact ⟨keep p.1 p.2 ne nf nch e n, free p.1 p.2 nch e n, ne, nf, d⟩
theorem Inv.un {t' : Nat} (I : Inv X pins σ H s) (u : Un X.fs [] H H' s.heap h') (hok : HOk X.prog X.w H' h') : Inv X pins σ H' { s with heap := h', toks := t' } := by
  obtain ⟨m, ⟨o, es, ep, ho, r⟩, _⟩ := id I.loc
  obtain ⟨sl, hL⟩ := u.any ho I.free (by simp)
  exact I.step (g' := s.gens) (d' := s.drawn) (ch := []) (fun _ z => nomatch z) (fun b o _ hb _ e n => u.keep b o e n hb (by simp)) (fun b o _ hb _ e n => u.slot b o e n hb (by simp)) (fun b o _ e n => u.free b o e n (by simp)) (fun b o _ e => u.there b o e (by simp)) u.tups u.frzs u.tbls (fun m' hm => by
    obtain ⟨o', es', ep', ho', r'⟩ := hm
    rw [ho] at ho'; cases ho'
    exact ⟨_, es', ep', hL, r'⟩) hok I.bare
theorem Inv.call {g' : Array GenState} {t' : Nat} {d' : Drawn} {ch : List Addr} (I : Inv X pins σ H s) (u : Un (frs X.stack) ch H H' s.heap h') (hok : HOk X.prog X.w H' h') (hg : AllBare g')
    (hch : ∀ b ∈ ch, (b ∈ X.ex ∨ X.s₀.heap.objs.size ≤ b) ∧ b ≠ X.env.locals ∧ (∀ x c, X.env.cells.lookup x = some c → c ≠ b) ∧ ∀ p ∈ X.pn ++ pins, p.1 ≠ b) :
    Inv X pins σ H' { s with heap := h', gens := g', drawn := d', toks := t' } := by
  obtain ⟨m, ⟨o, es, ep, ho, r⟩, _⟩ := id I.loc
  obtain ⟨sl, hL⟩ := u.any ho I.free fun z => (hch _ z).2.1 rfl
  exact I.step (ch := ch) hch (fun b o hL hb hc e n => u.keep b o e n (fun z => (List.mem_cons.mp (I.stkSub b z)).elim hL hb) hc) (fun b o _ _ hc e n => u.any e n hc) (fun b o hc e n => u.free b o e n hc) (fun b o hc e => u.there b o e hc) u.tups u.frzs u.tbls (fun m' hm => by
    obtain ⟨o', es', ep', ho', r'⟩ := hm
    rw [ho] at ho'; cases ho'
    exact ⟨_, es', ep', hL, r'⟩) hok hg
theorem Inv.turned {t' : Nat} {it : Addr} (I : Inv X pins σ H s) (k : ∀ b o, b ≠ it → s.heap.get? b = some o → h'.get? b = some o) (hn : H it = none) (hL : it ≠ X.env.locals)
    (h1 : it ∈ X.ex ∨ X.s₀.heap.objs.size ≤ it) (h2 : ∀ x c, X.env.cells.lookup x = some c → c ≠ it) (h3 : ∀ p ∈ X.pn ++ pins, p.1 ≠ it) : Inv X pins σ H { s with heap := h', toks := t' } := by
  have nit : ∀ b u, H b = some u → b ≠ it := fun b u e z => by rw [z, hn] at e; cases e
  refine I.step (g' := s.gens) (d' := s.drawn) (ch := [it]) (fun b hb => ?_) (fun b o _ _ hc e _ => k b o (fun z => hc (by simp [z])) e) (fun b o _ _ hc e _ => ⟨o.slots, k b o (fun z => hc (by simp [z])) e⟩) (fun _ _ _ _ n => n)
    (fun b o hc e => ⟨o, k b o (fun z => hc (by simp [z])) e⟩) (fun _ _ e => e) (fun _ _ _ e => e) (fun b ps e => ⟨#[], by rw [e]; simp⟩) (fun m hm => ?_) (fun b u e => ?_) I.bare
  · have e : b = it := by simpa using hb
    subst e
    exact ⟨h1, hL, h2, h3⟩
  · obtain ⟨o, es, ep, ho, r⟩ := hm
    exact ⟨o, es, ep, k _ o (Ne.symm hL) ho, r⟩
  · refine (I.hok b u e).stay (fun c v hc q => k c v ?_ q) (fun _ q => q) fun _ _ q => q
    rcases hc with z | z
    · rw [z]; exact nit b u e
    · exact nit c _ z
theorem Inv.tok (I : Inv X pins σ H s) (t : Nat) : Inv X pins σ H { s with toks := t } := I.un (h' := s.heap) (t' := t) Un.refl I.hok
theorem Inv.kept {t' : Nat} (I : Inv X pins σ H s) (k : ∀ b u, s.heap.get? b = some u → h'.get? b = some u) : Inv X pins σ H { s with heap := h', toks := t' } := I.un (Un.kept k) (I.hok.kept k)
theorem Inv.laid {a : Addr} {o : HO} {t' : Nat} (I : Inv X pins σ H s) (k : ∀ b u, s.heap.get? b = some u → h'.get? b = some u) (hp : s.heap.objs.size ≤ a) (new : ObjOk X.prog X.w (upd H a o) h' a o) :
    Inv X pins σ (upd H a o) { s with heap := h', toks := t' } := I.un (Un.laid k hp (I.hok.fresh hp)) (I.hok.laid k hp new)
theorem Inv.write {x e : Addr} {o : HO} {t' : Nat} (I : Inv X pins σ H s) (mu : Mut (H x)) (he : e = x ∨ H e = some (.own x)) (k : ∀ b u, b ≠ e → s.heap.get? b = some u → h'.get? b = some u) (heo : ∃ u, h'.get? e = some u)
    (new : ObjOk X.prog X.w (upd H x o) h' x o) : Inv X pins σ (upd H x o) { s with heap := h', toks := t' } := I.un (Un.write mu he k heo) (I.hok.write mu he k heo new)
theorem Inv.pins_of {pins' : List (Addr × Obj)} (I : Inv X pins σ H s) (h : ∀ p ∈ pins', s.heap.get? p.1 = some p.2 ∧ H p.1 = none ∧ p.1 ≠ X.env.locals ∧ p.1 ∉ X.fs ∧ ∀ v, p.2.data ≠ .cell v) : Inv X pins' σ H s :=
  ⟨I.ok, I.os, I.bare, I.base, I.loc, I.cell, I.free, I.freeC, fun p hp => (List.mem_append.mp hp).elim (fun z => I.pin p (List.mem_append_left _ z)) (h p), I.hok, I.len⟩
theorem nodup_ix {N : List Str} (hN : N.Nodup) {i j : Nat} {x : Str} (a : N[i]? = some x) (b : N[j]? = some x) : i = j := by
  obtain ⟨h1, e1⟩ := List.getElem?_eq_some_iff.mp a
  obtain ⟨h2, e2⟩ := List.getElem?_eq_some_iff.mp b
  exact (List.getElem_inj hN).mp (e1.trans e2.symm)
theorem store_ok2 {M : Model} {A : Around} {E : Value → Shared → Prop} {i : Nat} {x : Str} {v : V} {u : Value} {Q : Unit → Shared → Prop} (I : Inv X pins σ H s) (hN : X.N.Nodup) (hi : X.N[i]? = some x) (hx : Loc X.env.scope x) (r : RelV v u)
    (h : ∀ s', Inv X pins (σ.set i (some v)) H s' → (∃ a, Heap.SameBut a s.heap s'.heap ∧ (a = X.env.locals ∨ X.env.cells.lookup x = some a)) → Q () s') (hf : X.fn x = true ∨ X.env.scope.names.lookup x = some .local := by first | exact .inl rfl | exact .inr rfl | assumption) : wpAny M A (storeName X.env x u) Q E s := by
  obtain ⟨m, hn, hl⟩ := id I.loc
  have hcls : (X.env.scope.kind == .class || (X.env.scope.kind == .module && X.env.locals != X.env.globals)) = false := by rw [I.ok.kind]; rfl
  have hiσ : i < σ.length := by rw [I.len]; exact (List.getElem?_eq_some_iff.mp hi).1
  have cne := I.cne
  have tracked : ∀ {a : Addr} {h' : Heap}, (∃ o, s.heap.get? a = some o ∧ H a = none) → Heap.SameBut a s.heap h' → HOk X.prog X.w H h' := fun {a h'} ha hs b ob e => by
    obtain ⟨_, _, hfree⟩ := ha
    refine (I.hok b ob e).stay (fun c w' hc q => (hs.2 c ?_).trans q) (fun _ q => q) fun _ _ q => q
    rintro rfl
    rcases hc with rfl | hc
    · rw [hfree] at e; cases e
    · rw [hfree] at hc; cases hc
  rcases hx with hk | hk
  · refine wpAny_storeName_local hk hn (fun h' hn' hs => ?_) hcls
    obtain ⟨oL, _, _, hoL, _⟩ := id hn
    refine h _ ⟨I.ok, I.os, I.bare, ⟨fun b o e n hb hx => ?_, fun b o e n hb hx => ?_, I.base.free, fun b o e hx => ?_, I.base.tups, I.base.frzs, I.base.tbls⟩, ⟨_, hn', fun j y v' e1 e2 e3 => ?_⟩, fun y c e => ?_, I.free, I.freeC, fun p hp => ?_, tracked ⟨oL, hoL, I.free⟩ hs, by simpa using I.len⟩ ⟨_, hs, .inl rfl⟩
    · exact (hs.2 b (Nat.ne_of_lt (Nat.lt_of_lt_of_le (Heap.lt_size e) I.ok.above))).trans (I.base.keep b o e n hb hx)
    · obtain ⟨sl, e1⟩ := I.base.slot b o e n hb hx
      exact ⟨sl, (hs.2 b (Nat.ne_of_lt (Nat.lt_of_lt_of_le (Heap.lt_size e) I.ok.above))).trans e1⟩
    · obtain ⟨o', e1⟩ := I.base.there b o e hx
      exact ⟨o', (hs.2 b (Nat.ne_of_lt (Nat.lt_of_lt_of_le (Heap.lt_size e) I.ok.above))).trans e1⟩
    · by_cases hj : j = i
      · subst hj
        rw [hi] at e1; cases e1
        rw [List.getElem?_set_self hiσ] at e2
        cases e2
        exact ⟨u, r, .inl ⟨hk, by simp⟩⟩
      · rw [List.getElem?_set_ne (Ne.symm hj)] at e2
        obtain ⟨u', r', q⟩ := hl j y v' e1 e2 e3
        refine ⟨u', r', ?_⟩
        rcases q with ⟨k, e⟩ | ⟨k, c, e, z⟩
        · refine .inl ⟨k, ?_⟩
          have : y ≠ x := fun e => hj (nodup_ix hN e1 (e ▸ hi))
          simp [this, e]
        · exact .inr ⟨k, c, e, z.sameBut hs (cne y c e)⟩
    · obtain ⟨w', z⟩ := I.cell y c e
      exact ⟨w', z.sameBut hs (cne y c e)⟩
    · obtain ⟨e, n, ne, nf, d⟩ := I.pin p hp
      exact ⟨(hs.2 p.1 ne).trans e, n, ne, nf, d⟩
  · have hfn : X.fn x = true := by
      rcases hf with z | z
      · exact z
      · rw [z] at hk; cases hk
    obtain ⟨c, hc⟩ := I.ok.has x (.inl hk)
    obtain ⟨w', z⟩ := I.cell x c hc
    refine wpAny_storeName_cell I.ok.kind hk hc z (fun h' hc' hs => ?_)
    obtain ⟨oc, hoc, hocd⟩ := id z
    refine h { s with heap := h' } ⟨I.ok, I.os, I.bare, ⟨fun b o e n hb hx => ?_, fun b o e n hb hx => ?_, I.base.free, fun b o e hx => ?_, I.base.tups, I.base.frzs, I.base.tbls⟩, ⟨m, hn.sameBut hs (Ne.symm (cne x c hc)), fun j y v' e1 e2 e3 => ?_⟩, fun y c' e => ?_, I.free, I.freeC, fun p hp => ?_, tracked ⟨oc, hoc, I.freeC x c hc⟩ hs, by simpa using I.len⟩ ⟨c, hs, .inr hc⟩
    · exact (hs.2 b (Nat.ne_of_lt (Nat.lt_of_lt_of_le (Heap.lt_size e) (I.ok.cab x c hfn hc)))).trans (I.base.keep b o e n hb hx)
    · obtain ⟨sl, e1⟩ := I.base.slot b o e n hb hx
      exact ⟨sl, (hs.2 b (Nat.ne_of_lt (Nat.lt_of_lt_of_le (Heap.lt_size e) (I.ok.cab x c hfn hc)))).trans e1⟩
    · obtain ⟨o', e1⟩ := I.base.there b o e hx
      exact ⟨o', (hs.2 b (Nat.ne_of_lt (Nat.lt_of_lt_of_le (Heap.lt_size e) (I.ok.cab x c hfn hc)))).trans e1⟩
    · by_cases hj : j = i
      · subst hj
        rw [hi] at e1; cases e1
        rw [List.getElem?_set_self hiσ] at e2
        cases e2
        exact ⟨u, r, .inr ⟨.inl hk, c, hc, hc'⟩⟩
      · rw [List.getElem?_set_ne (Ne.symm hj)] at e2
        obtain ⟨u', r', q⟩ := hl j y v' e1 e2 e3
        refine ⟨u', r', ?_⟩
        rcases q with q | ⟨k, c', e, z'⟩
        · exact .inl q
        · refine .inr ⟨k, c', e, z'.sameBut hs ?_⟩
          rintro rfl
          exact hj (nodup_ix hN e1 (I.ok.inj _ _ _ e hc ▸ hi))
    · by_cases hcc : c' = c
      · subst hcc; exact ⟨_, hc'⟩
      · obtain ⟨w2, z2⟩ := I.cell y c' e
        exact ⟨w2, z2.sameBut hs hcc⟩
    · obtain ⟨e, n, ne, nf, d⟩ := I.pin p hp
      refine ⟨(hs.2 p.1 ?_).trans e, n, ne, nf, d⟩
      intro q
      rw [q, hoc] at e
      have q' : oc = p.2 := Option.some.inj e
      exact d w' (by rw [← q']; exact hocd)
theorem store_ok {M : Model} {A : Around} {E : Value → Shared → Prop} {i : Nat} {x : Str} {v : V} {u : Value} {Q : Unit → Shared → Prop} (I : Inv X pins σ H s) (hN : X.N.Nodup) (hi : X.N[i]? = some x) (hx : Loc X.env.scope x) (r : RelV v u)
    (h : ∀ s', Inv X pins (σ.set i (some v)) H s' → Q () s') (hf : X.fn x = true ∨ X.env.scope.names.lookup x = some .local := by first | exact .inl rfl | exact .inr rfl | assumption) : wpAny M A (storeName X.env x u) Q E s :=
  store_ok2 I hN hi hx r (fun s' I' _ => h s' I') hf
theorem Inv.call' {s' : Shared} {ch : List Addr} (I : Inv X pins σ H s) (ho : s'.os = s.os) (u : Un (frs X.stack) ch H H' s.heap s'.heap) (hok : HOk X.prog X.w H' s'.heap) (hg : AllBare s'.gens)
    (hch : ∀ b ∈ ch, (b ∈ X.ex ∨ X.s₀.heap.objs.size ≤ b) ∧ b ≠ X.env.locals ∧ (∀ x c, X.env.cells.lookup x = some c → c ≠ b) ∧ ∀ p ∈ X.pn ++ pins, p.1 ≠ b) : Inv X pins σ H' s' := by
  obtain ⟨h', g', d', t', o'⟩ := s'
  have e : o' = s.os := ho
  subst e
  exact I.call (g' := g') (t' := t') (d' := d') u hok hg hch
end
noncomputable abbrev XK := Value → Option Addr → Hp → Prop
noncomputable abbrev St := List (Option V)
noncomputable abbrev VK := V → Hp → Prop
noncomputable abbrev TE := St → Hp → VK → Prop
noncomputable abbrev TT := St → Hp → (Bool → Hp → Prop) → Prop
noncomputable abbrev TA := St → Hp → (List V → Hp → Prop) → Prop
structure Ends where
  nx : St → Hp → Prop
  rt : VK
  bk : St → Hp → Prop := fun _ _ => False
  ct : St → Hp → Prop := fun _ _ => False
noncomputable abbrev TS := Ends → St → Hp → Prop
noncomputable def EP (X : Cx) (pins : List (Addr × Obj)) (σ : St) (Q : VK) (u : Value) (s' : Shared) : Prop := ∃ v H', Inv X pins σ H' s' ∧ RelV v u ∧ Q v H'
noncomputable def TP (X : Cx) (pins : List (Addr × Obj)) (σ : St) (Q : Bool → Hp → Prop) (b : Bool) (s' : Shared) : Prop := ∃ H', Inv X pins σ H' s' ∧ Q b H'
noncomputable def AP (X : Cx) (pins : List (Addr × Obj)) (σ : St) (Q : List V → Hp → Prop) (us : List Value) (s' : Shared) : Prop := ∃ vs H', Inv X pins σ H' s' ∧ Vals vs us ∧ Q vs H'
noncomputable def SP (X : Cx) (pins : List (Addr × Obj)) (D : Ends) (f : Flow) (s' : Shared) : Prop :=
  match f with
  | .next => ∃ σ' H', Inv X pins σ' H' s' ∧ D.nx σ' H'
  | .brk => ∃ σ' H', Inv X pins σ' H' s' ∧ D.bk σ' H'
  | .cont => ∃ σ' H', Inv X pins σ' H' s' ∧ D.ct σ' H'
  | .ret u => ∃ v σ' H', Inv X pins σ' H' s' ∧ RelV v u ∧ D.rt v H'
noncomputable def PE (X : Cx) (e : Expr) (t : TE) : Prop :=
  ∀ (pins : List (Addr × Obj)) (s : Shared) (σ : St) (H : Hp) (Q : VK), Inv X pins σ H s → t σ H Q → wpAny (model X.prog X.w) X.A (eval e X.env) (EP X pins σ Q) X.xe s
noncomputable def PT (X : Cx) (e : Expr) (t : TT) : Prop :=
  ∀ (pins : List (Addr × Obj)) (s : Shared) (σ : St) (H : Hp) (Q : Bool → Hp → Prop), Inv X pins σ H s → t σ H Q → wpAny (model X.prog X.w) X.A (isTrue e X.env (eval e X.env)) (TP X pins σ Q) X.xe s
noncomputable def PW (X : Cx) (e : Expr) (t : TT) : Prop :=
  ∀ (whole : Sem Value) (pins : List (Addr × Obj)) (s : Shared) (σ : St) (H : Hp) (Q : Bool → Hp → Prop), Inv X pins σ H s → t σ H Q → wpAny (model X.prog X.w) X.A (isTrue e X.env whole) (TP X pins σ Q) X.xe s
theorem PW.pt {X : Cx} {e : Expr} {t : TT} (h : PW X e t) : PT X e t := h _
noncomputable def PA (X : Cx) (es : List Expr) (t : TA) : Prop :=
  ∀ (pos : Pos) (pins : List (Addr × Obj)) (s : Shared) (σ : St) (H : Hp) (Q : List V → Hp → Prop), Inv X pins σ H s → t σ H Q → wpAny (model X.prog X.w) X.A (spliced (backTo pos (starEach es X.env))) (AP X pins σ Q) X.xe s
noncomputable def PS (X : Cx) (st : Stmt) (t : TS) : Prop :=
  ∀ (pins : List (Addr × Obj)) (s : Shared) (σ : St) (H : Hp) (D : Ends), Inv X pins σ H s → t D σ H → wpAny (model X.prog X.w) X.A (exec st X.env) (SP X pins D) X.xe s
noncomputable def PSs (X : Cx) (st : List Stmt) (t : TS) : Prop :=
  ∀ (pins : List (Addr × Obj)) (s : Shared) (σ : St) (H : Hp) (D : Ends), Inv X pins σ H s → t D σ H → wpAny (model X.prog X.w) X.A (execs st X.env) (SP X pins D) X.xe s
theorem thn {α : Type} {t : Sem α} {Q Q' : α → Shared → Prop} {M : Model} {A : Around} {E : Value → Shared → Prop} {s : Shared} (h : wpAny M A t Q E s) (hQ : ∀ a s, Q a s → Q' a s) : wpAny M A t Q' E s := wpAny_mono h hQ fun _ _ x => x
end L2
namespace L2
open PySem PySem.Spec PyProof.Rows
section
variable {X : Cx}
noncomputable def tVar (i : Nat) : TE := fun σ H Q => ∃ v, σ[i]? = some (some v) ∧ Q v H
noncomputable def tC (v : V) : TE := fun _ H Q => Q v H
theorem pe_var {i : Nat} {x : Str} {pos : Pos} (hN : X.N[i]? = some x) (hv : Vis X.env.scope x) (hd : (x == ("__debug__" : Str)) = false := by decide) (hcd : (x == ("__classdict__" : Str)) = false := by decide) : PE X (.Name x pos) (tVar i) := by
  intro pins s σ H Q I h
  obtain ⟨v, e, h⟩ := h
  obtain ⟨m, hn, hl⟩ := I.loc
  obtain ⟨u, r, l⟩ := hl i x v hN e hv
  have fin : EP X pins σ Q u s := ⟨v, H, I, r, h⟩
  rcases l with ⟨hk, hm⟩ | ⟨hk, c, hc, hcell⟩
  · exact wpAny_Name (wpAny_loadName_local I.ok.kind hk hn hm fin) hd
  · rcases hk with hk | hk
    · exact wpAny_Name (wpAny_loadName_cell I.ok.kind hk hc hcell fin) hd
    · exact wpAny_Name (wpAny_loadName_free I.ok.kind hk hc hcell fin hcd) hd
theorem pe_int {i j pos} : PE X (.Constant (.int i) j pos) (tC (.int i)) := fun _ _ _ H _ I h => wpAny_Constant_int ⟨.int i, H, I.tok _, ⟨_, rfl⟩, h⟩
theorem pe_bl {b j pos} : PE X (.Constant (.bool b) j pos) (tC (.bl b)) := fun _ _ _ H _ I h => Constant_bool ⟨.bl b, H, I, rfl, h⟩
theorem pe_str {x j pos} : PE X (.Constant (.str x) j pos) (tC (.str x)) := fun _ _ _ H _ I h => Calls.Constant_str ⟨.str x, H, I.tok _, ⟨_, rfl⟩, h⟩
noncomputable def Gl (X : Cx) (x : Str) : Prop := X.env.kindOf x = some .globalImplicit
theorem ld_glob {E : Value → Shared → Prop} {pins : List (Addr × Obj)} {s : Shared} {σ : St} {H : Hp} {x : Str} {u : Value} {pos : Pos} {Q : Value → Shared → Prop} (I : Inv X pins σ H s) (hg : Gl X x) (hm : X.mg x = some u) (h : Q u s)
    (hd : (x == ("__debug__" : Str)) = false := by decide) : wpAny (model X.prog X.w) X.A (eval (.Name x pos) X.env) Q E s :=
  Calls.Name_function_global I.ok.kind hg (Calls.loadGlobal_global (by rw [I.ok.glob]; exact I.mod.glob.keeps I.bk) hm h) hd
theorem ld_blt {E : Value → Shared → Prop} {pins : List (Addr × Obj)} {s : Shared} {σ : St} {H : Hp} {x : Str} {u : Value} {pos : Pos} {Q : Value → Shared → Prop} (I : Inv X pins σ H s) (hg : Gl X x) (hm : X.mg x = none) (hv : bootBuiltins x = some u) (h : Q u s)
    (hn : x ≠ "__name__" := by decide) (hd : (x == ("__debug__" : Str)) = false := by decide) : wpAny (model X.prog X.w) X.A (eval (.Name x pos) X.env) Q E s := by
  obtain ⟨mb, h1, h2⟩ := I.mod.blt
  exact Calls.Name_function_global I.ok.kind hg (Calls.loadGlobal_builtin (by rw [I.ok.glob]; exact I.mod.glob.keeps I.bk) hm (by rw [I.ok.blt]; exact h1.keeps I.bk) ((h2 x hn).trans hv) h) hd
theorem pe_glob {x : Str} {v : V} {u : Value} {pos : Pos} (hg : Gl X x) (hm : X.mg x = some u) (r : RelV v u) (hd : (x == ("__debug__" : Str)) = false := by decide) : PE X (.Name x pos) (tC v) :=
  fun _ _ _ H _ I h => ld_glob I hg hm ⟨v, H, I, r, h⟩ hd
theorem pe_bltn {x : Str} {v : V} {u : Value} {pos : Pos} (hg : Gl X x) (hm : X.mg x = none) (hv : bootBuiltins x = some u) (r : RelV v u) (hn : x ≠ "__name__" := by decide) (hd : (x == ("__debug__" : Str)) = false := by decide) : PE X (.Name x pos) (tC v) :=
  fun _ _ _ H _ I h => ld_blt I hg hm hv ⟨v, H, I, r, h⟩ hn hd
variable {a b : Expr} {ta tb : TE} {pos : Pos}
noncomputable def tB (t : TE) : TT := fun σ H Q => t σ H fun x H1 => ∃ c, x = .bl c ∧ Q c H1
theorem pt_val {e : Expr} {t : TE} (h : PE X e t) (he : ∀ whole, isTrue e X.env whole = (do let v ← whole; standAt e.pos; holding [v] (truthy v)) := by intro _; rfl) : PT X e (tB t) := by
  intro pins s σ H Q I hw
  refine isTrue_plain (thn (h pins s σ H _ I hw) fun v s1 ⟨x, H1, I1, r1, q1⟩ => ?_) (he _)
  obtain ⟨d, rfl, q⟩ := q1
  cases r1
  exact wpAny_truthy_bool ⟨H1, I1, q⟩
variable {tA tB' : TT} {rest : List Expr}
noncomputable def tAnd (t u : TT) : TT := fun σ H Q => t σ H fun c H1 => if c = true then u σ H1 Q else Q false H1
noncomputable def tOr (t u : TT) : TT := fun σ H Q => t σ H fun c H1 => if c = true then Q true H1 else u σ H1 Q
noncomputable def tNot (t : TT) : TT := fun σ H Q => t σ H fun c H1 => Q (!c) H1
theorem pw_and1 (ha : PT X a tA) : PW X (.BoolOp .And [a] pos) tA := by
  intro wh pins s σ H Q I h
  refine isTrue_and (thn (ha pins s σ H Q I h) fun c s1 e => ?_)
  cases c with
  | true => exact isTrue_and_nil e
  | false => exact e
theorem pw_or1 (ha : PT X a tA) : PW X (.BoolOp .Or [a] pos) tA := by
  intro wh pins s σ H Q I h
  refine isTrue_or (thn (ha pins s σ H Q I h) fun c s1 e => ?_)
  cases c with
  | false => exact isTrue_or_nil e
  | true => exact e
theorem pw_and (ha : PT X a tA) (hb : PW X (.BoolOp .And (b :: rest) pos) tB') : PW X (.BoolOp .And (a :: b :: rest) pos) (tAnd tA tB') := by
  intro wh pins s σ H Q I h
  refine isTrue_and (thn (ha pins s σ H _ I h) fun c s1 ⟨H1, I1, q1⟩ => ?_)
  cases c with
  | true => exact hb wh pins s1 σ H1 Q I1 q1
  | false => exact ⟨H1, I1, q1⟩
theorem pw_or (ha : PT X a tA) (hb : PW X (.BoolOp .Or (b :: rest) pos) tB') : PW X (.BoolOp .Or (a :: b :: rest) pos) (tOr tA tB') := by
  intro wh pins s σ H Q I h
  refine isTrue_or (thn (ha pins s σ H _ I h) fun c s1 ⟨H1, I1, q1⟩ => ?_)
  cases c with
  | true => exact ⟨H1, I1, q1⟩
  | false => exact hb wh pins s1 σ H1 Q I1 q1
theorem pt_not (ha : PT X a tA) : PT X (.UnaryOp .Not a pos) (tNot tA) := by
  intro pins s σ H Q I h
  exact isTrue_not (ha pins s σ H (fun c H1 => Q (!c) H1) I h)
noncomputable def tIf (t : TT) (ta tb : TE) : TE := fun σ H Q => t σ H fun c H1 => if c = true then ta σ H1 Q else tb σ H1 Q
theorem pe_ifExp {c : Expr} (hc : PT X c tA) (ha : PE X a ta) (hb : PE X b tb) : PE X (.IfExp c a b pos) (tIf tA ta tb) := by
  intro pins s σ H Q I h
  refine wpAny_IfExp (thn (hc pins s σ H _ I h) fun d s1 ⟨H1, I1, q1⟩ => ?_)
  cases d with
  | true => exact ha pins s1 σ H1 Q I1 q1
  | false => exact hb pins s1 σ H1 Q I1 q1
end
end L2
namespace L2
open PySem PySem.Spec PyProof.Rows
noncomputable def SqL (K : PySem.W.Frag) (H : Hp) (a : Addr) (xs : List V) : Prop :=
  Rd H a (.lst xs) ∨
    ∃ (o : Obj) (its : Array Value) (n : Nat), K.lookup a = some o ∧ o.cls = .type "list" ∧ o.dict = none ∧ o.data = .seq its n ∧ its.size ≤ sizeLine ∧ Vals xs its.toList
noncomputable def SqT (K : PySem.W.Frag) (H : Hp) (a : Addr) (xs : List V) : Prop :=
  Rd H a (.tup xs) ∨
    ∃ (o : Obj) (its : Array Value) (n : Nat), K.lookup a = some o ∧ o.cls = .type "tuple" ∧ o.data = .seq its n ∧ its.size ≤ sizeLine ∧ Vals xs its.toList
noncomputable def absV : Value → Option V
  | .none => some .non
  | .bool b => some (.bl b)
  | .int i _ => some (.int i)
  | .str x _ => some (.str x)
  | .bytes b _ => some (.byt b)
  | .float b _ => some (.flt b)
  | .ref a => some (.ref a)
  | .type n => some (.ty n)
  | _ => none
theorem RelV.abs {x : V} {u : Value} (r : RelV x u) : absV u = some x := by
  cases x with
  | non => cases r; rfl
  | bl _ => cases r; rfl
  | int _ => obtain ⟨t, rfl⟩ := r; rfl
  | str _ => obtain ⟨t, rfl⟩ := r; rfl
  | byt _ => obtain ⟨t, rfl⟩ := r; rfl
  | flt _ => obtain ⟨t, rfl⟩ := r; rfl
  | ref _ => cases r; rfl
  | ty _ => cases r; rfl
theorem RelV.inj {x y : V} {u : Value} (r : RelV x u) (q : RelV y u) : x = y := Option.some.inj (r.abs.symm.trans q.abs)
theorem Vals.inj : ∀ {xs ys : List V} {us : List Value}, Vals xs us → Vals ys us → xs = ys
  | _, _, _, .nil, .nil => rfl
  | _, _, _, .cons r t, .cons r' t' => by rw [r.inj r', Vals.inj t t']
section
variable {X : Cx} {pins : List (Addr × Obj)} {σ : St} {H : Hp} {s : Shared} {a : Addr} {xs ys : List V}
theorem SqL.of {K : PySem.W.Frag} (h : H a = some (.lst xs)) : SqL K H a xs := .inl (.inl h)
theorem SqT.of {K : PySem.W.Frag} (h : H a = some (.tup xs)) : SqT K H a xs := .inl (.inl h)
theorem Inv.list (I : Inv X pins σ H s) (h : SqL X.K H a xs) : ∃ its : List Value, Vals xs its ∧ PlainL s.heap a its.toArray ∧ xs.length ≤ sizeLine := by
  rcases h with h | ⟨o, its, n, hk, hc, hd, hs, hz, r⟩
  · obtain ⟨z, its, n, r, e⟩ := h.ok I.hok
    exact ⟨its, r, ⟨_, n, e, rfl, rfl, rfl⟩, z⟩
  · refine ⟨its.toList, r, ⟨o, n, I.kIn a o hk, hc, hd, by simpa using hs⟩, ?_⟩
    have e := r.length
    simp only [Array.length_toList] at e
    omega
theorem Inv.tuple (I : Inv X pins σ H s) (h : SqT X.K H a xs) : ∃ its : List Value, Vals xs its ∧ IsTup s.heap a its.toArray ∧ xs.length ≤ sizeLine := by
  rcases h with h | ⟨o, its, n, hk, hc, hs, hz, r⟩
  · obtain ⟨z, its, r, p⟩ := h.ok I.hok
    exact ⟨its, r, p, z⟩
  · refine ⟨its.toList, r, ⟨o, I.kIn a o hk, hc, n, by simpa using hs⟩, ?_⟩
    have e := r.length
    simp only [Array.length_toList] at e
    omega
theorem Inv.list_inj (I : Inv X pins σ H s) (h : SqL X.K H a xs) (h' : SqL X.K H a ys) : xs = ys := by
  obtain ⟨its, r, ⟨o, n, e, _, _, d⟩, _⟩ := I.list h
  obtain ⟨its', r', ⟨o', n', e', _, _, d'⟩, _⟩ := I.list h'
  rw [e] at e'; cases e'
  rw [d] at d'
  injection d' with d1 _
  have : its = its' := by simpa using congrArg Array.toList d1
  subst this
  exact r.inj r'
theorem Inv.tuple_inj (I : Inv X pins σ H s) (h : SqT X.K H a xs) (h' : SqT X.K H a ys) : xs = ys := by
  obtain ⟨its, r, ⟨o, e, _, n, d⟩, _⟩ := I.tuple h
  obtain ⟨its', r', ⟨o', e', _, n', d'⟩, _⟩ := I.tuple h'
  rw [e] at e'; cases e'
  rw [d] at d'
  injection d' with d1 _
  have : its = its' := by simpa using congrArg Array.toList d1
  subst this
  exact r.inj r'
end
noncomputable abbrev Cx.wish (X : Cx) (E : Value → Shared → Prop) : Cx := { X with xe := E }
noncomputable abbrev Cx.nox (X : Cx) : Cx := X.wish fun _ _ => False
theorem Cx.Ok.wish {X : Cx} (ok : X.Ok) (E : Value → Shared → Prop) : (X.wish E).Ok :=
  ⟨ok.mod, ok.kind, ok.glob, ok.blt, ok.above, ok.inj, ok.has, ok.cab, ok.hd, ok.frames, ok.stk, ok.exf, ok.bs, ok.bsz, ok.noex, ok.exfs, ok.funs, ok.frf⟩
theorem Cx.Ok.unwish {X : Cx} {E : Value → Shared → Prop} (ok : (X.wish E).Ok) : X.Ok :=
  ⟨ok.mod, ok.kind, ok.glob, ok.blt, ok.above, ok.inj, ok.has, ok.cab, ok.hd, ok.frames, ok.stk, ok.exf, ok.bs, ok.bsz, ok.noex, ok.exfs, ok.funs, ok.frf⟩
section
variable {X : Cx} {pins : List (Addr × Obj)} {σ : St} {H : Hp} {s : Shared} {E : Value → Shared → Prop}
theorem Inv.wish (I : Inv X pins σ H s) (E : Value → Shared → Prop) : Inv (X.wish E) pins σ H s := ⟨I.ok.wish E, I.os, I.bare, I.base, I.loc, I.cell, I.free, I.freeC, I.pin, I.hok, I.len⟩
theorem Inv.unwish (I : Inv (X.wish E) pins σ H s) : Inv X pins σ H s := ⟨I.ok.unwish, I.os, I.bare, I.base, I.loc, I.cell, I.free, I.freeC, I.pin, I.hok, I.len⟩
theorem SP.unwish {D : Ends} {f : Flow} {s' : Shared} (h : SP (X.wish E) pins D f s') : SP X pins D f s' := by
  cases f with
  | next => obtain ⟨σ', H', I, q⟩ := h; exact ⟨σ', H', I.unwish, q⟩
  | brk => obtain ⟨σ', H', I, q⟩ := h; exact ⟨σ', H', I.unwish, q⟩
  | cont => obtain ⟨σ', H', I, q⟩ := h; exact ⟨σ', H', I.unwish, q⟩
  | ret u => obtain ⟨v, σ', H', I, r, q⟩ := h; exact ⟨v, σ', H', I.unwish, r, q⟩
theorem PSs.nox {st : List Stmt} {t : TS} (h : PSs X.nox st t) : PSs X st t := fun pins s σ H D I hw =>
  wpAny_mono (h pins s σ H D (I.wish _) hw) (fun _ _ q => q.unwish) fun _ _ z => False.elim z
end
section
variable {X : Cx} {st : Stmt} {rest : List Stmt} {t u : TS} {e : Expr} {te : TE} {pos : Pos}
noncomputable def tNext : TS := fun D σ H => D.nx σ H
noncomputable def tSeq (t u : TS) : TS := fun D σ H => t { D with nx := u D } σ H
theorem pss_nil : PSs X [] tNext := fun _ _ σ H _ I h => wpAny_execs_nil ⟨σ, H, I, h⟩
theorem pss_cons (h1 : PS X st t) (h2 : PSs X rest u) : PSs X (st :: rest) (tSeq t u) := by
  intro pins s σ H D I h
  refine wpAny_execs_cons (thn (h1 pins s σ H { D with nx := u D } I h) fun f s1 q => ?_)
  cases f with
  | next =>
    obtain ⟨σ', H', I', q⟩ := q
    exact h2 pins s1 σ' H' D I' q
  | ret v => exact q
  | brk => exact q
  | cont => exact q
theorem pss_one (h1 : PS X st t) : PSs X [st] t := by
  intro pins s σ H D I h
  refine wpAny_execs_cons (thn (h1 pins s σ H D I h) fun f s1 q => ?_)
  cases f with
  | next => exact wpAny_execs_nil q
  | ret v => exact q
  | brk => exact q
  | cont => exact q
theorem Inv.quiet {pins : List (Addr × Obj)} {σ : St} {H : Hp} {s : Shared} (I : Inv X pins σ H s) : interactive X.env = false := by simp [interactive, I.ok.kind]
noncomputable def tDrop (te : TE) : TS := fun D σ H => te σ H fun _ H1 => D.nx σ H1
theorem ps_expr (he : PE X e te) (hs : swapsWith e none pos.line X.env = pure false := by rfl) : PS X (.Expr e pos) (tDrop te) := by
  intro pins s σ H D I h
  exact wpAny_Expr_any (thn (he pins s σ H _ I h) fun v s1 ⟨x, H1, I1, r1, q1⟩ => ⟨σ, H1, I1, q1⟩) I.quiet hs
noncomputable def tRet (te : TE) : TS := fun D σ H => te σ H D.rt
theorem ps_ret (he : PE X e te) : PS X (.Return (some e) pos) (tRet te) := by
  intro pins s σ H D I h
  exact wpAny_Return_some (thn (he pins s σ H _ I h) fun v s1 ⟨x, H1, I1, r1, q1⟩ => ⟨x, σ, H1, I1, r1, q1⟩)
noncomputable def tIfS (c : TT) (t u : TS) : TS := fun D σ H => c σ H fun b H1 => if b = true then t D σ H1 else u D σ H1
theorem ps_if {c : Expr} {a b : List Stmt} {tc : TT} (hc : PT X c tc) (ha : PSs X a t) (hb : PSs X b u) : PS X (.If c a b pos) (tIfS tc t u) := by
  intro pins s σ H D I h
  refine wpAny_If (thn (hc pins s σ H _ I h) fun d s1 ⟨H1, I1, q1⟩ => ?_)
  cases d with
  | true => exact ha pins s1 σ H1 D I1 q1
  | false => exact hb pins s1 σ H1 D I1 q1
noncomputable def tNever : TS := fun _ _ _ => False
theorem ps_never : PS X st tNever := fun _ _ _ _ _ _ h => h.elim
end
noncomputable abbrev TG := V → St → Hp → (St → Hp → Prop) → Prop
noncomputable abbrev TGs := List V → St → Hp → (St → Hp → Prop) → Prop
noncomputable def PG (X : Cx) (target : Expr) (t : TG) : Prop :=
  ∀ (pins : List (Addr × Obj)) (s : Shared) (σ : St) (H : Hp) (v : V) (u : Value) (Q : St → Hp → Prop), Inv X pins σ H s → RelV v u → t v σ H Q →
    wpAny (model X.prog X.w) X.A (assign target X.env u) (fun _ s' => ∃ σ' H', Inv X pins σ' H' s' ∧ Q σ' H') X.xe s
noncomputable def PGs (X : Cx) (ts : List Expr) (t : TGs) : Prop :=
  ∀ (pins : List (Addr × Obj)) (s : Shared) (σ : St) (H : Hp) (vs : List V) (us : List Value) (Q : St → Hp → Prop), Inv X pins σ H s → Vals vs us → t vs σ H Q →
    wpAny (model X.prog X.w) X.A (assignInOrder ((assignEach ts X.env).map (·.2)) us) (fun _ s' => ∃ σ' H', Inv X pins σ' H' s' ∧ Q σ' H') X.xe s
noncomputable abbrev TSet := V → V → V → Hp → (Hp → Prop) → Prop
noncomputable def PSet (X : Cx) (t : TSet) : Prop :=
  ∀ (pins : List (Addr × Obj)) (s : Shared) (σ : St) (H : Hp) (o i v : V) (ov iv u : Value) (Q : Hp → Prop), Inv X pins σ H s → RelV o ov → RelV i iv → RelV v u → t o i v H Q →
    wpAny (model X.prog X.w) X.A (setItem ov iv u) (fun _ s' => ∃ H', Inv X pins σ H' s' ∧ Q H') X.xe s
section
variable {X : Cx} {pos : Pos}
noncomputable def gName (i : Nat) : TG := fun v σ H Q => Q (σ.set i (some v)) H
theorem pg_name {i : Nat} {x : Str} (hN : X.N.Nodup) (hi : X.N[i]? = some x) (hx : Loc X.env.scope x) (hf : X.fn x = true ∨ X.env.scope.names.lookup x = some .local := by first | exact .inl rfl | exact .inr rfl | assumption) : PG X (.Name x pos) (gName i) := by
  intro pins s σ H v u Q I r h
  exact wpAny_assign_Name (store_ok I hN hi hx r (fun s' I' => ⟨_, H, I', h⟩) hf)
noncomputable def gNil : TGs := fun vs σ H Q => vs = [] ∧ Q σ H
noncomputable def gCons (t : TG) (u : TGs) : TGs := fun vs σ H Q => ∃ v r, vs = v :: r ∧ t v σ H fun σ' H' => u r σ' H' Q
theorem pgs_nil : PGs X [] gNil := by
  intro pins s σ H vs us Q I r h
  obtain ⟨e, h⟩ := h
  subst e
  cases r
  exact assignInOrder_nil ⟨σ, H, I, h⟩
theorem pgs_cons {e : Expr} {es : List Expr} {t : TG} {u : TGs} (h1 : PG X e t) (h2 : PGs X es u)
    (hs : (assignEach (e :: es) X.env).map (·.2) = assign e X.env :: (assignEach es X.env).map (·.2) := by rfl) : PGs X (e :: es) (gCons t u) := by
  intro pins s σ H vs us Q I r h
  obtain ⟨v, vr, e1, h⟩ := h
  subst e1
  cases r with
  | cons r rr =>
    rw [hs]
    refine assignInOrder_cons (thn (h1 pins s σ H _ _ _ I r h) fun _ s1 ⟨σ1, H1, I1, q1⟩ => ?_)
    exact h2 pins s1 σ1 H1 _ _ Q I1 rr q1
noncomputable def gTup (K : PySem.W.Frag) (n : Nat) (t : TGs) : TG := fun v σ H Q => ∃ a xs, v = .ref a ∧ SqT K H a xs ∧ xs.length = n ∧ t xs σ H Q
theorem pg_tup {es : List Expr} {k : Nat} {t : TGs} {n : Nat} (hc : X.calm = true) (h : PGs X es t)
    (hn : (assignEach es X.env).length = n := by rfl) (hst : (assignEach es X.env).findIdx? (·.1) = none := by rfl) : PG X (.Tuple es k pos) (gTup X.K n t) := by
  intro pins s σ H v u Q I r hw
  obtain ⟨a, xs, e1, hq, hl, hw⟩ := hw
  subst e1
  cases r
  obtain ⟨its, rv, ht, hz⟩ := I.tuple hq
  refine assign_Tuple_tuple (I.ok.hd hc) ht (by simp [hn, ← hl, rv.length]) hst fun h' hx => ?_
  have I1 : Inv X pins σ H { s with heap := h' } := I.kept (t' := s.toks) fun b o e => hx b o (Nat.ne_of_lt (Heap.lt_size e)) e
  exact h pins _ σ H xs _ Q I1 (by simpa using rv) hw
noncomputable def gSub (to ti : TE) (t : TSet) : TG := fun v σ H Q => to σ H fun o H1 => ti σ H1 fun i H2 => t o i v H2 fun H3 => Q σ H3
theorem pg_sub {o i : Expr} {to ti : TE} {t : TSet} (ho : PE X o to) (hi : PE X i ti) (hs : PSet X t)
    (ha : ∀ v, assign (.Subscript o i pos) X.env v = (do
      let ov ← holding [v] (eval o X.env)
      let iv ← holding [v, ov] (eval i X.env)
      standAt pos
      holding [v, ov, iv] (setItem ov iv v)
      release [v, ov, iv] []) := by intro _; rfl) : PG X (.Subscript o i pos) (gSub to ti t) := by
  intro pins s σ H v u Q I r h
  rw [ha]
  refine wpAny_bind (wpAny_holding (thn (ho pins s σ H _ I h) fun ov s1 ⟨x, H1, I1, r1, q1⟩ => ?_))
  refine wpAny_bind (wpAny_holding (thn (hi pins s1 σ H1 _ I1 q1) fun iv s2 ⟨y, H2, I2, r2, q2⟩ => ?_))
  refine wpAny_bind (wpAny_standAt (wpAny_bind (wpAny_holding (thn (hs pins s2 σ H2 x y v ov iv u _ I2 r1 r2 r q2) fun _ s3 ⟨H3, I3, q3⟩ => ?_))))
  exact wpAny_release ⟨σ, H3, I3, q3⟩
noncomputable def tAsg (te : TE) (g : TG) : TS := fun D σ H => te σ H fun x H1 => g x σ H1 D.nx
theorem ps_asg {tg e : Expr} {te : TE} {g : TG} (he : PE X e te) (hg : PG X tg g) (hs : swapsWithSole [tg] e pos.line X.env = pure false := by rfl) (hw : swappedStores [tg] e X.env = pure none := by rfl)
    (h1 : (assignEach [tg] X.env).map (·.2) = [assign tg X.env] := by rfl) : PS X (.Assign [tg] e pos) (tAsg te g) := by
  intro pins s σ H D I h
  refine wpAny_Assign_stores (thn (he pins s σ H _ I h) fun v s1 ⟨x, H1, I1, r1, q1⟩ => ?_) hs hw
  rw [h1]
  exact thn (hg pins s1 σ H1 x v _ I1 r1 q1) fun _ s2 q => q
theorem ps_set {i : Nat} {x : Str} {e : Expr} {te : TE} {pos' : Pos} (hN : X.N.Nodup) (hi : X.N[i]? = some x) (hx : Loc X.env.scope x) (he : PE X e te) (hs : swapsWith e (some (.Name x pos')) pos.line X.env = pure false := by rfl) (hf : X.fn x = true ∨ X.env.scope.names.lookup x = some .local := by first | exact .inl rfl | exact .inr rfl | assumption) :
    PS X (.Assign [.Name x pos'] e pos) (tAsg te (gName i)) := by
  intro pins s σ H D I h
  refine wpAny_Assign_Name (thn (he pins s σ H _ I h) fun v s1 ⟨y, H1, I1, r1, q1⟩ => ?_) hs
  exact store_ok I1 hN hi hx r1 (fun s2 I2 => ⟨_, H1, I2, q1⟩) hf
noncomputable def tPar (i j : Nat) (ta : TA) : TS := fun D σ H => ta σ H fun vs H1 => ∃ v w, vs = [v, w] ∧ D.nx ((σ.set i (some v)).set j (some w)) H1
theorem ps_par {i j : Nat} {x y : Str} {a b : Expr} {ta : TA} {px py pt : Pos} {kt k2 pt2} (hc : X.calm = true) (hN : X.N.Nodup) (hi : X.N[i]? = some x) (hj : X.N[j]? = some y) (hij : i ≠ j)
    (hx : X.env.scope.names.lookup x = some .local) (hy : X.env.scope.names.lookup y = some .local) (ha : PA X [a, b] ta)
    (hw : swappedStores [.Tuple [.Name x px, .Name y py] kt pt] (.Tuple [a, b] k2 pt2) X.env = pure (some [x, y]))
    (hs : swapsWithSole [.Tuple [.Name x px, .Name y py] kt pt] (.Tuple [a, b] k2 pt2) pos.line X.env = pure false := by rfl) :
    PS X (.Assign [.Tuple [.Name x px, .Name y py] kt pt] (.Tuple [a, b] k2 pt2) pos) (tPar i j ta) := by
  intro pins s σ H D I h
  rw [exec_Assign_arm]
  refine wpAny_bind (wpAny_standAt ?_)
  rw [hs]
  refine wpAny_bind (wpAny_pure ?_)
  rw [if_neg (by decide)]
  refine wpAny_bind (Tuple_ (thn (ha _ pins s σ H _ I h) fun us s1 ⟨vs, H1, I1, r1, q1⟩ => ?_))
  obtain ⟨v, w, e1, q1⟩ := q1
  subst e1
  obtain ⟨u1, u2, rfl, rv, rw'⟩ : ∃ u1 u2, us = [u1, u2] ∧ RelV v u1 ∧ RelV w u2 := by
    cases r1 with
    | cons p q =>
      cases q with
      | cons p' q' =>
        cases q'
        exact ⟨_, _, rfl, p, p'⟩
  refine wpAny_newObj_type ?_ (by show 2 ≤ sizeLine; decide)
  have I2 : Inv X pins σ H1 { s1 with heap := s1.heap.push { cls := .type "tuple", data := .seq [u1, u2].toArray } } := I1.kept (t' := s1.toks) fun b o e => Heap.get?_push_of_some _ e
  rw [hw]
  refine wpAny_bind (wpAny_pure ?_)
  show wpAny (model X.prog X.w) X.A (do rule "assign.swapped-stores"; let items ← unpackItems (.ref s1.heap.objs.size) 2 none; assignInOrder [fun v => bindName X.env y v, fun v => bindName X.env x v] items.reverse; pure Flow.next) _ _ _
  refine wpAny_bind (wpAny_rule (wpAny_bind (unpackItems_tuple (items := #[u1, u2]) (I.ok.hd hc) (IsTup.new s1.heap _) fun h' hx' => ?_)))
  have I3 := I2.kept (h' := h') (t' := s1.toks) fun b o e => hx' b o (Nat.ne_of_lt (Heap.lt_size e)) e
  show wpAny _ _ (assignInOrder [fun v => bindName X.env y v, fun v => bindName X.env x v] [u2, u1] >>= fun _ => pure Flow.next) _ _ _
  refine wpAny_bind (assignInOrder_cons (wpAny_bindName (store_ok I3 hN hj (.inl hy) rw' (fun s2 I4 => ?_) (.inr hy))))
  refine assignInOrder_cons (wpAny_bindName (store_ok I4 hN hi (.inl hx) rv (fun s3 I5 => assignInOrder_nil (wpAny_pure ?_)) (.inr hx)))
  rw [List.set_comm _ _ (Ne.symm hij)] at I5
  exact ⟨_, H1, I5, q1⟩
end
section
variable {X : Cx} {pos : Pos}
noncomputable def tWhile (c : TT) (tb : TS) : TS := fun D σ H => ∃ W : Nat → St → Hp → Prop, (∃ m, W m σ H) ∧ ∀ m σ H, W m σ H →
  c σ H fun b H1 => if b = true then ∃ N : St → Hp → Prop, (∀ σ' H', N σ' H' → ∃ m', m' < m ∧ W m' σ' H') ∧ tb { D with nx := N, ct := N, bk := D.nx } σ H1 else D.nx σ H1
theorem ps_while {c : Expr} {body : List Stmt} {tc : TT} {tb : TS} (hp : PassesOwn (model X.prog X.w) X.A X.env X.xe) (hc : PT X c tc) (hb : PSs X body tb) : PS X (.While c body [] pos) (tWhile tc tb) := by
  intro pins s σ H D I h
  obtain ⟨W, ⟨m0, w0⟩, turn⟩ := h
  refine wpAny_While (codeAny_whileLoop (fun n s' => ∃ σ' H', Inv X pins σ' H' s' ∧ W n σ' H') ?_ m0 ⟨σ, H, I, w0⟩)
  rintro n s1 ⟨σ1, H1, I1, w1⟩
  refine wpAny_passesOwn hp (thn (hc pins s1 σ1 H1 _ I1 (turn n σ1 H1 w1)) fun b s2 ⟨H2, I2, q2⟩ => ?_)
  cases b with
  | true =>
    obtain ⟨N, hN, q2⟩ := q2
    rw [if_pos rfl]
    refine wpAny_passesOwn hp (thn (hb pins s2 σ1 H2 _ I2 q2) fun f s3 q3 => ?_)
    cases f with
    | next =>
      obtain ⟨σ3, H3, I3, n3⟩ := q3
      obtain ⟨m', hm, w3⟩ := hN σ3 H3 n3
      exact ⟨m', hm, σ3, H3, I3, w3⟩
    | cont =>
      obtain ⟨σ3, H3, I3, n3⟩ := q3
      obtain ⟨m', hm, w3⟩ := hN σ3 H3 n3
      exact ⟨m', hm, σ3, H3, I3, w3⟩
    | brk => exact q3
    | ret v => exact q3
  | false =>
    rw [if_neg Bool.false_ne_true]
    exact wpAny_execs_nil ⟨σ1, H2, I2, q2⟩
end
structure It where
  go : Nat → Hp → Prop
  yld : Nat → Hp → V → Hp → Prop
  stop : Nat → Hp → Prop
noncomputable def FpOk (X : Cx) (pins : List (Addr × Obj)) (H : Hp) (b : Addr) : Prop :=
  H b = none ∧ b ≠ X.env.locals ∧ b ∉ X.fs ∧ (b ∈ X.ex ∨ X.s₀.heap.objs.size ≤ b) ∧ (∀ x c, X.env.cells.lookup x = some c → c ≠ b) ∧ ∀ p ∈ X.pn ++ pins, p.1 ≠ b
theorem Inv.fpOk {X : Cx} {pins : List (Addr × Obj)} {σ : St} {H H' : Hp} {s : Shared} {b : Addr} (I : Inv X pins σ H s) (hb : s.heap.objs.size ≤ b) (hn : H' b = none) : FpOk X pins H' b := by
  refine ⟨hn, Nat.ne_of_gt (Nat.lt_of_lt_of_le I.lt hb), I.nofs hb, .inr (Nat.le_trans I.sz hb), fun x c e z => ?_, fun p hp z => ?_⟩
  · obtain ⟨v, q⟩ := I.cell x c e
    exact absurd (Nat.lt_of_lt_of_le q.lt (by rw [z]; exact hb)) (Nat.lt_irrefl _)
  · exact absurd (Nat.lt_of_lt_of_le (Heap.lt_size (I.pin p hp).1) (by rw [z]; exact hb)) (Nat.lt_irrefl _)
structure Turn (P : Program) (w : World) (K : PySem.W.Frag) (tg : Expr) (J : It) (fp : List Addr) (it : Addr) (tn : Nat → Heap → Prop) : Prop where
  mem : it ∈ fp
  obj : ∀ i h, tn i h → ∀ b ∈ fp, ∃ o, h.get? b = some o ∧ ∀ v, o.data ≠ .cell v
  keep : ∀ i h h', tn i h → (∀ b ∈ fp, ∀ o, h.get? b = some o → h'.get? b = some o) → tn i h'
  item : ∀ (X : Cx), X.prog = P → X.w = w → X.K = K → X.calm = true → ∀ (i : Nat) (pins : List (Addr × Obj)) (s : Shared) (σ : St) (H : Hp) (E : Value → Shared → Prop), Inv X pins σ H s → (∀ b ∈ fp, FpOk X pins H b) → tn i s.heap → J.go i H →
    wpAny (model P w) X.A (pyNext (.ref it)) (fun r s1 => ∃ u, r = some u ∧
      wpAny (model P w) X.A (letOwnedTupleGo tg (.ref it) u) (fun _ s2 => ∃ x H', Inv X pins σ H' s2 ∧ RelV x u ∧ J.yld i H x H' ∧ tn (i + 1) s2.heap ∧ ∀ b ∈ fp, H' b = none) E s1) E s
  done : ∀ (X : Cx), X.prog = P → X.w = w → X.K = K → X.calm = true → ∀ (i : Nat) (pins : List (Addr × Obj)) (s : Shared) (σ : St) (H : Hp) (E : Value → Shared → Prop), Inv X pins σ H s → (∀ b ∈ fp, FpOk X pins H b) → tn i s.heap → J.stop i H →
    wpAny (model P w) X.A (pyNext (.ref it)) (fun r s1 => r = none ∧ Inv X pins σ H s1) E s
  self : ∀ (A : Around) (i : Nat) (s : Shared) (Q : Value → Shared → Prop) (E : Value → Shared → Prop), tn i s.heap → Q (.ref it) s → wpAny (model P w) A (pyIter (.ref it)) Q E s
noncomputable abbrev TI := St → Hp → (It → Hp → Prop) → Prop
noncomputable def PIE (X : Cx) (pins : List (Addr × Obj)) (σ : St) (tg : Expr) (R : It → Hp → Prop) (itv : Value) (s2 : Shared) : Prop :=
  ∃ (it : Addr) (fp : List Addr) (tn : Nat → Heap → Prop) (J : It) (H' : Hp), itv = .ref it ∧ Inv X pins σ H' s2 ∧ Turn X.prog X.w X.K tg J fp it tn ∧ tn 0 s2.heap ∧ (∀ b ∈ fp, FpOk X pins H' b) ∧ R J H'
noncomputable def PI (X : Cx) (tg iter : Expr) (wi : TI) : Prop :=
  ∀ (pins : List (Addr × Obj)) (s : Shared) (σ : St) (H : Hp) (R : It → Hp → Prop), Inv X pins σ H s → wi σ H R →
    wpAny (model X.prog X.w) X.A (eval iter X.env) (fun v s1 => wpAny (model X.prog X.w) X.A (pyIter v) (PIE X pins σ tg R) X.xe s1) X.xe s
theorem go_of {M : Model} {A : Around} {E : Value → Shared → Prop} {s : Shared} {tg : Expr} {it : Addr} {u : Value} {o : Obj} {n : String} {vs : Array Value} {Q : Unit → Shared → Prop} (ho : s.heap.get? it = some o) (hc : o.cls = .type n) (hd : o.data = .fields vs)
    (hn : ["enumerate", "zip", "dict_itemiterator", "dict_reverseitemiterator", "odict_iterator", "itertools.zip_longest", "itertools.pairwise"].contains n = false) (hQ : Q () s) : wpAny M A (letOwnedTupleGo tg (.ref it) u) Q E s := by
  unfold letOwnedTupleGo
  cases tg <;> first
    | exact wpAny_pure hQ
    | (cases u <;> first
        | exact wpAny_pure hQ
        | (refine wpAny_bind (wpAny_load ho ?_)
           rw [hc, hd]
           show wpAny M A (if (["enumerate", "zip", "dict_itemiterator", "dict_reverseitemiterator", "odict_iterator", "itertools.zip_longest", "itertools.pairwise"].contains n && vs[0]? == some (rawInt _)) = true then _ else _) Q E s
           rw [if_neg (by intro h; rw [hn, Bool.false_and] at h; cases h)]
           exact wpAny_pure hQ))
noncomputable def Itl (K : PySem.W.Frag) (a : Addr) : It :=
  ⟨fun i H => ∃ xs x, SqL K H a xs ∧ xs[i]? = some x, fun i H x H' => H' = H ∧ ∀ xs, SqL K H a xs → xs[i]? = some x, fun i H => ∃ xs, SqL K H a xs ∧ xs.length ≤ i⟩
noncomputable def Itt (K : PySem.W.Frag) (a : Addr) : It :=
  ⟨fun i H => ∃ xs x, SqT K H a xs ∧ xs[i]? = some x, fun i H x H' => H' = H ∧ ∀ xs, SqT K H a xs → xs[i]? = some x, fun i H => ∃ xs, SqT K H a xs ∧ xs.length ≤ i⟩
noncomputable def Itr (lo : Int) (n : Nat) : It := ⟨fun i _ => i < n, fun i H x H' => H' = H ∧ x = .int (lo + i), fun i _ => n ≤ i⟩
theorem turn_list {P : Program} {w : World} {K : PySem.W.Frag} {tg : Expr} (a it : Addr) : Turn P w K tg (Itl K a) [it] it (fun i h => h.IsListIter it a i) where
  mem := by simp
  obj := fun i h st b hb => by
    have e : b = it := by simpa using hb
    subst e
    obtain ⟨o, e, c, d⟩ := st
    exact ⟨o, e, fun v z => by rw [d] at z; cases z⟩
  keep := fun i h h' st k => st.at fun o e => k it (by simp) o e
  item := by
    intro X hP hw hK hc i pins s σ H E I hf st hg
    subst hP hw hK
    obtain ⟨xs, x, hq, hx⟩ := hg
    obtain ⟨its, rv, p, hz⟩ := I.list hq
    obtain ⟨u, hu, ru⟩ := rv.get hx
    obtain ⟨f0, f1, f2, f3, f4, f5⟩ := hf it (by simp)
    refine wpAny_pyNext_list_item st p.isList (x := u) (by simpa using hu) fun h' st' sb => ?_
    have I1 : Inv X pins σ H { s with heap := h' } := I.turned (t' := s.toks) (fun b o hb e => (sb.2 b hb).trans e) f0 f1 f3 f4 f5
    obtain ⟨o, e, c, d⟩ := id st'
    exact ⟨u, rfl, go_of (s := { s with heap := h' }) e c d (by decide) ⟨x, H, I1, ru, ⟨rfl, fun ys hy => by rw [I.list_inj hy hq]; exact hx⟩, st', fun b hb => (hf b hb).1⟩⟩
  done := by
    intro X hP hw hK hc i pins s σ H E I hf st hg
    subst hP hw hK
    obtain ⟨xs, hq, hx⟩ := hg
    obtain ⟨its, rv, p, hz⟩ := I.list hq
    obtain ⟨f0, f1, f2, f3, f4, f5⟩ := hf it (by simp)
    have hl := rv.length
    exact wpAny_pyNext_list_end (I.ok.hd hc) st p.isList (by simp; omega) fun h' eb => ⟨rfl, I.turned (t' := s.toks) (fun b o hb e => eb b o hb e) f0 f1 f3 f4 f5⟩
  self := fun _ _ _ _ _ st h => wpAny_pyIter_listiter st h
theorem turn_tuple {P : Program} {w : World} {K : PySem.W.Frag} {tg : Expr} (a it : Addr) : Turn P w K tg (Itt K a) [it] it (fun i h => h.IsTupleIter it a i) where
  mem := by simp
  obj := fun i h st b hb => by
    have e : b = it := by simpa using hb
    subst e
    obtain ⟨o, e, c, d⟩ := st
    exact ⟨o, e, fun v z => by rw [d] at z; cases z⟩
  keep := fun i h h' st k => st.at fun o e => k it (by simp) o e
  item := by
    intro X hP hw hK hc i pins s σ H E I hf st hg
    subst hP hw hK
    obtain ⟨xs, x, hq, hx⟩ := hg
    obtain ⟨its, rv, p, hz⟩ := I.tuple hq
    obtain ⟨u, hu, ru⟩ := rv.get hx
    obtain ⟨f0, f1, f2, f3, f4, f5⟩ := hf it (by simp)
    refine wpAny_pyNext_tuple_item st (show s.heap.IsTuple a its.toArray from p) (x := u) (by simpa using hu) fun h' st' sb => ?_
    have I1 : Inv X pins σ H { s with heap := h' } := I.turned (t' := s.toks) (fun b o hb e => (sb.2 b hb).trans e) f0 f1 f3 f4 f5
    obtain ⟨o, e, c, d⟩ := id st'
    exact ⟨u, rfl, go_of (s := { s with heap := h' }) e c d (by decide) ⟨x, H, I1, ru, ⟨rfl, fun ys hy => by rw [I.tuple_inj hy hq]; exact hx⟩, st', fun b hb => (hf b hb).1⟩⟩
  done := by
    intro X hP hw hK hc i pins s σ H E I hf st hg
    subst hP hw hK
    obtain ⟨xs, hq, hx⟩ := hg
    obtain ⟨its, rv, p, hz⟩ := I.tuple hq
    obtain ⟨f0, f1, f2, f3, f4, f5⟩ := hf it (by simp)
    have hl := rv.length
    exact wpAny_pyNext_tuple_end (I.ok.hd hc) st (show s.heap.IsTuple a its.toArray from p) (by simp; omega) fun h' eb => ⟨rfl, I.turned (t' := s.toks) (fun b o hb e => eb b o hb e) f0 f1 f3 f4 f5⟩
  self := fun _ _ _ _ _ st h => wpAny_pyIter_tupleiter st h
theorem turn_range {P : Program} {w : World} {K : PySem.W.Frag} {tg : Expr} (it : Addr) (lo : Int) (n : Nat) : Turn P w K tg (Itr lo n) [it] it (fun i h => IsRangeIter h it (lo + (i : Nat) * 1) ((n : Int) - (i : Nat)) 1) where
  mem := by simp
  obj := fun i h st b hb => by
    have e : b = it := by simpa using hb
    subst e
    exact ⟨_, st, fun v z => by
      have z' : Data.fields _ = Data.cell v := z
      cases z'⟩
  keep := fun i h h' st k => k it (by simp) _ st
  item := by
    intro X hP hw hK hc i pins s σ H E I hf st hg
    subst hP hw hK
    obtain ⟨f0, f1, f2, f3, f4, f5⟩ := hf it (by simp)
    have W := Walks.range (prog := X.prog) (w := X.w) (I.ok.hd hc) it lo 1 n
    refine W.item i s _ _ hg st fun v h' tk hv st' kk => ?_
    obtain ⟨t, rfl⟩ := hv
    have I1 : Inv X pins σ H { s with heap := h', toks := tk } := I.turned (fun b o hb e => kk b o (by simpa using hb) e) f0 f1 f3 f4 f5
    refine ⟨_, rfl, go_of (s := { s with heap := h', toks := tk }) (n := "range_iterator") st' rfl rfl (by decide) ⟨.int (lo + i), H, I1, ⟨t, ?_⟩, ⟨rfl, rfl⟩, st', fun b hb => (hf b hb).1⟩⟩
    rw [Int.mul_one]
  done := by
    intro X hP hw hK hc i pins s σ H E I hf st hg
    subst hP hw hK
    obtain ⟨f0, f1, f2, f3, f4, f5⟩ := hf it (by simp)
    exact wpAny_pyNext_range_end (I.ok.hd hc) st (by have : n ≤ i := hg; omega) fun h' eb => ⟨rfl, I.turned (t' := s.toks) (fun b o hb e => eb b o hb e) f0 f1 f3 f4 f5⟩
  self := fun _ _ _ _ _ st h => wpAny_pyIter_rangeiter st h
end L2
namespace L2
open PySem PySem.Spec PyProof.Rows
section
variable {X : Cx} {tg : Expr}
noncomputable def iList (K : PySem.W.Frag) (tl : TE) : TI := fun σ H R => tl σ H fun x H1 => ∃ a, x = .ref a ∧ (∃ xs, SqL K H1 a xs) ∧ R (Itl K a) H1
noncomputable def iTup (K : PySem.W.Frag) (tl : TE) : TI := fun σ H R => tl σ H fun x H1 => ∃ a, x = .ref a ∧ (∃ xs, SqT K H1 a xs) ∧ R (Itt K a) H1
theorem pi_list {l : Expr} {tl : TE} (hl : PE X l tl) : PI X tg l (iList X.K tl) := by
  intro pins s σ H R I h
  refine thn (hl pins s σ H _ I h) fun v s1 ⟨x, H1, I1, r1, q1⟩ => ?_
  obtain ⟨a, e, ⟨xs, hq⟩, q⟩ := q1
  subst e
  cases r1
  obtain ⟨its, rv, p, hz⟩ := I1.list hq
  refine wpAny_pyIter_list p.isList ?_
  refine ⟨s1.heap.objs.size, [s1.heap.objs.size], _, _, H1, rfl, I1.kept (t' := s1.toks) fun b o e => Heap.get?_push_of_some _ e, turn_list a _, ⟨_, Heap.get?_push_size _ rfl, rfl, rfl⟩, fun b hb => ?_, q⟩
  have e : b = s1.heap.objs.size := by simpa using hb
  subst e
  exact I1.fpOk (Nat.le_refl _) (I1.hok.fresh (Nat.le_refl _))
theorem pi_tup {l : Expr} {tl : TE} (hl : PE X l tl) : PI X tg l (iTup X.K tl) := by
  intro pins s σ H R I h
  refine thn (hl pins s σ H _ I h) fun v s1 ⟨x, H1, I1, r1, q1⟩ => ?_
  obtain ⟨a, e, ⟨xs, hq⟩, q⟩ := q1
  subst e
  cases r1
  obtain ⟨its, rv, p, hz⟩ := I1.tuple hq
  refine wpAny_pyIter_tuple (show s1.heap.IsTuple a its.toArray from p) ?_
  refine ⟨s1.heap.objs.size, [s1.heap.objs.size], _, _, H1, rfl, I1.kept (t' := s1.toks) fun b o e => Heap.get?_push_of_some _ e, turn_tuple a _, ⟨_, Heap.get?_push_size _ rfl, rfl, rfl⟩, fun b hb => ?_, q⟩
  have e : b = s1.heap.objs.size := by simpa using hb
  subst e
  exact I1.fpOk (Nat.le_refl _) (I1.hok.fresh (Nat.le_refl _))
theorem range_it {pins : List (Addr × Obj)} {σ : St} {H : Hp} {s : Shared} {R : It → Hp → Prop} {E : Value → Shared → Prop} {lo hi : Int} {t u v : Tok} {tk : Nat} (I : Inv X pins σ H s) (h1 : -(2 ^ 62) ≤ lo) (h2 : lo < 2 ^ 62) (h3 : -(2 ^ 62) ≤ hi) (h4 : hi < 2 ^ 62)
    (q : R (Itr lo (hi - lo).toNat) H) : wpAny (model X.prog X.w) X.A (pyIter (.ref s.heap.objs.size)) (PIE X pins σ tg R) E { s with heap := s.heap.push { cls := .type "range", data := .fields #[.int lo t, .int hi u, .int 1 v] }, toks := tk } := by
  refine wpAny_pyIter_range (IsRange.new ..) (small_one h1 h2 h3 h4) ?_
  have I1 : Inv X pins σ H { s with heap := s.heap.push { cls := .type "range", data := .fields #[.int lo t, .int hi u, .int 1 v] }, toks := tk } := I.kept fun b o e => Heap.get?_push_of_some _ e
  refine ⟨(s.heap.push { cls := .type "range", data := .fields #[.int lo t, .int hi u, .int 1 v] }).objs.size, [(s.heap.push { cls := .type "range", data := .fields #[.int lo t, .int hi u, .int 1 v] }).objs.size], _, _, H, rfl,
    I1.kept (t' := tk) fun b o e => Heap.get?_push_of_some _ e, turn_range _ lo (hi - lo).toNat, ?_, fun b hb => ?_, q⟩
  · have e1 : lo + ((0 : Nat) : Int) * 1 = lo := by simp
    have e2 : (((hi - lo).toNat : Nat) : Int) - ((0 : Nat) : Int) = Builtin.Range.rangeSize lo hi 1 := by rw [rangeSize_one]; split <;> omega
    show IsRangeIter _ _ (lo + ((0 : Nat) : Int) * 1) ((((hi - lo).toNat : Nat) : Int) - ((0 : Nat) : Int)) 1
    rw [e1, e2]
    exact Heap.get?_push_size _ rfl
  · have e : b = (s.heap.push { cls := .type "range", data := .fields #[.int lo t, .int hi u, .int 1 v] }).objs.size := by simpa using hb
    subst e
    exact I1.fpOk (Nat.le_refl _) (I1.hok.fresh (Nat.le_refl _))
noncomputable def iRng1 (ta : TA) : TI := fun σ H R => ta σ H fun vs H1 => ∃ j : Int, vs = [.int j] ∧ -(2 ^ 62) ≤ j ∧ j < 2 ^ 62 ∧ R (Itr 0 j.toNat) H1
theorem pi_range1 {a : Expr} {ta : TA} {p pos : Pos} (hg : Gl X "range") (hm : X.mg "range" = none) (ha : PA X [a] ta) (hs : starEach [a] X.env = [(false, eval a X.env)] := by rfl) : PI X tg (.Call (.Name "range" p) [a] [] pos) (iRng1 ta) := by
  intro pins s σ H R I h
  refine Call_ (ld_blt I hg hm boot_range (PyProof.Rows.callWith_type1 (thn (ha pos pins s σ H _ I h) fun us s1 ⟨vs, H1, I1, r1, q1⟩ => ?_) hs rfl))
  obtain ⟨j, e, q1, q2, q⟩ := q1
  subst e
  cases r1 with
  | cons r rr =>
    cases rr
    obtain ⟨t, rfl⟩ := r
    exact call_range_1 (range_it I1 (by omega) (by omega) q1 q2 (by simpa using q))
noncomputable def tFor (wi : TI) (g : TG) (tb : TS) : TS := fun D σ H => wi σ H fun J H1 => ∃ W : Nat → Nat → St → Hp → Prop, (∃ m, W 0 m σ H1) ∧ ∀ i m σ H, W i m σ H →
  (J.stop i H ∧ D.nx σ H) ∨ (J.go i H ∧ ∃ N : St → Hp → Prop, (∀ σ' H', N σ' H' → ∃ m', m' < m ∧ W (i + 1) m' σ' H') ∧ ∀ x H', J.yld i H x H' → g x σ H' fun σ2 H2 => tb { D with nx := N, ct := N, bk := D.nx } σ2 H2)
noncomputable def pinsAt (fp : List Addr) (h : Heap) : List (Addr × Obj) := fp.filterMap fun b => (h.get? b).map fun o => (b, o)
theorem mem_pinsAt {fp : List Addr} {h : Heap} {b : Addr} {o : Obj} (hb : b ∈ fp) (e : h.get? b = some o) : (b, o) ∈ pinsAt fp h := List.mem_filterMap.mpr ⟨b, hb, by rw [e]; rfl⟩
theorem of_pinsAt {fp : List Addr} {h : Heap} {p : Addr × Obj} (hp : p ∈ pinsAt fp h) : p.1 ∈ fp ∧ h.get? p.1 = some p.2 := by
  obtain ⟨b, hb, e⟩ := List.mem_filterMap.mp hp
  cases q : h.get? b with
  | none => rw [q] at e; cases e
  | some o =>
    rw [q] at e
    have e' : (b, o) = p := Option.some.inj e
    subst e'
    exact ⟨hb, q⟩
theorem Inv.pinned {pins : List (Addr × Obj)} {σ : St} {H : Hp} {s : Shared} {fp : List Addr} (I : Inv X pins σ H s) (hf : ∀ b ∈ fp, FpOk X pins H b) (ho : ∀ b ∈ fp, ∃ o, s.heap.get? b = some o ∧ ∀ v, o.data ≠ .cell v) : Inv X (pins ++ pinsAt fp s.heap) σ H s :=
  I.pins_of fun p hp => (List.mem_append.mp hp).elim (fun z => I.pin p (List.mem_append_right _ z)) fun z => by
    obtain ⟨hb, e⟩ := of_pinsAt z
    obtain ⟨f0, f1, f2, _⟩ := hf p.1 hb
    obtain ⟨o, e', d⟩ := ho p.1 hb
    rw [e] at e'; cases e'
    exact ⟨e, f0, f1, f2, d⟩
theorem Inv.unpinned {pins pl : List (Addr × Obj)} {σ : St} {H : Hp} {s : Shared} (I : Inv X (pins ++ pl) σ H s) : Inv X pins σ H s := I.pins_of fun p hp => I.pin p (List.mem_append_right _ (List.mem_append_left _ hp))
theorem ps_for {iter : Expr} {body : List Stmt} {wi : TI} {g : TG} {tb : TS} {pos : Pos} (hp : PassesOwn (model X.prog X.w) X.A X.env X.xe) (hc : X.calm = true) (hi : PI X tg iter wi) (hg : PG X tg g) (hb : PSs X body tb)
    (hs : ∀ x, foldedSetIterable iter X.env x = pure x := by intro _; rfl) : PS X (.For tg iter body [] pos) (tFor wi g tb) := by
  intro pins s σ H D I h
  refine wpAny_For (thn (hi pins s σ H _ I h) fun v s1 h1 => thn h1 fun itv s2 h2 => ?_) hs
  obtain ⟨it, fp, tn, J, H2, e, I2, T, st2, f2, W, ⟨m0, w0⟩, turn⟩ := h2
  subst e
  have stat : ∀ {H' : Hp}, (∀ b ∈ fp, H' b = none) → ∀ b ∈ fp, FpOk X pins H' b := fun hn b hb => ⟨hn b hb, (f2 b hb).2⟩
  refine codeAny_forLoop_any (fun n s' => ∃ i σ' H', Inv X pins σ' H' s' ∧ tn i s'.heap ∧ (∀ b ∈ fp, H' b = none) ∧ W i n σ' H') ?_ m0 ⟨0, σ, H2, I2, st2, fun b hb => (f2 b hb).1, w0⟩
  rintro n s3 ⟨i, σ3, H3, I3, st3, fr3, w3⟩
  rcases turn i n σ3 H3 w3 with ⟨stop, qn⟩ | ⟨go, N, hN, step⟩
  · refine wpAny_passesOwn hp (thn (T.done X rfl rfl rfl hc i pins s3 σ3 H3 X.xe I3 (stat fr3) st3 stop) fun r s4 ⟨hr, I4⟩ => ?_)
    subst hr
    exact wpAny_execs_nil ⟨σ3, H3, I4, qn⟩
  · refine wpAny_passesOwn hp (thn (T.item X rfl rfl rfl hc i pins s3 σ3 H3 X.xe I3 (stat fr3) st3 go) fun r s4 ⟨u, hr, h4⟩ => ?_)
    subst hr
    refine wpAny_passesOwn hp (thn h4 fun _ s5 ⟨x, H5, I5, r5, y5, st5, fr5⟩ => ?_)
    have I5' := I5.pinned (stat fr5) (T.obj _ _ st5)
    refine wpAny_passesOwn hp (thn (hg _ s5 σ3 H5 x u _ I5' r5 (step x H5 y5)) fun _ s6 ⟨σ6, H6, I6, q6⟩ => ?_)
    refine wpAny_passesOwn hp (thn (hb _ s6 σ6 H6 _ I6 q6) fun f s7 q7 => ?_)
    have again : ∀ {σ7 : St} {H7 : Hp}, Inv X (pins ++ pinsAt fp s5.heap) σ7 H7 s7 → N σ7 H7 → ∃ m, m < n ∧ ∃ i σ' H', Inv X pins σ' H' s7 ∧ tn i s7.heap ∧ (∀ b ∈ fp, H' b = none) ∧ W i m σ' H' := fun {σ7 H7} I7 n7 => by
      obtain ⟨m', hm, w7⟩ := hN σ7 H7 n7
      refine ⟨m', hm, i + 1, σ7, H7, I7.unpinned, T.keep _ _ _ st5 fun b hb o e => (I7.pin (b, o) (List.mem_append_right _ (List.mem_append_right _ (mem_pinsAt hb e)))).1, fun b hb => ?_, w7⟩
      obtain ⟨o, e, d⟩ := T.obj _ _ st5 b hb
      exact (I7.pin (b, o) (List.mem_append_right _ (List.mem_append_right _ (mem_pinsAt hb e)))).2.1
    cases f with
    | next => obtain ⟨σ7, H7, I7, n7⟩ := q7; exact again I7 n7
    | cont => obtain ⟨σ7, H7, I7, n7⟩ := q7; exact again I7 n7
    | brk => obtain ⟨σ7, H7, I7, q7⟩ := q7; exact ⟨σ7, H7, I7.unpinned, q7⟩
    | ret v => obtain ⟨x7, σ7, H7, I7, r7, q7⟩ := q7; exact ⟨x7, σ7, H7, I7.unpinned, r7, q7⟩
end
theorem for_list {K : PySem.W.Frag} {a : Addr} {xs : List V} {g : TG} {tb : TS} {D : Ends} {σ : St} {H : Hp} (Pv : Nat → St → Hp → Prop) (h0 : Pv 0 σ H) (hl : ∀ i σ H, i ≤ xs.length → Pv i σ H → SqL K H a xs)
    (hs : ∀ i x σ H, xs[i]? = some x → Pv i σ H → g x σ H fun σ2 H2 => tb { D with nx := Pv (i + 1), ct := Pv (i + 1), bk := D.nx } σ2 H2) (hd : ∀ σ H, Pv xs.length σ H → D.nx σ H) :
    ∃ W : Nat → Nat → St → Hp → Prop, (∃ m, W 0 m σ H) ∧ ∀ i m σ H, W i m σ H →
      ((Itl K a).stop i H ∧ D.nx σ H) ∨ ((Itl K a).go i H ∧ ∃ N : St → Hp → Prop, (∀ σ' H', N σ' H' → ∃ m', m' < m ∧ W (i + 1) m' σ' H') ∧ ∀ x H', (Itl K a).yld i H x H' → g x σ H' fun σ2 H2 => tb { D with nx := N, ct := N, bk := D.nx } σ2 H2) := by
  refine ⟨fun i m σ H => m = xs.length - i ∧ i ≤ xs.length ∧ Pv i σ H, ⟨xs.length, by simp, Nat.zero_le _, h0⟩, ?_⟩
  rintro i m σ H ⟨rfl, hi, p⟩
  have q := hl i σ H hi p
  by_cases hlt : i < xs.length
  · refine .inr ⟨⟨xs, xs[i], q, by simp [hlt]⟩, Pv (i + 1), fun σ' H' p' => ⟨xs.length - (i + 1), by omega, rfl, hlt, p'⟩, fun x H' y => ?_⟩
    obtain ⟨e, y⟩ := y
    subst e
    exact hs i x σ _ (y xs q) p
  · have e : i = xs.length := by omega
    subst e
    exact .inl ⟨⟨xs, q, Nat.le_refl _⟩, hd σ H p⟩
theorem for_range {lo : Int} {n : Nat} {g : TG} {tb : TS} {D : Ends} {σ : St} {H : Hp} (Pv : Nat → St → Hp → Prop) (h0 : Pv 0 σ H)
    (hs : ∀ i σ H, i < n → Pv i σ H → g (.int (lo + i)) σ H fun σ2 H2 => tb { D with nx := Pv (i + 1), ct := Pv (i + 1), bk := D.nx } σ2 H2) (hd : ∀ σ H, Pv n σ H → D.nx σ H) :
    ∃ W : Nat → Nat → St → Hp → Prop, (∃ m, W 0 m σ H) ∧ ∀ i m σ H, W i m σ H →
      ((Itr lo n).stop i H ∧ D.nx σ H) ∨ ((Itr lo n).go i H ∧ ∃ N : St → Hp → Prop, (∀ σ' H', N σ' H' → ∃ m', m' < m ∧ W (i + 1) m' σ' H') ∧ ∀ x H', (Itr lo n).yld i H x H' → g x σ H' fun σ2 H2 => tb { D with nx := N, ct := N, bk := D.nx } σ2 H2) := by
  refine ⟨fun i m σ H => m = n - i ∧ i ≤ n ∧ Pv i σ H, ⟨n, by simp, Nat.zero_le _, h0⟩, ?_⟩
  rintro i m σ H ⟨rfl, hi, p⟩
  by_cases hlt : i < n
  · refine .inr ⟨hlt, Pv (i + 1), fun σ' H' p' => ⟨n - (i + 1), by omega, rfl, hlt, p'⟩, fun x H' y => ?_⟩
    obtain ⟨e, y⟩ := y
    subst e y
    exact hs i σ _ hlt p
  · have e : i = n := by omega
    subst e
    exact .inl ⟨Nat.le_refl _, hd σ H p⟩
theorem while_by {c : TT} {tb : TS} {D : Ends} {σ : St} {H : Hp} (Pv : St → Hp → Prop) (μ : St → Hp → Nat) (h0 : Pv σ H)
    (hs : ∀ σ H, Pv σ H → c σ H fun b H1 => if b = true then tb { D with nx := fun σ' H' => Pv σ' H' ∧ μ σ' H' < μ σ H, ct := fun σ' H' => Pv σ' H' ∧ μ σ' H' < μ σ H, bk := D.nx } σ H1 else D.nx σ H1)
    (mono : ∀ σ H Q Q', (∀ b H1, Q b H1 → Q' b H1) → c σ H Q → c σ H Q') : tWhile c tb D σ H := by
  refine ⟨fun m σ H => m = μ σ H ∧ Pv σ H, ⟨_, rfl, h0⟩, ?_⟩
  rintro m σ H ⟨rfl, p⟩
  refine mono σ H _ _ (fun b H1 q => ?_) (hs σ H p)
  cases b with
  | true => exact ⟨_, fun σ' H' ⟨p', l⟩ => ⟨_, l, rfl, p'⟩, q⟩
  | false => exact q
end L2
namespace L2
open PySem PySem.Spec PyProof.Rows
noncomputable abbrev R2 := V → V → Hp → VK → Prop
noncomputable def OpR (X : Cx) (f : Value → Value → Sem Value) (r : R2) : Prop :=
  ∀ (pins : List (Addr × Obj)) (s : Shared) (σ : St) (H : Hp) (x y : V) (v u : Value) (Q : VK), Inv X pins σ H s → RelV x v → RelV y u → r x y H Q →
    wpAny (model X.prog X.w) X.A (f v u) (EP X pins σ Q) X.xe s
noncomputable def UnR (X : Cx) (f : Value → Sem Value) (r : V → Hp → VK → Prop) : Prop :=
  ∀ (pins : List (Addr × Obj)) (s : Shared) (σ : St) (H : Hp) (x : V) (v : Value) (Q : VK), Inv X pins σ H s → RelV x v → r x H Q →
    wpAny (model X.prog X.w) X.A (f v) (EP X pins σ Q) X.xe s
noncomputable def CallR (X : Cx) (f : Value) (r : List V → Hp → VK → Prop) : Prop :=
  ∀ (pins : List (Addr × Obj)) (s : Shared) (σ : St) (H : Hp) (xs : List V) (us : List Value) (Q : VK), Inv X pins σ H s → Vals xs us → r xs H Q →
    wpAny (model X.prog X.w) X.A (call f us) (EP X pins σ Q) X.xe s
noncomputable def tOp (r : R2) (ta tb : TE) : TE := fun σ H Q => ta σ H fun x H1 => tb σ H1 fun y H2 => r x y H2 Q
noncomputable def tUn (r : V → Hp → VK → Prop) (ta : TE) : TE := fun σ H Q => ta σ H fun x H1 => r x H1 Q
noncomputable def rI (C : Int → Int → Prop) (g : Int → Int → V) : R2 := fun x y H Q => ∃ i j, x = .int i ∧ y = .int j ∧ C i j ∧ Q (g i j) H
noncomputable def rI0 (g : Int → Int → V) : R2 := fun x y H Q => ∃ i j, x = .int i ∧ y = .int j ∧ Q (g i j) H
noncomputable def rU (g : Int → V) : V → Hp → VK → Prop := fun x H Q => ∃ i, x = .int i ∧ Q (g i) H
section
variable {X : Cx} {a b c : Expr} {ta tb tc : TE} {pos : Pos}
theorem binT (ha : PE X a ta) (hb : PE X b tb) {pins : List (Addr × Obj)} {s : Shared} {σ : St} {H : Hp} {R : V → V → Hp → Prop} (I : Inv X pins σ H s)
    (h : ta σ H fun x H1 => tb σ H1 fun y H2 => R x y H2) {Q : Value → Shared → Prop} {f : Value → Value → Sem Value}
    (hf : ∀ v u s2 x y H2, Inv X pins σ H2 s2 → RelV x v → RelV y u → R x y H2 → wpAny (model X.prog X.w) X.A (f v u) Q X.xe s2) :
    wpAny (model X.prog X.w) X.A (eval a X.env) (fun v s₁ => wpAny (model X.prog X.w) X.A (eval b X.env) (fun u s₂ => wpAny (model X.prog X.w) X.A (f v u) Q X.xe s₂) X.xe s₁) X.xe s := by
  refine thn (ha pins s σ H _ I h) fun v s1 ⟨x, H1, I1, r1, q1⟩ => ?_
  refine thn (hb pins s1 σ H1 _ I1 q1) fun u s2 ⟨y, H2, I2, r2, q2⟩ => ?_
  exact hf v u s2 x y H2 I2 r1 r2 q2
theorem pe_op {op : Operator} {r : R2} (ho : OpR X (binaryOp op) r) (ha : PE X a ta) (hb : PE X b tb) : PE X (.BinOp a op b pos) (tOp r ta tb) := by
  intro pins s σ H Q I h
  exact wpAny_BinOp (binT ha hb I h fun v u s2 x y H2 I2 rx ry q => ho pins s2 σ H2 x y v u Q I2 rx ry q)
theorem pe_un {op : UnaryOp} {r : V → Hp → VK → Prop} (ho : UnR X (unaryOp op) r) (ha : PE X a ta) : PE X (.UnaryOp op a pos) (tUn r ta) := by
  intro pins s σ H Q I h
  exact UnaryOp_ (thn (ha pins s σ H _ I h) fun v s1 ⟨x, H1, I1, r1, q1⟩ => ho pins s1 σ H1 x v Q I1 r1 q1)
theorem opI {f : Value → Value → Sem Value} {C : Int → Int → Prop} {g : Int → Int → Int}
    (rule : ∀ (i j : Int) (t u : Tok) (s : Shared) (Q : Value → Shared → Prop) (E : Value → Shared → Prop), C i j → Q (.int (g i j) s.toks) { s with toks := s.toks + 1 } → wpAny (model X.prog X.w) X.A (f (.int i t) (.int j u)) Q E s) :
    OpR X f (rI C fun i j => .int (g i j)) := by
  intro pins s σ H x y v u Q I rx ry h
  obtain ⟨i, j, rfl, rfl, hc, q⟩ := h
  obtain ⟨t, rfl⟩ := rx
  obtain ⟨t', rfl⟩ := ry
  exact rule i j t t' s _ _ hc ⟨.int (g i j), H, I.tok _, ⟨_, rfl⟩, q⟩
theorem opI0 {f : Value → Value → Sem Value} {g : Int → Int → Int}
    (rule : ∀ (i j : Int) (t u : Tok) (s : Shared) (Q : Value → Shared → Prop) (E : Value → Shared → Prop), Q (.int (g i j) s.toks) { s with toks := s.toks + 1 } → wpAny (model X.prog X.w) X.A (f (.int i t) (.int j u)) Q E s) :
    OpR X f (rI0 fun i j => .int (g i j)) := by
  intro pins s σ H x y v u Q I rx ry h
  obtain ⟨i, j, rfl, rfl, q⟩ := h
  obtain ⟨t, rfl⟩ := rx
  obtain ⟨t', rfl⟩ := ry
  exact rule i j t t' s _ _ ⟨.int (g i j), H, I.tok _, ⟨_, rfl⟩, q⟩
theorem opB0 {f : Value → Value → Sem Value} {g : Int → Int → Bool}
    (rule : ∀ (i j : Int) (t u : Tok) (s : Shared) (Q : Value → Shared → Prop) (E : Value → Shared → Prop), Q (.bool (g i j)) s → wpAny (model X.prog X.w) X.A (f (.int i t) (.int j u)) Q E s) :
    OpR X f (rI0 fun i j => .bl (g i j)) := by
  intro pins s σ H x y v u Q I rx ry h
  obtain ⟨i, j, rfl, rfl, q⟩ := h
  obtain ⟨t, rfl⟩ := rx
  obtain ⟨t', rfl⟩ := ry
  exact rule i j t t' s _ _ ⟨.bl (g i j), H, I, rfl, q⟩
noncomputable def CDiv (i j : Int) : Prop := 0 < j ∧ j < 1073741824
noncomputable def CPow (i j : Int) : Prop := 0 ≤ j ∧ j ≤ 1000000 ∧ i.natAbs < 2 ^ 64
noncomputable def CMul (i j : Int) : Prop := (-(2 ^ 64) < i ∧ i < 2 ^ 64) ∨ (-(2 ^ 64) < j ∧ j < 2 ^ 64)
theorem CMul.ok {i j : Int} (h : CMul i j) : IntMulOk i j := by
  rcases h with ⟨h1, h2⟩ | ⟨h1, h2⟩
  · exact .of_left (intBits_le_64 h1 h2)
  · exact .of_right (intBits_le_64 h1 h2)
theorem op_add : OpR X (binaryOp .Add) (rI0 fun i j => .int (i + j)) := opI0 fun _ _ _ _ _ _ _ q => add_int q
theorem op_sub : OpR X (binaryOp .Sub) (rI0 fun i j => .int (i - j)) := opI0 fun _ _ _ _ _ _ _ q => sub_int q
theorem op_fdiv : OpR X (binaryOp .FloorDiv) (rI CDiv fun i j => .int (i / j)) := opI fun i j _ _ _ _ _ hc q => by
  have h1 : (0 : Int) < j := hc.1
  have h2 : j < 1073741824 := hc.2
  exact floordiv_int (by omega) (by rw [Int.fdiv_eq_ediv_of_nonneg i (by omega)]; exact q) (.inl (PyProof.noPylong_small (by omega)))
theorem op_mod : OpR X (binaryOp .Mod) (rI (fun _ j => 0 < j) fun i j => .int (i % j)) := opI fun i j _ _ _ _ _ hc q => by
  have h1 : (0 : Int) < j := hc
  exact mod_int' (by omega) (by rw [Int.fmod_eq_emod_of_nonneg i (by omega)]; exact q)
theorem op_modN : OpR X (binaryOp .Mod) (rI (fun _ j => j ≠ 0) fun i j => .int (i.fmod j)) := opI fun _ _ _ _ _ _ _ hc q => mod_int' hc q
theorem op_pow : OpR X (binaryOp .Pow) (rI CPow fun i j => .int (i ^ j.toNat)) := opI fun _ _ _ _ _ _ _ hc q => pow_int_small hc.1 hc.2.1 hc.2.2 q
theorem unI {f : Value → Sem Value} {g : Int → Int}
    (rule : ∀ (i : Int) (t : Tok) (s : Shared) (Q : Value → Shared → Prop) (E : Value → Shared → Prop), Q (.int (g i) s.toks) { s with toks := s.toks + 1 } → wpAny (model X.prog X.w) X.A (f (.int i t)) Q E s) :
    UnR X f (rU fun i => .int (g i)) := by
  intro pins s σ H x v Q I rx h
  obtain ⟨i, rfl, q⟩ := h
  obtain ⟨t, rfl⟩ := rx
  exact rule i t s _ _ ⟨.int (g i), H, I.tok _, ⟨_, rfl⟩, q⟩
theorem un_neg : UnR X (unaryOp .USub) (rU fun i => .int (-i)) := unI fun _ _ _ _ _ q => neg_int q
end
noncomputable def scal : V → V → Bool
  | .non, .non => true | .non, .int _ => true | .int _, .non => true | .non, .bl _ => true | .bl _, .non => true | .non, .str _ => true | .str _, .non => true
  | .int _, .int _ => true | .bl _, .bl _ => true | .str _, .str _ => true | .byt _, .byt _ => true
  | .int _, .str _ => true | .str _, .int _ => true | .bl _, .str _ => true | .str _, .bl _ => true
  | _, _ => false
noncomputable def rEq : R2 := fun x y H Q => scal x y = true ∧ Q (.bl (decide (x = y))) H
noncomputable def rNe : R2 := fun x y H Q => scal x y = true ∧ Q (.bl (!decide (x = y))) H
theorem dec_int {i j : Int} : decide (V.int i = V.int j) = (i == j) := by
  rw [Bool.eq_iff_iff]
  simp
theorem dec_bl {i j : Bool} : decide (V.bl i = V.bl j) = (i == j) := by
  rw [Bool.eq_iff_iff]
  simp
theorem dec_str {i j : Str} : decide (V.str i = V.str j) = (i == j) := by
  rw [Bool.eq_iff_iff]
  simp
theorem dec_byt {i j : Array UInt8} : decide (V.byt i = V.byt j) = (i.toList == j.toList) := by
  rw [Bool.eq_iff_iff]
  cases i
  cases j
  simp
section
variable {X : Cx} {a b c : Expr} {ta tb tc : TE} {pos : Pos}
theorem fin_bl {pins : List (Addr × Obj)} {σ : St} {H : Hp} {s : Shared} {Q : VK} {k k' : Bool} (I : Inv X pins σ H s) (q : Q (.bl k) H) (e : k = k') : EP X pins σ Q (.bool k') s := by
  subst e
  exact ⟨.bl k, H, I, rfl, q⟩
theorem op_eq : OpR X (compareOp .Eq) rEq := by
  intro pins s σ H x y v u Q I rx ry h
  obtain ⟨hs, q⟩ := h
  cases x with
  | non =>
    cases rx
    cases y with
    | non => cases ry; exact PySem.EqNone.eq_none_none (fin_bl I q (by simp))
    | bl j => cases ry; exact PySem.EqNone.eq_none_bool (fin_bl I q (by simp))
    | int j => obtain ⟨t', rfl⟩ := ry; exact PySem.EqNone.eq_none_int (fin_bl I q (by simp))
    | str j => obtain ⟨t', rfl⟩ := ry; exact PySem.EqNone.eq_none_str (fin_bl I q (by simp))
    | _ => exact absurd (show false = true from hs) Bool.false_ne_true
  | bl i =>
    cases rx
    cases y with
    | non => cases ry; exact PySem.EqNone.eq_bool_none (fin_bl I q (by simp))
    | bl j => cases ry; exact eq_bool (fin_bl I q dec_bl)
    | str j => obtain ⟨t', rfl⟩ := ry; exact PySem.EqMixed.eq_bool_str (fin_bl I q (by simp))
    | _ => exact absurd (show false = true from hs) Bool.false_ne_true
  | int i =>
    obtain ⟨t, rfl⟩ := rx
    cases y with
    | non => cases ry; exact PySem.EqNone.eq_int_none (fin_bl I q (by simp))
    | int j => obtain ⟨t', rfl⟩ := ry; exact eq_int (fin_bl I q dec_int)
    | str j => obtain ⟨t', rfl⟩ := ry; exact PySem.EqMixed.eq_int_str (fin_bl I q (by simp))
    | _ => exact absurd (show false = true from hs) Bool.false_ne_true
  | str i =>
    obtain ⟨t, rfl⟩ := rx
    cases y with
    | non => cases ry; exact PySem.EqNone.eq_str_none (fin_bl I q (by simp))
    | bl j => cases ry; exact PySem.EqMixed.eq_str_bool (fin_bl I q (by simp))
    | int j => obtain ⟨t', rfl⟩ := ry; exact PySem.EqMixed.eq_str_int (fin_bl I q (by simp))
    | str j => obtain ⟨t', rfl⟩ := ry; exact eq_str (fin_bl I q dec_str)
    | _ => exact absurd (show false = true from hs) Bool.false_ne_true
  | byt i =>
    obtain ⟨t, rfl⟩ := rx
    cases y with
    | byt j => obtain ⟨t', rfl⟩ := ry; exact PySem.W.eq_bytes (fin_bl I q dec_byt)
    | _ => exact absurd (show false = true from hs) Bool.false_ne_true
  | _ => cases y <;> exact absurd (show false = true from hs) Bool.false_ne_true
theorem op_ne : OpR X (compareOp .NotEq) rNe := by
  intro pins s σ H x y v u Q I rx ry h
  obtain ⟨hs, q⟩ := h
  cases x with
  | non =>
    cases rx
    cases y with
    | non => cases ry; exact PySem.EqNone.ne_none_none (fin_bl I q (by simp))
    | bl j => cases ry; exact PySem.EqNone.ne_none_bool (fin_bl I q (by simp))
    | int j => obtain ⟨t', rfl⟩ := ry; exact PySem.EqNone.ne_none_int (fin_bl I q (by simp))
    | str j => obtain ⟨t', rfl⟩ := ry; exact PySem.EqNone.ne_none_str (fin_bl I q (by simp))
    | _ => exact absurd (show false = true from hs) Bool.false_ne_true
  | bl i =>
    cases rx
    cases y with
    | non => cases ry; exact PySem.EqNone.ne_bool_none (fin_bl I q (by simp))
    | bl j => cases ry; exact ne_bool (fin_bl I q (congrArg not dec_bl))
    | str j => obtain ⟨t', rfl⟩ := ry; exact PySem.EqMixed.ne_bool_str (fin_bl I q (by simp))
    | _ => exact absurd (show false = true from hs) Bool.false_ne_true
  | int i =>
    obtain ⟨t, rfl⟩ := rx
    cases y with
    | non => cases ry; exact PySem.EqNone.ne_int_none (fin_bl I q (by simp))
    | int j => obtain ⟨t', rfl⟩ := ry; exact ne_int (fin_bl I q (congrArg not dec_int))
    | str j => obtain ⟨t', rfl⟩ := ry; exact PySem.EqMixed.ne_int_str (fin_bl I q (by simp))
    | _ => exact absurd (show false = true from hs) Bool.false_ne_true
  | str i =>
    obtain ⟨t, rfl⟩ := rx
    cases y with
    | non => cases ry; exact PySem.EqNone.ne_str_none (fin_bl I q (by simp))
    | bl j => cases ry; exact PySem.EqMixed.ne_str_bool (fin_bl I q (by simp))
    | int j => obtain ⟨t', rfl⟩ := ry; exact PySem.EqMixed.ne_str_int (fin_bl I q (by simp))
    | str j => obtain ⟨t', rfl⟩ := ry; exact ne_str (fin_bl I q (congrArg not dec_str))
    | _ => exact absurd (show false = true from hs) Bool.false_ne_true
  | byt i =>
    obtain ⟨t, rfl⟩ := rx
    cases y with
    | byt j => obtain ⟨t', rfl⟩ := ry; exact PySem.W.ne_bytes (fin_bl I q (congrArg not dec_byt))
    | _ => exact absurd (show false = true from hs) Bool.false_ne_true
  | _ => cases y <;> exact absurd (show false = true from hs) Bool.false_ne_true
theorem op_lt : OpR X (compareOp .Lt) (rI0 fun i j => .bl (decide (i < j))) := opB0 fun _ _ _ _ _ _ _ q => lt_int q
theorem op_le : OpR X (compareOp .LtE) (rI0 fun i j => .bl (decide (i ≤ j))) := opB0 fun _ _ _ _ _ _ _ q => le_int q
theorem op_gt : OpR X (compareOp .Gt) (rI0 fun i j => .bl (decide (j < i))) := opB0 fun _ _ _ _ _ _ _ q => gt_int q
theorem op_ge : OpR X (compareOp .GtE) (rI0 fun i j => .bl (decide (j ≤ i))) := opB0 fun _ _ _ _ _ _ _ q => ge_int q
theorem op_in_str : OpR X (compareOp .In) (fun x y H Q => ∃ i j, x = .str i ∧ y = .str j ∧ Q (.bl (!(Builtin.Str.occurrences j i 0 j.length 1).isEmpty)) H) := by
  intro pins s σ H x y v u Q I rx ry h
  obtain ⟨i, j, rfl, rfl, q⟩ := h
  obtain ⟨t, rfl⟩ := rx
  obtain ⟨t', rfl⟩ := ry
  exact in_str (fin_bl I q rfl)
theorem nomark (b : Expr) {op : CmpOp} (h : op ≠ .In := by decide) (h2 : op ≠ .NotIn := by decide) : behindInMarks op b = false := by
  have e1 : (op == CmpOp.In) = false := by cases op <;> first | rfl | exact absurd rfl h
  have e2 : (op == CmpOp.NotIn) = false := by cases op <;> first | rfl | exact absurd rfl h2
  cases b <;> simp [behindInMarks, e1, e2]
theorem pe_cmpR {op : CmpOp} {r : R2} (ho : OpR X (compareOp op) r) (ha : PE X a ta) (hb : PE X b tb) (hm : behindInMarks op b = false) : PE X (.Compare a [op] [b] pos) (tOp r ta tb) := by
  intro pins s σ H Q I h
  exact wpAny_Compare1 (binT ha hb I h fun v u s2 x y H2 I2 rx ry q => ho pins s2 σ H2 x y v u Q I2 rx ry q) hm
noncomputable def tTest (t : TE) : TT := fun σ H Q => t σ H fun x H' => ∃ k, x = .bl k ∧ Q k H'
theorem pt_cmpR {op : CmpOp} {r : R2} (ho : OpR X (compareOp op) r) (ha : PE X a ta) (hb : PE X b tb) (hm : behindInMarks op b = false) : PT X (.Compare a [op] [b] pos) (tTest (tOp r ta tb)) := by
  intro pins s σ H Q I h
  refine wpAny_isTrue_Compare1 (thn (ha pins s σ H _ I h) fun v s1 ⟨x, H1, I1, r1, q1⟩ => thn (hb pins s1 σ H1 _ I1 q1) fun u s2 ⟨y, H2, I2, r2, q2⟩ =>
    thn (ho pins s2 σ H2 x y v u _ I2 r1 r2 q2) fun c s3 ⟨z, H3, I3, r3, k, e, q3⟩ => ?_) hm
  subst e
  cases r3
  exact wpAny_truthy_bool ⟨H3, I3, q3⟩
noncomputable def tChain (r r' : R2) (ta tb tc : TE) : TE := fun σ H Q => ta σ H fun x H1 => tb σ H1 fun y H2 => r x y H2 fun z H3 => ∃ k, z = .bl k ∧
  (if k = true then tc σ H3 fun w' H4 => r' y w' H4 Q else Q (.bl false) H3)
theorem pt_chain {op op' : CmpOp} {r r' : R2} (ho : OpR X (compareOp op) r) (ho' : OpR X (compareOp op') r') (ha : PE X a ta) (hb : PE X b tb) (hc : PE X c tc)
    (hm : lastMarks [op, op'] [b, c] = false := by with_unfolding_all rfl) : PT X (.Compare a [op, op'] [b, c] pos) (tTest (tChain r r' ta tb tc)) := by
  intro pins s σ H Q I h
  refine isTrue_chain (thn (ha pins s σ H _ I h) fun v s1 ⟨x, H1, I1, r1, q1⟩ => test_link (thn (hb pins s1 σ H1 _ I1 q1) fun u s2 ⟨y, H2, I2, r2, q2⟩ =>
    thn (ho pins s2 σ H2 x y v u _ I2 r1 r2 q2) fun d s3 ⟨z, H3, I3, r3, k, e, q3⟩ => ?_)) hm
  subst e
  cases r3
  refine wpAny_truthy_bool ?_
  cases k with
  | false =>
    obtain ⟨k', e', q'⟩ := q3
    cases e'
    exact ite_ff ⟨H3, I3, q'⟩
  | true =>
    refine ite_tt (test_last (thn (hc pins s3 σ H3 _ I3 q3) fun w' s4 ⟨z', H4, I4, r4, q4⟩ => thn (ho' pins s4 σ H4 y z' u w' _ I4 r2 r4 q4) fun d' s5 ⟨z2, H5, I5, r5, k2, e2, q5⟩ => ?_))
    subst e2
    cases r5
    exact wpAny_truthy_bool ⟨H5, I5, q5⟩
theorem line63 : (sizeLine : Nat) < 2 ^ 63 := by rw [sizeLine_eq]; decide
theorem op_add_str : OpR X (binaryOp .Add) (fun x y H Q => ∃ i j, x = .str i ∧ y = .str j ∧ i.length + j.length ≤ sizeLine ∧ Q (.str (i ++ j)) H) := by
  intro pins s σ H x y v u Q I rx ry h
  obtain ⟨i, j, rfl, rfl, hz, q⟩ := h
  obtain ⟨t, rfl⟩ := rx
  obtain ⟨t', rfl⟩ := ry
  exact add_str (fun t' tk => ⟨.str (i ++ j), H, I.tok _, ⟨_, rfl⟩, q⟩) hz
theorem vals1 {x : V} {us : List Value} (r : Vals [x] us) : ∃ u, us = [u] ∧ RelV x u := by
  cases r with
  | cons r1 r2 => cases r2; exact ⟨_, rfl, r1⟩
theorem call_abs : CallR X (.builtin "abs") (fun xs H Q => ∃ i, xs = [.int i] ∧ Q (.int (if i < 0 then -i else i)) H) := by
  intro pins s σ H xs us Q I r h
  obtain ⟨i, rfl, q⟩ := h
  obtain ⟨u, rfl, t, rfl⟩ := vals1 r
  exact call_abs_int fun u tk => ⟨.int (if i < 0 then -i else i), H, I.tok _, ⟨_, rfl⟩, q⟩
theorem call_str_int : CallR X (.type "str") (fun xs H Q => ∃ i, xs = [.int i] ∧ i.natAbs.log2 < 1920 ∧ Q (.str (toString i)) H) := by
  intro pins s σ H xs us Q I r h
  obtain ⟨i, rfl, hz, q⟩ := h
  obtain ⟨u, rfl, t, rfl⟩ := vals1 r
  exact PySem.P.str_of_int hz ⟨.str _, H, I.tok _, ⟨_, rfl⟩, q⟩
end
end L2
namespace L2
open PySem PySem.Spec PyProof.Rows
structure ObjM (h : Heap) (x dx C : Addr) (mA : Str → Option Value) : Prop where
  obj : h.get? x = some (PySem.W.instObj C dx)
  ns : h.Ns1 dx mA
  ne : dx ≠ x
theorem lookIn_ns {h : Heap} {dx : Addr} {mA : Str → Option Value} (n : h.Ns1 dx mA) : ∃ od, h.get? dx = some od ∧ ∀ name, PySem.W.lookIn name od = some (mA name) := by
  obtain ⟨o, es, ep, ho, hd, hk, _, hm⟩ := n
  refine ⟨o, ho, fun name => ?_⟩
  have e := hm name
  unfold nsFind findBy at e
  rw [← Array.find?_toList] at e
  unfold PySem.W.lookIn
  rw [hd]
  dsimp only
  split
  · rename_i y q
    rw [q] at e
    exact congrArg some e
  · rename_i q
    rw [q] at e
    have a : es.toList.any (·.refKey) = false := by
      rw [List.any_eq_false]
      intro y hy
      obtain ⟨z, t, hkey⟩ := hk y (Array.mem_toList_iff.mp hy)
      simp [DictEntry.refKey, hkey]
    have a' : ¬ es.toList.any (·.refKey) = true := by rw [a]; exact Bool.false_ne_true
    rw [if_neg a']
    exact congrArg some e
theorem ObjM.look {h : Heap} {x dx C : Addr} {mA : Str → Option Value} (I : ObjM h x dx C mA) : ∃ od, PySem.W.InstAt h x (PySem.W.instObj C dx) C (some od) ∧ ∀ name, PySem.W.lookIn name od = some (mA name) :=
  let ⟨od, ho, hl⟩ := lookIn_ns I.ns
  ⟨od, ⟨I.obj, rfl, rfl, ho⟩, hl⟩
section
variable {prog : Program} {w : World} {A : Around} {E : Value → Shared → Prop} {s : Shared} {K : PySem.W.Frag} {x dx C f : Addr} {mA : Str → Option Value} {name : Str} {v : Value}
theorem get_map {expr : Bool} {Q : Value → Shared → Prop} (X : K.In s.heap) (I : ObjM s.heap x dx C mA) (hg : PySem.W.plainGet K C name = true) (hh : PySem.W.hasDictIn K C = true)
    (ha : PySem.W.findIn K (.ref C) name = some none) (hv : mA name = some v) (hv' : PySem.W.handedIn v = true) (h : Q v { s with toks := s.toks + 1 }) :
    wpAny (model prog w) A (getAttr (.ref x) name expr) Q E s := by
  obtain ⟨od, J, hl⟩ := I.look
  exact PySem.W.get_value X J (PySem.W.plainGet_of hg).1 (PySem.W.findObj_own hh ha rfl (by rw [hl, hv])) hv' h
theorem get_meth {pl : Sem Bool} {Q : Value × List Value → Shared → Prop} (X : K.In s.heap) (I : ObjM s.heap x dx C mA) (hg : PySem.W.plainGet K C name = true)
    (hf : PySem.W.findIn K (.ref C) name = some (some (.ref f))) (ht : PySem.W.isFn K (.ref f) = true) (hv : mA name = none) (h : Q (.ref f, [.ref x]) s) :
    wpAny (model prog w) A (getMethod (.ref x) name pl) Q E s := by
  obtain ⟨od, J, hl⟩ := I.look
  exact PySem.W.method_fn X J (PySem.W.plainGet_of hg).1 (PySem.W.plainGet_of hg).2 hf (beq_iff_eq.mp ht) (by show (PySem.W.lookIn name od).map (·.isSome) = some false; rw [hl, hv]; rfl) h
theorem set_map {ns : List Str} {Q : Unit → Shared → Prop} (X : K.In s.heap) (I : ObjM s.heap x dx C mA)
    (hs : PySem.W.findIn K (.ref C) "__setattr__" = some (some (.builtin "object.__setattr__"))) (hp : PySem.W.plainOver K C = true) (ht : PySem.W.takerIn K C name = some none) (hh : PySem.W.hasDictIn K C = true)
    (hw : PySem.Within mA ns) (hsz : ns.length ≤ sizeLine)
    (h : ∀ h', ObjM h' x dx C (fun y => if y = name then some v else mA y) → Heap.SameBut dx s.heap h' → Q () { s with heap := h', toks := s.toks + 2 }) :
    wpAny (model prog w) A (setAttr (.ref x) name v) Q E s := by
  obtain ⟨od, J, hl⟩ := I.look
  refine PySem.W.set_plain X J hs (PySem.W.osa_open (s := { s with toks := s.toks + 1 }) (r := none) X J hp ht fun b => ?_)
  obtain ⟨cd, hc, hd'⟩ := PySem.W.any_some hh
  have hx : s.heap.get? x = some ⟨.ref C, some dx, .plain, #[]⟩ := I.obj
  refine wpAny_bind (wpAny_pure (wpAny_bind (wpAny_bind (wpAny_loadPart hx (wpAny_bind (PySem.W.Looks.here (s := { s with toks := s.toks + 1 }) (PySem.W.looks_clsIn X hc) ?_))))))
  rw [hd']
  refine wpAny_pure (a := some dx) (wpAny_bind (wpAny_pure (wpAny_bind ?_)))
  refine wpAny_nsSet1 (s := { s with toks := s.toks + 1 }) I.ns fun h' hn2 hs2 => ?_
  obtain ⟨oD, esD, epD, hoD, hdD, hcD⟩ := hn2.count (PySem.Within.cons name v hw)
  refine wpAny_bind (wpAny_lookBehind hoD (by rw [hdD]; exact pastItsLine_dict (Nat.le_trans hcD (by rw [List.length_cons]; omega))) ?_)
  exact wpAny_pure (h _ ⟨(hs2.2 _ (Ne.symm I.ne)).trans I.obj, hn2, I.ne⟩ hs2)
theorem make_map {R : Result → Shared → Prop} {vs : List Value} {kw : List (Str × Value)} (X : K.In s.heap) (hm : PySem.W.makesIn K C = true)
    (hi : PySem.W.findIn K (.ref C) "__init__" = some (some (.ref f))) (hf : PySem.W.typeIn K (.ref f) = some (.type "function"))
    (h : codeAny (model prog w) (A.under (.builtin "type.__call__" ⟨.ref C :: vs, kw⟩)) (.call (.ref f) ⟨.ref (s.heap.objs.size + 1) :: vs, kw⟩) (PySem.W.InitBack (s.heap.objs.size + 1) R)
      { s with heap := (s.heap.push PySem.W.emptyDict).push (PySem.W.instObj C s.heap.objs.size) }) :
    codeAny (model prog w) A (.call (.ref C) ⟨vs, kw⟩) R s := by
  obtain ⟨hh, g, d, t, os⟩ := s
  exact PySem.W.make_core (PySem.W.makes_of X hm) (PySem.W.looks_findIn X hi) (fun self => PySem.W.bind_fn X self hf) (.inl rfl) h
end
noncomputable def putF (f : Str) (v : V) : List (Str × V) → List (Str × V)
  | [] => [(f, v)]
  | (g, x) :: r => if g = f then (g, v) :: r else (g, x) :: putF f v r
theorem lookup_putF (f g : Str) (v : V) : ∀ fs : List (Str × V), (putF f v fs).lookup g = if g = f then some v else fs.lookup g
  | [] => by
    show List.lookup g [(f, v)] = _
    by_cases h : g = f
    · have hb : (g == f) = true := beq_iff_eq.mpr h
      simp only [List.lookup, hb, if_pos h]
    · have hb : (g == f) = false := beq_eq_false_iff_ne.mpr h
      simp only [List.lookup, hb, if_neg h]
  | (k, x) :: r => by
    have ih := lookup_putF f g v r
    rw [show putF f v ((k, x) :: r) = (if k = f then (k, v) :: r else (k, x) :: putF f v r) from rfl]
    by_cases hk : k = f
    · rw [if_pos hk]
      by_cases h : g = k
      · have hb : (g == k) = true := beq_iff_eq.mpr h
        simp only [List.lookup, hb, if_pos (h.trans hk)]
      · have hb : (g == k) = false := beq_eq_false_iff_ne.mpr h
        simp only [List.lookup, hb, if_neg (fun e : g = f => h (e.trans hk.symm))]
    · rw [if_neg hk]
      by_cases h : g = k
      · have hb : (g == k) = true := beq_iff_eq.mpr h
        simp only [List.lookup, hb, if_neg (fun e : g = f => hk (h.symm.trans e))]
      · have hb : (g == k) = false := beq_eq_false_iff_ne.mpr h
        simp only [List.lookup, hb]
        exact ih
theorem keys_putF (f : Str) (v : V) : ∀ fs : List (Str × V), f ∈ (putF f v fs).map (·.1) ∧ ∀ g, g ∈ fs.map (·.1) → g ∈ (putF f v fs).map (·.1)
  | [] => ⟨by simp [putF], fun g h => by simp at h⟩
  | (k, x) :: r => by
    obtain ⟨i1, i2⟩ := keys_putF f v r
    rw [show putF f v ((k, x) :: r) = (if k = f then (k, v) :: r else (k, x) :: putF f v r) from rfl]
    by_cases hk : k = f
    · rw [if_pos hk]
      subst hk
      exact ⟨by simp, fun g h => by simpa using h⟩
    · rw [if_neg hk]
      refine ⟨?_, fun g h => ?_⟩
      · rw [List.map_cons]
        exact List.mem_cons_of_mem _ i1
      · rw [List.map_cons] at h ⊢
        rcases List.mem_cons.mp h with e | e
        · exact List.mem_cons.mpr (.inl e)
        · exact List.mem_cons_of_mem _ (i2 g e)
theorem length_putF (f : Str) (v : V) : ∀ fs : List (Str × V), (putF f v fs).length ≤ fs.length + 1
  | [] => by simp [putF]
  | (k, x) :: r => by
    have ih := length_putF f v r
    rw [show putF f v ((k, x) :: r) = (if k = f then (k, v) :: r else (k, x) :: putF f v r) from rfl]
    by_cases hk : k = f
    · rw [if_pos hk, List.length_cons, List.length_cons]; omega
    · rw [if_neg hk, List.length_cons, List.length_cons]; omega
theorem RelO.some_of {v : V} {o : Option Value} (r : RelO (some v) o) : ∃ u, o = some u ∧ RelV v u := by
  cases o with
  | none => exact (show False from r).elim
  | some u => exact ⟨u, rfl, r⟩
theorem RelO.none_of {o : Option Value} (r : RelO none o) : o = none := by
  cases o with
  | none => rfl
  | some u => exact (show False from r).elim
theorem handed_of {v : V} {u : Value} (r : RelV v u) : PySem.W.handedIn u = true := by
  cases v with
  | non => cases (show u = Value.none from r); rfl
  | bl b => cases (show u = Value.bool b from r); rfl
  | int i => obtain ⟨t, e⟩ := (show ∃ t, u = Value.int i t from r); cases e; rfl
  | str x => obtain ⟨t, e⟩ := (show ∃ t, u = Value.str x t from r); cases e; rfl
  | byt b => obtain ⟨t, e⟩ := (show ∃ t, u = Value.bytes b t from r); cases e; rfl
  | flt b => obtain ⟨t, e⟩ := (show ∃ t, u = Value.float b t from r); cases e; rfl
  | ref a => cases (show u = Value.ref a from r); rfl
  | ty n => cases (show u = Value.type n from r); rfl
section
variable {P : Program} {w : World} {H H' : Hp} {h h' : Heap} {a C dx : Addr} {fs fs' : List (Str × V)}
theorem ins_get (hok : HOk P w H h) (e : H a = some (.ins C dx fs)) : ∃ mA, ObjM h a dx C mA ∧ (∀ f, RelO (fs.lookup f) (mA f)) ∧ PySem.Within mA (fs.map (·.1)) ∧ fs.length ≤ 1000 ∧ H dx = some (.own a) := by
  obtain ⟨d, z, ne, ob, mA, n, r, q⟩ := (show ObjOk P w H h a (.ins C dx fs) from hok a _ e)
  exact ⟨mA, ⟨ob, n, ne⟩, r, q, z, d⟩
end
structure Cls (K : PySem.W.Frag) (C : Addr) : Prop where
  pg : PySem.W.plainGet K C Str.empty = true
  hd : PySem.W.hasDictIn K C = true
  po : PySem.W.plainOver K C = true
  sa : PySem.W.findIn K (.ref C) "__setattr__" = some (some (.builtin "object.__setattr__"))
theorem Cls.get {K : PySem.W.Frag} {C : Addr} (c : Cls K C) (f : Str) : PySem.W.plainGet K C f = true := c.pg
noncomputable def NoAttr (K : PySem.W.Frag) (C : Addr) (f : Str) : Prop := PySem.W.findIn K (.ref C) f = some none
theorem NoAttr.taker {K : PySem.W.Frag} {C : Addr} {f : Str} (n : NoAttr K C f) : PySem.W.takerIn K C f = some none := by
  unfold PySem.W.takerIn
  rw [show PySem.W.findIn K (.ref C) f = some none from n]
  rfl
structure Meth (K : PySem.W.Frag) (C : Addr) (m : Str) (f : Addr) : Prop where
  at_ : PySem.W.findIn K (.ref C) m = some (some (.ref f))
  fn : PySem.W.isFn K (.ref f) = true
  kp : PySem.W.keepIn K (.ref f) = true
section
variable {X : Cx} {pins : List (Addr × Obj)} {σ : St} {H : Hp} {s : Shared} {a C dx : Addr} {fs : List (Str × V)} {f : Str} {v : V} {A : Around} {E : Value → Shared → Prop}
theorem getattr_ok {b : Bool} {Q : Value → Shared → Prop} (I : Inv X pins σ H s) (e : H a = some (.ins C dx fs)) (c : Cls X.K C) (n : NoAttr X.K C f) (l : fs.lookup f = some v)
    (h : ∀ u s', Inv X pins σ H s' → RelV v u → Q u s') : wpAny (model X.prog X.w) A (getAttr (.ref a) f b) Q E s := by
  obtain ⟨mA, O, r, _, _, _⟩ := ins_get I.hok e
  obtain ⟨u, hu, ru⟩ := RelO.some_of (v := v) (o := mA f) (by rw [← l]; exact r f)
  exact get_map I.kIn O (c.get f) c.hd n hu (handed_of ru) (h u _ (I.tok _) ru)
theorem getmeth_ok {m : Str} {g : Addr} {pl : Sem Bool} {Q : Value × List Value → Shared → Prop} (I : Inv X pins σ H s) (e : H a = some (.ins C dx fs)) (c : Cls X.K C) (k : Meth X.K C m g) (l : fs.lookup m = none)
    (h : Q (.ref g, [.ref a]) s) : wpAny (model X.prog X.w) A (getMethod (.ref a) m pl) Q E s := by
  obtain ⟨mA, O, r, _, _, _⟩ := ins_get I.hok e
  have hn : mA m = none := RelO.none_of (by rw [← l]; exact r m)
  exact get_meth I.kIn O (c.get m) k.at_ k.fn hn h
theorem setattr_ok {y : V} {u : Value} {Q : Unit → Shared → Prop} (I : Inv X pins σ H s) (e : H a = some (.ins C dx fs)) (c : Cls X.K C) (n : NoAttr X.K C f) (hl : fs.length < 1000) (ry : RelV y u)
    (h : ∀ s', Inv X pins σ (upd H a (.ins C dx (putF f y fs))) s' → Q () s') : wpAny (model X.prog X.w) A (setAttr (.ref a) f u) Q E s := by
  obtain ⟨mA, O, r, wi, _, ho⟩ := ins_get I.hok e
  have hz : (fs.map (·.1)).length ≤ sizeLine := by rw [List.length_map, sizeLine_eq]; omega
  refine set_map I.kIn O c.sa c.po n.taker c.hd wi hz fun h' O' sb => h _ ?_
  have hd : ∃ o, h'.get? dx = some o := let ⟨o, _, _, e', _⟩ := O'.ns; ⟨o, e'⟩
  refine I.write (x := a) (e := dx) (by rw [e]; exact True.intro) (.inr ho) (fun b q hb z => (sb.2 b hb).trans z) hd ?_
  refine ⟨by rw [upd_ne O.ne]; exact ho, ?_, O.ne, O'.obj, _, O'.ns, fun g => ?_, fun g hg => ?_⟩
  · have := length_putF f y fs; omega
  · show RelO ((putF f y fs).lookup g) (if g = f then some u else mA g)
    rw [lookup_putF]
    by_cases q : g = f
    · rw [if_pos q, if_pos q]; exact ry
    · rw [if_neg q, if_neg q]; exact r g
  · by_cases q : g = f
    · rw [q]; exact (keys_putF f y fs).1
    · refine (keys_putF f y fs).2 g (wi g fun z => hg ?_)
      show (if g = f then some u else mA g) = none
      rw [if_neg q]; exact z
theorem Inv.made (I : Inv X pins σ H s) : Inv X pins σ (upd (upd H s.heap.objs.size (.own (s.heap.objs.size + 1))) (s.heap.objs.size + 1) (.ins C s.heap.objs.size []))
    { s with heap := (s.heap.push PySem.W.emptyDict).push (PySem.W.instObj C s.heap.objs.size) } := by
  have e1 : (s.heap.push PySem.W.emptyDict).get? s.heap.objs.size = some PySem.W.emptyDict := Heap.get?_push_size s.heap rfl
  have e2 : ((s.heap.push PySem.W.emptyDict).push (PySem.W.instObj C s.heap.objs.size)).get? (s.heap.objs.size + 1) = some (PySem.W.instObj C s.heap.objs.size) := by
    have := Heap.get?_push_size (s.heap.push PySem.W.emptyDict) (o := PySem.W.instObj C s.heap.objs.size) rfl
    rwa [Heap.size_push] at this
  have e3 : (s.heap.push PySem.W.emptyDict).Ns s.heap.objs.size (fun _ => none) := ⟨PySem.W.emptyDict, #[], _, e1, rfl, (fun e he => absurd he (by simp)), fun _ => rfl⟩
  have I1 := I.laid (a := s.heap.objs.size) (o := .own (s.heap.objs.size + 1)) (h' := s.heap.push PySem.W.emptyDict) (t' := s.toks) (fun b u q => Heap.get?_push_of_some _ q) (Nat.le_refl _) ⟨_, e1⟩
  refine I1.laid (a := s.heap.objs.size + 1) (o := .ins C s.heap.objs.size []) (t' := s.toks) (fun b u q => Heap.get?_push_of_some _ q) (Nat.le_of_eq (Heap.size_push _ _)) ?_
  have ne : s.heap.objs.size ≠ s.heap.objs.size + 1 := Nat.ne_of_lt (Nat.lt_succ_self _)
  refine ⟨by rw [upd_ne ne, upd_same], Nat.zero_le _, ne, e2, fun _ => none, (Heap.Ns1.of_empty e3).at fun o q => Heap.get?_push_of_some _ q, fun _ => True.intro, fun y hy => absurd rfl hy⟩
theorem attr_of {prog : Program} {w : World} {env : Env} {e : Expr} {f : Str} {pos : Pos} {s : Shared} {Q : Value → Shared → Prop} (hb : attributeBase e f env (eval e env) = eval e env)
    (h : wpAny (model prog w) A (eval e env) (fun o s₁ => wpAny (model prog w) A (getAttr o f true) Q E s₁) E s) : wpAny (model prog w) A (eval (.Attribute e f pos) env) Q E s :=
  Attribute_any_ h (by rw [arm_eval_Attribute, hb])
end
noncomputable def tFld (K : PySem.W.Frag) (ta : TE) (f : Str) : TE := fun σ H Q => ta σ H fun x H1 => ∃ a C dx fs v, x = .ref a ∧ H1 a = some (.ins C dx fs) ∧ Cls K C ∧ NoAttr K C f ∧ fs.lookup f = some v ∧ Q v H1
noncomputable def sFld (K : PySem.W.Frag) (ta tv : TE) (f : Str) : TS := fun D σ H => tv σ H fun y H1 => ta σ H1 fun x H2 => ∃ a C dx fs, x = .ref a ∧ H2 a = some (.ins C dx fs) ∧ Cls K C ∧ NoAttr K C f ∧ fs.length < 1000 ∧
  D.nx σ (upd H2 a (.ins C dx (putF f y fs)))
section
variable {X : Cx} {o e value : Expr} {f : Str} {pos pos' tpos : Pos} {ta tv : TE}
theorem pe_fld (he : PE X e ta) (hb : attributeBase e f X.env (eval e X.env) = eval e X.env) : PE X (.Attribute e f pos) (tFld X.K ta f) := by
  intro pins s σ H Q I h
  refine attr_of hb (thn (he pins s σ H _ I h) fun u s1 ⟨x, H1, I1, rx, a, C, dx, fs, v, ex, ea, c, n, l, q⟩ => ?_)
  subst ex
  obtain rfl : u = Value.ref a := rx
  exact getattr_ok I1 ea c n l fun u' s2 I2 ru => ⟨v, H1, I2, ru, q⟩
theorem ps_fld (ha : PE X o ta) (hv : PE X value tv) (hs : swapsWith value (some (.Attribute o f pos')) pos.line X.env = pure false) : PS X (.Assign [.Attribute o f pos'] value pos) (sFld X.K ta tv f) := by
  intro pins s σ H D I h
  refine plainObj_wpAny_Assign_Attribute (thn (hv pins s σ H _ I h) fun u s1 ⟨y, H1, I1, ry, q⟩ => thn (ha pins s1 σ H1 _ I1 q) fun ov s2 ⟨x, H2, I2, rx, a, C, dx, fs, ex, ea, c, n, l, q2⟩ => ?_) hs
  subst ex
  obtain rfl : ov = Value.ref a := rx
  exact setattr_ok I2 ea c n l ry fun s3 I3 => ⟨σ, _, I3, q2⟩
end
section
variable {X : Cx} {pins : List (Addr × Obj)} {σ : St} {H : Hp} {s : Shared} {A : Around} {E : Value → Shared → Prop} {Q : Value → Shared → Prop} {c : Value} {b : Bool}
inductive TyOf (K : PySem.W.Frag) (H : Hp) : V → Value → Prop where
  | non : TyOf K H .non (.type "NoneType")
  | bl (x : Bool) : TyOf K H (.bl x) (.type "bool")
  | int (i : Int) : TyOf K H (.int i) (.type "int")
  | str (x : Str) : TyOf K H (.str x) (.type "str")
  | flt (x : UInt64) : TyOf K H (.flt x) (.type "float")
  | lst {a : Addr} {xs : List V} (e : H a = some (.lst xs)) : TyOf K H (.ref a) (.type "list")
  | frz {a : Addr} {o : Obj} {xs : List V} (e : H a = some (.frz o (.lst xs))) : TyOf K H (.ref a) (.type "list")
  | tup {a : Addr} {xs : List V} (e : H a = some (.tup xs)) : TyOf K H (.ref a) (.type "tuple")
  | dK {a : Addr} {kvs : List (Key × V)} (e : H a = some (.dK kvs)) : TyOf K H (.ref a) (.type "dict")
  | dT {a : Addr} {kvs : List (List Key × V)} (e : H a = some (.dT kvs)) : TyOf K H (.ref a) (.type "dict")
  | ins {a C dx : Addr} {fs : List (Str × V)} (e : H a = some (.ins C dx fs)) (cl : Cls K C) (ha : PySem.W.findIn K (.ref C) "__class__" = some (some (.builtin "object.__class__")))
      (hn : PySem.W.specialIn K (.builtin "object.__class__") "__get__" = some (some (.builtin "getset_descriptor.__get__"))) (htk : PySem.W.takesIn K (.builtin "object.__class__") = some true)
      (hm : PySem.W.mroIn K C (.type "object") = some true) : TyOf K H (.ref a) (.ref C)
theorem isinst_ok {x : V} {u t : Value} (I : Inv X pins σ H s) (rx : RelV x u) (ty : TyOf X.K H x t) (e : PySem.W.kitOne X.K t c = some b) (h : ∀ tk, Q (.bool b) { s with toks := tk }) :
    wpAny (model X.prog X.w) A (call (.builtin "isinstance") [u, c]) Q E s := by
  cases ty with
  | non => cases (show u = Value.none from rx); exact PySem.W.kia_one PySem.W.kitx_none I.kIn True.intro e (fun z => nomatch z) h
  | bl y => cases (show u = Value.bool y from rx); exact PySem.W.kia_one PySem.W.kitx_bool I.kIn True.intro e (fun z => nomatch z) h
  | int i => obtain ⟨t, q⟩ := (show ∃ t, u = Value.int i t from rx); cases q; exact PySem.W.kia_one PySem.W.kitx_int I.kIn True.intro e (fun z => nomatch z) h
  | str y => obtain ⟨t, q⟩ := (show ∃ t, u = Value.str y t from rx); cases q; exact PySem.W.kia_one PySem.W.kitx_str I.kIn True.intro e (fun z => nomatch z) h
  | flt y => obtain ⟨t, q⟩ := (show ∃ t, u = Value.float y t from rx); cases q; exact PySem.W.kia_one PySem.W.kitx_float I.kIn True.intro e (fun z => nomatch z) h
  | @lst a xs ea =>
    cases (show u = Value.ref a from rx)
    obtain ⟨_, _, n, _, h1⟩ := (show ObjOk X.prog X.w H s.heap a (.lst xs) from I.hok a _ ea)
    exact PySem.W.kia_one PySem.W.kitx_list I.kIn ⟨_, h1, rfl⟩ e (fun z => nomatch z) h
  | @frz a ob xs ea =>
    cases (show u = Value.ref a from rx)
    obtain ⟨_, _, _, n, _, h1⟩ := (show ObjOk X.prog X.w H s.heap a (.frz ob (.lst xs)) from I.hok a _ ea)
    exact PySem.W.kia_one PySem.W.kitx_list I.kIn ⟨_, h1, rfl⟩ e (fun z => nomatch z) h
  | @tup a xs ea =>
    cases (show u = Value.ref a from rx)
    obtain ⟨_, _, _, p⟩ := (show ObjOk X.prog X.w H s.heap a (.tup xs) from I.hok a _ ea)
    obtain ⟨o, h1, h2, _⟩ := p
    exact PySem.W.kia_one PySem.W.kitx_tuple I.kIn ⟨o, h1, h2⟩ e (fun z => nomatch z) h
  | @dK a kvs ea =>
    cases (show u = Value.ref a from rx)
    obtain ⟨_, _, vs, _, p⟩ := (show ObjOk X.prog X.w H s.heap a (.dK kvs) from I.hok a _ ea)
    obtain ⟨o, es, ep, h1, h2, _⟩ := p
    exact PySem.W.kia_one PySem.W.kitx_dict I.kIn ⟨o, h1, h2.1⟩ e (fun z => nomatch z) h
  | @dT a kvs ea =>
    cases (show u = Value.ref a from rx)
    obtain ⟨_, _, xs, _, o, es, ep, h1, h2, _⟩ := (show ObjOk X.prog X.w H s.heap a (.dT kvs) from I.hok a _ ea)
    exact PySem.W.kia_one PySem.W.kitx_dict I.kIn ⟨o, h1, h2.1⟩ e (fun z => nomatch z) h
  | @ins a C dx fs ea cl ha hn htk hm =>
    cases (show u = Value.ref a from rx)
    obtain ⟨mA, O, _⟩ := ins_get I.hok ea
    obtain ⟨od, J, _⟩ := O.look
    exact PySem.W.kia_one (PySem.W.kitx_own (cl.get _) cl.hd ha hn htk hm) I.kIn J e (fun z => nomatch z) h
end
end L2
namespace L2
open PySem PySem.Spec PyProof.Rows
structure Room (k : Nat) (A : Around) : Prop where
  hd : A.handled = none
  dp : A.depth + 3 * k + 5 < recursionLimit
  un : A.units + 16 * k + 200 < cLine
theorem Room.mono {j k : Nat} {A : Around} (r : Room k A) (h : j ≤ k) : Room j A := ⟨r.hd, by have := r.dp; omega, by have := r.un; omega⟩
theorem Room.deeper {k : Nat} {A : Around} (r : Room (k + 1) A) (env : Env) : Room k (A.deeper env) :=
  ⟨r.hd, by have := r.dp; show A.depth + 1 + 3 * k + 5 < _; omega, by have := r.un; show A.units + 3 + 16 * k + 200 < _; omega⟩
theorem make_depth {A : Around} {C : Addr} {us : List Value} {kw : List (Str × Value)} : (A.under (.builtin "type.__call__" ⟨.ref C :: us, kw⟩)).depth = A.depth + 1 := by
  first | rfl | simp [Around.under, Code.weight, Code.isCreation, Code.isGuard, Code.isCaller, Code.frames, Code.isFrame, guardIds]
theorem make_units {A : Around} {C : Addr} {us : List Value} {kw : List (Str × Value)} : (A.under (.builtin "type.__call__" ⟨.ref C :: us, kw⟩)).units = A.units + 1 := by
  first | rfl | simp [Around.under, Code.cUnits, Code.frames, Code.isFrame]
theorem Room.make {k : Nat} {A : Around} (r : Room (k + 1) A) (C : Addr) (us : List Value) (kw : List (Str × Value)) : Room k (A.under (.builtin "type.__call__" ⟨.ref C :: us, kw⟩)) :=
  ⟨r.hd, by have := r.dp; rw [make_depth]; omega, by have := r.un; rw [make_units]; omega⟩
theorem Room.depth {k : Nat} {A : Around} (r : Room k A) : A.depth < recursionLimit := by have := r.dp; omega
theorem Room.units {k : Nat} {A : Around} (r : Room k A) : A.units + 64 < cLine := by have := r.un; omega
noncomputable def tNil : TA := fun _ H Q => Q [] H
noncomputable def tCons (ta : TE) (tr : TA) : TA := fun σ H Q => ta σ H fun x H1 => tr σ H1 fun xs H2 => Q (x :: xs) H2
section
variable {X : Cx} {e : Expr} {es : List Expr} {te : TE} {t : TA} {pos : Pos}
theorem pa_nil : PA X [] tNil := fun _ _ _ _ H Q I h => Calls.spliced_nil ⟨[], H, I, .nil, h⟩
theorem pa_cons (ha : PE X e te) (hr : PA X es t) (hs : starEach (e :: es) X.env = (false, eval e X.env) :: starEach es X.env := by rfl) : PA X (e :: es) (tCons te t) := by
  intro pos pins s σ H Q I h
  rw [hs]
  show wpAny _ _ (spliced ((false, eval e X.env) :: backTo pos (starEach es X.env))) _ _ s
  refine Calls.spliced_cons (thn (ha pins s σ H _ I h) fun u s1 ⟨x, H1, I1, r1, q1⟩ => ?_)
  exact thn (hr pos pins s1 σ H1 _ I1 q1) fun us s2 ⟨xs, H2, I2, r2, q2⟩ => ⟨x :: xs, H2, I2, .cons r1 r2, q2⟩
noncomputable def tTup (t : TA) : TE := fun σ H Q => t σ H fun xs H1 => xs.length ≤ sizeLine ∧ ∀ p, H1 p = none → Q (.ref p) (upd H1 p (.tup xs))
noncomputable def tLst (t : TA) : TE := fun σ H Q => t σ H fun xs H1 => xs.length ≤ sizeLine ∧ ∀ p, H1 p = none → Q (.ref p) (upd H1 p (.lst xs))
theorem pe_tup {x1} (h : PA X es t) : PE X (.Tuple es x1 pos) (tTup t) := by
  intro pins s σ H Q I hq
  refine wpAny_Tuple_spliced (thn (h pos pins s σ H _ I hq) fun us s1 ⟨xs, H1, I1, r, z, q⟩ => ⟨by rw [← r.length]; exact z, ?_⟩)
  have hf : H1 s1.heap.objs.size = none := I1.hok.fresh (Nat.le_refl _)
  refine ⟨.ref s1.heap.objs.size, upd H1 s1.heap.objs.size (.tup xs), I1.laid (t' := s1.toks) (fun b u e => Heap.get?_push_of_some _ e) (Nat.le_refl _) ?_, rfl, q _ hf⟩
  exact ⟨z, us, r, ⟨_, Heap.get?_push_size _ rfl, rfl, _, rfl⟩⟩
theorem pe_lst (h : PA X es t) : PE X (.List es pos) (tLst t) := by
  intro pins s σ H Q I hq
  refine wpAny_List_spliced (thn (h pos pins s σ H _ I hq) fun us s1 ⟨xs, H1, I1, r, z, q⟩ => ⟨by rw [← r.length]; exact z, ?_⟩)
  have hf : H1 s1.heap.objs.size = none := I1.hok.fresh (Nat.le_refl _)
  refine ⟨.ref s1.heap.objs.size, upd H1 s1.heap.objs.size (.lst xs), I1.laid (t' := s1.toks) (fun b u e => Heap.get?_push_of_some _ e) (Nat.le_refl _) ?_, rfl, q _ hf⟩
  exact ⟨z, us, 0, r, Heap.get?_push_size _ rfl⟩
end
noncomputable abbrev Sp := List V → Hp → VK → XK → Prop
noncomputable abbrev CXT := List Env → Hp → Shared → XK → Value → Shared → Prop
structure Env0 (P : Program) (w : World) (K : PySem.W.Frag) (mg : Str → Option Value) (base : Heap) (A : Around) (outer : List Env) (s : Shared) (H : Hp) : Prop where
  frames : A.frames = some outer
  mod : Mod K mg base
  bs : ∀ b o, base.get? b = some o → s.heap.get? b = some o ∧ H b = none
  bsz : base.objs.size ≤ s.heap.objs.size
  funs : s.heap.FunFrames base outer
  frf : ∀ b ∈ frs outer, H b = none
  hok : HOk P w H s.heap
  bare : AllBare s.gens
noncomputable def CE (outer : List Env) (P : Program) (w : World) (H : Hp) (s : Shared) (Q : VK) (u : Value) (s' : Shared) : Prop :=
  ∃ v H', s'.os = s.os ∧ AllBare s'.gens ∧ Un (frs outer) [] H H' s.heap s'.heap ∧ HOk P w H' s'.heap ∧ RelV v u ∧ Q v H'
noncomputable def CR (CX : CXT) (outer : List Env) (P : Program) (w : World) (H : Hp) (s : Shared) (Q : VK) (E : XK) (r : Result) (s' : Shared) : Prop :=
  match r with
  | .ok (.ret u) => CE outer P w H s Q u s'
  | .ok _ => False
  | .error e => CX outer H s E e s'
structure FnOk (P : Program) (w : World) (K : PySem.W.Frag) (mg : Str → Option Value) (base : Heap) (CX : CXT) (k : Nat) (f : Addr) (fd : FuncData) (ps : List Str) (sp : Sp) : Prop where
  len : ∀ vs H Q E, sp vs H Q E → vs.length = ps.length
  run : ∀ (A : Around) (outer : List Env) (s : Shared) (H : Hp) (args : Args) (us : List Value) (vs : List V) (Q : VK) (E : XK), Room k A → Env0 P w K mg base A outer s H → BindsTo s fd args (ps.zip us) → Vals vs us → sp vs H Q E →
    codeAny (model P w) A (.call (.ref f) args) (CR CX outer P w H s Q E) s
theorem FnOk.mono {P : Program} {w : World} {K : PySem.W.Frag} {mg : Str → Option Value} {base : Heap} {CX : CXT} {j k : Nat} {f : Addr} {fd : FuncData} {ps : List Str} {sp : Sp} (F : FnOk P w K mg base CX j f fd ps sp) (h : j ≤ k) :
    FnOk P w K mg base CX k f fd ps sp := ⟨F.len, fun A outer s H args us vs Q E hr => F.run A outer s H args us vs Q E (hr.mono h)⟩
theorem Env0.make {P : Program} {w : World} {K : PySem.W.Frag} {mg : Str → Option Value} {base : Heap} {A : Around} {outer : List Env} {s : Shared} {H : Hp} (e : Env0 P w K mg base A outer s H) (C : Addr) (us : List Value) (kw : List (Str × Value)) :
    Env0 P w K mg base (A.under (.builtin "type.__call__" ⟨.ref C :: us, kw⟩)) outer s H := ⟨by first | exact e.frames | (simpa [Around.under, Code.envs, Code.isFrame, pushEnvs] using e.frames), e.mod, e.bs, e.bsz, e.funs, e.frf, e.hok, e.bare⟩
section
variable {X : Cx} {pins : List (Addr × Obj)} {σ : St} {H : Hp} {s s' : Shared}
theorem Inv.env0 (I : Inv X pins σ H s) : Env0 X.prog X.w X.K X.mg X.base X.A X.stack s H :=
  ⟨I.ok.frames, I.ok.mod, I.bs, Nat.le_trans I.ok.bsz I.sz, I.stack, I.stkFree, I.hok, I.bare⟩
theorem Inv.after {Q : VK} {u : Value} (I : Inv X pins σ H s) (h : CE X.stack X.prog X.w H s Q u s') : EP X pins σ Q u s' := by
  obtain ⟨v, H', os, bare, un, hok, r, q⟩ := h
  obtain ⟨hh, g, d, t, os'⟩ := s'
  obtain rfl : os' = s.os := os
  exact ⟨v, H', I.call (h' := hh) (g' := g) (d' := d) (t' := t) (ch := []) un hok bare (fun b z => absurd z (by simp)), r, q⟩
end
noncomputable def tCall (sp : Sp) (dvs : List V) (E : XK) (t : TA) : TE := fun σ H Q => t σ H fun vs H1 => sp (vs ++ dvs) H1 Q E
noncomputable def tMeth (C : Addr) (m : Str) (sp : Sp) (dvs : List V) (E : XK) (ta : TE) (t : TA) : TE := fun σ H Q => ta σ H fun x H1 => ∃ a dx fs, x = .ref a ∧ H1 a = some (.ins C dx fs) ∧ fs.lookup m = none ∧
  t σ H1 fun vs H2 => sp (x :: (vs ++ dvs)) H2 Q E
noncomputable def tMake (C : Addr) (sp : Sp) (dvs : List V) (E : XK) (t : TA) : TE := fun σ H Q => t σ H fun vs H1 => ∀ x dx, H1 x = none → H1 dx = none → dx ≠ x →
  sp (.ref x :: (vs ++ dvs)) (upd (upd H1 dx (.own x)) x (.ins C dx [])) (fun v H2 => v = .non ∧ Q (.ref x) H2) E
noncomputable def Binds (K : PySem.W.Frag) (fd : FuncData) (ps : List Str) (ds : List Value) : Prop :=
  ∀ (s : Shared) (us : List Value), K.In s.heap → (us ++ ds).length = ps.length → BindsTo s fd ⟨us, []⟩ (ps.zip (us ++ ds))
theorem Binds.all {K : PySem.W.Frag} {fd : FuncData} {ps : List Str} (h : ∀ us : List Value, us.length = ps.length → bindArgs fd ⟨us, []⟩ = pure (ps.zip us)) : Binds K fd ps [] := fun s us _ hl => by
  rw [List.append_nil] at hl ⊢
  exact .of_eq (h us hl)
noncomputable def Passes (CX : CXT) (X : Cx) (E : XK) : Prop := ∀ (pins : List (Addr × Obj)) (σ : St) (H : Hp) (s : Shared) (e : Value) (s' : Shared), Inv X pins σ H s → CX X.stack H s E e s' → X.xe e s'
section
variable {X : Cx} {CX : CXT} {k : Nat} {f C : Addr} {fd : FuncData} {ps : List Str} {sp : Sp} {dvs : List V} {ds : List Value} {E : XK} {x m : Str} {p pos apos : Pos} {e o : Expr} {es : List Expr} {ta : TE} {t : TA}
theorem run_fn {pins : List (Addr × Obj)} {σ : St} {H : Hp} {s : Shared} {Q : VK} {us : List Value} {vs : List V} (F : FnOk X.prog X.w X.K X.mg X.base CX k f fd ps sp) (hr : Room k X.A) (hb : Binds X.K fd ps ds) (hd : Vals dvs ds) (hx : Passes CX X E)
    (I : Inv X pins σ H s) (r : Vals vs us) (h : sp (vs ++ dvs) H Q E) : wpAny (model X.prog X.w) X.A (call (.ref f) us) (EP X pins σ Q) X.xe s := by
  have r2 : Vals (vs ++ dvs) (us ++ ds) := r.append hd
  have hl : (us ++ ds).length = ps.length := by rw [← r2.length]; exact F.len _ _ _ _ h
  refine wpAny_call (codeAny_mono (F.run X.A X.stack s H ⟨us, []⟩ (us ++ ds) (vs ++ dvs) Q E hr I.env0 (hb s us I.kIn hl) r2 h) fun r s' hq => ?_)
  cases r with
  | error e => exact hx pins σ H s e s' I hq
  | ok fl =>
    cases fl with
    | ret u => exact I.after hq
    | next => exact False.elim hq
    | brk => exact False.elim hq
    | cont => exact False.elim hq
theorem pe_call (F : FnOk X.prog X.w X.K X.mg X.base CX k f fd ps sp) (hr : Room k X.A) (hg : Gl X x) (hm : X.mg x = some (.ref f)) (hk : PySem.W.keepIn X.K (.ref f) = true) (hb : Binds X.K fd ps ds) (hd : Vals dvs ds) (hx : Passes CX X E)
    (ha : PA X (e :: es) t) (hdb : (x == ("__debug__" : Str)) = false := by decide) (he : starEach (e :: es) X.env = (false, eval e X.env) :: starEach es X.env := by rfl) (hpl : (backTo pos (starEach es X.env)).any (·.1) = false := by rfl) :
    PE X (.Call (.Name x p) (e :: es) [] pos) (tCall sp dvs E t) := by
  intro pins s σ H Q I h
  refine wpAny_Call_Name_kw (ld_glob I hg hm ?_ hdb)
  refine PySem.W.callWith_K (h₀ := X.base) I.ok.mod.kin hk (thn (ha pos pins s σ H _ I h) fun us s1 ⟨vs, H1, I1, r, q⟩ => ⟨I1.kIn, ?_⟩) he hpl
  exact run_fn F hr hb hd hx I1 r q
theorem pe_meth {pl : Sem Bool} (he : PE X o ta) (c : Cls X.K C) (hm : Meth X.K C m f) (F : FnOk X.prog X.w X.K X.mg X.base CX k f fd ps sp) (hr : Room k X.A) (hb : Binds X.K fd ps ds) (hd : Vals dvs ds) (hx : Passes CX X E) (ha : PA X (e :: es) t)
    (hst : starEach (e :: es) X.env = (false, eval e X.env) :: starEach es X.env := by rfl) (hpl : (backTo pos (starEach es X.env)).any (·.1) = false := by rfl)
    (ht : eval (.Call (.Attribute o m apos) (e :: es) [] pos) X.env = (do
      let ov ← eval o X.env
      standAt apos.atName
      let (f, first) ← holding [ov] (getMethod ov m pl)
      callWith pos f first (backTo pos (starEach (e :: es) X.env)) (backToKw pos (keywordEach [] X.env))) := by rfl) :
    PE X (.Call (.Attribute o m apos) (e :: es) [] pos) (tMeth C m sp dvs E ta t) := by
  intro pins s σ H Q I h
  refine PySem.W.methodCall_KW (pl := pl) (thn (he pins s σ H _ I h) fun u s1 ⟨x, H1, I1, rx, a, dx, fs, ex, ea, l, q⟩ => ?_) ht
  subst ex
  obtain rfl : u = Value.ref a := rx
  refine getmeth_ok I1 ea c hm l ?_
  refine PySem.W.callWith_K (first := [.ref a]) (h₀ := X.base) I.ok.mod.kin hm.kp (thn (ha pos pins s1 σ H1 _ I1 q) fun us s2 ⟨vs, H2, I2, r, q2⟩ => ⟨I2.kIn, ?_⟩) hst hpl
  exact run_fn (us := .ref a :: us) (vs := .ref a :: vs) F hr hb hd hx I2 (.cons rfl r) q2
structure Mk (K : PySem.W.Frag) (C f : Addr) : Prop where
  makes : PySem.W.makesIn K C = true
  init : PySem.W.findIn K (.ref C) "__init__" = some (some (.ref f))
  fn : PySem.W.isFn K (.ref f) = true
  kp : PySem.W.keepIn K (.ref C) = true
theorem run_make {pins : List (Addr × Obj)} {σ : St} {H : Hp} {s : Shared} {Q : VK} {us : List Value} {vs : List V} (M : Mk X.K C f) (F : FnOk X.prog X.w X.K X.mg X.base CX k f fd ps sp) (hr : Room (k + 1) X.A) (hb : Binds X.K fd ps ds) (hd : Vals dvs ds)
    (hx : Passes CX X E) (I : Inv X pins σ H s) (r : Vals vs us)
    (h : ∀ x dx, H x = none → H dx = none → dx ≠ x → sp (.ref x :: (vs ++ dvs)) (upd (upd H dx (.own x)) x (.ins C dx [])) (fun v H2 => v = .non ∧ Q (.ref x) H2) E) :
    wpAny (model X.prog X.w) X.A (call (.ref C) us) (EP X pins σ Q) X.xe s := by
  have hq := h (s.heap.objs.size + 1) s.heap.objs.size (I.hok.fresh (Nat.le_succ _)) (I.hok.fresh (Nat.le_refl _)) (Nat.ne_of_lt (Nat.lt_succ_self _))
  have I2 := Inv.made (C := C) I
  have r2 : Vals (V.ref (s.heap.objs.size + 1) :: (vs ++ dvs)) (Value.ref (s.heap.objs.size + 1) :: (us ++ ds)) := .cons rfl (r.append hd)
  have hl : (Value.ref (s.heap.objs.size + 1) :: us ++ ds).length = ps.length := by
    have e := r2.length
    rw [F.len _ _ _ _ hq] at e
    exact e.symm
  refine wpAny_call (make_map (f := f) I.kIn M.makes M.init (beq_iff_eq.mp M.fn) (codeAny_mono (F.run _ X.stack _ _ ⟨Value.ref (s.heap.objs.size + 1) :: us, []⟩ (Value.ref (s.heap.objs.size + 1) :: (us ++ ds)) _ _ E (hr.make C us [])
    (I2.env0.make C us []) (hb _ (Value.ref (s.heap.objs.size + 1) :: us) I2.kIn hl) r2 hq) fun r s' hq' => ?_))
  cases r with
  | error e => exact hx pins σ _ _ e s' I2 hq'
  | ok fl =>
    cases fl with
    | ret u =>
      obtain ⟨v, H', I3, rv, ev, q3⟩ := I2.after hq'
      subst ev
      exact ⟨rv, ⟨V.ref (s.heap.objs.size + 1), H', I3, rfl, q3⟩⟩
    | next => exact False.elim hq'
    | brk => exact False.elim hq'
    | cont => exact False.elim hq'
theorem pe_make0 (M : Mk X.K C f) (F : FnOk X.prog X.w X.K X.mg X.base CX k f fd ps sp) (hr : Room (k + 1) X.A) (hg : Gl X x) (hm : X.mg x = some (.ref C)) (hb : Binds X.K fd ps ds) (hd : Vals dvs ds) (hx : Passes CX X E)
    (hdb : (x == ("__debug__" : Str)) = false := by decide) : PE X (.Call (.Name x p) [] [] pos) (tMake C sp dvs E tNil) := by
  intro pins s σ H Q I h
  refine wpAny_Call_Name_kw (ld_glob I hg hm ?_ hdb)
  exact PySem.W.callWith_K0 I.kIn M.kp (run_make (us := []) M F hr hb hd hx I .nil h)
end
section
variable {X : Cx} {CX : CXT} {k : Nat} {f C : Addr} {fd : FuncData} {ps ks : List Str} {sp : Sp} {E : XK} {x m : Str} {p pos apos kpos : Pos} {e o : Expr} {es : List Expr} {kws : List Keyword} {te ta : TE} {t tk : TA} {nm : Option Str}
variable {g : List Value → List Value → List Value} {gV : List V → List V → List V}
end
structure FnScope (N P : List Str) (sc : Scope) : Prop where
  kind : sc.kind = .function
  co : sc.isCoroutine = false
  gen : sc.isGenerator = false
  nd : N.Nodup
  pre : N.take P.length = P
  par : ∀ x ∈ P, sc.names.lookup x = some .local ∨ sc.names.lookup x = some .cell
  nofree : ∀ y ∈ sc.names, y.2 ≠ .free
theorem bindL_out {kindOf : Str → Option NameKind} {x : Str} : ∀ {binds : List (Str × Value)} {m : Str → Option Value}, (∀ v, (x, v) ∉ binds) → bindL kindOf binds m x = m x
  | [], _, _ => rfl
  | (n, v) :: r, m, h => by
    unfold bindL
    rw [bindL_out fun w hw => h w (List.mem_cons_of_mem _ hw)]
    split
    · have : x ≠ n := by rintro rfl; exact h v List.mem_cons_self
      simp [this]
    · rfl
theorem bindC_out {kindOf : Str → Option NameKind} {x : Str} : ∀ {binds : List (Str × Value)} {m : Str → Option Value}, (∀ v, (x, v) ∉ binds) → bindC kindOf binds m x = m x
  | [], _, _ => rfl
  | (n, v) :: r, m, h => by
    unfold bindC
    rw [bindC_out fun w hw => h w (List.mem_cons_of_mem _ hw)]
    split
    · rfl
    · have : x ≠ n := by rintro rfl; exact h v List.mem_cons_self
      simp [this]
theorem bindL_get {kindOf : Str → Option NameKind} {x : Str} {v : Value} : ∀ {P : List Str} {vs : List Value} {i : Nat} {m : Str → Option Value}, P.Nodup → P[i]? = some x → vs[i]? = some v → kindOf x = some .local →
    bindL kindOf (P.zip vs) m x = some v
  | [], _, _, _, _, h, _, _ => by simp at h
  | _ :: _, [], _, _, _, _, h, _ => by simp at h
  | p :: P, w :: vs, 0, m, nd, h1, h2, hk => by
    simp at h1 h2; subst h1; subst h2
    show bindL kindOf ((p, w) :: P.zip vs) m p = _
    unfold bindL
    rw [bindL_out fun v hv => (List.nodup_cons.mp nd).1 (List.of_mem_zip hv).1, if_pos hk]
    simp
  | p :: P, w :: vs, i + 1, m, nd, h1, h2, hk => by
    show bindL kindOf ((p, w) :: P.zip vs) m x = _
    unfold bindL
    exact bindL_get (i := i) (List.nodup_cons.mp nd).2 (by simpa using h1) (by simpa using h2) hk
theorem bindC_get {kindOf : Str → Option NameKind} {x : Str} {v : Value} : ∀ {P : List Str} {vs : List Value} {i : Nat} {m : Str → Option Value}, P.Nodup → P[i]? = some x → vs[i]? = some v → kindOf x ≠ some .local →
    bindC kindOf (P.zip vs) m x = some v
  | [], _, _, _, _, h, _, _ => by simp at h
  | _ :: _, [], _, _, _, _, h, _ => by simp at h
  | p :: P, w :: vs, 0, m, nd, h1, h2, hk => by
    simp at h1 h2; subst h1; subst h2
    show bindC kindOf ((p, w) :: P.zip vs) m p = _
    unfold bindC
    rw [bindC_out fun v hv => (List.nodup_cons.mp nd).1 (List.of_mem_zip hv).1, if_neg hk]
    simp
  | p :: P, w :: vs, i + 1, m, nd, h1, h2, hk => by
    show bindC kindOf ((p, w) :: P.zip vs) m x = _
    unfold bindC
    exact bindC_get (i := i) (List.nodup_cons.mp nd).2 (by simpa using h1) (by simpa using h2) hk
noncomputable def start (N : List Str) (vs : List V) : St := vs.map some ++ List.replicate (N.length - vs.length) none
noncomputable def cxOf (CX : CXT) (P : Program) (w : World) (K : PySem.W.Frag) (mg : Str → Option Value) (base : Heap) (N : List Str) (qual : Str) (scope : Scope) (f : Addr) (cd : Value) (A : Around) (outer : List Env) (s : Shared) (H : Hp) (E : XK) : Cx where
  prog := P
  w := w
  K := K
  mg := mg
  base := base
  A := A.deeper (envOfC qual scope s.heap.objs.size f cd)
  N := N
  s₀ := s
  H₀ := H
  env := envOfC qual scope s.heap.objs.size f cd
  outer := outer
  stack := envOfC qual scope s.heap.objs.size f cd :: outer
  ex := []
  calm := true
  fn := fun _ => true
  pn := []
  xe := fun e s' => wpAny (model P w) (A.deeper (envOfC qual scope s.heap.objs.size f cd)) (leaving (envOfC qual scope s.heap.objs.size f cd) e) (fun _ s'' => CX outer H s E e s'') (fun e' s'' => CX outer H s E e' s'') s'
theorem cell_has {sc : Scope} {n : Nat} {x : Str} (h : sc.names.lookup x = some .cell) : ∃ c, (cellsFrom n sc.names []).lookup x = some c := by
  have q := PySem.W.cellsFrom_some sc.names n [] (.inl h)
  exact Option.isSome_iff_exists.mp q
theorem inv_start {CX : CXT} {P : Program} {w : World} {K : PySem.W.Frag} {mg : Str → Option Value} {base : Heap} {N ps : List Str} {qual : Str} {scope : Scope} {f : Addr} {cd : Value} {A : Around} {outer : List Env} {s s1 : Shared} {H : Hp} {E : XK} {us : List Value} {vs : List V}
    (S : FnScope N ps scope) (hd : A.handled = none) (e0 : Env0 P w K mg base A outer s H) (hl : vs.length = ps.length) (r : Vals vs us)
    (x : InCallC s s.heap.objs.size (bindL (envOfC qual scope s.heap.objs.size f cd).kindOf (ps.zip us) fun _ => none) (cellsFrom (s.heap.objs.size + 1) scope.names []) (bindC (envOfC qual scope s.heap.objs.size f cd).kindOf (ps.zip us) fun _ => none) s1) :
    Inv (cxOf CX P w K mg base N qual scope f cd A outer s H E) [] (start N vs) H s1 := by
  have hpl : ps.length ≤ N.length := by have := congrArg List.length S.pre; rw [List.length_take] at this; omega
  obtain ⟨h1, tk, rfl, hk⟩ := x.done
  have noA : ∀ b : Addr, b ∉ (cxOf CX P w K mg base N qual scope f cd A outer s H E).ex := fun b z => absurd (show b ∈ ([] : List Addr) from z) (by simp)
  refine ⟨⟨e0.mod, S.kind, rfl, rfl, Nat.le_refl _, fun y z c h1 h2 => ?_, fun y hy => ?_, fun y c _ h => ?_, fun _ => hd, Around.frames_deeper e0.frames, .inr ⟨rfl, rfl⟩, fun b z => absurd z (noA b), e0.bs, e0.bsz, fun b _ _ => noA b, fun b z => absurd z (noA b), e0.funs, e0.frf⟩,
    rfl, e0.bare, Un.kept hk, ⟨_, x.toInCall.ns, fun i y v h1 h2 h3 => ?_⟩, fun y c h => ⟨_, x.cell y c h⟩, e0.hok.fresh (Nat.le_refl _), fun y c h => ?_, fun p hp => absurd (show p ∈ ([] : List (Addr × Obj)) from hp) (by simp), e0.hok.kept hk, ?_⟩
  · exact name_of_addr x.apart (PySem.mem_of_lookup h1) (PySem.mem_of_lookup h2)
  · have hy : scope.names.lookup y = some .cell ∨ scope.names.lookup y = some .free := hy
    rcases hy with hy | hy
    · exact cell_has hy
    · exact absurd rfl (S.nofree _ (PySem.mem_of_lookup hy))
  · exact Nat.le_of_lt (x.above y c (PySem.mem_of_lookup h))
  · have hi : i < vs.length := by
      unfold start at h2
      by_cases hi : i < vs.length
      · exact hi
      · rw [List.getElem?_append_right (by simpa using hi)] at h2
        rw [List.getElem?_replicate] at h2
        split at h2 <;> cases h2
    have ha : vs[i]? = some v := by
      unfold start at h2
      rw [List.getElem?_append_left (by simpa using hi), List.getElem?_map] at h2
      cases e : vs[i]? with
      | none => rw [e] at h2; cases h2
      | some a => rw [e] at h2; cases h2; rfl
    obtain ⟨u, hu, rv⟩ := r.get ha
    have hp : ps[i]? = some y := by
      rw [← S.pre, List.getElem?_take_of_lt (by omega)]; exact h1
    have ndP : ps.Nodup := by rw [← S.pre]; exact S.nd.sublist (List.take_sublist _ _)
    refine ⟨u, rv, ?_⟩
    rcases S.par y (List.mem_of_getElem? hp) with k | k
    · exact .inl ⟨k, bindL_get ndP hp hu k⟩
    · obtain ⟨c, e⟩ := cell_has (n := s.heap.objs.size + 1) k
      refine .inr ⟨.inl k, c, e, ?_⟩
      have q := x.cell y c e
      rw [bindC_get ndP hp hu (by show scope.names.lookup y ≠ _; rw [k]; decide)] at q
      exact q
  · exact e0.hok.fresh (Nat.le_of_lt (x.above y c (PySem.mem_of_lookup h)))
  · unfold start
    show _ = N.length
    rw [List.length_append, List.length_map, List.length_replicate]
    omega
theorem fn_of {CX : CXT} {P : Program} {w : World} {K : PySem.W.Frag} {mg : Str → Option Value} {base : Heap} {k : Nat} {f : Addr} {name qual : Str} {params : Arguments} {body : List Stmt} {scope : Scope} {dV kV doc pm cdv ct oc : Value} {an od : Option Addr}
    {osl : Array (Option Value)} {N ps : List Str} {sp : Sp} (lk : K.lookup f = some ⟨oc, od, .func (PySem.W.fnOf name qual params body scope dV kV doc pm an cdv ct), osl⟩) (hcd : PySem.W.codeIn K cdv qual = true) (S : FnScope N ps scope)
    (len : ∀ vs H Q E, sp vs H Q E → vs.length = ps.length)
    (hbody : ∀ (A : Around) (outer : List Env) (s : Shared) (H : Hp) (vs : List V) (Q : VK) (E : XK), Room k (A.deeper (envOfC qual scope s.heap.objs.size f cdv)) → sp vs H Q E →
      ∃ t, PSs (cxOf CX P w K mg base N qual scope f cdv A outer s H E) body t ∧ t { nx := fun _ H' => Q .non H', rt := Q } (start N vs) H) :
    FnOk P w K mg base CX (k + 1) f (PySem.W.fnOf name qual params body scope dV kV doc pm an cdv ct) ps sp := by
  refine ⟨len, fun A outer s H args us vs Q E hr e0 hb r hsp => ?_⟩
  have hl := len _ _ _ _ hsp
  have KX : K.In s.heap := e0.mod.kin.keeps fun b o e => (e0.bs b o e).1
  have lim : s.heap.NoLimit := e0.mod.nolimit.keeps fun b o e => (e0.bs b o e).1
  have hkind : ∀ y ∈ ps.zip us, scope.names.lookup y.1 = some .local ∨ (scope.names.lookup y.1 = some .cell ∧ ((cellsFrom (s.heap.objs.size + 1) scope.names []).lookup y.1).isSome = true) := fun ⟨n, v⟩ hy => by
    rcases S.par n (List.of_mem_zip hy).1 with q | q
    · exact .inl q
    · exact .inr ⟨q, PySem.W.cellsFrom_some _ _ _ (.inl q)⟩
  refine codeAny_call_function hr.depth (KX _ _ lk) rfl S.co S.gen rfl (PySem.W.codeRec_of KX hcd) (hb _ _ _ _ ?_)
  refine wpAny_newFunctionEnv_cells S.kind hkind fun env he s1 x => ?_
  subst he
  refine ⟨lim.keeps x.toInCall.keep, codeAny_func ?_⟩
  obtain ⟨t, ht, hq⟩ := hbody A outer s H vs Q E (hr.deeper _) hsp
  have I : Inv (cxOf CX P w K mg base N qual scope f cdv A outer s H E) [] (start N vs) H s1 := inv_start S hr.hd e0 hl r x
  refine wpAny_mono (ht [] s1 (start N vs) H _ I hq) (fun fl s' hs => ?_) fun e s' hs => hs
  have fin : ∀ {σ' : St} {H' : Hp} {v : V} {u : Value}, Inv (cxOf CX P w K mg base N qual scope f cdv A outer s H E) [] σ' H' s' → RelV v u → Q v H' → CE outer P w H s Q u s' :=
    fun {σ' H' v u} J rv q => ⟨v, H', J.os, J.bare, J.base, J.hok, rv, q⟩
  cases fl with
  | ret u =>
    obtain ⟨v, σ', H', J, rv, q⟩ := hs
    exact fin J rv q
  | next =>
    obtain ⟨σ', H', J, q⟩ := hs
    exact fin (v := V.non) (u := Value.none) J rfl q
  | brk =>
    obtain ⟨_, _, _, q⟩ := hs
    exact False.elim q
  | cont =>
    obtain ⟨_, _, _, q⟩ := hs
    exact False.elim q
end L2
namespace L2
open PySem PySem.Spec PyProof.Rows
section
variable {X : Cx} {x : Str} {p pos : Pos} {e : Expr} {es : List Expr} {t : TA} {id T : String} {r : List V → Hp → VK → Prop}
noncomputable def tCB (r : List V → Hp → VK → Prop) (t : TA) : TE := fun σ H Q => t σ H fun vs H1 => r vs H1 Q
theorem pe_callB (hc : CallR X (.builtin id) r) (hg : Gl X x) (hm : X.mg x = none) (hv : bootBuiltins x = some (.builtin id)) (ha : PA X (e :: es) t) (hn : x ≠ "__name__" := by decide) (hdb : (x == ("__debug__" : Str)) = false := by decide)
    (he : starEach (e :: es) X.env = (false, eval e X.env) :: starEach es X.env := by rfl) (hpl : (backTo pos (starEach es X.env)).any (·.1) = false := by rfl) : PE X (.Call (.Name x p) (e :: es) [] pos) (tCB r t) := by
  intro pins s σ H Q I h
  refine wpAny_Call_Name_kw (ld_blt I hg hm hv ?_ hn hdb)
  exact PyProof.Rows.callWith_builtin1 (thn (ha pos pins s σ H _ I h) fun us s1 ⟨vs, H1, I1, r1, q1⟩ => hc pins s1 σ H1 vs us Q I1 r1 q1) he hpl
theorem pe_callTy (hc : CallR X (.type T) r) (hg : Gl X x) (hm : X.mg x = none) (hv : bootBuiltins x = some (.type T)) (ha : PA X (e :: es) t) (hn : x ≠ "__name__" := by decide) (hdb : (x == ("__debug__" : Str)) = false := by decide)
    (he : starEach (e :: es) X.env = (false, eval e X.env) :: starEach es X.env := by rfl) (hpl : (backTo pos (starEach es X.env)).any (·.1) = false := by rfl) : PE X (.Call (.Name x p) (e :: es) [] pos) (tCB r t) := by
  intro pins s σ H Q I h
  refine wpAny_Call_Name_kw (ld_blt I hg hm hv ?_ hn hdb)
  exact PyProof.Rows.callWith_type1 (thn (ha pos pins s σ H _ I h) fun us s1 ⟨vs, H1, I1, r1, q1⟩ => hc pins s1 σ H1 vs us Q I1 r1 q1) he hpl
end
end L2
namespace HT
open PySem PyProof.Rows
section
open PySem.SeqAt
open PySem.AutoSeq1 (wpAny_loadPart')
open PySem.MeetsSeq PySem.MeetsSeq2 PySem.MeetsSeq3
end
section
variable {prog : Program} {w : World} {A : Around} {E : Value → Shared → Prop} {s : Shared}
theorem cat_tup {t b : Addr} {vs ws : List Value} {Q : Value → Shared → Prop} (ht : IsTup s.heap t vs.toArray) (hb : IsTup s.heap b ws.toArray) (hv : vs ≠ [])
    (h1 : ws = [] → Q (.ref t) s) (h2 : ws ≠ [] → Q (.ref s.heap.objs.size) { s with heap := s.heap.push { cls := .type "tuple", data := .seq (vs ++ ws).toArray } })
    (hsz : vs.length + ws.length ≤ sizeLine) : wpAny (model prog w) A (binaryOp .Add (.ref t) (.ref b)) Q E s := by
  obtain ⟨⟨cls, dd, data, sl⟩, ho, hc, n, hd⟩ := id ht
  obtain ⟨⟨cls2, dd2, data2, sl2⟩, ho2, hc2, n2, hd2⟩ := id hb
  simp only at hc hd hc2 hd2
  subst hc hd hc2 hd2
  have e : vs.toArray ++ ws.toArray = (vs ++ ws).toArray := by simp
  by_cases hw : ws = []
  · exact concat_meets ⟨_, ho, rfl⟩ ⟨_, ho2, rfl⟩ noFill_tuple_add seq_tuple_add PySem.F.slot_tuple_add PySem.F.entry_tuple_add (PySem.F.args_tuple_add_2 _ _)
      (tuple_addW1 t b vs.toArray ws.toArray n n2 dd dd2 sl sl2 (by simpa using hv) (by simp [hw])) ⟨ho, ho2, h1 hw⟩
  · refine concat_meets ⟨_, ho, rfl⟩ ⟨_, ho2, rfl⟩ noFill_tuple_add seq_tuple_add PySem.F.slot_tuple_add PySem.F.entry_tuple_add (PySem.F.args_tuple_add_2 _ _)
      (tuple_addW2 t b vs.toArray ws.toArray n n2 dd dd2 sl sl2 (by simpa using hv) (by simpa using hw) (by rw [List.size_toArray, List.size_toArray]; exact hsz)) ⟨ho, ho2, ?_⟩
    rw [e]
    exact h2 hw
noncomputable def sIx (n d : Nat) : Option Int → Nat
  | none => d
  | some v => if v < 0 then (v + (n : Int)).toNat else min v.toNat n
theorem sIx_none (n d : Nat) : sIx n d none = d := rfl
theorem sIx_nat (n d k : Nat) : sIx n d (some (k : Int)) = min k n := by
  show (if (k : Int) < 0 then ((k : Int) + (n : Int)).toNat else min (k : Int).toNat n) = min k n
  rw [if_neg (by omega), Int.toNat_natCast]
end
end HT
namespace L2
open PySem PySem.Spec PyProof.Rows
noncomputable abbrev TO := St → Hp → (Option Int → Hp → Prop) → Prop
noncomputable def PO (X : Cx) (e : Option Expr) (t : TO) : Prop :=
  ∀ (pins : List (Addr × Obj)) (s : Shared) (σ : St) (H : Hp) (Q : Option Int → Hp → Prop), Inv X pins σ H s → t σ H Q →
    wpAny (model X.prog X.w) X.A (evalPart e X.env) (fun u s' => ∃ o H', Inv X pins σ H' s' ∧ IsPart u o ∧ Q o H') X.xe s
noncomputable def tNoPart : TO := fun _ H Q => Q none H
noncomputable def tPart (t : TE) : TO := fun σ H Q => t σ H fun x H1 => ∃ i, x = .int i ∧ Q (some i) H1
theorem intsAre_of {ns : List Int} : ∀ {us : List Value}, Vals (ns.map V.int) us → IntsAre us ns := by
  induction ns with
  | nil => intro us r; rw [List.map_nil] at r; cases r; exact .nil
  | cons n ns ih =>
    intro us r
    rw [List.map_cons] at r
    cases r with
    | cons r1 r2 =>
      obtain ⟨t, e⟩ := r1
      subst e
      exact .cons n t (ih r2)
section
variable {X : Cx} {e : Expr} {te : TE} {lo hi : Option Expr} {tl th : TO} {pos p2 : Pos}
theorem po_none : PO X none tNoPart := by
  intro pins s σ H Q I h
  rw [evalPart_none]
  exact wpAny_pure ⟨none, H, I, .none, h⟩
theorem po_some (h : PE X e te) : PO X (some e) (tPart te) := by
  intro pins s σ H Q I hw
  rw [evalPart_some]
  refine thn (h pins s σ H _ I hw) fun u s1 ⟨x, H1, I1, r1, q1⟩ => ?_
  obtain ⟨i, rfl, q⟩ := q1
  obtain ⟨t, rfl⟩ := r1
  exact ⟨some i, H1, I1, .int i t, q⟩
noncomputable def SlR (X : Cx) (r : V → Option Int → Option Int → Hp → VK → Prop) : Prop :=
  ∀ (pins : List (Addr × Obj)) (s : Shared) (σ : St) (H : Hp) (x : V) (v vl vu : Value) (lo hi : Option Int) (sl : Addr) (Q : VK), Inv X pins σ H s → RelV x v → s.heap.IsSliceOf sl vl vu .none → IsPart vl lo → IsPart vu hi → r x lo hi H Q →
    ∃ T id, typeLookup (.type T) "__getitem__" = pure (some (.builtin id)) ∧ s.TypeIs v T ∧ wpAny (model X.prog X.w) X.A (getItem v (.ref sl)) (EP X pins σ Q) X.xe s
noncomputable def tSl (r : V → Option Int → Option Int → Hp → VK → Prop) (te : TE) (tl th : TO) : TE := fun σ H Q => te σ H fun x H1 => tl σ H1 fun l H2 => th σ H2 fun u H3 => r x l u H3 Q
theorem pe_slice {r : V → Option Int → Option Int → Hp → VK → Prop} (hr : SlR X r) (he : PE X e te) (hl : PO X lo tl) (hu : PO X hi th) : PE X (.Subscript e (.Slice lo hi none p2) pos) (tSl r te tl th) := by
  intro pins s σ H Q I h
  refine Subscript_ (thn (he pins s σ H _ I h) fun v s1 ⟨x, H1, I1, r1, q1⟩ => ?_)
  refine wpAny_Slice (thn (hl pins s1 σ H1 _ I1 q1) fun vl s2 ⟨l, H2, I2, pl, q2⟩ => thn (hu pins s2 σ H2 _ I2 q2) fun vu s3 ⟨u, H3, I3, pu, q3⟩ => ?_)
  rw [evalPart_none]
  refine wpAny_pure ?_
  have I4 : Inv X pins σ H3 { s3 with heap := s3.heap.push { cls := .type "slice", data := .fields #[vl, vu, .none] } } := I3.kept (t' := s3.toks) fun b ob q => Heap.get?_push_of_some _ q
  obtain ⟨T, id, hT, ht, hg⟩ := hr pins { s3 with heap := s3.heap.push { cls := .type "slice", data := .fields #[vl, vu, .none] } } σ H3 x v vl vu l u s3.heap.objs.size Q I4 r1 (Heap.IsSliceOf.new ..) pl pu q3
  show wpAny (model X.prog X.w) X.A (subscriptTail e (.Slice lo hi none p2) v (.ref s3.heap.objs.size)) (EP X pins σ Q) X.xe { s3 with heap := s3.heap.push { cls := .type "slice", data := .fields #[vl, vu, .none] } }
  exact tail_any (ops := [.ref s3.heap.objs.size, v]) ht hT hg (by with_unfolding_all rfl)
noncomputable def cutV (xs : List V) (lo hi : Option Int) : List V := (xs.drop (HT.sIx xs.length 0 lo)).take (HT.sIx xs.length xs.length hi - HT.sIx xs.length 0 lo)
theorem cutV_length (xs : List V) (lo hi : Option Int) : (cutV xs lo hi).length ≤ xs.length := by
  unfold cutV
  rw [List.length_take, List.length_drop]
  omega
noncomputable def rCatT (K : PySem.W.Frag) : R2 := fun x y H Q => ∃ a b xs ys, x = .ref a ∧ y = .ref b ∧ SqT K H a xs ∧ SqT K H b ys ∧ xs ≠ [] ∧ xs.length + ys.length ≤ sizeLine ∧
  (ys = [] → Q (.ref a) H) ∧ (ys ≠ [] → ∀ p, H p = none → Q (.ref p) (upd H p (.tup (xs ++ ys))))
theorem Vals.nil_iff {xs : List V} {us : List Value} (r : Vals xs us) : us = [] ↔ xs = [] := by
  cases r with
  | nil => simp
  | cons _ _ => simp
theorem op_catT : OpR X (binaryOp .Add) (rCatT X.K) := by
  intro pins s σ H x y v u Q I rx ry h
  obtain ⟨a, b, xs, ys, rfl, rfl, ha, hb, hx, hz, q1, q2⟩ := h
  cases rx
  cases ry
  obtain ⟨its, r1, p1, _⟩ := I.tuple ha
  obtain ⟨its2, r2, p2, _⟩ := I.tuple hb
  refine HT.cat_tup p1 p2 (fun z => hx (r1.nil_iff.mp z)) (fun z => ⟨.ref a, H, I, rfl, q1 (r2.nil_iff.mp z)⟩) (fun z => ?_) (by rw [← r1.length, ← r2.length]; exact hz)
  refine ⟨.ref s.heap.objs.size, _, I.laid (t' := s.toks) (o := .tup (xs ++ ys)) (fun b ob q => Heap.get?_push_of_some _ q) (Nat.le_refl _) ?_, rfl, q2 (fun w => z (r2.nil_iff.mpr w)) _ (I.hok.fresh (Nat.le_refl _))⟩
  exact ⟨by rw [List.length_append]; exact hz, _, r1.append r2, IsTup.new _ _⟩
end
end L2
namespace L2
open PySem PySem.Spec PyProof.Rows
noncomputable def ixN (n : Nat) (i : Int) : Option Nat := if 0 ≤ i then (if i < n then some i.toNat else none) else if -(n : Int) ≤ i then some (i + n).toNat else none
noncomputable def atI {α : Type} (xs : List α) (i : Int) : Option α := (ixN xs.length i).bind fun j => xs[j]?
theorem ixN_seq {n : Nat} {i : Int} {j : Nat} (h : ixN n i = some j) : seqIndex? i n = some j ∧ j < n ∧ -(n : Int) ≤ i ∧ i < n := by
  unfold ixN at h
  by_cases h0 : 0 ≤ i
  · rw [if_pos h0] at h
    by_cases h1 : i < n
    · rw [if_pos h1] at h
      have e : i.toNat = j := Option.some.inj h
      exact ⟨by rw [seqIndex_of h0 h1, e], by omega, by omega, h1⟩
    · rw [if_neg h1] at h; cases h
  · rw [if_neg h0] at h
    by_cases h1 : -(n : Int) ≤ i
    · rw [if_pos h1] at h
      have e : (i + n).toNat = j := Option.some.inj h
      exact ⟨by rw [seqIndex_neg (by omega) h1, e], by omega, h1, by omega⟩
    · rw [if_neg h1] at h; cases h
theorem atI_get {α : Type} {xs : List α} {i : Int} {v : α} (h : atI xs i = some v) : ∃ j, seqIndex? i xs.length = some j ∧ xs[j]? = some v ∧ j < xs.length ∧ -(xs.length : Int) ≤ i ∧ i < xs.length := by
  unfold atI at h
  cases e : ixN xs.length i with
  | none => rw [e] at h; cases h
  | some j =>
    rw [e] at h
    obtain ⟨h1, h2, h3, h4⟩ := ixN_seq e
    exact ⟨j, h1, h, h2, h3, h4⟩
theorem atI_nat {α : Type} {xs : List α} {j : Nat} {v : α} (h : xs[j]? = some v) : atI xs (j : Int) = some v := by
  have hj : j < xs.length := (List.getElem?_eq_some_iff.mp h).1
  have e : ixN xs.length (j : Int) = some j := by
    unfold ixN
    rw [if_pos (by omega), if_pos (by omega)]; simp
  unfold atI; rw [e]; exact h
theorem atI_last {α : Type} (xs : List α) (v : α) : atI (xs ++ [v]) (-1) = some v := by
  have hl : (xs ++ [v]).length = xs.length + 1 := by simp
  have e : ixN (xs ++ [v]).length (-1) = some xs.length := by
    unfold ixN
    rw [hl, if_neg (by decide), if_pos (by omega)]
    congr 1
    omega
  unfold atI
  rw [e]
  show (xs ++ [v])[xs.length]? = some v
  simp
noncomputable def PlainIx (b : Expr) : Prop := ∀ o i, subscripted b false o i = operate [o, i] (getItem o i)
noncomputable def IxR (X : Cx) (r : R2) : Prop :=
  ∀ (value slice : Expr) (pins : List (Addr × Obj)) (s : Shared) (σ : St) (H : Hp) (x y : V) (v u : Value) (Q : VK), Inv X pins σ H s → RelV x v → RelV y u → r x y H Q →
    subscripted slice false v u = operate [v, u] (getItem v u) → wpAny (model X.prog X.w) X.A (subscriptTail value slice v u) (EP X pins σ Q) X.xe s
noncomputable def MtR (X : Cx) (id : String) (r : V → List V → Hp → VK → Prop) : Prop :=
  ∀ (pins : List (Addr × Obj)) (s : Shared) (σ : St) (H : Hp) (x : V) (xs : List V) (v : Value) (us : List Value) (Q : VK), Inv X pins σ H s → RelV x v → Vals xs us → r x xs H Q →
    wpAny (model X.prog X.w) X.A (call (.builtin id) (v :: us)) (EP X pins σ Q) X.xe s
section
variable {X : Cx} {a b : Expr} {ta tb : TE} {pos : Pos}
theorem pe_ix {r : R2} (hr : IxR X r) (ha : PE X a ta) (hb : PE X b tb) (hs : PlainIx b) : PE X (.Subscript a b pos) (tOp r ta tb) := by
  intro pins s σ H Q I h
  exact Subscript_ (binT ha hb I h fun v u s2 x y H2 I2 rx ry q => hr a b pins s2 σ H2 x y v u Q I2 rx ry q (hs _ _))
noncomputable def rIxL (K : PySem.W.Frag) : R2 := fun x y H Q => ∃ p xs i v, x = .ref p ∧ y = .int i ∧ SqL K H p xs ∧ atI xs i = some v ∧ Q v H
noncomputable def rIxT (K : PySem.W.Frag) : R2 := fun x y H Q => ∃ p xs i v, x = .ref p ∧ y = .int i ∧ SqT K H p xs ∧ atI xs i = some v ∧ Q v H
noncomputable def rIxS : R2 := fun x y H Q => ∃ z i c, x = .str z ∧ y = .int i ∧ z.length ≤ sizeLine ∧ atI z.cps.toList i = some c ∧ Q (.str ⟨#[c]⟩) H
theorem ix_list : IxR X (rIxL X.K) := by
  intro value slice pins s σ H x y v u Q I rx ry h hs
  obtain ⟨p, xs, i, z, rfl, rfl, hq, he, q⟩ := h
  cases rx
  obtain ⟨t, rfl⟩ := ry
  obtain ⟨its, r, pl, hz⟩ := I.list hq
  obtain ⟨j, h1, h2, h3, h4, h5⟩ := atI_get he
  obtain ⟨w, ew, rw'⟩ := r.get h2
  have hl := r.length
  have hn := line63
  have fin : EP X pins σ Q w s := ⟨z, H, I, rw', q⟩
  by_cases h0 : 0 ≤ i
  · have hj : i.toNat = j := by
      rw [seqIndex_of h0 h5] at h1
      exact Option.some.inj h1
    exact item_listR pl.isList h0 (by omega) (by rw [hj]; simpa using ew) fin hs
  · have hj : (i + (its.toArray.size : Int)).toNat = j := by
      rw [seqIndex_neg (by omega) h4] at h1
      rw [List.size_toArray, ← hl]
      exact Option.some.inj h1
    exact subscriptTail_builtinR (x := w) pl.isList.typeIs slot_list_getitem.lookup
      (wpAny_getItem_list_neg (Q := fun r s' => r = w ∧ EP X pins σ Q r s') pl.isList (by omega) (by rw [List.size_toArray] <;> omega) (by omega) (by rw [hj]; simpa using ew) ⟨rfl, fin⟩) hs
theorem ix_tup : IxR X (rIxT X.K) := by
  intro value slice pins s σ H x y v u Q I rx ry h hs
  obtain ⟨p, xs, i, z, rfl, rfl, hq, he, q⟩ := h
  cases rx
  obtain ⟨t, rfl⟩ := ry
  obtain ⟨its, r, pl, hz⟩ := I.tuple hq
  obtain ⟨j, h1, h2, h3, h4, h5⟩ := atI_get he
  obtain ⟨w, ew, rw'⟩ := r.get h2
  have hl := r.length
  have hn := line63
  have fin : EP X pins σ Q w s := ⟨z, H, I, rw', q⟩
  exact subscriptTail_builtinR (x := w) pl.typeIs slot_tuple_getitem.lookup
    (getItem_tuple (j := j) (Q := fun r s' => r = w ∧ EP X pins σ Q r s') pl (by omega) (by omega) (by rw [List.size_toArray, ← hl]; exact h1) (by simpa using ew) ⟨rfl, fin⟩) hs
theorem ix_str : IxR X rIxS := by
  intro value slice pins s σ H x y v u Q I rx ry h hs
  obtain ⟨z, i, c, rfl, rfl, hz, he, q⟩ := h
  obtain ⟨t, rfl⟩ := rx
  obtain ⟨t', rfl⟩ := ry
  obtain ⟨j, h1, h2, h3, h4, h5⟩ := atI_get he
  have hl : z.cps.toList.length = z.length := by simp [Str.length]
  rw [hl] at h1 h4 h5
  have hn := line63
  exact tail_any (typeIs_str s z t) slot_str_getitem.lookup (getItem_str (c := c) (by
    have e1 : decide (i < -(2 ^ 63 : Int)) = false := decide_eq_false (by omega)
    have e2 : decide (i ≥ 2 ^ 63) = false := decide_eq_false (by omega)
    rw [e1, e2, Bool.or_false]) (by rw [h1]; simpa using h2) ⟨.str ⟨#[c]⟩, H, I.tok _, ⟨_, rfl⟩, q⟩) hs
theorem Inv.lst {pins : List (Addr × Obj)} {σ : St} {H : Hp} {s : Shared} {p : Addr} {xs : List V} (I : Inv X pins σ H s) (h : H p = some (.lst xs)) :
    ∃ (its : List Value) (n : Nat), Vals xs its ∧ s.heap.get? p = some { cls := .type "list", data := .seq its.toArray n } ∧ xs.length ≤ sizeLine := by
  obtain ⟨z, its, n, r, e⟩ := I.hok p _ h
  exact ⟨its, n, r, e, z⟩
theorem slice_bounds (lo hi : Option Int) (n : Nat) : (sliceBounds lo hi none n).1 = ((HT.sIx n 0 lo : Nat) : Int) ∧ (sliceBounds lo hi none n).2.1 = ((HT.sIx n n hi : Nat) : Int) ∧ (sliceBounds lo hi none n).2.2 = 1 := by
  refine ⟨?_, ?_, rfl⟩
  · cases lo with
    | none => simp [sliceBounds, HT.sIx]
    | some i =>
      simp only [sliceBounds, HT.sIx, Option.getD_none, show (1 : Int) > 0 by decide, if_true]
      by_cases h : i < 0
      · simp only [h, if_true] <;> omega
      · simp only [h, if_false] <;> omega
  · cases hi with
    | none => simp [sliceBounds, HT.sIx]
    | some i =>
      simp only [sliceBounds, HT.sIx, Option.getD_none, show (1 : Int) > 0 by decide, if_true]
      by_cases h : i < 0
      · simp only [h, if_true] <;> omega
      · simp only [h, if_false] <;> omega
theorem slicePick_cut (its : List Value) (lo hi : Option Int) : slicePick its.toArray lo hi none = ((its.drop (HT.sIx its.length 0 lo)).take (HT.sIx its.length its.length hi - HT.sIx its.length 0 lo)).toArray := by
  obtain ⟨h1, h2, h3⟩ := slice_bounds lo hi its.toArray.size
  unfold slicePick
  rw [h1, h2, h3]
  simp only [sliceRange_one, pick_run, List.size_toArray] <;> rfl
noncomputable def rSlL (K : PySem.W.Frag) : V → Option Int → Option Int → Hp → VK → Prop := fun x lo hi H Q => ∃ a xs, x = .ref a ∧ SqL K H a xs ∧ ∀ p, H p = none → Q (.ref p) (upd H p (.lst (cutV xs lo hi)))
theorem sl_list : SlR X (rSlL X.K) := by
  intro pins s σ H x v vl vu lo hi sl Q I rx hs pl pu h
  obtain ⟨a, xs, rfl, hx, q⟩ := h
  cases rx
  obtain ⟨its, r, ht, hz⟩ := I.list hx
  have hlen := r.length
  refine ⟨"list", _, slot_list_getitem.lookup, ht.isList.typeIs, ?_⟩
  refine wpAny_getItem_list_slice ht.isList hs pl pu .none (by simp) ?_ (by rw [List.size_toArray] <;> omega)
  rw [slicePick_cut, ← hlen]
  refine ⟨.ref s.heap.objs.size, _, I.laid (t' := s.toks) (o := .lst (cutV xs lo hi)) (fun b ob q => Heap.get?_push_of_some _ q) (Nat.le_refl _) ?_, rfl, q _ (I.hok.fresh (Nat.le_refl _))⟩
  exact ⟨Nat.le_trans (cutV_length xs lo hi) hz, _, 0, (r.drop (HT.sIx xs.length 0 lo)).take (HT.sIx xs.length xs.length hi - HT.sIx xs.length 0 lo), Heap.get?_push_size _ rfl⟩
theorem call_len_seq : CallR X (.builtin "len") (fun xs H Q => ∃ p ys, xs = [.ref p] ∧ (SqL X.K H p ys ∨ SqT X.K H p ys) ∧ Q (.int ys.length) H) := by
  intro pins s σ H xs us Q I r h
  obtain ⟨p, ys, rfl, hq, q⟩ := h
  obtain ⟨u, rfl, rx⟩ := vals1 r
  cases rx
  have hn := line63
  rcases hq with hq | hq
  · obtain ⟨its, r', pl, hz⟩ := I.list hq
    have hlen := r'.length
    exact Calls.call_len_list pl.isList (by simp only [List.size_toArray] <;> omega) ⟨.int ys.length, H, I.tok _, ⟨s.toks + 1, by rw [List.size_toArray, hlen]⟩, q⟩
  · obtain ⟨its, r', pl, hz⟩ := I.tuple hq
    have hlen := r'.length
    exact len_tuple pl (by simp only [List.size_toArray] <;> omega) ⟨.int ys.length, H, I.tok _, ⟨s.toks + 1, by rw [List.size_toArray, hlen]⟩, q⟩
theorem call_len_str : CallR X (.builtin "len") (fun xs H Q => ∃ z, xs = [.str z] ∧ z.length ≤ sizeLine ∧ Q (.int z.length) H) := by
  intro pins s σ H xs us Q I r h
  obtain ⟨z, rfl, hz, q⟩ := h
  obtain ⟨u, rfl, t, rfl⟩ := vals1 r
  have hn := line63
  exact len_str (by omega) ⟨.int z.length, H, I.tok _, ⟨_, rfl⟩, q⟩
noncomputable def tyV (K : PySem.W.Frag) (T : String) (x : V) (H : Hp) : Prop := match x with
  | .str _ => T = "str"
  | .int _ => T = "int"
  | .ref p => (T = "list" ∧ ∃ xs, SqL K H p xs) ∨ (T = "tuple" ∧ ∃ o, K.lookup p = some o ∧ o.cls = .type "tuple" ∧ o.dict = none) ∨
      (T = "dict" ∧ ((∃ kvs, H p = some (.dK kvs)) ∨ ∃ kvs, H p = some (.dT kvs))) ∨ (T = "set" ∧ ∃ S n, H p = some (.set S n))
  | _ => False
theorem tyV_is {pins : List (Addr × Obj)} {σ : St} {H : Hp} {s : Shared} {T : String} {x : V} {v : Value} (I : Inv X pins σ H s) (r : RelV x v) (ty : tyV X.K T x H) :
    s.TypeIs v T ∧ ∀ a, v = .ref a → ∃ ob, s.heap.get? a = some ob ∧ ob.dict = none := by
  cases x with
  | str z =>
    obtain ⟨t, rfl⟩ := r
    cases (show T = "str" from ty)
    exact ⟨typeIs_str s z t, fun _ e => nomatch e⟩
  | int i =>
    obtain ⟨t, rfl⟩ := r
    cases (show T = "int" from ty)
    exact ⟨typeIs_int s i t, fun _ e => nomatch e⟩
  | ref p =>
    cases r
    rcases ty with ⟨rfl, xs, hq⟩ | ⟨rfl, o, hk, hc, hd⟩ | ⟨rfl, hk⟩ | ⟨rfl, S, n, hk⟩
    · obtain ⟨its, _, pl, _⟩ := I.list hq
      refine ⟨pl.isList.typeIs, fun a e => ?_⟩
      cases e
      obtain ⟨o, n, e, c, hd, _⟩ := pl
      exact ⟨o, e, hd⟩
    · refine ⟨⟨o, I.kIn p o hk, hc⟩, fun a e => ?_⟩
      cases e
      exact ⟨o, I.kIn _ o hk, hd⟩
    · have z : ∃ o, s.heap.get? p = some o ∧ o.ExactDict := by
        rcases hk with ⟨kvs, hk⟩ | ⟨kvs, hk⟩
        · obtain ⟨_, _, _, _, o, _, _, e, ex, _⟩ := I.hok p _ hk
          exact ⟨o, e, ex⟩
        · obtain ⟨_, _, _, _, o, _, _, e, ex, _⟩ := I.hok p _ hk
          exact ⟨o, e, ex⟩
      obtain ⟨o, e, ex⟩ := z
      refine ⟨⟨o, e, ex.1⟩, fun a e2 => ?_⟩
      cases e2
      exact ⟨o, e, ex.2.1⟩
    · obtain ⟨o, _, _, _, e, ex, _⟩ := I.hok p _ hk
      refine ⟨⟨o, e, ex.1⟩, fun a e2 => ?_⟩
      cases e2
      exact ⟨o, e, ex.2.1⟩
  | _ => exact False.elim ty
noncomputable def tBM0 (K : PySem.W.Frag) (T : String) (r : V → List V → Hp → VK → Prop) (to : TE) : TE := fun σ H Q => to σ H fun x H1 => tyV K T x H1 ∧ r x [] H1 Q
noncomputable def tBM (K : PySem.W.Frag) (T : String) (r : V → List V → Hp → VK → Prop) (to : TE) (t : TA) : TE := fun σ H Q => to σ H fun x H1 => tyV K T x H1 ∧ t σ H1 fun xs H2 => r x xs H2 Q
variable {o e : Expr} {es : List Expr} {to : TE} {t : TA} {name : Str} {apos cpos : Pos} {T id : String} {r : V → List V → Hp → VK → Prop}
theorem pe_bm0 (pa : PlainAttrs T) (slot : Slot T name id) (hty : typeOf (.builtin id) = pure (.type "method_descriptor")) (hm : MtR X id r) (ho : PE X o to)
    (hbase : attributeBase o name X.env (eval o X.env) = eval o X.env := by rfl) (hline : (apos.endLine == cpos.line) = true := by rfl) : PE X (.Call (.Attribute o name apos) [] [] cpos) (tBM0 X.K T r to) := by
  intro pins s σ H Q I h
  refine wpAny_Call_method0_late hbase hline (thn (ho pins s σ H _ I h) fun v s1 ⟨x, H1, I1, r1, ty, q1⟩ => ?_)
  obtain ⟨h1, h2⟩ := tyV_is I1 r1 ty
  exact ⟨T, id, pa, slot, hty, h1, h2, Calls.callWith_builtin rfl (PySem.evalArgs_none (hm pins s1 σ H1 x [] v [] Q I1 r1 .nil q1))⟩
theorem pe_bm (pa : PlainAttrs T) (slot : Slot T name id) (hty : typeOf (.builtin id) = pure (.type "method_descriptor")) (hm : MtR X id r) (ho : PE X o to) (ha : PA X (e :: es) t)
    (hbase : attributeBase o name X.env (eval o X.env) = eval o X.env := by rfl)
    (hfew : ((backTo cpos (starEach (e :: es) X.env)).all (fun x => !x.1) && (backToKw cpos (keywordEach [] X.env)).all (fun x => x.1.isSome)
      && decide ((e :: es).length + ([] : List Keyword).length + (if ([] : List Keyword).isEmpty then 0 else 1) < 30)) = true := by rfl)
    (hline : (apos.endLine == cpos.line) = true := by rfl) (hs : starEach (e :: es) X.env = (false, eval e X.env) :: starEach es X.env := by rfl) (hplain : (backTo cpos (starEach es X.env)).any (·.1) = false := by rfl) :
    PE X (.Call (.Attribute o name apos) (e :: es) [] cpos) (tBM X.K T r to t) := by
  intro pins s σ H Q I h
  refine wpAny_Call_method_late hbase hfew hline rfl (thn (ho pins s σ H _ I h) fun v s1 ⟨x, H1, I1, r1, ty, q1⟩ => ?_)
  obtain ⟨h1, h2⟩ := tyV_is I1 r1 ty
  refine ⟨T, id, pa, slot, hty, h1, h2, ?_⟩
  have hA := ha cpos pins s1 σ H1 _ I1 q1
  rw [hs] at hA ⊢
  refine Calls.callWith_builtin (by show (false || (backTo cpos (starEach es X.env)).any (·.1)) = false; rw [hplain] <;> rfl) (Calls.evalArgs_plain ?_)
  exact thn hA fun us s2 ⟨vs, H2, I2, r2, q2⟩ => hm pins s2 σ H2 x vs v us Q I2 r1 r2 q2
/- xs.append(e), list.index on a module's tuple .. are MtR facts of 06m -/
end
end L2
namespace L2
open PySem PySem.Spec PyProof.Rows
noncomputable def MtM (X : Cx) (id : String) (r : V → List V → Hp → VK → Prop) : Prop :=
  ∀ (pins : List (Addr × Obj)) (s : Shared) (σ : St) (H : Hp) (x : V) (xs : List V) (v : Value) (us : List Value) (Q : VK), Inv X pins σ H s → RelV x v → Vals xs us → r x xs H Q →
    wpAny (model X.prog X.w) X.A (call (.builtin id) (v :: us)) (EP X pins σ Q) X.xe s
theorem Vals.one : ∀ {x : V} {us : List Value}, Vals [x] us → ∃ u, us = [u] ∧ RelV x u
  | _, _, .cons r .nil => ⟨_, rfl, r⟩
theorem Vals.zero : ∀ {us : List Value}, Vals [] us → us = []
  | _, .nil => rfl
theorem Vals.reverse {xs : List V} {us : List Value} (h : Vals xs us) : Vals xs.reverse us.reverse := by
  induction h with
  | nil => exact .nil
  | cons r t ih => rw [List.reverse_cons, List.reverse_cons]; exact Vals.append ih (.cons r .nil)
theorem Vals.rep {xs : List V} {us : List Value} (h : Vals xs us) : ∀ k : Nat, Vals (List.replicate k xs).flatten (List.replicate k us).flatten
  | 0 => .nil
  | k + 1 => by
    rw [List.replicate_succ, List.replicate_succ, List.flatten_cons, List.flatten_cons]
    exact Vals.append h (Vals.rep h k)
theorem foldl_rep (its : List Value) : ∀ (k : Nat) (acc : List Value),
    List.foldl (fun x1 x2 => x1 ++ x2) acc.toArray (List.replicate k its.toArray) = (acc ++ (List.replicate k its).flatten).toArray
  | 0, acc => by simp
  | k + 1, acc => by
    have e : acc.toArray ++ its.toArray = (acc ++ its).toArray := by simp
    have e2 : (acc ++ its) ++ (List.replicate k its).flatten = acc ++ (List.replicate (k + 1) its).flatten := by
      rw [List.replicate_succ, List.flatten_cons, List.append_assoc]
    rw [← e2, ← foldl_rep its k (acc ++ its), ← e, List.replicate_succ, List.foldl_cons]
section
variable {X : Cx} {pins : List (Addr × Obj)} {σ : St} {H : Hp} {s : Shared} {l b : Addr} {xs ys zs : List V}
theorem Inv.lset {its its' : List Value} {n : Nat} {f : Array Value → Array Value} {t' : Nat} (I : Inv X pins σ H s) (hH : H l = some (.lst xs))
    (e : s.heap.get? l = some { cls := .type "list", data := .seq its.toArray n }) (hf : f its.toArray = its'.toArray) (hv : Vals ys its') (hz : ys.length ≤ sizeLine) :
    Inv X pins σ (upd H l (.lst ys)) { s with heap := s.heap.update l (Obj.mapSeq f), toks := t' } := by
  have q := PySem.IsL.update e f
  rw [hf] at q
  refine I.write (x := l) (e := l) (by rw [hH]; exact trivial) (.inl rfl) (fun b' u hb hu => (Heap.get?_update_other s.heap (Obj.mapSeq f) (Ne.symm hb)).trans hu) ⟨_, q⟩ ?_
  exact ⟨hz, its', _, hv, q⟩
theorem Inv.lnew {its : List Value} {t' : Nat} (I : Inv X pins σ H s) (hv : Vals ys its) (hz : ys.length ≤ sizeLine) :
    Inv X pins σ (upd H s.heap.objs.size (.lst ys)) { s with heap := s.heap.push { cls := .type "list", data := .seq its.toArray }, toks := t' } :=
  I.laid (fun _ _ q => Heap.get?_push_of_some _ q) (Nat.le_refl _) ⟨hz, its, 0, hv, Heap.get?_push_size _ rfl⟩
theorem Inv.fresh (I : Inv X pins σ H s) : H s.heap.objs.size = none := I.hok.fresh (Nat.le_refl _)
theorem Inv.lstM (I : Inv X pins σ H s) (hH : H l = some (.lst xs)) : xs.length ≤ sizeLine ∧ ∃ (its : List Value) (n : Nat), Vals xs its ∧ xs.length = its.length ∧ s.heap.get? l = some { cls := .type "list", data := .seq its.toArray n } := by
  obtain ⟨z, its, n, r, e⟩ := I.hok l _ hH
  exact ⟨z, its, n, r, r.length, e⟩
theorem notLongL {n : Nat} (h : n ≤ sizeLine) : Builtin.List.listTooLong n = false := by
  unfold Builtin.List.listTooLong
  exact decide_eq_false (by omega)
end
section
variable {X : Cx}
noncomputable def rAppend : V → List V → Hp → VK → Prop := fun x vs H Q => ∃ l xs y, x = .ref l ∧ vs = [y] ∧ H l = some (.lst xs) ∧ xs.length < sizeLine ∧ Q .non (upd H l (.lst (xs ++ [y])))
theorem mt_append : MtM X "list.append" rAppend := by
  intro pins s σ H x vs v us Q I rx rv h
  obtain ⟨l, xs, y, rfl, rfl, hH, hz, q⟩ := h
  cases rx
  obtain ⟨u, rfl, ru⟩ := rv.one
  obtain ⟨z, its, n, r, hl, e⟩ := I.lstM hH
  refine call_meets F.slot_list_append ⟨_, e, rfl⟩ F.entry_list_append (F.args_list_append_2 _ _) (PySem.list_append l its.toArray n u (by rw [List.size_toArray]; omega)) ⟨e, ?_⟩
  refine ⟨.non, _, I.lset (its' := its ++ [u]) hH e (by simp) (r.append (.cons ru .nil)) ?_, rfl, q⟩
  rw [List.length_append, List.length_singleton]
  omega
noncomputable def rCat : R2 := fun x y H Q => ∃ l b xs zs, x = .ref l ∧ y = .ref b ∧ H l = some (.lst xs) ∧ H b = some (.lst zs) ∧ xs.length + zs.length ≤ sizeLine ∧ ∀ p, H p = none → Q (.ref p) (upd H p (.lst (xs ++ zs)))
theorem op_cat : OpR X (binaryOp .Add) rCat := by
  intro pins s σ H x y v u Q I rx ry h
  obtain ⟨l, b, xs, zs, rfl, rfl, hH, hB, hz, q⟩ := h
  cases rx
  cases ry
  obtain ⟨z, its, n, r, hl, e⟩ := I.lstM hH
  obtain ⟨z2, its2, n2, r2, hl2, e2⟩ := I.lstM hB
  refine PySem.P.add_list e e2 ?_ (by rw [List.size_toArray, List.size_toArray]; omega)
  have ea : its.toArray ++ its2.toArray = (its ++ its2).toArray := by simp
  rw [ea]
  exact ⟨.ref _, _, I.lnew (t' := s.toks) (r.append r2) (by rw [List.length_append]; omega), rfl, q _ I.fresh⟩
noncomputable def rRep : R2 := fun x y H Q => ∃ l k xs, x = .ref l ∧ y = .int k ∧ H l = some (.lst xs) ∧ -(2 ^ 63) ≤ k ∧ k < 2 ^ 63 ∧ xs.length * k.toNat ≤ sizeLine ∧
  ∀ p, H p = none → Q (.ref p) (upd H p (.lst (List.replicate k.toNat xs).flatten))
theorem len_rep {α : Type} (xs : List α) (k : Nat) : (List.replicate k xs).flatten.length = k * xs.length := by
  induction k with
  | zero => simp
  | succ k ih => rw [List.replicate_succ, List.flatten_cons, List.length_append, ih, Nat.succ_mul, Nat.add_comm]
theorem op_rep : OpR X (binaryOp .Mult) rRep := by
  intro pins s σ H x y v u Q I rx ry h
  obtain ⟨l, k, xs, rfl, rfl, hH, h1, h2, hz, q⟩ := h
  cases rx
  obtain ⟨t, rfl⟩ := ry
  obtain ⟨z, its, n, r, hl, e⟩ := I.lstM hH
  have hlen : its.toArray.size * k.toNat ≤ sizeLine := by rw [List.size_toArray, ← hl]; exact hz
  have hcap : ¬ its.toArray.size * k.toNat > (2 ^ 63 - 1) / 8 := by
    have : (sizeLine : Nat) ≤ (2 ^ 63 - 1) / 8 := by decide
    omega
  have hfit : ¬ (!Builtin.List.listFitsIndex k) = true := by
    rw [fitsIndex_both h1 h2]
    exact Bool.false_ne_true
  have hlong : ¬ Builtin.List.listTooLong (its.toArray.size * k.toNat) = true := by
    rw [notLongL hlen]
    exact Bool.false_ne_true
  have hnew : List.foldl (fun x1 x2 => x1 ++ x2) #[] (List.replicate (if its.toArray.isEmpty = true then 0 else k.toNat) its.toArray) = (List.replicate k.toNat its).flatten.toArray := by
    have f0 : ∀ m : Nat, List.foldl (fun x1 x2 => x1 ++ x2) #[] (List.replicate m its.toArray) = (List.replicate m its).flatten.toArray := fun m => by
      have := foldl_rep its m []
      rw [List.nil_append] at this
      exact this
    rw [f0]
    cases its with
    | nil => simp
    | cons a r' => rw [if_neg (by simp)]
  refine wpAny_binaryOp_repeat_ref (T := "list") (U := "int") (by decide) ⟨_, e, rfl⟩ (fun s' => typeIs_int s' k t) noFill_list_mul F.fills_int_mul F.slot_int_rmul repeat_list F.slot_int_index.lookup
    (call_meets F.slot_int_rmul (typeIs_int s k t) F.entry_int_rmul (F.args_int_rmul_2 _ _) (int___rmul___int_list k t l its.toArray n)
      ⟨e, rfl, ⟨_, e, rfl⟩, call_meets F.slot_list_mul ⟨_, e, rfl⟩ F.entry_list_mul (F.args_list_mul_2 _ _) (AutoListH.list___mul___list_int_3 l its.toArray n k t hfit hcap hlong) ⟨e, ?_⟩⟩)
  rw [hnew]
  exact ⟨.ref _, _, I.lnew (t' := s.toks) (r.rep k.toNat) (by rw [len_rep, Nat.mul_comm]; exact hz), rfl, q _ I.fresh⟩
end
section
variable {prog : Program} {w : World} {A : Around} {E : Value → Shared → Prop} {s : Shared}
set_option maxRecDepth 100000 in
end
section
variable {X : Cx}
end
end L2
namespace Att
open PySem PySem.W PySem.Calls PyProof.Rows
theorem ints_of_wellAll {P : Params} {h : Heap} : ∀ (ns : List Int) (vs : List Value), WellAll P h vs (ns.map WData.int) → IntsAre vs ns := by
  intro ns
  induction ns with
  | nil =>
    intro vs w
    rw [List.map_nil] at w
    cases w
    exact .nil
  | cons n ns ih =>
    intro vs w
    rw [List.map_cons] at w
    cases w with
    | cons a b =>
      cases a
      exact .cons _ _ (ih _ b)
theorem script_of {l : OpenLaw} {n : Nat} (hn : l.most = some n) {P : Params} {h : Heap} {args : List WData} {vals : List Value}
    (hpre : l.row.toRowW.claim.pre args = true) (hwl : WellAll P h vals args) :
    ∃ a vs ns, vals = [Value.ref a] ∧ args = [WData.list (ns.map WData.int)] ∧ h.get? a = some { cls := .type "list", data := .seq vs.toArray } ∧ IntsAre vs ns ∧ ns.length ≤ n := by
  have hsh : WShape.hasAll [] args [.list .int] = true := (pre_splitW hpre).1
  have hc : l.pre.holds [] { args := args } = true := (pre_splitW hpre).2
  obtain ⟨d, r, rfl, h1, h2⟩ := hasAllW_cons hsh
  obtain rfl := hasAllW_nil h2
  obtain ⟨xs, rfl, h3⟩ := hasW_list h1
  obtain ⟨ns, rfl⟩ := items_int h3
  have hlen : ns.length ≤ n := by
    unfold OpenLaw.pre at hc
    have h4 : (WTm.not (.lt (.lit (.int (n : Int))) (.len (.arg 0)))).holds [] { args := [.list (ns.map .int)] } = true := by
      have h4 := (holds_andW hc).1
      rw [hn] at h4
      exact h4
    have h5 := condW_of h4 (w_not (w_lt w_lit (w_len_list (w_arg rfl))))
    rw [List.length_map] at h5
    refine Nat.le_of_not_lt fun q => ?_
    have q' : (n : Int) < ((ns.length : Nat) : Int) := by omega
    first
      | (rw [decide_eq_true q'] at h5; exact absurd h5 (by decide))
      | (simp at h5; omega)
  cases hwl with
  | cons w1 w2 =>
    cases w2
    cases w1 with
    | list ho hall => exact ⟨_, _, ns, rfl, rfl, ho, ints_of_wellAll ns _ hall, hlen⟩
theorem post_true (l : OpenLaw) (args : List WData) : l.row.toRowW.claim.post args (.bool true) args = true :=
  postW_of (r := l.row.toRowW) (X := (true == true))
    (show WShape.has [] (.bool true) .bool = true by first | rfl | decide | simp [WShape.has, WShape.arms, WShape.armsAll])
    (show (WTm.eq .res (.lit (.bool true))).value [] { args := args, res := some (.bool true), after := args } = some (.bool (true == true)) from w_eq_bool (w_res rfl) w_lit) rfl
theorem attach_call {l : OpenLaw} {n : Nat} {q : Program} {loose : List Str} {XP : (Str → Option Value) → Heap → Prop} {YP : World → Heap → Prop} {d : DefRec}
    (hn : l.most = some n) (hdf : d.params.defaults = [])
    (call : ∀ (w : World) (s₀ s₁ : Shared) (mg mb : Str → Option Value) (fa : Addr) (o : Obj) (pm cd doc : Value) (a : Addr) (vs : List Value) (ns : List Int),
      Ground q loose [] XP w s₀ mg mb s₁.heap → YP w s₁.heap →
      s₁.heap.get? fa = some o → o.data = .func (docDef d.name d.params d.body d.scope pm cd doc) → s₁.heap.CodeRec cd d.name → mg d.name = some (.ref fa) →
      s₁.heap.get? a = some { cls := .type "list", data := .seq vs.toArray } → IntsAre vs ns → ns.length ≤ n → s₁.gens = #[] →
      codeAny (model l.prog w) callerA (.call (.ref fa) ⟨[.ref a], []⟩) (fun r s' => r = .ok (.ret (.bool true)) ∧ OldK s₁.heap s'.heap ∧ s'.os = s₁.os ∧ AllBare s'.gens) s₁) :
    WalkO q loose XP YP l.row.toRowW d [] (fun f vs => PySem.call f vs) := by
  intro w s₀ s₁ mg mb G Y fa o pm cd doc dV kV ho hd hcd hD hmg hg args vals as hpre hlay hrd hwl hlo
  obtain rfl : dV = .none := Dflts.none hD hdf
  obtain rfl : kV = .none := Dflts.noKw hD
  obtain ⟨a, vs, ns, rfl, rfl, hobj, hints, hlen⟩ := script_of hn hpre hwl
  refine enter_call (codeAny_mono (call w s₀ s₁ mg mb fa o pm cd doc a vs ns G Y ho (fd_plain hd) hcd hmg hobj hints hlen hg) fun r s' hq => ?_)
  obtain ⟨rfl, h2, h3, h4⟩ := hq
  exact ⟨.inl ⟨.bool true, .bool true, [], rfl, fun _ => rfl, .bool true, post_true l _, fun _ => ⟨List.Pairwise.nil, fun _ hm => (nomatch hm)⟩⟩, h2, h3, h4⟩
section
variable {prog : Program} {w : World} {A : Around} {E : Value → Shared → Prop} {s : Shared} {K : Frag}
noncomputable def ledger (h : Heap) (L d : Addr) : List (Addr × Obj) := (List.range h.objs.size).filterMap fun a => if a = L ∨ a = d then none else (h.get? a).map fun o => (a, o)
end
end Att
namespace L2
open PySem PySem.Spec PyProof.Rows
theorem vals_ints : ∀ {vs : List Value} {ns : List Int}, IntsAre vs ns → Vals (ns.map V.int) vs
  | _, _, .nil => .nil
  | _, _, .cons n t h => .cons ⟨t, rfl⟩ (vals_ints h)
noncomputable def Only (H : Hp) : Prop := ∀ b, H b = none ∨ ∃ o xs, H b = some (.frz o (.lst xs))
theorem law_call {P : Program} {w : World} {K : PySem.W.Frag} {mg mb : Str → Option Value} {CX : CXT} {k : Nat} {fa a : Addr} {fd : FuncData} {x : Str} {sp : Sp} {s₁ : Shared} {vs : List Value} {ns : List Int}
    (KX : K.In s₁.heap) (hns : s₁.heap.Ns mainGlobals mg) (hb : s₁.heap.Ns builtinsNs mb) (hbb : ∀ x : Str, x ≠ "__name__" → mb x = bootBuiltins x) (hlim : s₁.heap.NoLimit) (hg : s₁.gens = #[])
    (ha : s₁.heap.get? a = some { cls := .type "list", data := .seq vs.toArray }) (hi : IntsAre vs ns) (hl : ns.length ≤ sizeLine) (hr : Room k callerA)
    (F : ∀ base : Heap, K.In base → base.Ns mainGlobals mg → FnOk P w K mg base CX k fa fd [x] sp) (hbind : ∀ (s : Shared) (u : Value), BindsTo s fd ⟨[u], []⟩ [(x, u)])
    (hsp : ∀ H : Hp, Only H → SqL K H a (ns.map V.int) → sp [.ref a] H (fun v _ => v = .bl true) fun _ _ _ => False)
    (hCX : ∀ H e s', CX [] H s₁ (fun _ _ _ => False) e s' → False) :
    codeAny (model P w) callerA (.call (.ref fa) ⟨[.ref a], []⟩) (fun r s' => r = .ok (.ret (.bool true)) ∧ OldK s₁.heap s'.heap ∧ s'.os = s₁.os ∧ AllBare s'.gens) s₁ := by
  have rv := vals_ints hi
  have lenV := hi.length
  have core : ∀ H : Hp, Only H → SqL K H a (ns.map V.int) → HOk P w H s₁.heap → (∀ b, H b ≠ none → b = a) → (H a ≠ none → K.lookup a = none) →
      codeAny (model P w) callerA (.call (.ref fa) ⟨[.ref a], []⟩) (fun r s' => r = .ok (.ret (.bool true)) ∧ OldK s₁.heap s'.heap ∧ s'.os = s₁.os ∧ AllBare s'.gens) s₁ := by
    intro H hO hS hok hA hK
    have base_of : ∀ {b : Addr} {o : Obj}, s₁.heap.get? b = some o → H b = none → (hidT s₁.heap H).get? b = some o := fun e n => hidT_get e n
    have noA : ∀ {b : Addr} {o : Obj} {es : Array DictEntry} {ep : Nat}, s₁.heap.get? b = some o → o.data = .dict es ep → H b = none := fun {b o es ep} e d => by
      cases q : H b with
      | none => rfl
      | some u =>
        have e' : b = a := hA b (by rw [q]; simp)
        subst e'
        rw [ha] at e; cases e
        have d' : Data.seq vs.toArray _ = Data.dict es ep := d
        cases d'
    have nsK : ∀ {b : Addr} {m : Str → Option Value}, s₁.heap.Ns b m → (hidT s₁.heap H).Ns b m := fun {b m} ⟨o, es, ep, e, d, r⟩ => ⟨o, es, ep, base_of e (noA e d), d, r⟩
    have hKb : K.In (hidT s₁.heap H) := fun b o e => base_of (KX b o e) (by
      cases q : H b with
      | none => rfl
      | some u =>
        have e' : b = a := hA b (by rw [q]; simp)
        subst e'
        rw [hK (by rw [q]; simp)] at e; cases e)
    have hM : Mod K mg (hidT s₁.heap H) := ⟨hKb, nsK hns, ⟨mb, nsK hb, hbb⟩, let ⟨mc, h1, h2⟩ := hlim; ⟨mc, nsK h1, h2⟩⟩
    have e0 : Env0 P w K mg (hidT s₁.heap H) callerA [] s₁ H := ⟨rfl, hM, fun b o e => of_hidT e, Nat.le_of_eq (hidT_size _ _), trivial, fun b hb => absurd (show b ∈ ([] : List Addr) from hb) (by simp), hok, .of_eq hg⟩
    refine codeAny_mono ((F _ hKb (nsK hns)).run callerA [] s₁ H ⟨[.ref a], []⟩ [.ref a] [.ref a] _ _ hr e0 (hbind s₁ (.ref a)) (.cons rfl .nil) (hsp H hO hS)) fun r s' h => ?_
    cases r with
    | error e => exact (hCX H e s' h).elim
    | ok fl =>
      cases fl with
      | next => exact False.elim h
      | brk => exact False.elim h
      | cont => exact False.elim h
      | ret u =>
        obtain ⟨v, H', os, bare, un, hok', r', q⟩ := h
        have q' : v = .bl true := q
        subst q'
        obtain rfl : u = Value.bool true := r'
        refine ⟨rfl, OldK.of_keep fun b o e => ?_, os, bare⟩
        cases q : H b with
        | none => exact un.keep b o e q (by intro z; exact absurd (show b ∈ ([] : List Addr) from z) (by simp)) (by simp)
        | some u =>
          rcases hO b with z | ⟨ob, xs, z⟩
          · rw [q] at z; cases z
          · have z2 := un.frzs b ob _ z
            obtain ⟨e1, _⟩ := hok b _ z
            obtain ⟨e2, _⟩ := hok' b _ z2
            rw [e] at e1; cases e1
            exact e2
  cases hk : K.lookup a with
  | some o =>
    have e := KX a o hk
    rw [ha] at e
    cases e
    refine core (fun _ => none) (fun _ => .inl rfl) (.inr ⟨_, vs.toArray, _, hk, rfl, rfl, rfl, by rw [List.size_toArray, lenV]; exact hl, by simpa using rv⟩) (fun b u z => by have z' : (none : Option HO) = some u := z; cases z') (fun b z => absurd rfl z) fun z => absurd rfl z
  | none =>
    refine core (fun b => if b = a then some (.frz { cls := .type "list", data := .seq vs.toArray } (.lst (ns.map V.int))) else none) (fun b => ?_) (.inl (.inr ⟨{ cls := .type "list", data := .seq vs.toArray }, if_pos rfl⟩)) (fun b u z => ?_) (fun b z => ?_) fun _ => hk
    · by_cases hb : b = a
      · exact .inr ⟨_, _, if_pos hb⟩
      · exact .inl (if_neg hb)
    · by_cases hb : b = a
      · have z' := (if_pos hb).symm.trans z
        cases z'
        subst hb
        exact ⟨ha, by rw [List.length_map]; exact hl, vs, _, rv, ha⟩
      · have z' := (if_neg hb).symm.trans z
        cases z'
    · by_cases hb : b = a
      · exact hb
      · exact absurd (if_neg hb) z
end L2
namespace L2
open PySem PySem.Spec PyProof.Rows
noncomputable abbrev KOf {K : PySem.W.Frag} {h : Heap} (_ : K.In h) : PySem.W.Frag := K
theorem walk_of {l : PySem.W.OpenLaw} {n k : Nat} {q : Program} {loose : List Str} {XP : (Str → Option Value) → Heap → Prop} {YP : World → Heap → Prop} {d : DefRec} {K : Params → PySem.W.Frag} {CX : World → CXT} {sp : World → Sp} {x : Str}
    (hn : l.most = some n) (hn2 : n ≤ sizeLine) (hdf : d.params.defaults = []) (hr : Room k callerA)
    (hY : ∀ (w : World) (h : Heap), YP w h → (K w.params).In h)
    (F : ∀ (w : World) (mg : Str → Option Value) (fa : Addr) (h : Heap), (K w.params).In h → h.Ns mainGlobals mg → mg d.name = some (.ref fa) →
      ∃ fd : FuncData, (∀ (s : Shared) (u : Value), BindsTo s fd ⟨[u], []⟩ [(x, u)]) ∧
        ∀ base : Heap, (K w.params).In base → base.Ns mainGlobals mg → FnOk l.prog w (K w.params) mg base (CX w) k fa fd [x] (sp w))
    (hsp : ∀ (w : World) (H : Hp) (a : Addr) (ns : List Int), ns.length ≤ n → Only H → SqL (K w.params) H a (ns.map V.int) → sp w [.ref a] H (fun v _ => v = .bl true) fun _ _ _ => False)
    (hCX : ∀ (w : World) (H : Hp) (s : Shared) (e : Value) (s' : Shared), CX w [] H s (fun _ _ _ => False) e s' → False) :
    PySem.W.WalkO q loose XP YP l.row.toRowW d [] (fun f vs => PySem.call f vs) := by
  refine Att.attach_call hn hdf fun w s₀ s₁ mg mb fa o pm cd doc a vs ns G Y ho hd hcd hmg hobj hints hlen hg => ?_
  have KX := hY w _ Y
  obtain ⟨fd, hb, hF⟩ := F w mg fa _ KX G.T.g hmg
  exact law_call KX G.T.g G.T.b G.T.builtins G.T.nolimit hg hobj hints (Nat.le_trans hlen hn2) hr hF hb (fun H hO hS => hsp w H a ns hlen hO hS) fun H e s' => hCX w H s₁ e s'
end L2
/- THE LAST THEOREM (shape; LID, My.* are yours):
   My.Adr: a structure of the addresses that your layer names (classes, functions); My.Txt K t: a structure (Prop) of the equations over K;
   My.txt_mk : {K} {implicit addresses ..} (e1 : nsIn K mainGlobals "law" = some (some (.ref f))) (e2 : K.lookup f = some ⟨oc, od, .func (fnOf "law" "law" params body scope dV kV doc pm an cdv ct), sl⟩) (e3 : codeIn K cdv "law" = true) .. : ∃ t, My.Txt K t
set_option maxRecDepth 100000 in
set_option maxHeartbeats 0 in
theorem PySem.Challenge.cw_LID_holds : PySem.Challenge.rw_LID.Holds := by
  w_on; o_law; k_head; (case hw => w_witness2)
  k_fill
  refine L2.walk_of (l := PySem.Challenge.rw_LID) (n := 63) (k := 40) (x := "script") (CX := fun w => ..) (sp := fun _ => My.sp_law) rfl (by decide) rfl ⟨rfl, by decide, by decide⟩ (fun w h Y => PySem.W.kIn_of Y) ?F ?S ?C
  case F =>
    intro w mg fa h KX G hmg
    have T : ∃ t, My.Txt (L2.KOf KX) t := by
      dsimp only [L2.KOf]                          -- K must stand as «<heap const> w.params» for k_is
      refine' My.txt_mk ?e1 ?e2 ?e3 ..
      (case e1 => PySem.W.k_is)                    -- in the order: a name -> its address -> its object -> its parts
      (case e2 => PySem.W.k_is)
      ..
    obtain ⟨t, T⟩ := T
    have e0 := hmg.symm.trans (PySem.W.mg_of KX G T.law)
    cases e0                                       -- fa is the law's own address
    exact ⟨_, fun s u => .of_eq rfl, fun base kb nb => My.law_fn T kb nb⟩     -- if «.of_eq rfl» comes too early: refine' ⟨_, ?b, fun base kb nb => My.law_fn T kb nb⟩; exact fun s u => .of_eq rfl
  case S => exact fun w H a ns hl hO hS => ..
  case C => exact ..
(the tactic k_is has no namespace: write k_is) -/
namespace L2
open PySem PySem.Spec PyProof.Rows
noncomputable def inClass (s : Stmt) (j : Nat) : Stmt := match s with
  | .ClassDef _ _ _ body _ _ _ _ _ _ _ => body.getD j (.Pass ⟨0, 0, 0, 0⟩)
  | _ => .Pass ⟨0, 0, 0, 0⟩
noncomputable def defArgs (s : Stmt) : Arguments := match s with
  | .FunctionDef _ a _ _ _ _ _ _ _ _ => a
  | _ => { posonlyargs := [], args := [], vararg := none, kwonlyargs := [], kw_defaults := [], kwarg := none, defaults := [] }
noncomputable def defBody (s : Stmt) : List Stmt := match s with
  | .FunctionDef _ _ b _ _ _ _ _ _ _ => b
  | _ => []
noncomputable def defScope (s : Stmt) : Scope := match s with
  | .FunctionDef _ _ _ _ _ _ sc _ _ _ => sc
  | _ => { kind := .function, names := [], isGenerator := false, isCoroutine := false }
noncomputable abbrev CX0 : CXT := fun _ _ _ _ _ _ => False
noncomputable abbrev E0 : XK := fun _ _ _ => False
theorem pass0 {X : Cx} : Passes CX0 X E0 := fun _ _ _ _ _ _ _ h => h.elim
structure Fun (K : PySem.W.Frag) (x qual : Str) (st : Stmt) (f : Addr) (fd : FuncData) : Prop where
  ex : ∃ (oc : Value) (od : Option Addr) (kV doc pm : Value) (an : Option Addr) (cdv ct : Value) (osl : Array (Option Value)),
    fd = PySem.W.fnOf x qual (defArgs st) (defBody st) (defScope st) .none kV doc pm an cdv ct ∧ K.lookup f = some ⟨oc, od, .func fd, osl⟩ ∧ PySem.W.codeIn K cdv qual = true
  kp : PySem.W.keepIn K (.ref f) = true
section
variable {P : Program} {w : World} {K : PySem.W.Frag} {mg : Str → Option Value} {base : Heap}
theorem Fun.ok {x qual : Str} {st : Stmt} {f : Addr} {fd : FuncData} {N ps : List Str} {k : Nat} {sp : Sp} (F : Fun K x qual st f fd) (S : FnScope N ps (defScope st)) (len : ∀ vs H Q E, sp vs H Q E → vs.length = ps.length)
    (hbody : ∀ (cdv : Value) (A : Around) (outer : List Env) (s : Shared) (H : Hp) (vs : List V) (Q : VK) (E : XK), Room k (A.deeper (envOfC qual (defScope st) s.heap.objs.size f cdv)) → sp vs H Q E →
      ∃ t, PSs (cxOf CX0 P w K mg base N qual (defScope st) f cdv A outer s H E).nox (defBody st) t ∧ t { nx := fun _ H' => Q .non H', rt := Q } (start N vs) H) : FnOk P w K mg base CX0 (k + 1) f fd ps sp := by
  obtain ⟨oc, od, kV, doc, pm, an, cdv, ct, osl, rfl, lk, hcd⟩ := F.ex
  refine fn_of lk hcd S len fun A outer s H vs Q E hr hsp => ?_
  obtain ⟨t, h, q⟩ := hbody cdv A outer s H vs Q E hr hsp
  exact ⟨t, h.nox, q⟩
theorem Fun.binds {x qual : Str} {st : Stmt} {f : Addr} {fd : FuncData} {ps : List Str} (F : Fun K x qual st f fd)
    (h : ∀ (kV doc pm : Value) (an : Option Addr) (cdv ct : Value) (us : List Value), us.length = ps.length → bindArgs (PySem.W.fnOf x qual (defArgs st) (defBody st) (defScope st) .none kV doc pm an cdv ct) ⟨us, []⟩ = pure (ps.zip us)) : Binds K fd ps [] := by
  obtain ⟨oc, od, kV, doc, pm, an, cdv, ct, osl, rfl, lk, hcd⟩ := F.ex
  exact .all (h kV doc pm an cdv ct)
theorem fun_mk {x qual : Str} {st : Stmt} {f : Addr} {oc : Value} {od an : Option Addr} {osl : Array (Option Value)} {kV doc pm cdv ct : Value} (l : K.lookup f = some ⟨oc, od, .func (PySem.W.fnOf x qual (defArgs st) (defBody st) (defScope st) .none kV doc pm an cdv ct), osl⟩)
    (c : PySem.W.codeIn K cdv qual = true) (k : PySem.W.keepIn K (.ref f) = true) : Fun K x qual st f (PySem.W.fnOf x qual (defArgs st) (defBody st) (defScope st) .none kV doc pm an cdv ct) := ⟨⟨oc, od, kV, doc, pm, an, cdv, ct, osl, rfl, l, c⟩, k⟩
end
section
variable {X : Cx}
theorem pv (i : Nat) {x : Str} {pos : Pos} (hN : X.N[i]? = some x := by rfl) (hv : Vis X.env.scope x := by first | exact Or.inl rfl | exact Or.inr (Or.inl rfl) | exact Or.inr (Or.inr rfl)) (hd : (x == ("__debug__" : Str)) = false := by decide)
    (hcd : (x == ("__classdict__" : Str)) = false := by decide) : PE X (.Name x pos) (tVar i) := pe_var hN hv hd hcd
end
theorem iteF {A B : Prop} (h : B) : if false = true then A else B := by
  rw [if_neg Bool.false_ne_true]
  exact h
theorem ite2 {c A B : Prop} [Decidable c] (h1 : c → A) (h2 : ¬ c → B) : if c then A else B := by
  by_cases h : c
  · rw [if_pos h]
    exact h1 h
  · rw [if_neg h]
    exact h2 h
theorem iteNS {c A B : Prop} [Decidable c] (hc : c) (h : B) : if (!decide c) = true then A else B := by
  rw [decide_eq_true hc]
  exact iteF h
noncomputable def Same (H H' : Hp) : Prop := ∀ b o, H b = some o → H' b = some o
theorem Same.refl (H : Hp) : Same H H := fun _ _ h => h
theorem Same.trans {H H1 H2 : Hp} (a : Same H H1) (b : Same H1 H2) : Same H H2 := fun c o h => b c o (a c o h)
theorem Same.free {H H' : Hp} (e : Same H H') {l : Addr} (h : H' l = Option.none) : H l = Option.none := by
  cases q : H l with
  | none => rfl
  | some o =>
    rw [e l o q] at h
    cases h
theorem Same.seq {K : PySem.W.Frag} {H H' : Hp} {a : Addr} {xs : List V} (e : Same H H') (h : SqL K H a xs) : SqL K H' a xs := by
  rcases h with (h | ⟨o, h⟩) | h
  · exact .inl (.inl (e _ _ h))
  · exact .inl (.inr ⟨o, e _ _ h⟩)
  · exact .inr h
end L2
namespace L2
open PySem PySem.Spec PyProof.Rows
section
variable {κ : Type} [DecidableEq κ]
noncomputable def valV (kvs : List (κ × V)) (k : κ) : Option V := (kvs.find? fun kv => decide (kv.1 = k)).map (·.2)
noncomputable def putK (kvs : List (κ × V)) (k : κ) (v : V) : List (κ × V) :=
  if (kvs.any fun kv => decide (kv.1 = k)) = true then kvs.map (fun kv => if kv.1 = k then (kv.1, v) else kv) else kvs ++ [(k, v)]
noncomputable def dropK (kvs : List (κ × V)) (k : κ) : List (κ × V) := kvs.filter fun kv => decide (kv.1 ≠ k)
theorem valV_pos {p : κ × V} {r : List (κ × V)} {k : κ} (e : p.1 = k) : valV (p :: r) k = some p.2 := by simp [valV, List.find?_cons, e]
theorem valV_neg {p : κ × V} {r : List (κ × V)} {k : κ} (e : ¬ p.1 = k) : valV (p :: r) k = valV r k := by simp [valV, List.find?_cons, e]
theorem valV_any (k : κ) : ∀ kvs : List (κ × V), (kvs.any fun kv => decide (kv.1 = k)) = (valV kvs k).isSome
  | [] => rfl
  | p :: r => by
    rw [List.any_cons]
    by_cases e : p.1 = k
    · simp only [valV_pos e, decide_eq_true e, Bool.true_or, Option.isSome_some]
    · rw [valV_neg e, decide_eq_false e, Bool.false_or]; exact valV_any k r
theorem length_putK (kvs : List (κ × V)) (k : κ) (v : V) : (putK kvs k v).length ≤ kvs.length + 1 := by
  unfold putK
  split
  · rw [List.length_map]; omega
  · rw [List.length_append, List.length_cons, List.length_nil]; omega
theorem RelO.isSome_eq {o : Option V} {u : Option Value} (r : RelO o u) : o.isSome = u.isSome := by
  cases o with
  | none => cases u with
    | none => rfl
    | some _ => exact (show False from r).elim
  | some _ => cases u with
    | none => exact (show False from r).elim
    | some _ => rfl
theorem RelO.getD {o : Option V} {u : Option Value} {d : V} {d' : Value} (r : RelO o u) (rd : RelV d d') : RelV (o.getD d) (u.getD d') := by
  cases o with
  | none => cases u with
    | none => exact rd
    | some _ => exact (show False from r).elim
  | some _ => cases u with
    | none => exact (show False from r).elim
    | some _ => exact r
theorem KV.val {kvs : List (κ × V)} {vs : List (κ × Value)} (r : KV kvs vs) (k : κ) : RelO (valV kvs k) (valueAt vs k) := by
  unfold KV at r
  induction r with
  | nil => exact True.intro
  | @cons p q ps qs h t ih =>
    obtain ⟨h1, h2⟩ := h
    by_cases e : p.1 = k
    · have e' : q.1 = k := h1.symm.trans e
      have b : valueAt (q :: qs) k = some q.2 := by simp [valueAt, List.find?_cons, e']
      rw [valV_pos e, b]; exact h2
    · have e' : ¬ q.1 = k := fun z => e (h1.trans z)
      have b : valueAt (q :: qs) k = valueAt qs k := by simp [valueAt, List.find?_cons, e']
      rw [valV_neg e, b]; exact ih
theorem KV.any {kvs : List (κ × V)} {vs : List (κ × Value)} (r : KV kvs vs) (k : κ) : (kvs.any fun kv => decide (kv.1 = k)) = vs.any fun kv => decide (kv.1 = k) := by
  unfold KV at r
  induction r with
  | nil => rfl
  | cons h t ih => rw [List.any_cons, List.any_cons, ih, h.1]
theorem KV.repl {kvs : List (κ × V)} {vs : List (κ × Value)} (r : KV kvs vs) (k : κ) {y : V} {u : Value} (ry : RelV y u) :
    KV (kvs.map fun kv => if kv.1 = k then (kv.1, y) else kv) (vs.map fun kv => if kv.1 = k then (kv.1, u) else kv) := by
  unfold KV at r ⊢
  induction r with
  | nil => exact .nil
  | @cons p q ps qs h t ih =>
    rw [List.map_cons, List.map_cons]
    refine .cons ?_ ih
    obtain ⟨h1, h2⟩ := h
    by_cases e : p.1 = k
    · rw [if_pos e, if_pos (h1.symm.trans e)]; exact ⟨h1, ry⟩
    · rw [if_neg e, if_neg (fun z => e (h1.trans z))]; exact ⟨h1, h2⟩
theorem KV.put {kvs : List (κ × V)} {vs : List (κ × Value)} (r : KV kvs vs) (k : κ) {y : V} {u : Value} (ry : RelV y u) : KV (putK kvs k y) (stored vs k u) := by
  unfold putK stored
  rw [r.any k]
  by_cases e : (vs.any fun kv => decide (kv.1 = k)) = true
  · rw [if_pos e, if_pos e]; exact r.repl k ry
  · rw [if_neg e, if_neg e]; exact Paired.snoc r ⟨rfl, ry⟩
theorem KV.drop {kvs : List (κ × V)} {vs : List (κ × Value)} (r : KV kvs vs) (k : κ) : KV (dropK kvs k) (without vs k) := by
  unfold KV at r ⊢
  unfold dropK without
  induction r with
  | nil => exact .nil
  | @cons p q ps qs h t ih =>
    obtain ⟨h1, h2⟩ := h
    rw [List.filter_cons, List.filter_cons]
    by_cases e : p.1 = k
    · have a : ¬ decide (p.1 ≠ k) = true := by simp [e]
      have b : ¬ decide (q.1 ≠ k) = true := by simp [h1.symm.trans e]
      rw [if_neg a, if_neg b]; exact ih
    · have e' : ¬ q.1 = k := fun z => e (h1.trans z)
      have a : decide (p.1 ≠ k) = true := by simp [e]
      have b : decide (q.1 ≠ k) = true := by simp [e']
      rw [if_pos a, if_pos b]; exact .cons ⟨h1, h2⟩ ih
theorem KV.keys {kvs : List (κ × V)} {vs : List (κ × Value)} (r : KV kvs vs) : kvs.map (·.1) = vs.map (·.1) := by
  unfold KV at r
  induction r with
  | nil => rfl
  | cons h t ih => rw [List.map_cons, List.map_cons, ih, h.1]
theorem KV.length {kvs : List (κ × V)} {vs : List (κ × Value)} (r : KV kvs vs) : kvs.length = vs.length := Paired.length r
end
theorem kV_is {P : Program} {w : World} {k : Key} {u : Value} (r : RelV (kV k) u) : (mixKind P w).is k u = true := by
  cases k with
  | inl i => obtain ⟨t, e⟩ := (show ∃ t, u = Value.int i t from r); subst e; exact mixKind_int P w i t
  | inr x => obtain ⟨t, e⟩ := (show ∃ t, u = Value.str x t from r); subst e; exact mixKind_str P w x t
theorem items_are {P : Program} {w : World} : ∀ {ks : List Key} {us : List Value}, Vals (ks.map kV) us → ItemsAre (mixKind P w) ks us
  | [], _, r => by rw [List.map_nil] at r; cases r; exact .nil
  | k :: ks, _, r => by
    rw [List.map_cons] at r
    cases r with
    | cons h t => exact .cons (kV_is h) (items_are t)
noncomputable abbrev KT (H : Hp) : List (List Key × V) → List (List Key × Addr × Value) → Prop := Paired fun p q => p.1 = q.1 ∧ H q.2.1 = some (.tup (p.1.map kV)) ∧ RelV p.2 q.2.2
theorem KT.val {H : Hp} {kvs : List (List Key × V)} {xs : List (List Key × Addr × Value)} (r : KT H kvs xs) (k : List Key) : RelO (valV kvs k) ((atKey xs k).map (·.2)) := by
  induction r with
  | nil => exact True.intro
  | @cons p q ps qs h t ih =>
    obtain ⟨h1, _, h2⟩ := h
    by_cases e : p.1 = k
    · have e' : q.1 = k := h1.symm.trans e
      have b : atKey (q :: qs) k = some q.2 := by simp [atKey, List.find?_cons, e']
      rw [valV_pos e, b]; exact h2
    · have e' : ¬ q.1 = k := fun z => e (h1.trans z)
      have b : atKey (q :: qs) k = atKey qs k := by simp [atKey, List.find?_cons, e']
      rw [valV_neg e, b]; exact ih
theorem KT.repl {H : Hp} {kvs : List (List Key × V)} {xs : List (List Key × Addr × Value)} (r : KT H kvs xs) (k : List Key) {y : V} {u : Value} (ry : RelV y u) :
    KT H (kvs.map fun kv => if kv.1 = k then (kv.1, y) else kv) (xs.map (putAt k u)) := by
  induction r with
  | nil => exact .nil
  | @cons p q ps qs h t ih =>
    rw [List.map_cons, List.map_cons]
    refine .cons ?_ ih
    obtain ⟨h1, h2, h3⟩ := h
    unfold putAt
    by_cases e : p.1 = k
    · rw [if_pos e, if_pos (h1.symm.trans e)]; exact ⟨h1, h2, ry⟩
    · rw [if_neg e, if_neg (fun z => e (h1.trans z))]; exact ⟨h1, h2, h3⟩
theorem KT.put {H : Hp} {kvs : List (List Key × V)} {xs : List (List Key × Addr × Value)} (r : KT H kvs xs) (k : List Key) {b : Addr} {y : V} {u : Value} (hb : H b = some (.tup (k.map kV))) (ry : RelV y u) :
    KT H (putK kvs k y) (storedH xs k b u) := by
  have e : (kvs.any fun kv => decide (kv.1 = k)) = (atKey xs k).isSome := by
    rw [valV_any, (r.val k).isSome_eq, Option.isSome_map]
  unfold putK storedH
  rw [e]
  by_cases q : (atKey xs k).isSome = true
  · rw [if_pos q, if_pos q]; exact r.repl k ry
  · rw [if_neg q, if_neg q]; exact Paired.snoc r ⟨rfl, hb, ry⟩
theorem KT.keeps {H H' : Hp} {kvs : List (List Key × V)} {xs : List (List Key × Addr × Value)} (r : KT H kvs xs) (ht : ∀ b ys, H b = some (.tup ys) → H' b = some (.tup ys)) : KT H' kvs xs :=
  Paired.mapP r fun _ _ z => ⟨z.1, ht _ _ z.2.1, z.2.2⟩
section
variable {P : Program} {w : World} {H : Hp} {h : Heap} {a : Addr}
theorem rd_of {u : HO} (ok : HOk P w H h) (e : Rd H a u) : ObjOk P w H h a u := e.ok ok
theorem dk_rd {kvs : List (Key × V)} (ok : HOk P w H h) (e : Rd H a (.dK kvs)) : kvs.length ≤ sizeLine ∧ (a == sysModules) = false ∧ ∃ vs, KV kvs vs ∧ h.DictOf (mixKind P w) a vs :=
  show ObjOk P w H h a (.dK kvs) from rd_of ok e
theorem dk_of {kvs : List (Key × V)} (ok : HOk P w H h) (e : H a = some (.dK kvs)) : kvs.length ≤ sizeLine ∧ (a == sysModules) = false ∧ ∃ vs, KV kvs vs ∧ h.DictOf (mixKind P w) a vs := dk_rd ok (.inl e)
theorem key_of {ks : List Key} (ok : HOk P w H h) (e : H a = some (.tup (ks.map kV))) : (tupleKind (mixKind P w)).is h ks a := by
  obtain ⟨_, its, r, o, h1, h2, n, h3⟩ := (show ObjOk P w H h a (.tup (ks.map kV)) from ok a _ e)
  exact ⟨o, its.toArray, n, h1, h2, h3, by simpa using items_are r⟩
theorem dt_rd {kvs : List (List Key × V)} (ok : HOk P w H h) (e : Rd H a (.dT kvs)) : kvs.length ≤ sizeLine ∧ (a == sysModules) = false ∧
    ∃ xs, KT H kvs xs ∧ h.DictOfH (tupleKind (mixKind P w)) a xs := by
  obtain ⟨z, y, xs, r, o, es, ep, h1, h2, h3, h4, h5⟩ := (show ObjOk P w H h a (.dT kvs) from rd_of ok e)
  refine ⟨z, y, xs, r, o, es, ep, h1, h2, h3, h4, fun x hx => ?_, h5⟩
  have all : ∀ {l : List (List Key × V)} {m : List (List Key × Addr × Value)}, KT H l m → ∀ x ∈ m, (tupleKind (mixKind P w)).is h x.1 x.2.1 := by
    intro l m q
    induction q with
    | nil => intro x hx; exact nomatch hx
    | @cons p q ps qs hq t ih =>
      intro x hx
      rcases List.mem_cons.mp hx with e | hx
      · subst e
        exact key_of ok (by rw [← hq.1]; exact hq.2.1)
      · exact ih x hx
  exact all r x hx
theorem dt_of {kvs : List (List Key × V)} (ok : HOk P w H h) (e : H a = some (.dT kvs)) : kvs.length ≤ sizeLine ∧ (a == sysModules) = false ∧
    ∃ xs, KT H kvs xs ∧ h.DictOfH (tupleKind (mixKind P w)) a xs := dt_rd ok (.inl e)
end
noncomputable def DGet (H : Hp) (a : Addr) (y : V) (r : Option V) : Prop :=
  (∃ kvs k, Rd H a (.dK kvs) ∧ y = kV k ∧ r = valV kvs k) ∨ ∃ kvs k b, Rd H a (.dT kvs) ∧ y = .ref b ∧ H b = some (.tup (k.map kV)) ∧ r = valV kvs k
noncomputable def DPut (H : Hp) (a : Addr) (y v : V) (H' : Hp) : Prop :=
  (∃ kvs k, H a = some (.dK kvs) ∧ y = kV k ∧ kvs.length < sizeLine ∧ H' = upd H a (.dK (putK kvs k v))) ∨
  ∃ kvs k b, H a = some (.dT kvs) ∧ y = .ref b ∧ H b = some (.tup (k.map kV)) ∧ kvs.length < sizeLine ∧ H' = upd H a (.dT (putK kvs k v))
theorem DGet.k {H : Hp} {a : Addr} {kvs : List (Key × V)} {k : Key} (e : H a = some (.dK kvs)) : DGet H a (kV k) (valV kvs k) := .inl ⟨kvs, k, .inl e, rfl, rfl⟩
theorem DGet.t {H : Hp} {a b : Addr} {kvs : List (List Key × V)} {k : List Key} (e : H a = some (.dT kvs)) (eb : H b = some (.tup (k.map kV))) : DGet H a (.ref b) (valV kvs k) := .inr ⟨kvs, k, b, .inl e, rfl, eb, rfl⟩
theorem DPut.k {H : Hp} {a : Addr} {kvs : List (Key × V)} {k : Key} {v : V} (e : H a = some (.dK kvs)) (hl : kvs.length < sizeLine) : DPut H a (kV k) v (upd H a (.dK (putK kvs k v))) := .inl ⟨kvs, k, e, rfl, hl, rfl⟩
theorem DPut.t {H : Hp} {a b : Addr} {kvs : List (List Key × V)} {k : List Key} {v : V} (e : H a = some (.dT kvs)) (eb : H b = some (.tup (k.map kV))) (hl : kvs.length < sizeLine) :
    DPut H a (.ref b) v (upd H a (.dT (putK kvs k v))) := .inr ⟨kvs, k, b, e, rfl, eb, hl, rfl⟩
section
variable {X : Cx} {pins : List (Addr × Obj)} {σ : St} {H : Hp} {s : Shared} {a : Addr} {y v : V} {u r : Value} {o : Option V} {A : Around} {E : Value → Shared → Prop}
theorem Inv.big (I : Inv X pins σ H s) : sysModules < s.heap.objs.size := by
  have h : mainGlobals < s.heap.objs.size := (I.mod.glob.keeps I.bk).lt
  exact Nat.lt_trans (by decide) h
theorem d_getItem {Q : Value → Shared → Prop} (hu : A.units + 1 < cLine) (I : Inv X pins σ H s) (g : DGet H a y (some v)) (ry : RelV y u) (h : ∀ w' s', Inv X pins σ H s' → RelV v w' → Q w' s') :
    wpAny (model X.prog X.w) A (getItem (.ref a) u) Q E s := by
  rcases g with ⟨kvs, k, e, ey, l⟩ | ⟨kvs, k, b, e, ey, eb, l⟩
  · subst ey
    obtain ⟨z, hd, vs, rel, dd⟩ := dk_rd I.hok e
    obtain ⟨w', hw, rw'⟩ := RelO.some_of (v := v) (o := valueAt vs k) (by rw [l]; exact rel.val k)
    exact wpAny_getItem_of (kV_is ry) dd.mapOf hw (h w' _ (I.tok _) rw')
  · subst ey
    cases (show u = Value.ref b from ry)
    obtain ⟨z, hd, xs, rel, dd⟩ := dt_rd I.hok e
    obtain ⟨w', hw, rw'⟩ := RelO.some_of (v := v) (o := (atKey xs k).map (·.2)) (by rw [l]; exact rel.val k)
    obtain ⟨p, hp, hp2⟩ := Option.map_eq_some_iff.mp hw
    refine wpAny_getItem_heap (tupleKind_room_in1 hu) (key_of I.hok eb) dd hp ?_
    rw [hp2]
    exact h w' _ (I.tok _) rw'
theorem d_notIn {Q : Value → Shared → Prop} (hu : A.units + 1 < cLine) (I : Inv X pins σ H s) (g : DGet H a y o) (ry : RelV y u) (h : ∀ s', Inv X pins σ H s' → Q (.bool (!o.isSome)) s') :
    wpAny (model X.prog X.w) A (compareOp .NotIn u (.ref a)) Q E s := by
  rcases g with ⟨kvs, k, e, ey, l⟩ | ⟨kvs, k, b, e, ey, eb, l⟩
  · subst ey
    obtain ⟨z, hd, vs, rel, dd⟩ := dk_rd I.hok e
    refine wpAny_notIn_of (kV_is ry) hd dd.mapOf ?_
    rw [← (rel.val k).isSome_eq, ← l]
    exact h _ (I.tok _)
  · subst ey
    cases (show u = Value.ref b from ry)
    obtain ⟨z, hd, xs, rel, dd⟩ := dt_rd I.hok e
    refine wpAny_notIn_heap (tupleKind_room_in1 hu) (key_of I.hok eb) hd dd ?_
    have q := (rel.val k).isSome_eq
    rw [Option.isSome_map] at q
    rw [← q, ← l]
    exact h _ (I.tok _)
theorem d_write {h' : Heap} {t' : Nat} {ob : HO} (I : Inv X pins σ H s) (mu : Mut (H a)) (hs : Heap.SameBut a s.heap h') (he : ∃ q, h'.get? a = some q) (new : ObjOk X.prog X.w (upd H a ob) h' a ob) :
    Inv X pins σ (upd H a ob) { s with heap := h', toks := t' } :=
  I.write (x := a) (e := a) mu (.inl rfl) (fun b q hb z => (hs.2 b hb).trans z) he new
theorem dk_new {P : Program} {w : World} {H' : Hp} {h' : Heap} {kvs : List (Key × V)} {vs : List (Key × Value)} (z : kvs.length ≤ sizeLine) (hd : (a == sysModules) = false) (rel : KV kvs vs) (dd : h'.DictOf (mixKind P w) a vs) :
    ObjOk P w H' h' a (.dK kvs) := ⟨z, hd, vs, rel, dd⟩
theorem d_setItem {H' : Hp} {Q : Unit → Shared → Prop} (hu : A.units + 1 < cLine) (I : Inv X pins σ H s) (g : DPut H a y v H') (ry : RelV y u) (rv : RelV v r) (h : ∀ s', Inv X pins σ H' s' → Q () s') :
    wpAny (model X.prog X.w) A (setItem (.ref a) u r) Q E s := by
  rcases g with ⟨kvs, k, e, ey, l, eH⟩ | ⟨kvs, k, b, e, ey, eb, l, eH⟩
  · subst ey eH
    obtain ⟨z, hd, vs, rel, dd⟩ := dk_of I.hok e
    have hz : vs.length ≤ sizeLine := by rw [← rel.length]; exact z
    have hl : (putK kvs k v).length ≤ sizeLine := by have := length_putK kvs k v; omega
    refine wpAny_setItem_pairs (hsz := hz) (kV_is ry) dd fun h' dd' hs => h _ ?_
    have he : ∃ q, h'.get? a = some q := let ⟨q, _, _, hq, _⟩ := dd'; ⟨q, hq⟩
    exact d_write I (by rw [e]; exact True.intro) hs he (dk_new hl hd (rel.put k rv) dd')
  · subst ey eH
    cases (show u = Value.ref b from ry)
    obtain ⟨z, hd, xs, rel, dd⟩ := dt_of I.hok e
    have hz : xs.length ≤ sizeLine := by rw [← Paired.length rel]; exact z
    have hl : (putK kvs k v).length ≤ sizeLine := by have := length_putK kvs k v; omega
    refine wpAny_setItem_heap (hsz := hz) (tupleKind_room_in1 hu) (key_of I.hok eb) dd fun h' dd' hs => h _ ?_
    obtain ⟨q, es, ep, hq, h2, h3, h4, _, h5⟩ := dd'
    refine d_write I (by rw [e]; exact True.intro) hs ⟨q, hq⟩ ⟨hl, hd, _, (rel.put k eb rv).keeps fun c ys ec => ?_, q, es, ep, hq, h2, h3, h4, h5⟩
    rw [upd_ne (ne_of ec e (fun z => nomatch z))]
    exact ec
end
section
variable {X : Cx} {pins : List (Addr × Obj)} {σ : St} {H : Hp} {s : Shared} {a : Addr} {kvs : List (Key × V)} {k : Key} {u : Value} {A : Around} {E : Value → Shared → Prop}
theorem d_truth {Q : Bool → Shared → Prop} (I : Inv X pins σ H s) (e : Rd H a (.dK kvs)) (h : ∀ s', Inv X pins σ H s' → Q (!kvs.isEmpty) s') : wpAny (model X.prog X.w) A (truthy (.ref a)) Q E s := by
  obtain ⟨z, hd, vs, rel, dd⟩ := dk_rd I.hok e
  refine wpAny_truthy_dict hd dd (by rw [← rel.length]; rw [sizeLine_eq] at z; omega) ?_
  have q : kvs.isEmpty = vs.isEmpty := by cases rel <;> rfl
  rw [← q]
  exact h _ (I.tok _)
end
theorem dict_typeIs {X : Cx} {pins : List (Addr × Obj)} {σ : St} {H : Hp} {s : Shared} {a : Addr} {y : V} {o : Option V} (I : Inv X pins σ H s) (g : DGet H a y o) : s.TypeIs (.ref a) "dict" := by
  rcases g with ⟨kvs, k, e, _, _⟩ | ⟨kvs, k, b, e, _, _, _⟩
  · obtain ⟨_, _, vs, _, dd⟩ := dk_rd I.hok e
    exact dd.typeIs
  · obtain ⟨_, _, xs, _, dd⟩ := dt_rd I.hok e
    exact dd.typeIs
section
variable {X : Cx} {o i e value : Expr} {pos pos' tpos : Pos} {td ty tv : TE}
end
theorem dk_empty {P : Program} {w : World} {H : Hp} (h : Heap) (hb : sysModules < h.objs.size) : ObjOk P w H (h.push { cls := .type "dict", data := .dict #[] }) h.objs.size (.dK []) :=
  ⟨Nat.zero_le _, beq_eq_false_iff_ne.mpr (Ne.symm (Nat.ne_of_lt hb)), [], .nil, Heap.DictOf.new h⟩
noncomputable def tDNewK : TE := fun _ H Q => ∀ p, H p = none → Q (.ref p) (upd H p (.dK []))
section
variable {X : Cx} {pos : Pos}
theorem pe_dnewK : PE X (.Dict [] [] pos) tDNewK := fun pins s σ H Q I h =>
  wpAny_Dict_empty ⟨.ref s.heap.objs.size, _, I.laid (a := s.heap.objs.size) (o := .dK []) (t' := s.toks) (fun _ _ q => Heap.get?_push_of_some _ q) (Nat.le_refl _) (dk_empty s.heap I.big), rfl, h _ (I.hok.fresh (Nat.le_refl _))⟩
end
end L2
namespace Cv
structure Sz (n : Nat) (x : Int) : Prop where
  lt : x.natAbs < 2 ^ n
theorem Sz.mono {n m : Nat} {x : Int} (h : Sz n x) (hm : n ≤ m) : Sz m x := ⟨Nat.lt_of_lt_of_le h.lt (Nat.pow_le_pow_right (by decide) hm)⟩
theorem Sz.le {n : Nat} {x y : Int} (h : Sz n x) (hy : y.natAbs ≤ x.natAbs) : Sz n y := ⟨Nat.lt_of_le_of_lt hy h.lt⟩
theorem Sz.mul {n m : Nat} {x y : Int} (h : Sz n x) (k : Sz m y) : Sz (n + m) (x * y) := by
  refine ⟨?_⟩
  rw [Int.natAbs_mul, Nat.pow_add]
  exact Nat.mul_lt_mul'' h.lt k.lt
theorem Sz.add {n m : Nat} {x y : Int} (h : Sz n x) (k : Sz m y) : Sz (max n m + 1) (x + y) := by
  refine ⟨?_⟩
  have h1 := (h.mono (Nat.le_max_left n m)).lt
  have h2 := (k.mono (Nat.le_max_right n m)).lt
  have h3 := Int.natAbs_add_le x y
  rw [Nat.pow_succ]
  omega
theorem Sz.neg {n : Nat} {x : Int} (h : Sz n x) : Sz n (-x) := ⟨by rw [Int.natAbs_neg]; exact h.lt⟩
theorem Sz.sub {n m : Nat} {x y : Int} (h : Sz n x) (k : Sz m y) : Sz (max n m + 1) (x - y) := by
  rw [Int.sub_eq_add_neg]
  exact h.add k.neg
theorem Sz.one : Sz 1 1 := ⟨by decide⟩
theorem Sz.zero : Sz 0 0 := ⟨by decide⟩
structure Bd (n : Nat) (q : Rat) : Prop where
  num : Sz n q.num
  den : Sz n (q.den : Int)
theorem Bd.mono {n m : Nat} {q : Rat} (h : Bd n q) (hm : n ≤ m) : Bd m q := ⟨h.num.mono hm, h.den.mono hm⟩
theorem num_le (a b : Int) (hb : b ≠ 0) : (Rat.divInt a b).num.natAbs ≤ a.natAbs ∧ (Rat.divInt a b).den ≤ b.natAbs := by
  refine ⟨?_, ?_⟩
  · rw [Rat.num_divInt]
    have h2 : (b.sign * a).natAbs = a.natAbs := by
      rw [Int.natAbs_mul, Int.natAbs_sign_of_ne_zero hb, Nat.one_mul]
    have hd : (b.gcd a : Int) ∣ b.sign * a := Int.dvd_mul_of_dvd_right (Int.gcd_dvd_right ..)
    rw [← h2]
    have := Int.natAbs_ediv_of_dvd hd
    rw [this]
    exact Nat.div_le_self _ _
  · rw [Rat.den_divInt, if_neg hb]
    exact Nat.div_le_self _ _
theorem Bd.of {n m : Nat} {a b : Int} (ha : Sz n a) (hb : Sz m b) (h0 : b ≠ 0) : Bd (max n m) (Rat.divInt a b) :=
  ⟨(ha.mono (Nat.le_max_left n m)).le (num_le a b h0).1, (hb.mono (Nat.le_max_right n m)).le (by rw [Int.natAbs_natCast]; exact (num_le a b h0).2)⟩
theorem den_ne (q : Rat) : (q.den : Int) ≠ 0 := by have := q.den_pos; omega
theorem add_eq (a b : Rat) : Rat.divInt (a.num * b.den + b.num * a.den) ((a.den : Int) * b.den) = a + b := by
  have := Rat.divInt_add_divInt a.num b.num (den_ne a) (den_ne b)
  rw [Rat.num_divInt_den, Rat.num_divInt_den] at this
  exact this.symm
theorem sub_eq (a b : Rat) : Rat.divInt (a.num * b.den - b.num * a.den) ((a.den : Int) * b.den) = a - b := by
  have := Rat.divInt_sub_divInt a.num b.num (den_ne a) (den_ne b)
  rw [Rat.num_divInt_den, Rat.num_divInt_den] at this
  exact this.symm
theorem mul_eq (a b : Rat) : Rat.divInt (a.num * b.num) ((a.den : Int) * b.den) = a * b := by
  have := Rat.divInt_mul_divInt a.num b.num (d₁ := a.den) (d₂ := b.den)
  rw [Rat.num_divInt_den, Rat.num_divInt_den] at this
  exact this.symm
theorem den_mul_ne (a b : Rat) : (a.den : Int) * b.den ≠ 0 := Int.mul_ne_zero (den_ne a) (den_ne b)
theorem Bd.add {n m : Nat} {a b : Rat} (h : Bd n a) (k : Bd m b) : Bd (n + m + 1) (a + b) := by
  rw [← add_eq]
  exact (Bd.of ((h.num.mul k.den).add (k.num.mul h.den)) (h.den.mul k.den) (den_mul_ne a b)).mono (by omega)
theorem Bd.sub {n m : Nat} {a b : Rat} (h : Bd n a) (k : Bd m b) : Bd (n + m + 1) (a - b) := by
  rw [← sub_eq]
  exact (Bd.of ((h.num.mul k.den).sub (k.num.mul h.den)) (h.den.mul k.den) (den_mul_ne a b)).mono (by omega)
theorem Bd.mul {n m : Nat} {a b : Rat} (h : Bd n a) (k : Bd m b) : Bd (n + m) (a * b) := by
  rw [← mul_eq]
  exact (Bd.of (h.num.mul k.num) (h.den.mul k.den) (den_mul_ne a b)).mono (by omega)
theorem share_pos (t b : Int) (hb : 0 < b) : t.fdiv (Int.gcd t b) = (Rat.divInt t b).num ∧ b.fdiv (Int.gcd t b) = ((Rat.divInt t b).den : Int) := by
  rw [Rat.num_divInt, Rat.den_divInt, if_neg (by omega), Int.sign_eq_one_of_pos hb, Int.one_mul, Int.gcd_comm b t]
  refine ⟨Int.fdiv_eq_ediv_of_nonneg _ (Int.natCast_nonneg _), ?_⟩
  rw [Int.fdiv_eq_ediv_of_nonneg _ (Int.natCast_nonneg _), Int.natCast_ediv, Int.natAbs_of_nonneg (Int.le_of_lt hb)]
theorem share_neg (t b : Int) (hb : b < 0) : t.fdiv (-(Int.gcd t b : Int)) = (Rat.divInt t b).num ∧ b.fdiv (-(Int.gcd t b : Int)) = ((Rat.divInt t b).den : Int) := by
  have h := share_pos (-t) (-b) (by omega)
  rw [Rat.neg_divInt_neg, Int.neg_gcd, Int.gcd_neg] at h
  rw [← Int.neg_fdiv_neg, Int.neg_neg, ← Int.neg_fdiv_neg b, Int.neg_neg]
  exact h
theorem gcd_step (a b : Int) : Int.gcd b (a.fmod b) = Int.gcd a b := by
  rw [Int.fmod_def, Int.sub_eq_add_neg, ← Int.mul_neg, Int.gcd_add_mul_left_right, Int.gcd_comm]
theorem fmod_lt (a b : Int) (hb : b ≠ 0) : (a.fmod b).natAbs < b.natAbs := by
  rw [Int.fmod_eq_emod]
  have h1 := Int.emod_nonneg a hb
  have h2 := Int.emod_lt a hb
  by_cases h : 0 ≤ b ∨ b ∣ a
  · rw [if_pos h]; omega
  · rw [if_neg h]
    have h3 : a % b ≠ 0 := fun z => h (.inr (Int.dvd_of_emod_eq_zero z))
    omega
theorem gcd_zero (a : Int) : (if a < 0 then -a else a) = (Int.gcd a 0 : Int) := by
  rw [Int.gcd_zero]
  split <;> omega
theorem gcd_pos' (t b : Int) (hb : b ≠ 0) : (Int.gcd t b : Int) ≠ 0 := by
  have := Int.gcd_pos_of_ne_zero_right t hb
  omega
end Cv
namespace Cv
theorem divInt_cast (a b : Int) : Rat.divInt a b = (a : Rat) / (b : Rat) := Rat.divInt_eq_div a b
theorem num_cast (q : Rat) : (q.num : Rat) = q * ((q.den : Int) : Rat) := by
  have h := Rat.num_divInt_den q
  rw [Rat.divInt_eq_div] at h
  have hd : ((q.den : Int) : Rat) ≠ 0 := by
    intro z
    exact den_ne q (by exact_mod_cast z)
  conv => rhs; rw [← h]
  grind
theorem den_cast_ne (q : Rat) : ((q.den : Int) : Rat) ≠ 0 := by
  intro z
  exact den_ne q (by exact_mod_cast z)
theorem eq_divInt {q : Rat} {t b : Int} (hb : b ≠ 0) (h : q * (b : Rat) = (t : Rat)) : q = Rat.divInt t b := by
  rw [Rat.divInt_eq_div]
  have hb' : (b : Rat) ≠ 0 := by
    intro z
    exact hb (by exact_mod_cast z)
  grind
end Cv
namespace Cv
open PySem PySem.Spec PyProof.Rows L2
section
variable {X : Cx}
noncomputable def CMulB (i j : Int) : Prop := ∃ n m, Sz n i ∧ Sz m j ∧ n + m ≤ 100000000
noncomputable def CDivB (_i j : Int) : Prop := j ≠ 0 ∧ Sz 9000 j
theorem op_fdivB : OpR X (binaryOp .FloorDiv) (rI CDivB fun i j => .int (i.fdiv j)) := opI fun i j _ _ _ _ _ hc q => by
  obtain ⟨h0, h1⟩ := hc
  refine floordiv_int h0 q (.inl (PyProof.noPylong_of_log2 ?_))
  have hp : j.natAbs ≠ 0 := by omega
  exact (Nat.log2_lt hp).mpr h1.lt
theorem vals_one {x : V} {us : List Value} (r : Vals [x] us) : ∃ u, us = [u] ∧ RelV x u := by
  cases r with
  | cons p q => cases q; exact ⟨_, rfl, p⟩
theorem vals_two {x y : V} {us : List Value} (r : Vals [x, y] us) : ∃ u v, us = [u, v] ∧ RelV x u ∧ RelV y v := by
  cases r with
  | cons p q =>
    obtain ⟨v, rfl, p'⟩ := vals_one q
    exact ⟨_, _, rfl, p, p'⟩
theorem call_isi : CallR X (.builtin "isinstance") (fun xs H Q => ∃ x T t b, xs = [x, .ty T] ∧ TyOf X.K H x t ∧ PySem.W.kitOne X.K t (.type T) = some b ∧ Q (.bl b) H) := by
  intro pins s σ H xs us Q I r h
  obtain ⟨x, T, t, b, rfl, ty, e, q⟩ := h
  obtain ⟨u, v, rfl, ru, rv⟩ := vals_two r
  cases rv
  exact isinst_ok I ru ty e fun tk => ⟨.bl b, H, I.tok tk, rfl, q⟩
mutual
noncomputable def Dn (K : PySem.W.Frag) (H : Hp) : PySem.W.Dat → V → Prop
  | .none, v => v = .non
  | .bool b, v => v = .bl b
  | .int i, v => v = .int i
  | .str x, v => v = .str x
  | .bytes _, _ => False
  | .tuple ds, v => ∃ a xs, v = .ref a ∧ SqT K H a xs ∧ DnAll K H ds xs
  | .list ds, v => ∃ a xs, v = .ref a ∧ SqL K H a xs ∧ DnAll K H ds xs
noncomputable def DnAll (K : PySem.W.Frag) (H : Hp) : List PySem.W.Dat → List V → Prop
  | [], xs => xs = []
  | d :: ds, xs => ∃ y ys, xs = y :: ys ∧ Dn K H d y ∧ DnAll K H ds ys
end
mutual
theorem dn_reads {pins : List (Addr × Obj)} {σ : L2.St} {H : Hp} {s : Shared} (I : Inv X pins σ H s) : ∀ (n : Nat) (d : PySem.W.Dat) (v : V) (u : Value), Dn X.K H d v → RelV v u → PySem.W.kqdOk n d = true → ∃ as, Reads s.heap u (PySem.W.kqdP d) as
  | n, .none, v, u, h, r, _ => by
    cases (show v = .non from by simpa [Dn] using h); cases r
    rw [PySem.W.kqdP]; exact ⟨_, Reads.none⟩
  | n, .bool b, v, u, h, r, _ => by
    cases (show v = .bl b from by simpa [Dn] using h); cases r
    rw [PySem.W.kqdP]; exact ⟨_, Reads.bool b⟩
  | n, .int i, v, u, h, r, _ => by
    cases (show v = .int i from by simpa [Dn] using h)
    obtain ⟨t, rfl⟩ := r
    rw [PySem.W.kqdP]; exact ⟨_, Reads.int i t⟩
  | n, .str x, v, u, h, r, _ => by
    cases (show v = .str x from by simpa [Dn] using h)
    obtain ⟨t, rfl⟩ := r
    rw [PySem.W.kqdP]; exact ⟨_, Reads.str x t⟩
  | n, .bytes b, v, u, h, r, _ => by simp [Dn] at h
  | 0, .tuple ds, v, u, h, r, hk => by simp [PySem.W.kqdOk] at hk
  | 0, .list ds, v, u, h, r, hk => by simp [PySem.W.kqdOk] at hk
  | n + 1, .tuple ds, v, u, h, r, hk => by
    rw [Dn] at h
    obtain ⟨a, xs, rfl, hs, hd⟩ := h
    cases r
    obtain ⟨its, rv, ⟨o, ho, hc, m, hdt⟩, hz⟩ := I.tuple hs
    obtain ⟨as, q⟩ := dn_readsAll I n ds xs its hd rv (by simpa [PySem.W.kqdOk] using hk)
    rw [PySem.W.kqdP]
    exact ⟨as, reads_tuple_at ho hc hdt (by simpa using q)⟩
  | n + 1, .list ds, v, u, h, r, hk => by
    rw [Dn] at h
    obtain ⟨a, xs, rfl, hs, hd⟩ := h
    cases r
    obtain ⟨its, rv, pl, hz⟩ := I.list hs
    obtain ⟨o, ho, hc, m, hdt⟩ := pl.isList
    obtain ⟨as, q⟩ := dn_readsAll I n ds xs its hd rv (by simpa [PySem.W.kqdOk] using hk)
    rw [PySem.W.kqdP]
    exact ⟨_, reads_list_at ho hc hdt (by simpa using q)⟩
theorem dn_readsAll {pins : List (Addr × Obj)} {σ : L2.St} {H : Hp} {s : Shared} (I : Inv X pins σ H s) : ∀ (n : Nat) (ds : List PySem.W.Dat) (xs : List V) (us : List Value), DnAll X.K H ds xs → Vals xs us → (∀ d ∈ ds, PySem.W.kqdOk n d = true) → ∃ as, ReadsAll s.heap us (PySem.W.kqdPs ds) as
  | n, [], xs, us, h, r, _ => by
    cases (show xs = [] from by simpa [DnAll] using h)
    cases r
    rw [PySem.W.kqdPs]; exact ⟨_, ReadsAll.nil⟩
  | n, d :: ds, xs, us, h, r, hk => by
    rw [DnAll] at h
    obtain ⟨y, ys, rfl, h1, h2⟩ := h
    cases r with
    | cons p q =>
      obtain ⟨as, r1⟩ := dn_reads I n d y _ h1 p (hk d (.head _))
      obtain ⟨bs, r2⟩ := dn_readsAll I n ds ys _ h2 q fun e he => hk e (.tail _ he)
      rw [PySem.W.kqdPs]
      exact ⟨_, ReadsAll.cons r1 r2⟩
end
theorem shaped_ok {d : PySem.W.Dat} (h : PySem.W.kqdOk 8 d = true) : SeqAt.shaped (PySem.W.kqdP d) = true := by
  have la := PySem.W.kqd_lay 8 d h
  unfold SeqAt.shaped; rw [la.1, Bool.true_and]; exact decide_eq_true (Nat.le_trans la.2 (by decide))
noncomputable def rNeD (K : PySem.W.Frag) : R2 := fun x y H Q => ∃ d e, Dn K H d x ∧ Dn K H e y ∧ PySem.W.kqdOk 8 d = true ∧ PySem.W.kqdOk 8 e = true ∧ ∀ b : Bool, (b = true ↔ d = e) → Q (.bl (!b)) H
theorem op_neD (hu : X.A.units + 64 < cLine) : OpR X (compareOp .NotEq) (rNeD X.K) := by
  intro pins s σ H x y v u Q I rx ry h
  obtain ⟨d, e, hd, he, k1, k2, q⟩ := h
  obtain ⟨as, r1⟩ := dn_reads I 8 d x v hd rx k1
  obtain ⟨bs, r2⟩ := dn_reads I 8 e y u he ry k2
  exact ne_dataH r1 r2 (shaped_ok k1) (shaped_ok k2) hu ⟨.bl _, H, I, rfl, q _ (PySem.W.kqd_eqv 8 d e 8 k1 k2)⟩
end
noncomputable def ShV (H : Hp) (v : V) (q : Rat) : Prop := ∃ a, v = .ref a ∧ H a = some (.tup [.int q.num, .int (q.den : Int)])
theorem ShV.same {H H' : Hp} {v : V} {q : Rat} (h : ShV H v q) (e : Same H H') : ShV H' v q := by
  obtain ⟨a, rfl, h⟩ := h
  exact ⟨a, rfl, e _ _ h⟩
noncomputable def datSh (q : Rat) : PySem.W.Dat := .tuple [.int q.num, .int (q.den : Int)]
theorem datSh_ok (q : Rat) (n : Nat) : PySem.W.kqdOk (n + 1) (datSh q) = true := by
  cases n <;> simp [datSh, PySem.W.kqdOk]
theorem ShV.dn {K : PySem.W.Frag} {H : Hp} {v : V} {q : Rat} (h : ShV H v q) : Dn K H (datSh q) v := by
  obtain ⟨a, rfl, h⟩ := h
  unfold datSh
  simp only [Dn, DnAll]
  exact ⟨a, _, rfl, SqT.of h, _, _, rfl, rfl, _, _, rfl, rfl, rfl⟩
theorem Same.new {H : Hp} {p : Addr} {o : HO} (h : H p = none) : Same H (upd H p o) := fun b u e => by
  rw [upd_ne (ne_of_none e h)]; exact e
theorem SqT.same {K : PySem.W.Frag} {H H' : Hp} {a : Addr} {xs : List V} (e : Same H H') (h : SqT K H a xs) : SqT K H' a xs := by
  rcases h with (h | ⟨o, h⟩) | h
  · exact .inl (.inl (e _ _ h))
  · exact .inl (.inr ⟨o, e _ _ h⟩)
  · exact .inr h
end Cv
namespace Cv
open PySem PySem.Spec PyProof.Rows L2
structure FunAt (K : PySem.W.Frag) (mg : Str → Option Value) (x : Str) (st : Stmt) (ps : List Str) : Prop where
  ex : ∃ (f : Addr) (fd : FuncData), Fun K x x st f fd ∧ mg x = some (.ref f) ∧ Binds K fd ps []
structure DefOk (P : Program) (w : World) (K : PySem.W.Frag) (mg : Str → Option Value) (base : Heap) (CX : CXT) (k : Nat) (x : Str) (ps : List Str) (sp : Sp) : Prop where
  ex : ∃ (f : Addr) (fd : FuncData), FnOk P w K mg base CX k f fd ps sp ∧ mg x = some (.ref f) ∧ PySem.W.keepIn K (.ref f) = true ∧ Binds K fd ps [] ∧
    ∃ (oc : Value) (od : Option Addr) (osl : Array (Option Value)), K.lookup f = some ⟨oc, od, .func fd, osl⟩
structure Blt (mg : Str → Option Value) : Prop where
  len : mg "len" = none
  abs : mg "abs" = none
  range : mg "range" = none
  max : mg "max" = none
  min : mg "min" = none
  any : mg "any" = none
  all : mg "all" = none
  sum : mg "sum" = none
  isinstance : mg "isinstance" = none
  int : mg "int" = none
  bool : mg "bool" = none
  tuple : mg "tuple" = none
  list : mg "list" = none
  str : mg "str" = none
  ValueError : mg "ValueError" = none
  zip : mg "zip" = none
  reversed : mg "reversed" = none
  enumerate : mg "enumerate" = none
  sorted : mg "sorted" = none
  dict : mg "dict" = none
section
variable {P : Program} {w : World} {K : PySem.W.Frag} {mg : Str → Option Value} {base : Heap}
theorem FunAt.mk' {x : Str} {st : Stmt} {ps : List Str} {f : Addr} {oc : Value} {od an : Option Addr} {osl : Array (Option Value)} {kV doc pm cdv ct : Value} (hm : mg x = some (.ref f))
    (l : K.lookup f = some ⟨oc, od, .func (PySem.W.fnOf x x (defArgs st) (defBody st) (defScope st) .none kV doc pm an cdv ct), osl⟩)
    (c : PySem.W.codeIn K cdv x = true) (k : PySem.W.keepIn K (.ref f) = true)
    (h : ∀ (kV doc pm : Value) (an : Option Addr) (cdv ct : Value) (us : List Value), us.length = ps.length → bindArgs (PySem.W.fnOf x x (defArgs st) (defBody st) (defScope st) .none kV doc pm an cdv ct) ⟨us, []⟩ = pure (ps.zip us)) : FunAt K mg x st ps := by
  have F := fun_mk (st := st) l c k
  exact ⟨_, _, F, hm, F.binds h⟩
theorem def_ok {x : Str} {st : Stmt} {N ps : List Str} {k : Nat} {sp : Sp} (F : FunAt K mg x st ps) (S : FnScope N ps (defScope st)) (len : ∀ vs H Q E, sp vs H Q E → vs.length = ps.length)
    (hbody : ∀ (f : Addr) (cdv : Value) (A : Around) (outer : List Env) (s : Shared) (H : Hp) (vs : List V) (Q : VK) (E : XK), Room k (A.deeper (envOfC x (defScope st) s.heap.objs.size f cdv)) → sp vs H Q E →
      ∃ t, PSs (cxOf CX0 P w K mg base N x (defScope st) f cdv A outer s H E).nox (defBody st) t ∧ t { nx := fun _ H' => Q .non H', rt := Q } (start N vs) H) : DefOk P w K mg base CX0 (k + 1) x ps sp := by
  obtain ⟨f, fd, F, hm, hb⟩ := F.ex
  exact ⟨f, fd, F.ok S len fun cdv A outer s H vs Q E hr h => hbody f cdv A outer s H vs Q E hr h, hm, F.kp, hb, let ⟨oc, od, _, _, _, _, _, _, osl, _, l, _⟩ := F.ex; ⟨oc, od, osl, l⟩⟩
end
section
variable {X : Cx} {CX : CXT} {k j : Nat} {ps : List Str} {sp : Sp} {E : XK} {x : Str} {p pos : Pos} {e : Expr} {es : List Expr} {t : TA}
noncomputable def tFn (sp : Sp) (E : XK) (t : TA) : TE := fun σ H Q => t σ H fun vs H1 => sp vs H1 Q E
theorem pe_fn (D : DefOk X.prog X.w X.K X.mg X.base CX k x ps sp) (hr : Room j X.A) (hx : Passes CX X E) (ha : PA X (e :: es) t) (hk : k ≤ j := by decide) (hg : Gl X x := by rfl)
    (hdb : (x == ("__debug__" : Str)) = false := by decide) (he : starEach (e :: es) X.env = (false, eval e X.env) :: starEach es X.env := by rfl) (hpl : (backTo pos (starEach es X.env)).any (·.1) = false := by rfl) :
    PE X (.Call (.Name x p) (e :: es) [] pos) (tFn sp E t) := by
  obtain ⟨f, fd, F, hm, kp, hb, _⟩ := D.ex
  intro pins s σ H Q I h
  have q := pe_call (X := X) (p := p) (pos := pos) F (hr.mono hk) hg hm kp hb .nil hx ha hdb he hpl
  refine q pins s σ H Q I ?_
  unfold tCall
  have e : (fun (vs : List V) (H1 : Hp) => sp (vs ++ []) H1 Q E) = fun vs H1 => sp vs H1 Q E := by
    funext vs H1
    rw [List.append_nil]
  rw [e]
  exact h
end
end Cv
namespace Cv
open PySem PySem.Spec PyProof.Rows L2
section
variable {X : Cx}
noncomputable def CMulA (i j : Int) : Prop := CMul i j ∨ CMulB i j
theorem op_mulA : OpR X (binaryOp .Mult) (rI CMulA fun i j => .int (i * j)) := opI fun i j _ _ _ _ _ hc q => by
  rcases hc with hc | ⟨n, m, h1, h2, h3⟩
  · exact mul_int q hc.ok
  · exact mul_int q (IntMulOk.of_le (PySem.intBits_le_iff.mpr h1.lt) (PySem.intBits_le_iff.mpr h2.lt) (by omega))
end
theorem mulL {i j : Int} (h1 : -(2 ^ 64) < i) (h2 : i < 2 ^ 64) : CMulA i j := .inl (.inl ⟨h1, h2⟩)
theorem mulR {i j : Int} (h1 : -(2 ^ 64) < j) (h2 : j < 2 ^ 64) : CMulA i j := .inl (.inr ⟨h1, h2⟩)
theorem mulB {n m : Nat} {i j : Int} (h1 : Sz n i) (h2 : Sz m j) (h : n + m ≤ 100000000 := by decide) : CMulA i j := .inr ⟨n, m, h1, h2, h⟩
noncomputable def spGcd : Sp := fun vs H Q _ => ∃ a b : Int, vs = [.int a, .int b] ∧ Q (.int (Int.gcd a b)) H
noncomputable def spShare : Sp := fun vs H Q _ => ∃ t b : Int, vs = [.int t, .int b] ∧ b ≠ 0 ∧ Sz 9000 b ∧ ∀ v H', Same H H' → ShV H' v (Rat.divInt t b) → Q v H'
noncomputable def spCell (K : PySem.W.Frag) : Sp := fun vs H Q _ => ∃ (a : Addr) (ns : List Int) (k : Int), vs = [.ref a, .int k] ∧ SqL K H a (ns.map V.int) ∧ 0 ≤ k ∧ ∀ z, Q (.int z) H
noncomputable def spLShare : Sp := fun vs H Q _ => ∃ t b : Int, vs = [.int t, .int b] ∧ 0 < b ∧ Sz 9000 b ∧ ∀ v H', Same H H' → ShV H' v (Rat.divInt t b) → Q v H'
noncomputable def spLaw (K : PySem.W.Frag) : Sp := fun vs H Q _ => ∃ (a : Addr) (ns : List Int), vs = [.ref a] ∧ SqL K H a (ns.map V.int) ∧ ns.length ≤ 63 ∧ ∀ H', Q (.bl true) H'
theorem ite_dec {c : Prop} [Decidable c] {A B : Prop} (h1 : c → A) (h2 : ¬ c → B) : if decide c = true then A else B := by
  by_cases h : c
  · rw [if_pos (decide_eq_true h)]; exact h1 h
  · rw [if_neg (by simp [h])]; exact h2 h
theorem ifT {b : Bool} {A B : Prop} (h : b = true) (k : A) : if b = true then A else B := by rw [if_pos h]; exact k
theorem ifF {b : Bool} {A B : Prop} (h : b = false) (k : B) : if b = true then A else B := by rw [if_neg (by rw [h]; decide)]; exact k
theorem ifB {b : Bool} {A B : Prop} (h1 : b = true → A) (h2 : b = false → B) : if b = true then A else B := by
  cases b
  · exact ifF rfl (h2 rfl)
  · exact ifT rfl (h1 rfl)
end Cv
namespace Cv
open PySem PySem.Spec PyProof.Rows L2
theorem DefOk.law {P : Program} {w : World} {K : PySem.W.Frag} {mg : Str → Option Value} {base : Heap} {CX : CXT} {k : Nat} {x : Str} {ps : List Str} {sp : Sp} {f : Addr} {fd : FuncData} {oc : Value} {od : Option Addr} {osl : Array (Option Value)}
    (D : DefOk P w K mg base CX k x ps sp) (l : K.lookup f = some ⟨oc, od, .func fd, osl⟩) (hm : mg x = some (.ref f)) : FnOk P w K mg base CX k f fd ps sp := by
  obtain ⟨f', fd', FO, hm', _, _, oc', od', osl', l'⟩ := D.ex
  have e := hm.symm.trans hm'
  cases e
  have e2 := l.symm.trans l'
  have e3 : Data.func fd = Data.func fd' := congrArg (fun (o : Obj) => o.data) (Option.some.inj e2)
  cases e3
  exact FO
theorem walk {l : PySem.W.OpenLaw} {k : Nat} {CX : CXT} {sp : PySem.W.Frag → Sp} {q : Program} {loose : List Str} {XP : (Str → Option Value) → Heap → Prop} {YP : World → Heap → Prop} {d : DefRec} {K : Params → PySem.W.Frag} {x : Str} (hn : l.most = some 63) (hdf : d.params.defaults = []) (hr : Room k callerA)
    (hY : ∀ (w : World) (h : Heap), YP w h → (K w.params).In h)
    (F : ∀ (w : World) (mg : Str → Option Value) (fa : Addr) (h : Heap), (K w.params).In h → h.Ns mainGlobals mg → mg d.name = some (.ref fa) →
      ∃ fd : FuncData, (∀ (s : Shared) (u : Value), BindsTo s fd ⟨[u], []⟩ [(x, u)]) ∧ ∀ (P : Program) (base : Heap), (K w.params).In base → base.Ns mainGlobals mg → FnOk P w (K w.params) mg base CX k fa fd [x] (sp (K w.params)))
    (hsp : ∀ (K : PySem.W.Frag) (H : Hp) (a : Addr) (ns : List Int), ns.length ≤ 63 → Only H → SqL K H a (ns.map V.int) → sp K [.ref a] H (fun v _ => v = .bl true) fun _ _ _ => False)
    (hCX : ∀ (H : Hp) (s : Shared) (e : Value) (s' : Shared), CX [] H s (fun _ _ _ => False) e s' → False) :
    PySem.W.WalkO q loose XP YP l.row.toRowW d [] (fun f vs => PySem.call f vs) :=
  L2.walk_of (n := 63) (k := k) (x := x) (CX := fun _ => CX) (sp := fun w => sp (K w.params)) hn (by decide) hdf hr hY
    (fun w mg fa h a b c => let ⟨fd, h1, h2⟩ := F w mg fa h a b c; ⟨fd, h1, fun base => h2 l.prog base⟩) (fun w H a ns => hsp (K w.params) H a ns) fun _ H s e s' => hCX H s e s'
end Cv
namespace Cv
open PySem PySem.Spec PyProof.Rows L2
theorem pl {j : Int} (h : 0 < j := by decide) : 0 < j := h
theorem at_map (xs : List Int) (k : Nat) (h : k < xs.length) : atI (xs.map V.int) (k : Int) = some (V.int (xs.getD k 0)) := by
  refine atI_nat ?_
  rw [List.getElem?_map, List.getElem?_eq_getElem h]
  simp [List.getD_eq_getElem?_getD, List.getElem?_eq_getElem h]
theorem at_mapZ (xs : List Int) (k : Int) (h0 : 0 ≤ k) (h : k < (xs.length : Int)) : atI (xs.map V.int) k = some (V.int (xs.getD k.toNat 0)) := by
  have e : k = ((k.toNat : Nat) : Int) := by omega
  have q := at_map xs k.toNat (by omega)
  rw [← e] at q
  exact q
theorem getD_nn {xs : List Int} (h : ∀ x ∈ xs, 0 ≤ x) (k : Nat) : 0 ≤ xs.getD k 0 := by
  rw [List.getD_eq_getElem?_getD]
  cases e : xs[k]? with
  | none => simp
  | some v => exact h v (List.mem_of_getElem? e)
theorem p30 : (10 : Int) ^ (30 : Int).toNat = 1000000000000000000000000000000 := by decide
theorem pos30 : (0 : Int) < (10 : Int) ^ (30 : Int).toNat := by rw [p30]; decide
theorem sz_of {n : Nat} {x : Int} {b : Nat} (h1 : x.natAbs ≤ b) (h2 : b < 2 ^ n) : Sz n x := ⟨Nat.lt_of_le_of_lt h1 h2⟩
theorem gcd_abs (t b : Int) : Int.gcd (if t < 0 then -t else t) b = Int.gcd t b := by
  split
  · rw [Int.neg_gcd]
  · rfl
theorem emod_gcd (a b : Int) (hb : 0 < b) : Int.gcd b (a % b) = Int.gcd a b := by
  have := gcd_step a b
  rw [Int.fmod_eq_emod_of_nonneg a (by omega)] at this
  exact this
theorem dec_int_ne {a b : Int} (h : a ≠ b) : (!decide (V.int a = V.int b)) = true := by simp [h]
theorem kit_ii (K : PySem.W.Frag) : PySem.W.kitOne K (.type "int") (.type "int") = some true := rfl
theorem kit_ib (K : PySem.W.Frag) : PySem.W.kitOne K (.type "int") (.type "bool") = some false := rfl
theorem kit_tt (K : PySem.W.Frag) : PySem.W.kitOne K (.type "tuple") (.type "tuple") = some true := rfl
theorem kit_bb (K : PySem.W.Frag) : PySem.W.kitOne K (.type "bool") (.type "bool") = some true := rfl
theorem kit_ll (K : PySem.W.Frag) : PySem.W.kitOne K (.type "list") (.type "list") = some true := rfl
end Cv
namespace Cv
open PySem PySem.Spec PyProof.Rows L2
structure TrX (h B : Heap) (e : Addr) (cls fl : Value) : Prop where
  ex : ∃ (oe : Obj) (vs : Array Value) (T : Addr) (oT : Obj) (ts : Array Value), (h.get? e = some oe ∧ oe.cls = cls ∧ oe.data = .fields vs ∧ oe.dict = none) ∧ (vs[2]? = some .none ∧ vs[1]? = some (.ref T)) ∧ (B.get? T = none ∧ T ≠ e) ∧ h.get? T = some oT ∧ oT.data = .fields ts ∧ ts[3]? = some fl
structure FlyX (B : Heap) (l : List Env) (e : Addr) (cls fl : Value) (h : Heap) : Prop where
  stays : B.StaysIn h
  new : B.get? e = none
  frames : h.FunFrames B l
  tr : TrX h B e cls fl
theorem mf_dict (f : Array Value → Array Value) (o : Obj) : (Obj.mapFields f o).dict = o.dict := by
  unfold Obj.mapFields
  split <;> rfl
theorem FlyX.there {B h : Heap} {l : List Env} {e : Addr} {cls fl : Value} (x : FlyX B l e cls fl h) : ∃ o vs, h.get? e = some o ∧ o.cls = cls ∧ o.data = .fields vs ∧ vs[2]? = some .none ∧ o.dict = none := by
  obtain ⟨o, vs, _, _, _, ⟨a, b, c, f⟩, ⟨d, _⟩, _⟩ := x.tr.ex
  exact ⟨o, vs, a, b, c, d, f⟩
section
variable {M : Model} {A : Around} {E : Value → Shared → Prop} {s : Shared} {B : Heap} {env : Env} {outer : List Env} {L e : Addr}
theorem entX {oe : Obj} {vs : Array Value} {hd : Value} {b : Bool} {Q : Unit → Shared → Prop} (hfr : A.frames = some (env :: outer)) (hf : env.frame = some L) (st : B.StaysIn s.heap) (ne : B.get? e = none)
    (ff : s.heap.FunFrames B (env :: outer)) (he : s.heap.get? e = some oe) (dt : oe.data = .fields vs) (dn : oe.dict = none) (v2 : vs[2]? = some .none)
    (k : ∀ h', FlyX B (env :: outer) e oe.cls (rawInt L) h' → s.heap.UpToSlots h' → Q () { s with heap := h' }) :
    wpAny M A (frameOf env >>= fun a => entryPlaceOf L b >>= fun pl => EntryCells.newEntry hd a .none (rawInt L) .none pl >>= fun t => setField (.ref e) 1 t) Q E s := by
  have v2s : 2 < vs.size := (Array.getElem?_eq_some_iff.mp v2).1
  have nfr : e ∉ (env :: outer).filterMap (·.frame) := by
    intro hm
    obtain ⟨_, o, ho, q⟩ := ff.mem hm
    cases he.symm.trans ho
    exact q vs dt
  refine wpAny_bind (wpAny_frameOf_fun hfr ff hf fun h1 so => ?_)
  refine wpAny_bind (wpAny_entryPlaceOf fun pl ip => ?_)
  unfold EntryCells.newEntry newFields
  refine wpAny_bind (wpAny_newObj_type ?_ (ip.sizeOk5 _ _ _ _ _))
  have e1 : h1.get? e = some oe := (so.2.1 e nfr).trans he
  have st1 : B.StaysIn h1 := fun c o q => (so.2.1 c fun hm => by rw [(ff.mem hm).1] at q; cases q).trans (st c o q)
  have t3 : (([hd, Value.ref L, Value.none, rawInt L, Value.none] ++ (if pl.isEmpty then List.replicate 6 Value.none else pl)).toArray)[3]? = some (rawInt L) := by
    rw [List.getElem?_toArray]; rfl
  have tT : h1.objs.size ≠ e := Nat.ne_of_gt (Heap.lt_size e1)
  generalize hts : ([hd, Value.ref L, Value.none, rawInt L, Value.none] ++ (if pl.isEmpty then List.replicate 6 Value.none else pl)).toArray = ts at t3 ⊢
  have e2 := Heap.get?_push_of_some (h := h1) { cls := .type "traceback", dict := none, data := .fields ts } e1
  refine wpAny_setField e2 dt (by omega) (k _ ?_ ?_)
  all_goals
    have d3 := Obj.data_mapFields dt (·.setIfInBounds 1 (Value.ref h1.objs.size))
    have e3 := Heap.get?_update_self (Obj.mapFields (·.setIfInBounds 1 (Value.ref h1.objs.size))) e2 (Obj.isFreed_of_fields d3)
    have up : ∀ c o, c ≠ e → h1.get? c = some o → ((h1.push { cls := .type "traceback", dict := none, data := .fields ts }).update e (Obj.mapFields (·.setIfInBounds 1 (Value.ref h1.objs.size)))).get? c = some o := fun c o q z => by
      rw [Heap.get?_update_other _ _ (Ne.symm q)]; exact Heap.get?_push_of_some _ z
    have nr : ∀ c o, s.heap.get? c = some o → (∀ us, o.data ≠ .fields us) → c ≠ e := fun c o z nf q => by
      subst q; cases he.symm.trans z; exact nf vs dt
  · refine ⟨fun c o z => up c o (fun q => by rw [q, ne] at z; cases z) (st1 c o z), ne, ff.of_keeps fun c o z nf => ?_, ⟨_, _, h1.objs.size, _, _, ⟨e3, Obj.cls_mapFields _ _, d3, (mf_dict _ _).trans dn⟩, ⟨by rw [Array.getElem?_setIfInBounds_ne (by decide)]; exact v2, by simp [show 1 < vs.size by omega]⟩, ⟨st1.fresh, tT⟩, (Heap.get?_update_other _ _ (Ne.symm tT)).trans (Heap.get?_push_size h1 rfl), rfl, t3⟩⟩
    obtain ⟨sl, q⟩ := so.2.2 c o z
    exact ⟨_, up c _ (nr c o z nf) q, rfl⟩
  · intro c o z nf
    obtain ⟨sl, q⟩ := so.2.2 c o z
    exact ⟨sl, up c _ (nr c o z nf) q⟩
theorem offX {l : List Env} {cls fl : Value} {Q : Unit → Shared → Prop} (x : FlyX B l e cls fl s.heap) (k : ∀ h', FlyX B l e cls .none h' → s.heap.UpToSlots h' → Q () { s with heap := h' }) : wpAny M A (setFlight (.ref e) none) Q E s := by
  obtain ⟨oe, vs, T, oT, ts, ⟨a1, a2, a3, a4⟩, ⟨b1, b2⟩, ⟨c1, c2⟩, d1, d2, d3⟩ := x.tr.ex
  have t3 : 3 < ts.size := (Array.getElem?_eq_some_iff.mp d3).1
  unfold setFlight
  refine wpAny_bind (wpAny_field a1 a3 b2 ?_)
  rw [if_pos (by simp : (Value.ref T != Value.none) = true)]
  refine wpAny_setField d1 d2 t3 (k _ ?_ ?_)
  all_goals
    have ot : ∀ c, c ≠ T → (s.heap.update T (Obj.mapFields (·.setIfInBounds 3 ((none : Option Addr).elim Value.none fun f => rawInt f)))).get? c = s.heap.get? c := fun c q => Heap.get?_update_other _ _ (Ne.symm q)
    have nr : ∀ c o, s.heap.get? c = some o → (∀ us, o.data ≠ .fields us) → c ≠ T := fun c o z nf q => by
      subst q; cases d1.symm.trans z; exact nf ts d2
  · exact ⟨fun c o z => (ot c fun q => by rw [q, c1] at z; cases z).trans (x.stays c o z), x.new, x.frames.of_keeps fun c o z nf => ⟨o, (ot c (nr c o z nf)).trans z, rfl⟩,
      ⟨oe, vs, T, _, _, ⟨(ot e (Ne.symm c2)).trans a1, a2, a3, a4⟩, ⟨b1, b2⟩, ⟨c1, c2⟩, Heap.get?_update_self _ d1 (Obj.isFreed_of_fields (Obj.data_mapFields d2 _)), Obj.data_mapFields d2 _, by simp [t3]⟩⟩
  · exact fun c o z nf => ⟨o.slots, (ot c (nr c o z nf)).trans z⟩
theorem noteX {cls : Value} {Q : Unit → Shared → Prop} (hfr : A.frames = some (env :: outer)) (hf : env.frame = some L) (x : FlyX B (env :: outer) e cls .none s.heap)
    (k : ∀ h', FlyX B (env :: outer) e cls (rawInt L) h' → s.heap.UpToSlots h' → Q () { s with heap := h' }) : wpAny M A (noteFrame (.ref e) env) Q E s := by
  obtain ⟨oe, vs, T, oT, ts, ⟨a1, a2, a3, a4⟩, ⟨b1, b2⟩, ⟨c1, c2⟩, d1, d2, d3⟩ := x.tr.ex
  subst a2
  have t3 : 3 < ts.size := (Array.getElem?_eq_some_iff.mp d3).1
  unfold noteFrame
  simp only [hf]
  refine wpAny_bind (wpAny_field a1 a3 b2 ?_)
  rw [if_pos (by simp : (Value.ref T != Value.none) = true)]
  refine wpAny_bind (wpAny_field d1 d2 d3 ?_)
  rw [if_neg (by simp [rawInt] : ¬ ((Value.none == rawInt L) = true))]
  refine wpAny_bind (wpAny_setField d1 d2 t3 ?_)
  have ot : ∀ c, c ≠ T → (s.heap.update T (Obj.mapFields (·.setIfInBounds 3 Value.none))).get? c = s.heap.get? c := fun c q => Heap.get?_update_other _ _ (Ne.symm q)
  have nr : ∀ c o, s.heap.get? c = some o → (∀ us, o.data ≠ .fields us) → c ≠ T := fun c o z nf q => by
    subst q; cases d1.symm.trans z; exact nf ts d2
  refine entX hfr hf (fun c o z => (ot c fun q => by rw [q, c1] at z; cases z).trans (x.stays c o z)) x.new (x.frames.of_keeps fun c o z nf => ⟨o, (ot c (nr c o z nf)).trans z, rfl⟩) ((ot e (Ne.symm c2)).trans a1) a3 a4 b1 fun h' f u => k h' f ?_
  exact fun c o z nf => u c o ((ot c (nr c o z nf)).trans z) nf
theorem FlyX.tail {cls fl : Value} {h : Heap} (x : FlyX B (env :: outer) e cls fl h) : FlyX B outer e cls fl h := by
  obtain ⟨a, b, ⟨_, _, c⟩, d⟩ := x
  exact ⟨a, b, c, d⟩
theorem leaveX {cls : Value} {Q : Unit → Shared → Prop} (hfr : A.frames = some (env :: outer)) (hf : env.frame = some L) (x : FlyX B (env :: outer) e cls .none s.heap)
    (k : ∀ h', FlyX B outer e cls .none h' → s.heap.UpToSlots h' → Q () { s with heap := h' }) : wpAny M A (leaving env (.ref e)) Q E s := by
  unfold leaving
  exact wpAny_bind (noteX hfr hf x fun h1 f1 u1 => offX f1 fun h2 f2 u2 => k h2 f2.tail (u1.trans u2))
theorem madeX {h : Heap} {cls : Value} {args : List Value} {Q : Unit → Shared → Prop} (hfr : A.frames = some (env :: outer)) (hf : env.frame = some L) (st : B.StaysIn h) (ff : h.FunFrames B (env :: outer)) (hx : Heap.MadeExcOf h s.heap e cls args)
    (k : ∀ h', FlyX B outer e cls .none h' → s.heap.UpToSlots h' → Q () { s with heap := h' }) : wpAny M A (leaving env (.ref e)) Q E s := by
  obtain ⟨t, he, _, _⟩ := hx.there
  have nb : B.get? e = none := by
    cases q : B.get? e with
    | none => rfl
    | some o => have := st e o q; rw [hx.new] at this; cases this
  unfold leaving noteFrame
  simp only [hf]
  refine wpAny_bind (wpAny_bind (wpAny_field he rfl (x := .none) rfl ?_))
  rw [if_neg (by decide)]
  refine entX hfr hf (fun c o z => hx.keeps c o (st c o z)) nb (ff.of_keeps fun c o z _ => ⟨o, hx.keeps c o z, rfl⟩) he rfl rfl rfl fun h1 f1 u1 => ?_
  exact offX f1 fun h2 f2 u2 => k h2 f2.tail (u1.trans u2)
end
end Cv
namespace Cv
open PySem PySem.Spec PyProof.Rows L2
structure UnB (fs : List Addr) (H H' : Hp) (h B h' : Heap) : Prop where
  keep : ∀ b o, h.get? b = some o → H b = none → b ∉ fs → B.get? b = some o
  slot : ∀ b o, h.get? b = some o → H b = none → b ∈ fs → ∃ sl, h'.get? b = some { o with slots := sl }
  free : ∀ b o, h.get? b = some o → H b = none → H' b = none
  there : ∀ b o, h.get? b = some o → b ∉ fs → ∃ o', B.get? b = some o'
  tups : ∀ b xs, H b = some (.tup xs) → H' b = some (.tup xs)
  frzs : ∀ b o u, H b = some (.frz o u) → H' b = some (.frz o u)
  tbls : ∀ b ps, H b = some (.tbl ps) → ∃ more, H' b = some (.tbl (ps ++ more))
theorem UnB.on {fs : List Addr} {H H' : Hp} {h B h' h'' : Heap} (u : UnB fs H H' h B h') (hf : ∀ b ∈ fs, ∀ o, h.get? b = some o → ∀ vs, o.data ≠ .fields vs) (up : h'.UpToSlots h'') : UnB fs H H' h B h'' where
  keep := u.keep
  slot := fun b o e n hb => by
    obtain ⟨sl, q⟩ := u.slot b o e n hb
    obtain ⟨sl', q'⟩ := up b _ q (hf b hb o e)
    exact ⟨sl', q'⟩
  free := u.free
  there := u.there
  tups := u.tups
  frzs := u.frzs
  tbls := u.tbls
noncomputable def CXx (P : Program) (w : World) : CXT := fun outer H s E e s' => ∃ (x : Addr) (cls : Value) (H' : Hp) (B : Heap), e = .ref x ∧ s'.os = s.os ∧ AllBare s'.gens ∧ UnB (frs outer) H H' s.heap B s'.heap ∧
  HOk P w H' B ∧ FlyX B outer x cls .none s'.heap ∧ E cls none H'
theorem passE0 {P : Program} {w : World} {X : Cx} : Passes (CXx P w) X E0 := fun _ _ _ _ _ _ _ ⟨_, _, _, _, _, _, _, _, _, _, h⟩ => h.elim
noncomputable def Throws (X : Cx) (E : XK) : Prop := ∀ (pins : List (Addr × Obj)) (σ : L2.St) (H : Hp) (s : Shared) (e : Addr) (h' : Heap) (cls : Value) (vs : List Value), Inv X pins σ H s → Heap.MadeExcOf s.heap h' e cls vs → E cls none H → X.xe (.ref e) { s with heap := h' }
section
variable {X : Cx} {pins : List (Addr × Obj)} {σ : L2.St} {H H' : Hp} {s : Shared}
theorem fdata (I : Inv X pins σ H s) : ∀ b ∈ frs X.stack, ∀ o, s.heap.get? b = some o → ∀ vs, o.data ≠ .fields vs := fun b hb o e vs => by
  obtain ⟨_, o', e', d⟩ := I.stack.mem hb
  rw [e] at e'
  cases e'
  exact d vs
theorem hok_hide (I : Inv X pins σ H s) : HOk X.prog X.w H (PySem.W.hideAll s.heap (frs X.stack)) := fun a o e =>
  (I.hok a o e).stay (fun b u hb q => PySem.W.hideAll_get _ q fun hm => by
    have n := I.stkFree b hm
    rcases hb with rfl | hb
    · rw [e] at n; cases n
    · rw [hb] at n; cases n) (fun _ q => q) fun _ _ q => q
theorem made_un (I : Inv X pins σ H s) {e : Addr} {h' : Heap} {cls : Value} {vs : List Value} (hx : Heap.MadeExcOf s.heap h' e cls vs) : UnB (frs X.stack) H H s.heap (PySem.W.hideAll s.heap (frs X.stack)) h' where
  keep := fun b o q n hb => PySem.W.hideAll_get _ q hb
  slot := fun b o q n hb => ⟨o.slots, hx.keeps b o q⟩
  free := fun _ _ _ n => n
  there := fun b o q hb => ⟨o, PySem.W.hideAll_get _ q hb⟩
  tups := fun _ _ q => q
  frzs := fun _ _ _ q => q
  tbls := fun b ps q => ⟨#[], by rw [q]; simp⟩
theorem out_un {B h' : Heap} (I : Inv X pins σ H s) (hst : X.stack = X.env :: X.outer) (hfr : X.env.frame = some X.env.locals) (hex : X.ex = []) (u : UnB (frs X.stack) H H' s.heap B h') : UnB X.fs X.H₀ H' X.s₀.heap B h' := by
  have hs : frs X.stack = X.env.locals :: X.fs := by
    rw [hst]; unfold frs; rw [List.filterMap_cons, hfr]; rfl
  have nx : ∀ b, b ∉ X.ex := fun b z => by rw [hex] at z; cases z
  have ne : ∀ b o, X.s₀.heap.get? b = some o → b ≠ X.env.locals := fun b o e => Nat.ne_of_lt (Nat.lt_of_lt_of_le (Heap.lt_size e) I.ok.above)
  have nin : ∀ b o, X.s₀.heap.get? b = some o → b ∉ X.fs → b ∉ frs X.stack := fun b o e hb z => by
    rw [hs] at z
    rcases List.mem_cons.mp z with z | z
    · exact ne b o e z
    · exact hb z
  refine ⟨fun b o e n hb => ?_, fun b o e n hb => ?_, fun b o e n => ?_, fun b o e hb => ?_, fun b xs q => u.tups b xs (I.base.tups b xs q), fun b o xs q => u.frzs b o xs (I.base.frzs b o xs q), fun b ps q => ?_⟩
  · exact u.keep b o (I.base.keep b o e n hb (nx b)) (I.base.free b o e n (nx b)) (nin b o e hb)
  · obtain ⟨sl, q⟩ := I.base.slot b o e n hb (nx b)
    obtain ⟨sl', q'⟩ := u.slot b _ q (I.base.free b o e n (nx b)) (by rw [hs]; exact List.mem_cons_of_mem _ hb)
    exact ⟨sl', q'⟩
  · obtain ⟨o', q⟩ := I.base.there b o e (nx b)
    exact u.free b o' q (I.base.free b o e n (nx b))
  · obtain ⟨o', q⟩ := I.base.there b o e (nx b)
    exact u.there b o' q (nin b o e hb)
  · obtain ⟨m1, e1⟩ := I.base.tbls b ps q
    obtain ⟨m2, e2⟩ := u.tbls b _ e1
    exact ⟨m1 ++ m2, by rw [e2, Array.append_assoc]⟩
end
section
variable {P : Program} {w : World} {K : PySem.W.Frag} {mg : Str → Option Value} {base : Heap} {N : List Str} {qual : Str} {scope : Scope} {f : Addr} {cd : Value} {A : Around} {outer : List Env} {s : Shared} {H : Hp} {E : XK}
theorem throws_cx : Throws (cxOf (CXx P w) P w K mg base N qual scope f cd A outer s H E) E := by
  intro pins σ H1 s1 e h' cls vs I hx hE
  have hfr : (cxOf (CXx P w) P w K mg base N qual scope f cd A outer s H E).A.frames = some (cxOf (CXx P w) P w K mg base N qual scope f cd A outer s H E).stack := I.ok.frames
  have st : (PySem.W.hideAll s1.heap (frs (cxOf (CXx P w) P w K mg base N qual scope f cd A outer s H E).stack)).StaysIn s1.heap := fun b o q => PySem.W.of_hideAll _ q
  have ff : s1.heap.FunFrames (PySem.W.hideAll s1.heap (frs (cxOf (CXx P w) P w K mg base N qual scope f cd A outer s H E).stack)) (cxOf (CXx P w) P w K mg base N qual scope f cd A outer s H E).stack :=
    PySem.W.funFrames_hide I.stack fun env he b hb => List.mem_filterMap.mpr ⟨env, he, hb⟩
  refine madeX hfr rfl st ff hx fun h'' x1 x4 => ?_
  have u1 := made_un I hx
  have u2 : UnB (frs (cxOf (CXx P w) P w K mg base N qual scope f cd A outer s H E).stack) H1 H1 s1.heap _ h'' := u1.on (fdata I) x4
  exact ⟨e, cls, H1, _, rfl, I.os, I.bare, out_un I rfl rfl rfl u2, hok_hide I, x1, hE⟩
theorem passes_cx : Passes (CXx P w) (cxOf (CXx P w) P w K mg base N qual scope f cd A outer s H E) E := by
  rintro pins σ H1 s1 e s' I ⟨x, cls, H', B, rfl, hos, hb, u, hok, hfl, hE⟩
  have hfr : (cxOf (CXx P w) P w K mg base N qual scope f cd A outer s H E).A.frames = some (cxOf (CXx P w) P w K mg base N qual scope f cd A outer s H E).stack := I.ok.frames
  refine leaveX hfr rfl hfl fun h'' x1 x2 => ?_
  have u2 : UnB (frs (cxOf (CXx P w) P w K mg base N qual scope f cd A outer s H E).stack) H1 H' s1.heap B h'' := u.on (fdata I) x2
  exact ⟨x, cls, H', B, rfl, hos.trans I.os, hb, out_un I rfl rfl rfl u2, hok, x1, hE⟩
end
section
variable {P : Program} {w : World} {K : PySem.W.Frag} {mg : Str → Option Value} {base : Heap}
theorem def_okX {x : Str} {st : Stmt} {N ps : List Str} {k : Nat} {sp : Sp} (F : FunAt K mg x st ps) (S : FnScope N ps (defScope st)) (len : ∀ vs H Q E, sp vs H Q E → vs.length = ps.length)
    (hbody : ∀ (f : Addr) (cdv : Value) (A : Around) (outer : List Env) (s : Shared) (H : Hp) (vs : List V) (Q : VK) (E : XK), Room k (A.deeper (envOfC x (defScope st) s.heap.objs.size f cdv)) → sp vs H Q E →
      ∃ t, PSs (cxOf (CXx P w) P w K mg base N x (defScope st) f cdv A outer s H E) (defBody st) t ∧ t { nx := fun _ H' => Q .non H', rt := Q } (start N vs) H) : DefOk P w K mg base (CXx P w) (k + 1) x ps sp := by
  obtain ⟨f, fd, F, hm, hb⟩ := F.ex
  obtain ⟨oc, od, kV, doc, pm, an, cdv, ct, osl, rfl, lk, hcd⟩ := F.ex
  exact ⟨f, _, fn_of lk hcd S len fun A outer s H vs Q E hr h => hbody f cdv A outer s H vs Q E hr h, hm, F.kp, hb, oc, od, osl, lk⟩
end
noncomputable abbrev mroV : List Value := [.type "ValueError", .type "Exception", .type "BaseException", .type "object"]
structure XCls (K : PySem.W.Frag) (mg : Str → Option Value) (x : Str) (C : Addr) : Prop where
  bound : mg x = some (.ref C)
  obj : ∃ nm q N bs bm hdct sn sub ab col dd k0 k1 k2 k3 k5, K.lookup C = some (excClassObj nm q C N bs bm hdct sn sub ab col dd k0 k1 k2 k3 k5 "ValueError.__new__") ∧
    PySem.W.nsOkIn K N = true ∧ PySem.W.nsIn K N "__init__" = some none ∧ PySem.W.tailIn K mroV bm = true
theorem XCls.own {K : PySem.W.Frag} {mg : Str → Option Value} {x : Str} {C : Addr} {h : Heap} (c : XCls K mg x C) (X : K.In h) : OwnCls x C mroV "ValueError.__new__" mg h := by
  obtain ⟨nm, q, N, bs, bm, hdct, sn, sub, ab, col, dd, k0, k1, k2, k3, k5, l, h1, h2, h3⟩ := c.obj
  exact ⟨c.bound, bm, N, nm, q, bs, hdct, sn, sub, ab, col, dd, k0, k1, k2, k3, k5, _, X _ _ l, .of_isNs (PySem.W.isNs_of_in X h1), PySem.W.nsMap_none_of_in X h1 h2, PySem.W.tail_of_in X h3⟩
section
variable {X : Cx} {x : Str} {C : Addr} {np cpos pos : Pos} {E : XK} {e₀ : Expr} {ta : TA}
noncomputable def tRaise (E : XK) (C : Addr) (ta : TA) : TS := fun _ σ H => ta σ H fun vs H1 => vs.length ≤ sizeLine ∧ E (.ref C) none H1
theorem ps_raise (th : Throws X E) (c : XCls X.K X.mg x C) (ha : PA X [e₀] ta) (hc : X.calm = true := by rfl) (hg : Gl X x := by rfl) (he : starEach [e₀] X.env = [(false, eval e₀ X.env)] := by rfl)
    (hd : (x == ("__debug__" : Str)) = false := by decide) : PS X (.Raise (some (.Call (.Name x np) [e₀] [] cpos)) none pos) (tRaise E C ta) := by
  intro pins s σ H D I h
  have O : OwnCls x C mroV "ValueError.__new__" X.mg s.heap := c.own I.kIn
  obtain ⟨tl, N, nm, q, bs, hdct, sn, sub, ab, col, dd, k0, k1, k2, k3, k5, mN, hC, hN, hni, T⟩ := O.obj
  obtain ⟨tl', N', nm', q', bs', hdct', sn', sub', ab', col', dd', k0', k1', k2', k3', k5', mN', hC', hN', hni', T'⟩ := (c.own I.mod.kin).obj
  have FB := PySem.F.excBase_ValueError
  refine wpAny_Raise_call_subT (C := C) (nm := nm') (q := q') (N := N') (bs := bs') (bm := tl') (hdct := hdct') (sn := sn') (sub := sub') (ab := ab') (col := col') (dd := dd') (k0 := k0') (k1 := k1') (k2 := k2') (k3 := k3') (k5 := k5')
    FB (mN := mN') (T'.hasType FB.hasBase) (I.ok.hd hc) (by rw [he]; rfl) hni' (ld_glob I hg c.bound ⟨rfl, ?_⟩ hd)
  have h2 := ha cpos pins s σ H _ I h
  rw [he] at h2 ⊢
  exact Calls.evalArgs_plain (wpAny_mono h2 (fun us s2 ⟨vs, H2, I2, r, hz, hE⟩ => ⟨rfl, (by rw [← r.length]; exact hz), I2.bk _ _ hC', hN'.keeps I2.bk, T'.keeps I2.bk, fun h' e hm => th pins σ H2 s2 e h' _ _ I2 hm hE⟩) fun _ _ y => y)
end
section
variable {X : Cx} {pins pins' : List (Addr × Obj)} {σ : L2.St} {H H' : Hp} {s : Shared}
end
section
variable {X : Cx}
end
end Cv
namespace Cv
open PySem PySem.Spec PyProof.Rows L2
section
variable {X : Cx}
end
end Cv
namespace Cv
open PySem PySem.Spec PyProof.Rows L2
theorem Bd.zero : Bd 4000 (0 : Rat) := ⟨Sz.zero.mono (by decide), Sz.one.mono (by decide)⟩
theorem Bd.one : Bd 4000 (1 : Rat) := ⟨Sz.one.mono (by decide), Sz.one.mono (by decide)⟩
end Cv
namespace Cv
open PySem PySem.Spec PyProof.Rows L2
noncomputable abbrev cxComp (X : Cx) (scope : Scope) (cl : List (Str × Addr)) (Nc : List Str) (C : Addr) (s0 : Shared) (H0 : Hp) (fp : List Addr) : Cx where
  prog := X.prog
  w := X.w
  K := X.K
  mg := X.mg
  base := X.base
  A := X.A
  N := Nc
  s₀ := s0
  H₀ := H0
  env := compEnvC scope cl C X.env
  outer := X.stack
  stack := X.stack
  ex := fp
  fn := fun _ => false
  calm := X.calm
  pn := []
  xe := fun _ _ => False
noncomputable def capd (σ : L2.St) (ix : List Nat) : L2.St := ix.map fun j => (σ[j]?).getD none
section
variable {X : Cx}
end
end Cv
namespace Cv
open PySem PySem.Spec PyProof.Rows L2
theorem closure_go {env : Env} : ∀ (names : List (Str × NameKind)) (acc : List (Str × Addr)), (∀ y ∈ names, y.2 = .free → ∃ c, env.cells.lookup y.1 = some c) →
    ∃ cl, (forIn names acc fun (x : Str × NameKind) (r : List (Str × Addr)) => if (x.2 == NameKind.free) = true then (do let c ← cellOf env x.1; pure (ForInStep.yield ((x.1, c) :: r))) else pure (ForInStep.yield r) : Sem (List (Str × Addr))) = pure cl ∧
      ((∀ y c, acc.lookup y = some c → env.cells.lookup y = some c) → ∀ y c, cl.lookup y = some c → env.cells.lookup y = some c) ∧
      (∀ y, (∃ c, acc.lookup y = some c) → ∃ c, cl.lookup y = some c) ∧ ∀ y ∈ names, y.2 = .free → ∃ c, cl.lookup y.1 = some c
  | [], acc, _ => ⟨acc, by simp, fun h => h, fun _ h => h, fun _ h => nomatch h⟩
  | (n, k) :: r, acc, h => by
    rw [List.forIn_cons]
    by_cases hk : k = .free
    · subst hk
      obtain ⟨c, hc⟩ := h (n, .free) (.head _) rfl
      obtain ⟨cl, e, h1, h2, h3⟩ := closure_go (env := env) r ((n, c) :: acc) fun y hy => h y (.tail _ hy)
      refine ⟨cl, ?_, fun ha => h1 fun y d hd => ?_, fun y hy => h2 y ?_, fun y hy hf => ?_⟩
      · have ec : cellOf env n = pure c := by
          unfold cellOf
          have hc' : env.cells.lookup n = some c := hc
          rw [hc']
        simp only [ec]
        exact e
      · rw [List.lookup_cons] at hd
        by_cases hy : y == n
        · rw [hy] at hd
          cases hd
          rw [eq_of_beq hy]; exact hc
        · rw [Bool.not_eq_true] at hy
          rw [hy] at hd
          exact ha y d hd
      · rw [List.lookup_cons]
        by_cases hyn : y == n
        · rw [hyn]; exact ⟨_, rfl⟩
        · rw [Bool.not_eq_true] at hyn
          rw [hyn]; exact hy
      · rcases List.mem_cons.mp hy with rfl | hy
        · exact h2 n ⟨c, by rw [List.lookup_cons]; simp⟩
        · exact h3 y hy hf
    · obtain ⟨cl, e, h1, h2, h3⟩ := closure_go (env := env) r acc fun y hy => h y (.tail _ hy)
      refine ⟨cl, ?_, h1, h2, fun y hy hf => ?_⟩
      · have hk' : (k == NameKind.free) = false := by
          cases k <;> first | rfl | exact absurd rfl hk
        simp only [hk']
        exact e
      · rcases List.mem_cons.mp hy with rfl | hy
        · exact absurd hf hk
        · exact h3 y hy hf
theorem closure_of {scope : Scope} {env : Env} (h : ∀ y ∈ scope.names, y.2 = .free → ∃ c, env.cells.lookup y.1 = some c) :
    ∃ cl, closureFor scope env = pure cl ∧ (∀ y c, cl.lookup y = some c → env.cells.lookup y = some c) ∧ ∀ y ∈ scope.names, y.2 = .free → ∃ c, cl.lookup y.1 = some c := by
  obtain ⟨cl, e, h1, _, h3⟩ := closure_go (env := env) scope.names [] h
  refine ⟨cl, ?_, h1 (fun _ _ z => nomatch z), h3⟩
  unfold closureFor
  have := congrArg (fun (m : Sem (List (Str × Addr))) => m >>= fun r => pure r) e
  first
    | exact e
    | simpa using e
    | (simp only [bind_pure] at this ⊢; exact this)
theorem relabel_lookup {env : Env} : ∀ {names : List (Str × NameKind)} {y : Str} {k : NameKind}, (∀ z ∈ names, z.2 ≠ .cell) →
    (names.map fun (n, k) => if (k == NameKind.free && env.scope.kind == .function && env.kindOf n == some .cell) then (n, NameKind.cell) else (n, k)).lookup y = some k → (k = .cell ∨ k = .free) → (y, NameKind.free) ∈ names
  | [], _, _, _, h, _ => by simp at h
  | (n, q) :: r, y, k, hc, h, hk => by
    rw [List.map_cons] at h
    by_cases hy : y == n
    · have e : y = n := eq_of_beq hy
      subst e
      by_cases ht : (q == NameKind.free && env.scope.kind == .function && env.kindOf y == some .cell) = true
      · have : q = .free := by
          simp only [Bool.and_eq_true] at ht
          exact eq_of_beq ht.1.1
        rw [this]; exact .head _
      · simp only [ht] at h
        rw [List.lookup_cons] at h
        simp at h
        subst h
        rcases hk with rfl | rfl
        · exact absurd rfl (hc _ (.head _))
        · exact .head _
    · rw [Bool.not_eq_true] at hy
      refine .tail _ (relabel_lookup (env := env) (fun z hz => hc z (.tail _ hz)) ?_ hk)
      by_cases ht : (q == NameKind.free && env.scope.kind == .function && env.kindOf n == some .cell) = true
      · simp only [ht] at h
        rw [List.lookup_cons] at h
        have h' := h
        (simp [hy] at h'; simpa using h')
      · simp only [ht] at h
        rw [List.lookup_cons] at h
        have h' := h
        (simp [hy] at h'; simpa using h')
section
variable {prog : Program} {w : World} {A : Around} {R : Result → Shared → Prop} {s : Shared}
theorem compLoop_listG {elt target iter : Expr} {scope : Scope} {pos : Pos} {it acc : Value} {env : Env} (I : Nat → Shared → Prop)
    (turn : ∀ n s, I n s → wpAny (model prog w) A (pyNext it) (fun r s₁ => match r with
      | none => R (.ok .next) s₁
      | some v => wpAny (model prog w) A (letOwnedTupleGo target it v) (fun _ s₁' => wpAny (model prog w) A (assign target env v) (fun _ s₂ => wpAny (model prog w) A (eval elt env) (fun x s₃ =>
          wpAny (model prog w) A (call (.builtin "list.append") [acc, x]) (fun _ s₄ => ∃ m, m < n ∧ I m s₄) (notedBy (model prog w) A env fun e s' => R (.error e) s') s₃)
          (notedBy (model prog w) A env fun e s' => R (.error e) s') s₂) (notedBy (model prog w) A env fun e s' => R (.error e) s') s₁') (notedBy (model prog w) A env fun e s' => R (.error e) s') s₁) (notedBy (model prog w) A env fun e s' => R (.error e) s') s)
    (n : Nat) (h : I n s) :
    codeAny (model prog w) A (.compLoop (.ListComp elt [⟨target, iter, [], 0⟩] scope pos) 0 it acc env) R s := by
  refine codeAny_loop rfl I (fun n s hI => ?_) n h
  show wpAny _ _ ((compTurn (.ListComp elt [⟨target, iter, [], 0⟩] scope pos) 0 it acc env).onRaise (fun x => do noteFrame x env; theTreesLotGoes x)) _ _ s
  refine wpAny_noted ?_
  rw [compTurn_list1]
  refine wpAny_bind (wpAny_standAt (wpAny_bind (wpAny_mono (turn n s hI) (fun r s₁ h₁ => ?_) fun _ _ h' => h')))
  cases r with
  | none => exact wpAny_pure h₁
  | some v =>
    refine wpAny_bind (wpAny_mono h₁ (fun _ s₁' h₁' => ?_) fun _ _ h' => h')
    exact wpAny_bind (wpAny_mono h₁' (fun _ s₂ h₂ => wpAny_bind (wpAny_bind (wpAny_mono h₂ (fun x s₃ h₃ => wpAny_bind (wpAny_mono h₃
      (fun _ s₄ h₄ => wpAny_pure (wpAny_pure ⟨rfl, h₄⟩)) fun _ _ h' => h')) fun _ _ h' => h'))) fun _ _ h' => h')
end
noncomputable def CompGoal (k : Nat) (J : It) (H1 : Hp) (g : TG) (te : TE) (cs : L2.St) (Q : VK) : Prop := ∀ D, H1 D = none → ∃ W : Nat → Nat → List V → Hp → Prop, (∃ m, W 0 m [] (upd H1 D (.lst []))) ∧
  ∀ i m ys H2, W i m ys H2 → (J.stop i H2 ∧ Q (.ref D) H2) ∨ (J.go i H2 ∧ ∀ x H', J.yld i H2 x H' → ∀ own : L2.St, own.length = k → g x (own ++ cs) H' fun σ2 H4 => (∃ own' : L2.St, own'.length = k ∧ σ2 = own' ++ cs) ∧
    te σ2 H4 fun v H3 => H3 D = some (.lst ys) ∧ ys.length < sizeLine ∧ ∃ m', m' < m ∧ W (i + 1) m' (ys ++ [v]) (upd H3 D (.lst (ys ++ [v]))))
noncomputable def tCompG (k : Nat) (wi : TI) (g : TG) (te : TE) (ix : List Nat) : TE := fun σ H Q => wi σ H fun J H1 => CompGoal k J H1 g te (capd σ ix) Q
section
variable {X : Cx}
theorem comp_core {tg elt iter : Expr} {os : List Str} {pos ipos : Pos} {scope : Scope} {wi : TI} {g : TG} {te : TE} {caps : List (Nat × Str)} {pins : List (Addr × Obj)} {s : Shared} {σ : L2.St} {H : Hp} {Q : VK} {use : Option (Value → Sem Unit)} {R : Value → Shared → Prop} (hi : PI X tg iter wi)
    (hg : ∀ cl C s0 H0 fp, PG (cxComp X scope cl (os ++ caps.map (·.2)) C s0 H0 fp) tg g)
    (he : ∀ cl C s0 H0 fp, PE (cxComp X scope cl (os ++ caps.map (·.2)) C s0 H0 fp) elt te)
    (hfree : ∀ y ∈ scope.names, y.2 = .free → X.env.kindOf y.1 = some .cell)
    (hcap : ∀ p ∈ caps, X.N[p.1]? = some p.2 ∧ X.env.kindOf p.2 = some .cell ∧ ((relabel scope X.env).names.lookup p.2 = some .cell ∨ (relabel scope X.env).names.lookup p.2 = some .free))
    (hkind : scope.kind = .function) (hcell : ∀ y ∈ scope.names, y.2 ≠ .cell)
    (hnames : ∀ y ∈ scope.names, y.2 = .local → scope.names.lookup y.1 = some .local) (hc : X.calm = true) (hfs : ∀ v, foldedSetIterable iter X.env v = pure v)
    (hfin : ∀ D C H5 s6 m6, Inv X pins σ H5 s6 → s6.heap.Ns C m6 → FpOk X pins H5 C → Q (.ref D) H5 → compPost (model X.prog X.w) X.A X.xe use R (.ref D) C (.ok .next) s6)
    (I : Inv X pins σ H s) (h : tCompG os.length wi g te (caps.map (·.1)) σ H Q) :
    wpAny (model X.prog X.w) X.A (comprehension (.ListComp elt [⟨tg, iter, [], 0⟩] scope pos) scope X.env ipos (newList []) false (eval iter X.env) use) R X.xe s := by
  obtain ⟨cl, hclos, hcl, hin⟩ := closure_of (scope := scope) (env := X.env) fun y hy hf => I.ok.has y.1 (.inl (hfree y hy hf))
  have hhas : ∀ y, ((relabel scope X.env).names.lookup y = some .cell ∨ (relabel scope X.env).names.lookup y = some .free) → ∃ c, cl.lookup y = some c := fun y hy => by
    rcases hy with hy | hy
    · exact hin (y, .free) (relabel_lookup (env := X.env) hcell hy (.inl rfl)) rfl
    · exact hin (y, .free) (relabel_lookup (env := X.env) hcell hy (.inr rfl)) rfl
  refine wpAny_comprehension_free (use := use) rfl hfs hclos hkind hnames ?_
  refine thn (hi pins s σ H _ I h) fun v s1 h1 => thn h1 fun itv s2 h2 => ?_
  obtain ⟨it, fp, tn, J, H1, rfl, I2, T, st2, f2, rd⟩ := h2
  refine wpAny_newObj_type ?_ (by show 0 ≤ sizeLine; decide)
  have hD : H1 s2.heap.objs.size = none := I2.hok.fresh (Nat.le_refl _)
  obtain ⟨W, ⟨m0, w0⟩, turn⟩ := rd s2.heap.objs.size hD
  generalize eD : s2.heap.objs.size = D at hD w0 turn
  have I3 : Inv X pins σ (upd H1 D (.lst [])) { s2 with heap := s2.heap.push { cls := .type "list", data := .seq ([] : List Value).toArray } } := by
    subst eD
    exact I2.laid (t' := s2.toks) (fun b u e => Heap.get?_push_of_some _ e) (Nat.le_refl _) ⟨Nat.zero_le _, [], 0, .nil, Heap.get?_push_size _ rfl⟩
  generalize e3 : ({ s2 with heap := s2.heap.push { cls := .type "list", data := .seq ([] : List Value).toArray } } : Shared) = s3 at I3
  have hs3 : s3.heap.objs.size = D + 1 := by rw [← e3, ← eD]; simp
  have k23 : ∀ b o, s2.heap.get? b = some o → s3.heap.get? b = some o := fun b o e => by rw [← e3]; exact Heap.get?_push_of_some _ e
  refine wpAny_newFunctionEnv hcell (by intro y hy; simp at hy) (fun h4 hn4 hs4 => ?_) hkind
  have k34 : ∀ b o, s3.heap.get? b = some o → h4.get? b = some o := fun b o e => (hs4.2 b (Nat.ne_of_lt (Heap.lt_size e))).trans (Heap.get?_push_of_some _ e)
  generalize eC : s3.heap.objs.size = C at hn4 hs4
  have hfpC : ∀ b ∈ fp, b ≠ C := fun b hb z => by
    obtain ⟨o, e, _⟩ := T.obj 0 _ st2 b hb
    have h1 := Heap.lt_size e
    rw [z, ← eC, hs3, eD] at h1
    exact absurd h1 (Nat.not_lt.mpr (Nat.le_succ D))
  have hfps : ∀ b ∈ fp, b ∉ frs X.stack := fun b hb z => by
    rcases List.mem_cons.mp (I2.stkSub b z) with q | q
    · exact (f2 b hb).2.1 q
    · exact (f2 b hb).2.2.1 q
  have hfpD : ∀ b ∈ fp, b ≠ D := fun b hb z => by
    obtain ⟨o, e, _⟩ := T.obj 0 _ st2 b hb
    have h1 := Heap.lt_size e
    rw [z, eD] at h1
    exact Nat.lt_irrefl _ h1
  have okc : (cxComp X scope cl (os ++ caps.map (·.2)) C s3 (upd H1 D (.lst [])) fp).Ok := by
    refine ⟨I3.ok.mod, hkind, I3.ok.glob, I3.ok.blt, Nat.le_of_eq eC, fun y z c h1 h2 => I3.ok.inj y z c (hcl y c h1) (hcl z c h2), fun y hy => hhas y hy, fun y c hf => absurd hf Bool.false_ne_true, I3.ok.hd, I3.ok.frames, .inl rfl,
      fun b hb => ⟨hfpC b hb, fun y c e => (f2 b hb).2.2.2.2.1 y c (hcl y c e)⟩, I3.bs, Nat.le_trans I3.ok.bsz I3.sz, fun b o e hb => ?_, fun b hb => hfps b hb, I3.stack, I3.stkFree⟩
    rcases (f2 b hb).2.2.2.1 with z | z
    · exact I3.ok.noex b o e z
    · exact Nat.lt_irrefl _ (Nat.lt_of_lt_of_le (Heap.lt_size (I3.ok.bs b o e).1) z)
  have capS : (capd σ (caps.map (·.1))).length = caps.length := by unfold capd; rw [List.length_map, List.length_map]
  have Ic : Inv (cxComp X scope cl (os ++ caps.map (·.2)) C s3 (upd H1 D (.lst [])) fp) [] (List.replicate os.length none ++ capd σ (caps.map (·.1))) (upd H1 D (.lst [])) { s3 with heap := h4, toks := s3.toks + ([] : List (Str × Value)).length } := by
    refine ⟨okc, rfl, I3.bare, Un.kept k34, ⟨_, hn4, fun i y v e1 e2 e3' => ?_⟩, fun y c e => ?_, I3.hok.fresh (Nat.le_of_eq eC), fun y c e => I3.freeC y c (hcl y c e), fun p hp => absurd hp (by simp), I3.hok.kept k34, ?_⟩
    · by_cases hik : i < os.length
      · rw [List.getElem?_append_left (by rw [List.length_replicate]; exact hik), List.getElem?_replicate] at e2
        split at e2 <;> cases e2
      · have e1' : (caps.map (·.2))[i - os.length]? = some y := by
          have z : (os ++ caps.map (·.2))[i]? = some y := e1
          rw [List.getElem?_append_right (by omega)] at z
          exact z
        have e2' : (capd σ (caps.map (·.1)))[i - os.length]? = some (some v) := by
          rw [List.getElem?_append_right (by rw [List.length_replicate]; omega), List.length_replicate] at e2
          exact e2
        generalize i - os.length = i at e1' e2'
        rw [List.getElem?_map] at e1'
        unfold capd at e2'
        rw [List.getElem?_map, List.getElem?_map] at e2'
        cases q : caps[i]? with
        | none => rw [q] at e1'; cases e1'
        | some p =>
          rw [q] at e1' e2'
          have ey : p.2 = y := Option.some.inj e1'
          have ev : (σ[p.1]?).getD none = some v := Option.some.inj e2'
          have es : σ[p.1]? = some (some v) := by
            cases z : σ[p.1]? with
            | none => rw [z] at ev; cases ev
            | some w' => rw [z] at ev; exact congrArg some ev
          obtain ⟨hN, hk, hv⟩ := hcap p (List.mem_of_getElem? q)
          obtain ⟨m, _, hl⟩ := I3.loc
          obtain ⟨u, r, lk⟩ := hl p.1 p.2 v hN es (.inr (.inl hk))
          rw [ey] at hk hv lk
          refine ⟨u, r, .inr ⟨hv, ?_⟩⟩
          obtain ⟨c, hc'⟩ := hhas y hv
          rcases lk with ⟨z, _⟩ | ⟨_, c2, z, ic⟩
          · rw [hk] at z; cases z
          · have ec := (hcl y c hc').symm.trans z
            cases ec
            obtain ⟨o, ho, hd⟩ := ic
            exact ⟨c, hc', o, k34 _ _ ho, hd⟩
    · obtain ⟨v, o, ho, hd⟩ := I3.cell y c (hcl y c e)
      exact ⟨v, o, k34 _ _ ho, hd⟩
    · show (List.replicate os.length (none : Option V) ++ capd σ (caps.map fun p => p.1)).length = (os ++ caps.map fun p => p.2).length
      rw [List.length_append, List.length_append, List.length_replicate, capS, List.length_map]
  have fpc : ∀ H', (∀ b ∈ fp, H' b = none) → ∀ b ∈ fp, FpOk (cxComp X scope cl (os ++ caps.map (·.2)) C s3 (upd H1 D (.lst [])) fp) [] H' b := fun H' hn b hb =>
    ⟨hn b hb, hfpC b hb, hfps b hb, .inl hb, fun y c e => (f2 b hb).2.2.2.2.1 y c (hcl y c e), fun p hp => absurd hp (by simp)⟩
  have st4 : tn 0 h4 := T.keep _ _ _ (T.keep _ _ _ st2 fun b _ o e => k23 b o e) fun b _ o e => k34 b o e
  have fp0 : ∀ b ∈ fp, (upd H1 D (.lst [])) b = none := fun b hb => by rw [upd_ne (hfpD b hb)]; exact (f2 b hb).1
  have loop : codeAny (model X.prog X.w) X.A (.compLoop (.ListComp elt [⟨tg, iter, [], 0⟩] scope pos) 0 (.ref it) (.ref D) (compEnvC scope cl C X.env)) (compPost (model X.prog X.w) X.A X.xe use R (.ref D) C)
      { s3 with heap := h4, toks := s3.toks + ([] : List (Str × Value)).length } := by
    refine compLoop_listG (fun n s' => ∃ i ys own H', own.length = os.length ∧ Inv (cxComp X scope cl (os ++ caps.map (·.2)) C s3 (upd H1 D (.lst [])) fp) [] (own ++ capd σ (caps.map (·.1))) H' s' ∧ tn i s'.heap ∧ (∀ b ∈ fp, H' b = none) ∧ W i n ys H') ?_ m0 ⟨0, [], List.replicate os.length none, _, List.length_replicate, Ic, st4, fp0, w0⟩
    rintro n s5 ⟨i, ys, own, H5, ho5, I5, st5, fr5, w5⟩
    rcases turn i n ys H5 w5 with ⟨stop, qn⟩ | ⟨go, step⟩
    · refine thn (T.done (cxComp X scope cl (os ++ caps.map (·.2)) C s3 (upd H1 D (.lst [])) fp) rfl rfl rfl hc i [] s5 _ H5 _ I5 (fpc H5 fr5) st5 stop) fun r s6 ⟨hr, I6⟩ => ?_
      subst hr
      obtain ⟨m6, hn6, _⟩ := I6.loc
      have hs' : Heap.SameBut C s6.heap s6.heap := ⟨rfl, fun _ _ => rfl⟩
      generalize eh' : s6.heap = h' at hs'
      have hs' : Heap.SameBut C s6.heap h' := by rw [eh']; exact hs'
      have neC : ∀ b o, s3.heap.get? b = some o → b ≠ C := fun b o e => Nat.ne_of_lt (eC ▸ Heap.lt_size e)
      have ns : ∀ b o, s2.heap.get? b = some o → b ≠ D := fun b o e => Nat.ne_of_lt (eD ▸ Heap.lt_size e)
      have B := I6.base
      have uu : Un (frs X.stack) fp H1 H5 s2.heap h' := by
        refine ⟨fun b o e nn hb hf => ?_, fun b o e nn hb hf => ?_, fun b o e nn hf => ?_, fun b o e hf => ?_, fun b xs e => ?_, fun b o u' e => ?_, fun b ps e => ?_⟩
        · exact (hs'.2 b (neC b o (k23 b o e))).trans (B.keep b o (k23 b o e) (by show (upd H1 D _) b = none; rw [upd_ne (ns b o e)]; exact nn) hb hf)
        · obtain ⟨sl, z⟩ := B.slot b o (k23 b o e) (by show (upd H1 D _) b = none; rw [upd_ne (ns b o e)]; exact nn) hb hf
          exact ⟨sl, (hs'.2 b (neC b o (k23 b o e))).trans z⟩
        · exact B.free b o (k23 b o e) (by show (upd H1 D _) b = none; rw [upd_ne (ns b o e)]; exact nn) hf
        · obtain ⟨o', z⟩ := B.there b o (k23 b o e) hf
          exact ⟨o', (hs'.2 b (neC b o (k23 b o e))).trans z⟩
        · exact B.tups b xs (by show (upd H1 D _) b = _; rw [upd_ne (ne_of_none e hD)]; exact e)
        · exact B.frzs b o u' (by show (upd H1 D _) b = _; rw [upd_ne (ne_of_none e hD)]; exact e)
        · exact B.tbls b ps (by show (upd H1 D _) b = _; rw [upd_ne (ne_of_none e hD)]; exact e)
      have hok' : HOk X.prog X.w H5 h' := fun b o e => by
        refine (I6.hok b o e).stay (fun c' u' hc' z => (hs'.2 c' fun zz => ?_).trans z) (fun _ z => z) fun _ _ z => z
        have fr : H5 C = none := I6.free
        rcases hc' with hc' | hc'
        · rw [← zz, hc', e] at fr; cases fr
        · rw [← zz, hc'] at fr; cases fr
      have ho6 : s6.os = s2.os := I6.os.trans (by show s3.os = s2.os; rw [← e3])
      subst eh'
      have hC2 : s2.heap.objs.size ≤ C := by rw [← eC, hs3, eD]; exact Nat.le_succ D
      exact hfin D C H5 s6 m6 (I2.call' (s' := s6) (ch := fp) ho6 uu hok' I6.bare (fun b hb => ⟨(f2 b hb).2.2.2.1, (f2 b hb).2.1, (f2 b hb).2.2.2.2.1, (f2 b hb).2.2.2.2.2⟩)) hn6 (I2.fpOk hC2 I6.free) qn
    · refine thn (T.item (cxComp X scope cl (os ++ caps.map (·.2)) C s3 (upd H1 D (.lst [])) fp) rfl rfl rfl hc i [] s5 _ H5 _ I5 (fpc H5 fr5) st5 go) fun r s6 ⟨u, hr, h6⟩ => ?_
      subst hr
      refine (thn h6 fun _ s7 ⟨y, H7, I7, r7, y7, st7, fr7⟩ => ?_)
      have I7' := I7.pinned (fpc H7 fr7) (T.obj _ _ st7)
      refine wpAny_mono (hg cl C s3 _ fp _ s7 _ H7 y u _ I7' r7 (step y H7 y7 own ho5)) (fun _ s8 ⟨σ8, H8, I8, ⟨own', ho8, e8⟩, q8⟩ => ?_) fun _ _ z => z.elim
      subst e8
      refine wpAny_mono (he cl C s3 _ fp _ s8 _ H8 _ I8 q8) (fun xv s9 ⟨v9, H9, I9, r9, d9, l9, m9, lt9, w9⟩ => ?_) fun _ _ z => z.elim
      refine wpAny_mono (mt_append (X := (cxComp X scope cl (os ++ caps.map (·.2)) C s3 (upd H1 D (.lst [])) fp)) _ s9 _ H9 (.ref D) [v9] (.ref D) [xv] (fun _ H10 => H10 = upd H9 D (.lst (ys ++ [v9]))) I9 rfl (.cons r9 .nil) ⟨D, ys, v9, rfl, rfl, d9, l9, rfl⟩) (fun _ s10 ⟨_, H10, I10, _, e10⟩ => ?_) fun _ _ z => z.elim
      subst e10
      refine ⟨m9, lt9, i + 1, ys ++ [v9], own', _, ho8, I10.unpinned, T.keep _ _ _ st7 fun b hb o e => (I10.pin (b, o) (List.mem_append_right _ (List.mem_append_right _ (mem_pinsAt hb e)))).1, fun b hb => ?_, w9⟩
      obtain ⟨o, e, _⟩ := T.obj _ _ st7 b hb
      exact (I10.pin (b, o) (List.mem_append_right _ (List.mem_append_right _ (mem_pinsAt hb e)))).2.1
  exact codeAny_compStart_list loop (T.self _ 0 _ _ _ st4 loop)
theorem pe_compG {tg elt iter : Expr} {os : List Str} {pos : Pos} {scope : Scope} {wi : TI} {g : TG} {te : TE} {caps : List (Nat × Str)} (hi : PI X tg iter wi)
    (hg : ∀ cl C s0 H0 fp, PG (cxComp X scope cl (os ++ caps.map (·.2)) C s0 H0 fp) tg g)
    (he : ∀ cl C s0 H0 fp, PE (cxComp X scope cl (os ++ caps.map (·.2)) C s0 H0 fp) elt te)
    (hfree : ∀ y ∈ scope.names, y.2 = .free → X.env.kindOf y.1 = some .cell)
    (hcap : ∀ p ∈ caps, X.N[p.1]? = some p.2 ∧ X.env.kindOf p.2 = some .cell ∧ ((relabel scope X.env).names.lookup p.2 = some .cell ∨ (relabel scope X.env).names.lookup p.2 = some .free))
    (hkind : scope.kind = .function) (hcell : ∀ y ∈ scope.names, y.2 ≠ .cell)
    (hnames : ∀ y ∈ scope.names, y.2 = .local → scope.names.lookup y.1 = some .local) (hc : X.calm = true) (hfs : ∀ v, foldedSetIterable iter X.env v = pure v) :
    PE X (.ListComp elt [⟨tg, iter, [], 0⟩] scope pos) (tCompG os.length wi g te (caps.map (·.1))) := by
  intro pins s σ H Q I h
  rw [eval_ListComp]
  refine comp_core (Q := Q) (use := none) (R := EP X pins σ Q) hi hg he hfree hcap hkind hcell hnames hc hfs (fun D C H5 s6 m6 I6 n6 f6 q6 => ?_) I h
  refine ⟨m6, n6, fun h' hs' => ⟨.ref D, H5, ?_, rfl, q6⟩⟩
  exact I6.turned (t' := s6.toks) (fun b o hb e => (hs'.2 b hb).trans e) f6.1 f6.2.1 f6.2.2.2.1 f6.2.2.2.2.1 f6.2.2.2.2.2
theorem ps_compG {tg elt iter : Expr} {os : List Str} {i : Nat} {y : Str} {py pos spos : Pos} {scope : Scope} {wi : TI} {g : TG} {te : TE} {caps : List (Nat × Str)} (hN : X.N.Nodup) (hy : X.N[i]? = some y) (hl : X.env.kindOf y = some .local) (hi : PI X tg iter wi)
    (hg : ∀ cl C s0 H0 fp, PG (cxComp X scope cl (os ++ caps.map (·.2)) C s0 H0 fp) tg g)
    (he : ∀ cl C s0 H0 fp, PE (cxComp X scope cl (os ++ caps.map (·.2)) C s0 H0 fp) elt te)
    (hfree : ∀ y ∈ scope.names, y.2 = .free → X.env.kindOf y.1 = some .cell)
    (hcap : ∀ p ∈ caps, X.N[p.1]? = some p.2 ∧ X.env.kindOf p.2 = some .cell ∧ ((relabel scope X.env).names.lookup p.2 = some .cell ∨ (relabel scope X.env).names.lookup p.2 = some .free))
    (hkind : scope.kind = .function) (hcell : ∀ y ∈ scope.names, y.2 ≠ .cell)
    (hnames : ∀ y ∈ scope.names, y.2 = .local → scope.names.lookup y.1 = some .local) (hc : X.calm = true) (hfs : ∀ v, foldedSetIterable iter X.env v = pure v)
    (hsw : swapsWith (.ListComp elt [⟨tg, iter, [], 0⟩] scope pos) (some (.Name y py)) spos.line X.env = pure true) :
    PS X (.Assign [.Name y py] (.ListComp elt [⟨tg, iter, [], 0⟩] scope pos) spos) (tAsg (tCompG os.length wi g te (caps.map (·.1))) (gName i)) := by
  intro pins s σ H D I h
  rw [exec_Assign_Name_used _ _ _ _ hsw]
  refine wpAny_bind (wpAny_standAt (wpAny_bind ?_))
  show wpAny _ X.A (do let _ ← comprehension (.ListComp elt [⟨tg, iter, [], 0⟩] scope pos) scope X.env _ (newList []) false (eval iter X.env) (some (assign (.Name y py) X.env))) _ _ s
  refine wpAny_bind (wpAny_mono (comp_core (Q := fun x H1 => gName i x σ H1 D.nx) (use := some (assign (.Name y py) X.env)) (R := fun _ s' => SP X pins D .next s') hi hg he hfree hcap hkind hcell hnames hc hfs (fun D' C H5 s6 m6 I6 n6 f6 q6 => ?_) I h) (fun _ s' hq => wpAny_pure (wpAny_pure hq)) fun _ _ e => e)
  show wpAny _ X.A (assign (.Name y py) X.env (.ref D')) _ _ s6
  obtain ⟨oC, es, ep, hoC, rC⟩ := n6
  have dC : ∀ v, oC.data ≠ .cell v := fun v z => by
    first
      | (rw [rC.2.1] at z; cases z)
      | (obtain ⟨_, hd, _⟩ := rC; rw [hd] at z; cases z)
      | (obtain ⟨hd, _⟩ := rC; rw [hd] at z; cases z)
  have Ip : Inv X (pins ++ [(C, oC)]) σ H5 s6 := I6.pins_of fun p hp => (List.mem_append.mp hp).elim (fun z => I6.pin p (List.mem_append_right _ z)) fun z => by
    have e : p = (C, oC) := by simpa using z
    subst e
    exact ⟨hoC, f6.1, f6.2.1, f6.2.2.1, dC⟩
  refine wpAny_assign_Name (store_ok Ip hN hy (.inl hl) (v := .ref D') rfl (fun s7 I7 => ?_) (.inr hl))
  have h7 := (I7.pin (C, oC) (List.mem_append_right _ (List.mem_append_right _ (by simp)))).1
  refine ⟨m6, ⟨oC, es, ep, h7, rC⟩, fun h' hs' => ⟨_, H5, ?_, q6⟩⟩
  have I8 := I7.unpinned
  exact I8.turned (t' := s7.toks) (fun b o hb e => (hs'.2 b hb).trans e) f6.1 f6.2.1 f6.2.2.2.1 f6.2.2.2.2.1 f6.2.2.2.2.2
end
end Cv
namespace Cv
open PySem PySem.Spec PyProof.Rows L2
noncomputable def compOk (N : List Str) (sc scope : Scope) (caps : List (Nat × Str)) : Bool :=
  decide (scope.kind = .function) && scope.names.all (fun y => decide (y.2 ≠ .cell) && (!decide (y.2 = .free) || decide (sc.names.lookup y.1 = some .cell)) && (!decide (y.2 = .local) || decide (scope.names.lookup y.1 = some .local))) &&
    caps.all fun p => decide (N[p.1]? = some p.2) && decide (sc.names.lookup p.2 = some .cell) && decide (scope.names.lookup p.2 = some .free)
theorem relabel_free {env : Env} : ∀ {names : List (Str × NameKind)} {y : Str}, names.lookup y = some .free →
    (names.map fun (n, k) => if (k == NameKind.free && env.scope.kind == .function && env.kindOf n == some .cell) then (n, NameKind.cell) else (n, k)).lookup y = some .cell ∨
    (names.map fun (n, k) => if (k == NameKind.free && env.scope.kind == .function && env.kindOf n == some .cell) then (n, NameKind.cell) else (n, k)).lookup y = some .free
  | [], _, h => by simp at h
  | (n, q) :: r, y, h => by
    rw [List.lookup_cons] at h
    rw [List.map_cons]
    by_cases hy : y == n
    · rw [hy] at h
      cases h
      by_cases ht : (NameKind.free == NameKind.free && env.scope.kind == .function && env.kindOf n == some .cell) = true
      · left; simp only [ht]; rw [List.lookup_cons]; simp [eq_of_beq hy]
      · right; simp only [ht]; rw [List.lookup_cons]; simp [eq_of_beq hy]
    · rw [Bool.not_eq_true] at hy
      rw [hy] at h
      have ih := relabel_free (env := env) h
      by_cases ht : (q == NameKind.free && env.scope.kind == .function && env.kindOf n == some .cell) = true
      · simp only [ht]; rw [List.lookup_cons]; simpa [hy] using ih
      · simp only [ht]; rw [List.lookup_cons]; simpa [hy] using ih
section
variable {X : Cx}
theorem pe_compS {tg elt iter : Expr} {os : List Str} {pos : Pos} {scope : Scope} {wi : TI} {g : TG} {te : TE} {caps : List (Nat × Str)} (N : List Str) (sc : Scope) (hi : PI X tg iter wi)
    (hg : ∀ cl C s0 H0 fp, PG (cxComp X scope cl (os ++ caps.map (·.2)) C s0 H0 fp) tg g)
    (he : ∀ cl C s0 H0 fp, PE (cxComp X scope cl (os ++ caps.map (·.2)) C s0 H0 fp) elt te)
    (ok : compOk N sc scope caps = true) (hN : X.N = N := by rfl) (hsc : X.env.scope = sc := by rfl) (hc : X.calm = true := by rfl) (hfs : ∀ v, foldedSetIterable iter X.env v = pure v := by intro _; rfl) :
    PE X (.ListComp elt [⟨tg, iter, [], 0⟩] scope pos) (tCompG os.length wi g te (caps.map (·.1))) := by
  subst hN hsc
  unfold compOk at ok
  simp only [Bool.and_eq_true, List.all_eq_true, decide_eq_true_eq, Bool.or_eq_true, Bool.not_eq_true', decide_eq_false_iff_not] at ok
  obtain ⟨⟨h1, h2⟩, h3⟩ := ok
  refine pe_compG hi hg he (fun y hy hf => ?_) (fun p hp => ?_) h1 (fun y hy => (h2 y hy).1.1) (fun y hy hl => ?_) hc hfs
  · rcases (h2 y hy).1.2 with z | z
    · exact absurd hf z
    · exact z
  · obtain ⟨⟨a, b⟩, c⟩ := h3 p hp
    exact ⟨a, b, relabel_free c⟩
  · rcases (h2 y hy).2 with z | z
    · exact absurd hl z
    · exact z
theorem ps_compS {tg elt iter : Expr} {os : List Str} {i : Nat} {y : Str} {py pos spos : Pos} {scope : Scope} {wi : TI} {g : TG} {te : TE} {caps : List (Nat × Str)} (N : List Str) (sc : Scope) (hNd : X.N.Nodup) (hy : X.N[i]? = some y) (hl : X.env.kindOf y = some .local) (hi : PI X tg iter wi)
    (hg : ∀ cl C s0 H0 fp, PG (cxComp X scope cl (os ++ caps.map (·.2)) C s0 H0 fp) tg g)
    (he : ∀ cl C s0 H0 fp, PE (cxComp X scope cl (os ++ caps.map (·.2)) C s0 H0 fp) elt te)
    (ok : compOk N sc scope caps = true) (hN : X.N = N := by rfl) (hsc : X.env.scope = sc := by rfl) (hc : X.calm = true := by rfl) (hfs : ∀ v, foldedSetIterable iter X.env v = pure v := by intro _; rfl)
    (hsw : swapsWith (.ListComp elt [⟨tg, iter, [], 0⟩] scope pos) (some (.Name y py)) spos.line X.env = pure true := by rfl) :
    PS X (.Assign [.Name y py] (.ListComp elt [⟨tg, iter, [], 0⟩] scope pos) spos) (tAsg (tCompG os.length wi g te (caps.map (·.1))) (gName i)) := by
  subst hN hsc
  unfold compOk at ok
  simp only [Bool.and_eq_true, List.all_eq_true, decide_eq_true_eq, Bool.or_eq_true, Bool.not_eq_true', decide_eq_false_iff_not] at ok
  obtain ⟨⟨h1, h2⟩, h3⟩ := ok
  refine ps_compG hNd hy hl hi hg he (fun y hy hf => ?_) (fun p hp => ?_) h1 (fun y hy => (h2 y hy).1.1) (fun y hy hl => ?_) hc hfs hsw
  · rcases (h2 y hy).1.2 with z | z
    · exact absurd hf z
    · exact z
  · obtain ⟨⟨a, b⟩, c⟩ := h3 p hp
    exact ⟨a, b, relabel_free c⟩
  · rcases (h2 y hy).2 with z | z
    · exact absurd hl z
    · exact z
end
noncomputable def Tup (H H' : Hp) : Prop := ∀ b xs, H b = some (.tup xs) → H' b = some (.tup xs)
theorem _root_.L2.Same.tup {H H' : Hp} (h : Same H H') : Tup H H' := fun b xs e => h b _ e
theorem Tup.refl (H : Hp) : Tup H H := fun _ _ e => e
theorem Tup.trans {H H1 H2 : Hp} (a : Tup H H1) (b : Tup H1 H2) : Tup H H2 := fun c xs e => b c xs (a c xs e)
theorem Tup.lst {H : Hp} {D : Addr} {ys : List V} {o : HO} (h : H D = some (.lst ys)) : Tup H (upd H D o) := fun b xs e => by
  rw [upd_ne (fun z => by rw [z, h] at e; cases e)]; exact e
theorem Tup.new {H : Hp} {D : Addr} {o : HO} (h : H D = none) : Tup H (upd H D o) := L2.Same.tup (Same.new h)
theorem ShV.tup {H H' : Hp} {v : V} {q : Rat} (h : ShV H v q) (e : Tup H H') : ShV H' v q := by
  obtain ⟨a, rfl, h⟩ := h
  exact ⟨a, rfl, e _ _ h⟩
noncomputable def Plain1 (J : It) (H1 : Hp) (n : Nat) (f : Nat → V) : Prop := ∀ H2, Same H1 H2 → ∀ i, (i < n → J.go i H2 ∧ ∀ x H', J.yld i H2 x H' → H' = H2 ∧ x = f i) ∧ (i = n → J.stop i H2)
noncomputable def Plain2 (K : PySem.W.Frag) (J : It) (H1 : Hp) (n : Nat) (f g : Nat → V) : Prop := ∀ H2, Same H1 H2 → ∀ i, (i < n → J.go i H2 ∧ ∀ x H', J.yld i H2 x H' → Same H2 H' ∧ ∃ a, x = .ref a ∧ SqT K H' a [f i, g i]) ∧ (i = n → J.stop i H2)
theorem plain_range (lo : Int) (n : Nat) (H1 : Hp) : Plain1 (Itr lo n) H1 n fun i => .int (lo + i) := fun H2 _ i =>
  ⟨fun hi => ⟨hi, fun x H' y => ⟨y.1, y.2⟩⟩, fun e => by subst e; exact Nat.le_refl _⟩
theorem plain_list {K : PySem.W.Frag} {a : Addr} {xs : List V} {H1 : Hp} (h : SqL K H1 a xs) : Plain1 (Itl K a) H1 xs.length fun i => (xs[i]?).getD .non := fun H2 s i =>
  ⟨fun hi => ⟨⟨xs, xs[i], s.seq h, by simp [hi]⟩, fun x H' y => ⟨y.1, by show x = (xs[i]?).getD .non; rw [y.2 xs (s.seq h)]; rfl⟩⟩, fun e => by subst e; exact ⟨xs, s.seq h, Nat.le_refl _⟩⟩
theorem plain_tup {K : PySem.W.Frag} {a : Addr} {xs : List V} {H1 : Hp} (h : SqT K H1 a xs) : Plain1 (Itt K a) H1 xs.length fun i => (xs[i]?).getD .non := fun H2 s i =>
  ⟨fun hi => ⟨⟨xs, xs[i], SqT.same s h, by simp [hi]⟩, fun x H' y => ⟨y.1, by show x = (xs[i]?).getD .non; rw [y.2 xs (SqT.same s h)]; rfl⟩⟩, fun e => by subst e; exact ⟨xs, SqT.same s h, Nat.le_refl _⟩⟩
theorem small_line {n : Nat} (h : n ≤ 100000) : n < sizeLine := Nat.lt_of_le_of_lt h (by rw [sizeLine_eq]; decide)
section
variable {K : PySem.W.Frag} {J : It} {H1 : Hp} {te : TE} {cs : L2.St} {Q : VK} {n : Nat}
theorem comp1 {f : Nat → V} (hJ : Plain1 J H1 n f) (hn : n ≤ 100000) (R : Nat → V → Hp → Prop) (hR : ∀ i v H H', Tup H H' → R i v H → R i v H')
    (he : ∀ i H2 (k : VK), i < n → Same H1 H2 → (∀ v H3, Same H2 H3 → R i v H3 → k v H3) → te (some (f i) :: cs) H2 k)
    (hq : ∀ D ys H2, H1 D = none → Same H1 H2 → H2 D = some (.lst ys) → ys.length = n → (∀ i v, ys[i]? = some v → R i v H2) → Q (.ref D) H2) :
    CompGoal 1 J H1 (gName 0) te cs Q := by
  intro D hD
  refine ⟨fun i m ys H2 => m = n - i ∧ i ≤ n ∧ ys.length = i ∧ Same H1 H2 ∧ H2 D = some (.lst ys) ∧ ∀ j v, ys[j]? = some v → R j v H2, ⟨n, by simp, Nat.zero_le _, rfl, Same.new hD, upd_same, fun j v e => by simp at e⟩, ?_⟩
  rintro i m ys H2 ⟨rfl, hi, hl, s2, d2, r2⟩
  by_cases hlt : i < n
  · refine .inr ⟨((hJ H2 s2 i).1 hlt).1, fun x H' y own ho => ?_⟩
    obtain ⟨rfl, rfl⟩ := ((hJ H2 s2 i).1 hlt).2 x H' y
    cases own with
    | nil => cases ho
    | cons o1 r =>
      cases r with
      | cons _ _ => cases ho
      | nil =>
        refine ⟨⟨[some (f i)], rfl, rfl⟩, he i _ _ hlt s2 fun v H3 s3 r3 => ⟨s3 _ _ d2, small_line (by omega), n - (i + 1), by omega, rfl, hlt, by rw [List.length_append, hl]; rfl, fun b o e => ?_, upd_same, fun j w e => ?_⟩⟩
        · rw [upd_ne (ne_of_none e hD)]; exact s3 _ _ (s2 _ _ e)
        · have t3 : Tup H3 (upd H3 D (.lst (ys ++ [v]))) := Tup.lst (s3 _ _ d2)
          by_cases hj : j < ys.length
          · rw [List.getElem?_append_left hj] at e
            exact hR _ _ _ _ (s3.tup.trans t3) (r2 j w e)
          · rw [List.getElem?_append_right (by omega)] at e
            have hj0 : j - ys.length = 0 := by
              cases q : j - ys.length with
              | zero => rfl
              | succ k => rw [q] at e; simp at e
            rw [hj0] at e
            have e' : v = w := by simpa using e
            have hji : j = i := by omega
            rw [← e', hji]
            exact hR _ _ _ _ t3 r3
  · have e : i = n := by omega
    subst e
    exact .inl ⟨(hJ H2 s2 i).2 rfl, hq D ys H2 hD s2 d2 hl r2⟩
theorem comp2 {f g : Nat → V} (hJ : Plain2 K J H1 n f g) (hn : n ≤ 100000) (R : Nat → V → Hp → Prop) (hR : ∀ i v H H', Tup H H' → R i v H → R i v H')
    (he : ∀ i H2 (k : VK), i < n → Same H1 H2 → (∀ v H3, Same H2 H3 → R i v H3 → k v H3) → te (some (f i) :: some (g i) :: cs) H2 k)
    (hq : ∀ D ys H2, H1 D = none → Same H1 H2 → H2 D = some (.lst ys) → ys.length = n → (∀ i v, ys[i]? = some v → R i v H2) → Q (.ref D) H2) :
    CompGoal 2 J H1 (gTup K 2 (gCons (gName 0) (gCons (gName 1) gNil))) te cs Q := by
  intro D hD
  refine ⟨fun i m ys H2 => m = n - i ∧ i ≤ n ∧ ys.length = i ∧ Same H1 H2 ∧ H2 D = some (.lst ys) ∧ ∀ j v, ys[j]? = some v → R j v H2, ⟨n, by simp, Nat.zero_le _, rfl, Same.new hD, upd_same, fun j v e => by simp at e⟩, ?_⟩
  rintro i m ys H2 ⟨rfl, hi, hl, s2, d2, r2⟩
  by_cases hlt : i < n
  · refine .inr ⟨((hJ H2 s2 i).1 hlt).1, fun x H' y own ho => ?_⟩
    obtain ⟨s2', a, rfl, ht⟩ := ((hJ H2 s2 i).1 hlt).2 x H' y
    cases own with
    | nil => cases ho
    | cons o1 r =>
      cases r with
      | nil => cases ho
      | cons o2 r =>
        cases r with
        | cons _ _ => cases ho
        | nil =>
          refine ⟨a, _, rfl, ht, rfl, _, _, rfl, _, _, rfl, rfl, ⟨[some (f i), some (g i)], rfl, rfl⟩, he i _ _ hlt (s2.trans s2') fun v H3 s3 r3 => ⟨s3 _ _ (s2' _ _ d2), small_line (by omega), n - (i + 1), by omega, rfl, hlt, by rw [List.length_append, hl]; rfl, fun b o e => ?_, upd_same, fun j w e => ?_⟩⟩
          · rw [upd_ne (ne_of_none e hD)]; exact s3 _ _ (s2' _ _ (s2 _ _ e))
          · have t3 : Tup H3 (upd H3 D (.lst (ys ++ [v]))) := Tup.lst (s3 _ _ (s2' _ _ d2))
            by_cases hj : j < ys.length
            · rw [List.getElem?_append_left hj] at e
              exact hR _ _ _ _ ((s2'.trans s3).tup.trans t3) (r2 j w e)
            · rw [List.getElem?_append_right (by omega)] at e
              have hj0 : j - ys.length = 0 := by
                cases q : j - ys.length with
                | zero => rfl
                | succ k => rw [q] at e; simp at e
              rw [hj0] at e
              have e' : v = w := by simpa using e
              have hji : j = i := by omega
              rw [← e', hji]
              exact hR _ _ _ _ t3 r3
  · have e : i = n := by omega
    subst e
    exact .inl ⟨(hJ H2 s2 i).2 rfl, hq D ys H2 hD s2 d2 hl r2⟩
end
section
variable {X : Cx}
theorem ix_listK (K : PySem.W.Frag) (h : X.K = K := by rfl) : IxR X (rIxL K) := by subst h; exact ix_list
theorem ix_tupK (K : PySem.W.Frag) (h : X.K = K := by rfl) : IxR X (rIxT K) := by subst h; exact ix_tup
theorem sl_listK (K : PySem.W.Frag) (h : X.K = K := by rfl) : SlR X (rSlL K) := by subst h; exact sl_list
theorem op_neDK (K : PySem.W.Frag) (hu : X.A.units + 64 < cLine) (h : X.K = K := by rfl) : OpR X (compareOp .NotEq) (rNeD K) := by subst h; exact op_neD hu
theorem call_lenK (K : PySem.W.Frag) (h : X.K = K := by rfl) : CallR X (.builtin "len") (fun xs H Q => ∃ p ys, xs = [.ref p] ∧ (SqL K H p ys ∨ SqT K H p ys) ∧ Q (.int ys.length) H) := by subst h; exact call_len_seq
theorem call_isiK (K : PySem.W.Frag) (h : X.K = K := by rfl) : CallR X (.builtin "isinstance") (fun xs H Q => ∃ x T t b, xs = [x, .ty T] ∧ TyOf K H x t ∧ PySem.W.kitOne K t (.type T) = some b ∧ Q (.bl b) H) := by subst h; exact call_isi
theorem op_catTK (K : PySem.W.Frag) (h : X.K = K := by rfl) : OpR X (binaryOp .Add) (rCatT K) := by subst h; exact op_catT
theorem pg_tupK (K : PySem.W.Frag) {es : List Expr} {k : Nat} {t : TGs} {n : Nat} {pos : Pos} (hc : X.calm = true) (h : PGs X es t) (hK : X.K = K := by rfl)
    (hn : (assignEach es X.env).length = n := by rfl) (hst : (assignEach es X.env).findIdx? (·.1) = none := by rfl) : PG X (.Tuple es k pos) (gTup K n t) := by subst hK; exact pg_tup hc h hn hst
end
end Cv
namespace Cv
open PySem PySem.Spec PyProof.Rows L2
section
variable {X : Cx} {tg : Expr}
end
end Cv
namespace Cv
open PySem PySem.Spec PyProof.Rows L2
theorem lookup_lri_len : typeLookup (.type "list_reverseiterator") "__len__" = pure none := by rw [typeLookup_type, builtinLookup_eq_fast]; kernel_rfl
theorem lookup_lri_hint : typeLookup (.type "list_reverseiterator") "__length_hint__" = pure (some (.builtin "list_reverseiterator.__length_hint__")) := by rw [typeLookup_type, builtinLookup_eq_fast]; kernel_rfl
theorem lri_ne (h : Value.type "list_reverseiterator" = Value.type "list") : False := by
  injection h with h
  exact absurd h (by decide)
section
variable {prog : Program} {w : World} {A : Around} {E : Value → Shared → Prop} {s : Shared}
theorem hint_rev {r l : Addr} {i : Int} {Q : Bool → Shared → Prop} (hit : s.heap.IsRevIter r l i) (h : Q false s) : wpAny (model prog w) A (Builtin.List.listLengthHint (.ref r)) Q E s := by
  unfold Builtin.List.listLengthHint
  refine wpAny_bind (wpAny_specialOf hit.typeIs lookup_lri_len ?_)
  dsimp only
  refine wpAny_ite_split (fun hab => absurd hab (by decide)) (fun _ => ?_)
  refine wpAny_ite_split (fun hab => absurd hab (by decide)) (fun _ => ?_)
  refine wpAny_bind (wpAny_specialOf hit.typeIs lookup_lri_hint ?_)
  generalize hid : ("list_reverseiterator.__length_hint__" : String) = id0
  wp_delta
  rw [show splitId id0 = some ("list_reverseiterator", "__length_hint__") from by subst hid; decide +kernel]
  subst hid
  refine wpAny_bind (wpAny_isInstance (T := "list_reverseiterator") (b := true) hit.typeIs (by rw [isSubtype_type]; kernel_rfl) ?_)
  refine wpAny_ite_split (fun hab => absurd hab (by decide)) (fun _ => ?_)
  refine wpAny_ite_split (fun _ => ?_) (fun hab => absurd (by decide +kernel) hab)
  refine wpAny_ite_split (fun hab => absurd hab (by decide +kernel)) (fun _ => wpAny_pure h)
theorem extend_rev {R : Result → Shared → Prop} {r l : Addr} {items : Array Value} (hh : A.handled = none) (hit : s.heap.IsRevIter r l ((items.size : Int) - 1)) (hl : s.heap.IsList l items) (hlen : items.size ≤ sizeLine)
    (S : Addr) (res : Value) (c₀ : Nat) (hS : s.heap.get? S = some { cls := .type "list", data := .seq #[] c₀ }) (hSl : S ≠ l)
    (hR : ∀ h' tk acc' c', (∀ b o, b ≠ S → b ≠ r → s.heap.get? b = some o → h'.get? b = some o) → h'.get? S = some { cls := .type "list", dict := none, data := .seq acc' c', slots := #[] } →
      ItemsOf (fun i v => items[items.size - 1 - i]? = some v) acc' items.size → R (.ok (.ret res)) { s with heap := h', toks := tk }) :
    wpAny (model prog w) A.in1 (Builtin.List.listExtendWith (.ref S) (.ref r) res)
      (fun fin s' => match fin with | .done f => R (.ok f) s' | .again c' => c'.quiet = true ∧ codeAny (model prog w) A c' R s') (fun e s' => R (.error e) s') s := by
  obtain ⟨o, ho, hc, hd⟩ := id hit
  have hSr : S ≠ r := fun e => by rw [e, ho] at hS; cases hS; exact lri_ne hc.symm
  have hne : l ≠ r := fun e => by
    obtain ⟨ol, hol, hcl, _⟩ := hl
    rw [e, ho] at hol; cases hol; rw [hc] at hcl; exact lri_ne hcl
  have hSf : S ∉ [r, l] := fun hm => by
    rcases List.mem_cons.mp hm with e | e
    · exact hSr e
    · exact hSl (List.mem_singleton.mp e)
  have W := (Walks.listRev (prog := prog) (w := w) (A := A.in1) hh r l hne items).toS
  unfold Builtin.List.listExtendWith
  refine wpAny_bind (wpAny_typeOf hit.typeIs ?_)
  have h1 : Builtin.List.listSameRef (.ref S) (.ref r) = false := by simp [Builtin.List.listSameRef, hSr]
  have h2 : (Value.type "list_reverseiterator" == Value.type "list") = false := by decide
  have h3 : (Value.type "list_reverseiterator" == Value.type "tuple") = false := by decide
  simp only [h1, h2, h3, Bool.or_false, Bool.false_eq_true, if_false]
  refine wpAny_bind (wpAny_pyIter_revIter hit ?_)
  refine wpAny_bind (wpAny_holding (hint_rev hit ?_))
  refine wpAny_ite_split (fun hab => absurd hab (by decide +kernel)) (fun _ => wpAny_pure ⟨plainId_quiet F.plain_extend_loop _, ?_⟩)
  refine codeAny_extend_loopS W (by omega) S hSf res items.size 0 _ #[] c₀ rfl (Nat.zero_le _) ⟨Nat.zero_le _, ?_, hl⟩ hS (ItemsOf.nil _) fun s' acc' c' hm hS' hacc => ?_
  · have e : (items.size : Int) - 1 - ((0 : Nat) : Int) = (items.size : Int) - 1 := by omega
    rw [e]; exact hit
  rw [Moved.eq_with hm]
  refine hR s'.heap s'.toks acc' c' (fun b o hb hbr e => hm.heap b o (fun hmem => ?_) e) hS' hacc
  rcases List.mem_cons.mp hmem with e' | hmem
  · exact hb e'
  · exact hbr (List.mem_singleton.mp hmem)
theorem list_init_rev {R : Result → Shared → Prop} {r l : Addr} {items : Array Value} (hh : A.handled = none) (hit : s.heap.IsRevIter r l ((items.size : Int) - 1)) (hl : s.heap.IsList l items) (hlen : items.size ≤ sizeLine)
    (S : Addr) (hS : s.heap.get? S = some { cls := .type "list", data := .seq #[] }) (hSl : S ≠ l)
    (hR : ∀ h' tk acc' c', (∀ b o, b ≠ S → b ≠ r → s.heap.get? b = some o → h'.get? b = some o) → h'.get? S = some { cls := .type "list", dict := none, data := .seq acc' c', slots := #[] } →
      ItemsOf (fun i v => items[items.size - 1 - i]? = some v) acc' items.size → R (.ok (.ret .none)) { s with heap := h', toks := tk }) :
    wpAny (model prog w) A.in1 (Builtin.«list.__init__» ⟨[.ref S, .ref r], []⟩)
      (fun fin s' => match fin with | .done f => R (.ok f) s' | .again c' => c'.quiet = true ∧ codeAny (model prog w) A c' R s') (fun e s' => R (.error e) s') s := by
  obtain ⟨o, ho, hc, hd⟩ := id hit
  have hSr : S ≠ r := fun e => by rw [e, ho] at hS; cases hS; exact lri_ne hc.symm
  show wpAny _ _ (do let old ← Builtin.List.listItems (.ref S); Builtin.List.listUpdate (.ref S) (fun _ => #[]); letGo old.toList.reverse; Builtin.List.listExtendWith (.ref S) (.ref r) .none) _ _ s
  refine wpAny_bind ?_
  unfold Builtin.List.listItems
  refine wpAny_bind (wpAny_seqItems hS rfl (wpAny_pure ?_))
  show wpAny _ _ (updateSeq S (fun _ => #[]) >>= fun _ => letGo (#[] : Array Value).toList.reverse >>= fun _ => Builtin.List.listExtendWith (.ref S) (.ref r) .none) _ _ s
  refine wpAny_bind (wpAny_updateSeq hS rfl ?_)
  have hS₂ := Heap.get?_update_self (Obj.mapSeq (fun _ => (#[] : Array Value))) hS rfl
  have oth : ∀ b o, b ≠ S → s.heap.get? b = some o → (s.heap.update S (Obj.mapSeq (fun _ => (#[] : Array Value)))).get? b = some o :=
    fun b o hb e => (Heap.get?_update_other _ _ (Ne.symm hb)).trans e
  refine wpAny_bind (wpAny_letGo ?_)
  refine extend_rev hh (hit.at fun o e => oth r o (Ne.symm hSr) e) (hl.at fun o e => oth l o (Ne.symm hSl) e) hlen S .none _ hS₂ hSl fun h' tk acc' c' hk hS' hacc => ?_
  exact hR h' tk acc' c' (fun b o hb hbr e => hk b o hb hbr (oth b o hb e)) hS' hacc
theorem call_list_revIter {Q : Value → Shared → Prop} {r l : Addr} {items : Array Value} (hh : A.handled = none) (hit : s.heap.IsRevIter r l ((items.size : Int) - 1)) (hl : s.heap.IsList l items) (hlen : items.size ≤ sizeLine)
    (hQ : ∀ h' tk acc' c', (∀ b o, b ≠ r → s.heap.get? b = some o → h'.get? b = some o) →
      h'.get? s.heap.objs.size = some { cls := .type "list", dict := none, data := .seq acc' c', slots := #[] } → ItemsOf (fun i v => items[items.size - 1 - i]? = some v) acc' items.size → Q (.ref s.heap.objs.size) { s with heap := h', toks := tk }) :
    wpAny (model prog w) A (call (.type "list") [.ref r]) Q E s := by
  refine callType_codes (Q₁ := fun obj s₁ => obj = .ref s.heap.objs.size ∧ s₁ = { s with heap := s.heap.push { cls := .type "list", data := .seq #[] } }) F.called_list (F.typeCall_list_1 _) F.entry_list_init
    (code_list_new _ ⟨rfl, rfl⟩) fun obj s₁ h₁ => ?_
  obtain ⟨rfl, rfl⟩ := h₁
  have hS : (s.heap.push { cls := .type "list", data := .seq #[] }).get? s.heap.objs.size = some { cls := .type "list", data := .seq #[] } := Heap.get?_push_size _ rfl
  have hSl : s.heap.objs.size ≠ l := fun e => by
    obtain ⟨ol, hol, _⟩ := hl
    exact absurd (Heap.lt_size hol) (by rw [e]; exact Nat.lt_irrefl _)
  refine ⟨⟨_, hS, rfl⟩, F.args_list_init_2 _ _, list_init_rev (A := A.in1) hh (hit.at fun o e => Heap.get?_push_of_some _ e) (hl.at fun o e => Heap.get?_push_of_some _ e) hlen _ hS hSl fun h' tk acc' c' hk hS' hacc => ?_⟩
  exact ⟨rfl, hQ h' tk acc' c' (fun b o hbr e => hk b o (Nat.ne_of_lt (Heap.lt_size e)) hbr (Heap.get?_push_of_some _ e)) hS' hacc⟩
end
section
variable {X : Cx}
noncomputable def tRevL (K : PySem.W.Frag) (ta : TA) : TE := fun σ H Q => ta σ H fun vs H1 => ∃ (a : Addr) (xs : List V), vs = [.ref a] ∧ SqL K H1 a xs ∧ ∀ l, H1 l = none → Q (.ref l) (upd H1 l (.lst xs.reverse))
theorem rev_vals {xs : List V} {its : List Value} {acc : Array Value} (rv : Vals xs its) (h : ItemsOf (fun i v => its.toArray[its.toArray.size - 1 - i]? = some v) acc its.toArray.size) : acc.toList = its.reverse := by
  refine List.ext_getElem? fun i => ?_
  have hs : acc.size = its.length := by simpa using h.1
  by_cases hi : i < its.length
  · have e1 : acc[i]? = some acc[i] := Array.getElem?_eq_getElem (by omega)
    have e2 := h.2 i _ e1
    rw [List.getElem?_reverse hi]
    have e3 : its[its.length - 1 - i]? = some acc[i] := by simpa using e2
    rw [e3, Array.getElem?_toList]; exact e1
  · have h1 : acc.toList[i]? = none := List.getElem?_eq_none (by rw [Array.length_toList]; omega)
    have h2 : its.reverse[i]? = none := List.getElem?_eq_none (by rw [List.length_reverse]; omega)
    rw [h1, h2]
theorem pe_listrev {e : Expr} {ta : TA} {p p2 pos pos2 : Pos} (hg : Gl X "list") (hm : X.mg "list" = none) (hg2 : Gl X "reversed") (hm2 : X.mg "reversed" = none) (ha : PA X [e] ta) (hc : X.calm = true := by rfl)
    (he : starEach [e] X.env = (false, eval e X.env) :: starEach [] X.env := by rfl) (hpl : (backTo pos2 (starEach [] X.env)).any (·.1) = false := by rfl)
    (he2 : starEach [.Call (.Name "reversed" p2) [e] [] pos2] X.env = (false, eval (.Call (.Name "reversed" p2) [e] [] pos2) X.env) :: starEach [] X.env := by rfl) (hpl2 : (backTo pos (starEach [] X.env)).any (·.1) = false := by rfl) :
    PE X (.Call (.Name "list" p) [.Call (.Name "reversed" p2) [e] [] pos2] [] pos) (tRevL X.K ta) := by
  intro pins s σ H Q I h
  refine wpAny_Call_Name_kw (ld_blt I hg hm boot_list ?_ (by decide) (by decide))
  refine PyProof.Rows.callWith_type1 ?_ he2 hpl2
  rw [he2]
  refine Calls.spliced_cons ?_
  refine wpAny_Call_Name_kw (ld_blt I hg2 hm2 boot_reversed ?_ (by decide) (by decide))
  refine PyProof.Rows.callWith_type1 (thn (ha pos2 pins s σ H _ I h) fun us s1 ⟨vs, H1, I1, r1, q1⟩ => ?_) he hpl
  obtain ⟨l, xs, rfl, hq, q⟩ := q1
  obtain ⟨u, rfl, e1⟩ := vals_one r1
  cases e1
  obtain ⟨its, rv, p1, hz⟩ := I1.list hq
  refine call_reversed_list p1.isList ?_
  refine Calls.spliced_nil ?_
  have hl1 : (s1.heap.push (revObj l ((its.toArray.size : Int) - 1))).IsList l its.toArray := Heap.IsList.push p1.isList _
  have st : Heap.IsRevIter (s1.heap.push (revObj l ((its.toArray.size : Int) - 1))) s1.heap.objs.size l ((its.toArray.size : Int) - 1) := ⟨_, Heap.get?_push_size _ rfl, rfl, rfl⟩
  refine call_list_revIter (s := { s1 with heap := s1.heap.push (revObj l ((its.toArray.size : Int) - 1)) }) (I1.ok.hd hc) st hl1 (by rw [List.size_toArray, ← rv.length]; exact hz) fun h' tk acc c hk hD hacc => ?_
  have ea := rev_vals rv hacc
  have hk' : ∀ b o, s1.heap.get? b = some o → h'.get? b = some o := fun b o e => hk b o (Nat.ne_of_lt (Heap.lt_size e)) (Heap.get?_push_of_some _ e)
  have hsz : s1.heap.objs.size ≤ (s1.heap.push (revObj l ((its.toArray.size : Int) - 1))).objs.size := by rw [Heap.size_push]; omega
  have hacc' : acc = its.reverse.toArray := by rw [← ea]
  refine ⟨.ref _, _, I1.laid (t' := tk) (a := (s1.heap.push (revObj l ((its.toArray.size : Int) - 1))).objs.size) (o := .lst xs.reverse) hk' hsz ?_, rfl, q _ (I1.hok.fresh hsz)⟩
  exact ⟨by rw [List.length_reverse]; exact hz, its.reverse, c, rv.reverse, by rw [← hacc']; exact hD⟩
noncomputable def tBack (K : PySem.W.Frag) (te : TE) (ts : TO) : TE := fun σ H Q => te σ H fun x H1 => ts σ H1 fun o H2 => o = some (-1) ∧ ∃ (a : Addr) (xs : List V), x = .ref a ∧ SqL K H2 a xs ∧ ∀ l, H2 l = none → Q (.ref l) (upd H2 l (.lst xs.reverse))
theorem pe_backward (K : PySem.W.Frag) {e : Expr} {st : Expr} {te : TE} {ts : TO} {p2 pos : Pos} (he : PE X e te) (hs : PO X (some st) ts) (hK : X.K = K := by rfl) : PE X (.Subscript e (.Slice none none (some st) p2) pos) (tBack K te ts) := by
  subst hK
  intro pins s σ H Q I h
  refine Subscript_ (thn (he pins s σ H _ I h) fun v s1 ⟨x, H1, I1, r1, q1⟩ => ?_)
  refine wpAny_Slice ?_
  rw [evalPart_none]
  refine wpAny_pure ?_
  refine wpAny_pure ?_
  refine thn (hs pins s1 σ H1 _ I1 q1) fun vs s3 ⟨o, H3, I3, pu, q3⟩ => ?_
  obtain ⟨rfl, a, xs, rfl, hq, q⟩ := q3
  cases r1
  have I4 : Inv X pins σ H3 { s3 with heap := s3.heap.push { cls := .type "slice", data := .fields #[.none, .none, vs] } } := I3.kept (t' := s3.toks) fun b ob q => Heap.get?_push_of_some _ q
  obtain ⟨its, r, ht, hz⟩ := I4.list hq
  have hlen := r.length
  have hg : wpAny (model X.prog X.w) X.A (getItem (.ref a) (.ref s3.heap.objs.size)) (EP X pins σ Q) X.xe { s3 with heap := s3.heap.push { cls := .type "slice", data := .fields #[.none, .none, vs] } } := by
    refine wpAny_getItem_list_slice ht.isList (Heap.IsSliceOf.new ..) .none .none pu (by decide) ?_ (by rw [List.size_toArray] <;> omega)
    rw [PySem.W.krv_pick]
    refine ⟨.ref _, _, I4.laid (t' := s3.toks) (o := .lst xs.reverse) (fun b ob q => Heap.get?_push_of_some _ q) (Nat.le_refl _) ?_, rfl, q _ (I4.hok.fresh (Nat.le_refl _))⟩
    exact ⟨by rw [List.length_reverse]; exact hz, _, 0, r.reverse, Heap.get?_push_size _ rfl⟩
  show wpAny (model X.prog X.w) X.A (subscriptTail e (.Slice none none (some st) p2) (.ref a) (.ref s3.heap.objs.size)) (EP X pins σ Q) X.xe { s3 with heap := s3.heap.push { cls := .type "slice", data := .fields #[.none, .none, vs] } }
  exact tail_any (ops := [.ref a, .ref s3.heap.objs.size]) ht.isList.typeIs slot_list_getitem.lookup hg (by with_unfolding_all rfl)
end
end Cv
namespace Cv
open PySem PySem.Spec PyProof.Rows L2
section
variable {X : Cx} {pins : List (Addr × Obj)} {σ : L2.St} {H : Hp} {s : Shared} {h' : Heap}
theorem turnedLay {t' : Nat} {ch : List Addr} {a : Addr} {o : HO} (I : Inv X pins σ H s) (hf : ∀ b ∈ ch, FpOk X pins H b) (k : ∀ b o, b ∉ ch → s.heap.get? b = some o → h'.get? b = some o)
    (ha : s.heap.objs.size ≤ a) (new : ObjOk X.prog X.w (upd H a o) h' a o) : Inv X pins σ (upd H a o) { s with heap := h', toks := t' } := by
  have hna : H a = none := I.hok.fresh ha
  have nit : ∀ b u, H b = some u → b ∉ ch := fun b u e z => by rw [(hf b z).1] at e; cases e
  have up : ∀ b u, H b = some u → upd H a o b = some u := fun b u e => by rw [upd_ne (ne_of_none e hna)]; exact e
  refine I.step (g' := s.gens) (d' := s.drawn) (ch := ch) (fun b hb => ⟨(hf b hb).2.2.2.1, (hf b hb).2.1, (hf b hb).2.2.2.2.1, (hf b hb).2.2.2.2.2⟩) (fun b o _ _ hc e _ => k b o hc e) (fun b o _ _ hc e _ => ⟨o.slots, k b o hc e⟩) (fun b o _ e n => ?_)
    (fun b o hc e => ⟨o, k b o hc e⟩) (fun _ _ e => up _ _ e) (fun _ _ _ e => up _ _ e) (fun b ps e => ⟨#[], by rw [up _ _ e]; simp⟩) (fun m hm => ?_) (fun b u e => ?_) I.bare
  · rw [upd_ne (fun z => by rw [z] at e; exact absurd (Heap.lt_size e) (Nat.not_lt.mpr ha))]; exact n
  · obtain ⟨o, es, ep, ho, r⟩ := hm
    exact ⟨o, es, ep, k _ o (fun z => (hf _ z).2.1 rfl) ho, r⟩
  · by_cases hb : b = a
    · subst hb
      rw [upd_same] at e
      cases e
      exact new
    · rw [upd_ne hb] at e
      refine (I.hok b u e).stay (fun c v hc q => k c v ?_ q) (fun _ q => up _ _ q) fun _ _ q => up _ _ q
      rcases hc with z | z
      · rw [z]; exact nit b u e
      · exact nit c _ z
theorem turnedL {t' : Nat} {ch : List Addr} (I : Inv X pins σ H s) (hf : ∀ b ∈ ch, FpOk X pins H b) (k : ∀ b o, b ∉ ch → s.heap.get? b = some o → h'.get? b = some o) : Inv X pins σ H { s with heap := h', toks := t' } := by
  have nit : ∀ b u, H b = some u → b ∉ ch := fun b u e z => by rw [(hf b z).1] at e; cases e
  refine I.step (g' := s.gens) (d' := s.drawn) (ch := ch) (fun b hb => ⟨(hf b hb).2.2.2.1, (hf b hb).2.1, (hf b hb).2.2.2.2.1, (hf b hb).2.2.2.2.2⟩) (fun b o _ _ hc e _ => k b o hc e) (fun b o _ _ hc e _ => ⟨o.slots, k b o hc e⟩) (fun _ _ _ _ n => n)
    (fun b o hc e => ⟨o, k b o hc e⟩) (fun _ _ e => e) (fun _ _ _ e => e) (fun b ps e => ⟨#[], by rw [e]; simp⟩) (fun m hm => ?_) (fun b u e => ?_) I.bare
  · obtain ⟨o, es, ep, ho, r⟩ := hm
    exact ⟨o, es, ep, k _ o (fun z => (hf _ z).2.1 rfl) ho, r⟩
  · refine (I.hok b u e).stay (fun c v hc q => k c v ?_ q) (fun _ q => q) fun _ _ q => q
    rcases hc with z | z
    · rw [z]; exact nit b u e
    · exact nit c _ z
end
noncomputable def Itz (K : PySem.W.Frag) (l1 l2 : Addr) : It :=
  ⟨fun i H => ∃ xs ys x y, SqL K H l1 xs ∧ SqL K H l2 ys ∧ xs[i]? = some x ∧ ys[i]? = some y,
   fun i H v H' => ∃ T a b, v = .ref T ∧ H T = none ∧ H' = upd H T (.tup [a, b]) ∧ (∀ xs, SqL K H l1 xs → xs[i]? = some a) ∧ ∀ ys, SqL K H l2 ys → ys[i]? = some b,
   fun i H => ∃ xs ys, SqL K H l1 xs ∧ SqL K H l2 ys ∧ (xs[i]? = none ∨ ys[i]? = none)⟩
theorem turn_zip {P : Program} {w : World} {K : PySem.W.Frag} {elts : List Expr} {k0 : Nat} {pos : Pos} {z TI TO i1 i2 l1 l2 : Addr} (D : ZipApart z TI TO i1 i2 l1 l2) : Turn P w K (.Tuple elts k0 pos) (Itz K l1 l2) [z, TI, TO, i1, i2] z
    (fun i h => IsZip h z TI TO .none ∧ IsPair h TI (.ref i1) (.ref i2) ∧ (∃ a b, IsPair h TO a b) ∧ h.IsListIter i1 l1 i ∧ h.IsListIter i2 l2 i) where
  mem := by simp
  obj := fun i h st b hb => by
    obtain ⟨hz, hTI, ⟨a, b', hTO⟩, ⟨o1, e1, c1, d1⟩, ⟨o2, e2, c2, d2⟩⟩ := st
    simp only [List.mem_cons, List.not_mem_nil, or_false] at hb
    rcases hb with rfl | rfl | rfl | rfl | rfl
    · exact ⟨_, hz, fun v q => by have q' : Data.fields _ = Data.cell v := q; cases q'⟩
    · exact ⟨_, hTI, fun v q => by have q' : Data.seq _ _ = Data.cell v := q; cases q'⟩
    · exact ⟨_, hTO, fun v q => by have q' : Data.seq _ _ = Data.cell v := q; cases q'⟩
    · exact ⟨_, e1, fun v q => by rw [d1] at q; cases q⟩
    · exact ⟨_, e2, fun v q => by rw [d2] at q; cases q⟩
  keep := fun i h h' st k => by
    obtain ⟨hz, hTI, ⟨a, b, hTO⟩, h1, h2⟩ := st
    exact ⟨k z (by simp) _ hz, k TI (by simp) _ hTI, ⟨a, b, k TO (by simp) _ hTO⟩, h1.at fun o e => k i1 (by simp) o e, h2.at fun o e => k i2 (by simp) o e⟩
  item := by
    intro X hP hw hK hc i pins s σ H E I hf st hg
    subst hP hw hK
    obtain ⟨xs, ys, x, y, hq1, hq2, hx, hy⟩ := hg
    obtain ⟨hz, hTI, ⟨a, b, hTO⟩, h1, h2⟩ := st
    obtain ⟨its1, rv1, p1, hz1⟩ := I.list hq1
    obtain ⟨its2, rv2, p2, hz2⟩ := I.list hq2
    obtain ⟨u1, hu1, ru1⟩ := rv1.get hx
    obtain ⟨u2, hu2, ru2⟩ := rv2.get hy
    refine wpAny_pyNext_zip_item D hz hTI hTO h1 h2 p1.isList p2.isList (x := u1) (y := u2) (by simpa using hu1) (by simpa using hu2) fun h' a1 a2 a3 a4 a5 a6 a7 => ?_
    refine ⟨_, rfl, wpAny_letOwnedTupleGo_zip a1 fun h'' b1 b2 => ?_⟩
    have hT : H s.heap.objs.size = none := I.hok.fresh (Nat.le_refl _)
    have neT : ∀ {c o}, s.heap.get? c = some o → c ≠ s.heap.objs.size := fun e => Nat.ne_of_lt (Heap.lt_size e)
    have kk : ∀ b o, b ∉ [z, TI, TO, i1, i2] → s.heap.get? b = some o → h''.get? b = some o := fun b o hb e => by
      simp only [List.mem_cons, List.not_mem_nil, or_false, not_or] at hb
      exact b2.extBut b o hb.1 (a7 b o hb.1 hb.2.2.1 hb.2.2.2.1 hb.2.2.2.2 e)
    have tT : h''.get? s.heap.objs.size = some { cls := .type "tuple", data := .seq #[u1, u2] } := b2.extBut _ _ (Ne.symm (neT hz)) a5
    have I1 := turnedLay (t' := s.toks) (a := s.heap.objs.size) (o := .tup [x, y]) (h' := h'') I hf kk (Nat.le_refl _) ⟨by show 2 ≤ sizeLine; decide, [u1, u2], .cons ru1 (.cons ru2 .nil), ⟨_, tT, rfl, _, rfl⟩⟩
    refine ⟨.ref s.heap.objs.size, _, I1, rfl, ⟨s.heap.objs.size, x, y, rfl, hT, rfl, fun xs' hx' => by rw [I.list_inj hx' hq1]; exact hx, fun ys' hy' => by rw [I.list_inj hy' hq2]; exact hy⟩, ?_, fun c hc => ?_⟩
    · exact ⟨b1, b2.extBut _ _ D.TIz (a7 _ _ D.TIz D.TITO D.TIi1 D.TIi2 hTI), ⟨_, _, b2.extBut _ _ D.TOz a2⟩, a3.extBut b2.extBut D.i1z, a4.extBut b2.extBut D.i2z⟩
    · have e0 := (hf c hc).1
      rw [upd_ne ?_]
      · exact e0
      · intro q
        obtain ⟨o1, e1, _⟩ := h1
        obtain ⟨o2, e2, _⟩ := h2
        simp only [List.mem_cons, List.not_mem_nil, or_false] at hc
        rcases hc with rfl | rfl | rfl | rfl | rfl
        · exact neT hz q
        · exact neT hTI q
        · exact neT hTO q
        · exact neT e1 q
        · exact neT e2 q
  done := by
    intro X hP hw hK hc i pins s σ H E I hf st hg
    subst hP hw hK
    obtain ⟨xs, ys, hq1, hq2, hend⟩ := hg
    obtain ⟨hz, hTI, ⟨a, b, hTO⟩, h1, h2⟩ := st
    obtain ⟨its1, rv1, p1, hz1⟩ := I.list hq1
    obtain ⟨its2, rv2, p2, hz2⟩ := I.list hq2
    refine wpAny_pyNext_zip_end (I.ok.hd hc) D hz hTI hTO h1 h2 p1.isList p2.isList (hend.imp (fun e => by simpa using rv1.none_of e) fun e => by simpa using rv2.none_of e) fun h' kk => ⟨rfl, turnedL (t' := s.toks) I hf fun b o hb e => ?_⟩
    simp only [List.mem_cons, List.not_mem_nil, or_false, not_or] at hb
    exact kk b o hb.1 hb.2.2.1 hb.2.2.2.1 hb.2.2.2.2 e
  self := fun _ _ _ _ _ st h => wpAny_pyIter_zip st.1 h
section
variable {X : Cx}
noncomputable def iZip (K : PySem.W.Frag) (ta : TA) : TI := fun σ H R => ta σ H fun vs H1 => ∃ l1 l2, vs = [.ref l1, .ref l2] ∧ (∃ xs, SqL K H1 l1 xs) ∧ (∃ ys, SqL K H1 l2 ys) ∧ R (Itz K l1 l2) H1
theorem pi_zip {a b : Expr} {ta : TA} {p pos ppos : Pos} {elts : List Expr} {k0 : Nat} (hg : Gl X "zip") (hm : X.mg "zip" = none) (ha : PA X [a, b] ta) (he : starEach [a, b] X.env = (false, eval a X.env) :: starEach [b] X.env := by rfl)
    (hpl : (backTo pos (starEach [b] X.env)).any (·.1) = false := by rfl) : PI X (.Tuple elts k0 ppos) (.Call (.Name "zip" p) [a, b] [] pos) (iZip X.K ta) := by
  intro pins s σ H R I h
  refine wpAny_Call_Name_kw (ld_blt I hg hm boot_zip ?_ (by decide) (by decide))
  refine PyProof.Rows.callWith_type1 (thn (ha pos pins s σ H _ I h) fun us s1 ⟨vs, H1, I1, r1, q1⟩ => ?_) he hpl
  obtain ⟨l1, l2, rfl, ⟨xs, hq1⟩, ⟨ys, hq2⟩, q⟩ := q1
  obtain ⟨u1, u2, rfl, e1, e2⟩ := vals_two r1
  cases e1; cases e2
  obtain ⟨its1, rv1, p1, hz1⟩ := I1.list hq1
  obtain ⟨its2, rv2, p2, hz2⟩ := I1.list hq2
  have a1 : l1 < s1.heap.objs.size := by obtain ⟨_, e, _⟩ := p1.isList; exact Heap.lt_size e
  have a2 : l2 < s1.heap.objs.size := by obtain ⟨_, e, _⟩ := p2.isList; exact Heap.lt_size e
  refine call_zip_2 p1.isList p2.isList fun h' hz hTI hTO hi1 hi2 _ hk => ?_
  refine wpAny_pyIter_zip hz ?_
  refine ⟨_, [s1.heap.objs.size + 4, s1.heap.objs.size + 2, s1.heap.objs.size + 3, s1.heap.objs.size, s1.heap.objs.size + 1], _, _, H1, rfl, I1.kept (t' := s1.toks) hk, turn_zip (zipApart_new a1 a2), ⟨hz, hTI, ⟨_, _, hTO⟩, hi1, hi2⟩, fun c hc => ?_, q⟩
  have hge : s1.heap.objs.size ≤ c := by
    simp only [List.mem_cons, List.not_mem_nil, or_false] at hc
    rcases hc with rfl | rfl | rfl | rfl | rfl <;> omega
  exact I1.fpOk hge (I1.hok.fresh hge)
theorem plain_zip {K : PySem.W.Frag} {l1 l2 : Addr} {xs ys : List V} {H1 : Hp} (h1 : SqL K H1 l1 xs) (h2 : SqL K H1 l2 ys) : Plain2 K (Itz K l1 l2) H1 (min xs.length ys.length) (fun i => (xs[i]?).getD .non) (fun i => (ys[i]?).getD .non) := fun H2 s i => by
  refine ⟨fun hi => ⟨⟨xs, ys, xs[i]'(by omega), ys[i]'(by omega), s.seq h1, s.seq h2, by simp [show i < xs.length by omega], by simp [show i < ys.length by omega]⟩, fun x H' y => ?_⟩, fun e => ⟨xs, ys, s.seq h1, s.seq h2, ?_⟩⟩
  · obtain ⟨T, a, b, rfl, hT, rfl, e1, e2⟩ := y
    refine ⟨Same.new hT, T, rfl, ?_⟩
    show SqT K _ T [(xs[i]?).getD .non, (ys[i]?).getD .non]
    rw [e1 xs (s.seq h1), e2 ys (s.seq h2)]
    exact SqT.of upd_same
  · rcases Nat.le_total xs.length ys.length with h | h
    · exact .inl (List.getElem?_eq_none (by omega))
    · exact .inr (List.getElem?_eq_none (by omega))
theorem all_range (bs : List Bool) : (List.range bs.length).all (fun i => (bs[i]?).getD false) = bs.all id := by
  rw [Bool.eq_iff_iff, List.all_eq_true, List.all_eq_true]
  constructor
  · intro h b hb
    obtain ⟨i, hi, rfl⟩ := List.getElem_of_mem hb
    have := h i (List.mem_range.mpr hi)
    simpa [hi] using this
  · intro h i hi
    have hi' := List.mem_range.mp hi
    have := h bs[i] (List.getElem_mem hi')
    simpa [hi'] using this
theorem rel_bools {bs : List Bool} {us : List Value} (r : Vals (bs.map V.bl) us) : us = bs.map Value.bool := by
  induction bs generalizing us with
  | nil => cases r; rfl
  | cons b r' ih =>
    cases r with
    | cons p q => rw [List.map_cons, ← ih q]; cases p; rfl
theorem call_allB (hc : X.calm = true) : CallR X (.builtin "all") (fun xs H Q => ∃ (p : Addr) (bs : List Bool), xs = [.ref p] ∧ SqL X.K H p (bs.map V.bl) ∧ Q (.bl (bs.all id)) H) := by
  intro pins s σ H xs us Q I r h
  obtain ⟨p, bs, rfl, hq, q⟩ := h
  obtain ⟨u, rfl, ru⟩ := vals_one r
  cases ru
  obtain ⟨its, rv, pl, hz⟩ := I.list hq
  have e := rel_bools rv
  subst e
  have a1 : p < s.heap.objs.size := by obtain ⟨_, e, _⟩ := pl.isList; exact Heap.lt_size e
  have hne : p ≠ s.heap.objs.size := Nat.ne_of_lt a1
  refine call_all_walk (wpAny_pyIter_list pl.isList ⟨_, _, _, _, _, _, fun i => (bs[i]?).getD false, rfl, Walks.list (A := X.A.in1) (show X.A.in1.handled = none from I.ok.hd hc) _ p hne _, ⟨⟨_, Heap.get?_push_size _ rfl, rfl, rfl⟩, Heap.IsList.push pl.isList _⟩, fun i v s' Q' E' hv hQ => ?_, fun h' tk hk => ?_⟩)
  · have hv' : (bs.map Value.bool)[i]? = some v := by simpa using hv
    have hQ : Q' ((bs[i]?).getD false) s' := hQ
    rw [List.getElem?_map] at hv'
    cases eb : bs[i]? with
    | none => rw [eb] at hv'; cases hv'
    | some b =>
      rw [eb] at hv' hQ
      cases hv'
      exact wpAny_truthy_bool hQ
  · have ea : (List.range (bs.map Value.bool).toArray.size).all (fun i => (bs[i]?).getD false) = bs.all id := by
      rw [← all_range bs]; simp
    rw [ea]
    exact ⟨.bl _, H, I.kept (h' := h') (t' := tk) (fun b o eb => hk b o (by
      intro hm
      have : b = s.heap.objs.size := by simpa using hm
      rw [this] at eb
      exact absurd (Heap.lt_size eb) (Nat.lt_irrefl _)) (Heap.get?_push_of_some _ eb)), rfl, q⟩
end
end Cv
namespace Cv
open PySem PySem.Spec PyProof.Rows L2
section
set_option autoImplicit true
@[irreducible] noncomputable def PEi (X : Cx) (e : Expr) (t : TE) : Prop := PE X e t
@[irreducible] noncomputable def PAi (X : Cx) (e : List Expr) (t : TA) : Prop := PA X e t
@[irreducible] noncomputable def PTi (X : Cx) (e : Expr) (t : TT) : Prop := PT X e t
@[irreducible] noncomputable def PWi (X : Cx) (e : Expr) (t : TT) : Prop := PW X e t
@[irreducible] noncomputable def PSi (X : Cx) (e : Stmt) (t : TS) : Prop := PS X e t
@[irreducible] noncomputable def PSsi (X : Cx) (e : List Stmt) (t : TS) : Prop := PSs X e t
@[irreducible] noncomputable def PGi (X : Cx) (e : Expr) (t : TG) : Prop := PG X e t
@[irreducible] noncomputable def PGsi (X : Cx) (e : List Expr) (t : TGs) : Prop := PGs X e t
@[irreducible] noncomputable def PIi (X : Cx) (tg e : Expr) (t : TI) : Prop := PI X tg e t
@[irreducible] noncomputable def POi (X : Cx) (e : Option Expr) (t : TO) : Prop := PO X e t
theorem pvI  (i : Nat) {x : Str} {pos : Pos} (hN : X.N[i]? = some x := by rfl) (hv : Vis X.env.scope x := by first | exact Or.inl rfl | exact Or.inr (Or.inl rfl) | exact Or.inr (Or.inr rfl)) (hd : (x == ("__debug__" : Str)) = false := by decide) (hcd : (x == ("__classdict__" : Str)) = false := by decide) : PEi X (.Name x pos) (tVar i) := by with_unfolding_all exact pv (i := i) (hN := hN) (hv := hv) (hd := hd) (hcd := hcd)
theorem pe_intI  {i j pos} : PEi X (.Constant (.int i) j pos) (tC (.int i)) := by with_unfolding_all exact pe_int
theorem pe_blI  {b j pos} : PEi X (.Constant (.bool b) j pos) (tC (.bl b)) := by with_unfolding_all exact pe_bl
theorem pe_strI  {x j pos} : PEi X (.Constant (.str x) j pos) (tC (.str x)) := by with_unfolding_all exact pe_str
theorem pe_globI  {x : Str} {v : V} {u : Value} {pos : Pos} (hg : Gl X x) (hm : X.mg x = some u) (r : RelV v u) (hd : (x == ("__debug__" : Str)) = false := by decide) : PEi X (.Name x pos) (tC v) := by with_unfolding_all exact pe_glob (hg := hg) (hm := hm) (r := r) (hd := hd)
theorem pe_bltnI  {x : Str} {v : V} {u : Value} {pos : Pos} (hg : Gl X x) (hm : X.mg x = none) (hv : bootBuiltins x = some u) (r : RelV v u) (hn : x ≠ "__name__" := by decide) (hd : (x == ("__debug__" : Str)) = false := by decide) : PEi X (.Name x pos) (tC v) := by with_unfolding_all exact pe_bltn (hg := hg) (hm := hm) (hv := hv) (r := r) (hn := hn) (hd := hd)
theorem pe_opI  {op : Operator} {r : R2} (ho : OpR X (binaryOp op) r) (ha : PEi X a ta) (hb : PEi X b tb) : PEi X (.BinOp a op b pos) (tOp r ta tb) := by with_unfolding_all exact pe_op (ho := ho) (ha := ha) (hb := hb)
theorem pe_unI  {op : UnaryOp} {r : V → Hp → VK → Prop} (ho : UnR X (unaryOp op) r) (ha : PEi X a ta) : PEi X (.UnaryOp op a pos) (tUn r ta) := by with_unfolding_all exact pe_un (ho := ho) (ha := ha)
theorem pe_cmpRI  {op : CmpOp} {r : R2} (ho : OpR X (compareOp op) r) (ha : PEi X a ta) (hb : PEi X b tb) (hm : behindInMarks op b = false) : PEi X (.Compare a [op] [b] pos) (tOp r ta tb) := by with_unfolding_all exact pe_cmpR (ho := ho) (ha := ha) (hb := hb) (hm := hm)
theorem pe_ifExpI  {c : Expr} (hc : PTi X c tA) (ha : PEi X a ta) (hb : PEi X b tb) : PEi X (.IfExp c a b pos) (tIf tA ta tb) := by with_unfolding_all exact pe_ifExp (hc := hc) (ha := ha) (hb := hb)
theorem pe_fnI  (D : DefOk X.prog X.w X.K X.mg X.base CX k x ps sp) (hr : Room j X.A) (hx : Passes CX X E) (ha : PAi X (e :: es) t) (hk : k ≤ j := by decide) (hg : Gl X x := by rfl) (hdb : (x == ("__debug__" : Str)) = false := by decide) (he : starEach (e :: es) X.env = (false, eval e X.env) :: starEach es X.env := by rfl) (hpl : (backTo pos (starEach es X.env)).any (·.1) = false := by rfl) : PEi X (.Call (.Name x p) (e :: es) [] pos) (tFn sp E t) := by with_unfolding_all exact pe_fn (D := D) (hr := hr) (hx := hx) (ha := ha) (hk := hk) (hg := hg) (hdb := hdb) (he := he) (hpl := hpl)
theorem pe_callBI {id : String} (hc : CallR X (.builtin id) r) (hg : Gl X x) (hm : X.mg x = none) (hv : bootBuiltins x = some (.builtin id)) (ha : PAi X (e :: es) t) (hn : x ≠ "__name__" := by decide) (hdb : (x == ("__debug__" : Str)) = false := by decide) (he : starEach (e :: es) X.env = (false, eval e X.env) :: starEach es X.env := by rfl) (hpl : (backTo pos (starEach es X.env)).any (·.1) = false := by rfl) : PEi X (.Call (.Name x p) (e :: es) [] pos) (tCB r t) := by with_unfolding_all exact pe_callB (hc := hc) (hg := hg) (hm := hm) (hv := hv) (ha := ha) (hn := hn) (hdb := hdb) (he := he) (hpl := hpl)
theorem pe_callTyI  (hc : CallR X (.type T) r) (hg : Gl X x) (hm : X.mg x = none) (hv : bootBuiltins x = some (.type T)) (ha : PAi X (e :: es) t) (hn : x ≠ "__name__" := by decide) (hdb : (x == ("__debug__" : Str)) = false := by decide) (he : starEach (e :: es) X.env = (false, eval e X.env) :: starEach es X.env := by rfl) (hpl : (backTo pos (starEach es X.env)).any (·.1) = false := by rfl) : PEi X (.Call (.Name x p) (e :: es) [] pos) (tCB r t) := by with_unfolding_all exact pe_callTy (hc := hc) (hg := hg) (hm := hm) (hv := hv) (ha := ha) (hn := hn) (hdb := hdb) (he := he) (hpl := hpl)
theorem pe_bmI {id : String} (pa : PlainAttrs T) (slot : Slot T name id) (hty : typeOf (.builtin id) = pure (.type "method_descriptor")) (hm : MtR X id r) (ho : PEi X o to) (ha : PAi X (e :: es) t) (hbase : attributeBase o name X.env (eval o X.env) = eval o X.env := by rfl) (hfew : ((backTo cpos (starEach (e :: es) X.env)).all (fun x => !x.1) && (backToKw cpos (keywordEach [] X.env)).all (fun x => x.1.isSome)
      && decide ((e :: es).length + ([] : List Keyword).length + (if ([] : List Keyword).isEmpty then 0 else 1) < 30)) = true := by rfl) (hline : (apos.endLine == cpos.line) = true := by rfl) (hs : starEach (e :: es) X.env = (false, eval e X.env) :: starEach es X.env := by rfl) (hplain : (backTo cpos (starEach es X.env)).any (·.1) = false := by rfl) : PEi X (.Call (.Attribute o name apos) (e :: es) [] cpos) (tBM X.K T r to t) := by with_unfolding_all exact pe_bm (pa := pa) (slot := slot) (hty := hty) (hm := hm) (ho := ho) (ha := ha) (hbase := hbase) (hfew := hfew) (hline := hline) (hs := hs) (hplain := hplain)
theorem pe_bm0I {id : String} (pa : PlainAttrs T) (slot : Slot T name id) (hty : typeOf (.builtin id) = pure (.type "method_descriptor")) (hm : MtR X id r) (ho : PEi X o to) (hbase : attributeBase o name X.env (eval o X.env) = eval o X.env := by rfl) (hline : (apos.endLine == cpos.line) = true := by rfl) : PEi X (.Call (.Attribute o name apos) [] [] cpos) (tBM0 X.K T r to) := by with_unfolding_all exact pe_bm0 (pa := pa) (slot := slot) (hty := hty) (hm := hm) (ho := ho) (hbase := hbase) (hline := hline)
theorem pe_ixI  {r : R2} (hr : IxR X r) (ha : PEi X a ta) (hb : PEi X b tb) (hs : PlainIx b) : PEi X (.Subscript a b pos) (tOp r ta tb) := by with_unfolding_all exact pe_ix (hr := hr) (ha := ha) (hb := hb) (hs := hs)
theorem pe_sliceI {lo hi : Option Expr} {r : V → Option Int → Option Int → Hp → VK → Prop} (hr : SlR X r) (he : PEi X e te) (hl : POi X lo tl) (hu : POi X hi th) : PEi X (.Subscript e (.Slice lo hi none p2) pos) (tSl r te tl th) := by with_unfolding_all exact pe_slice (hr := hr) (he := he) (hl := hl) (hu := hu)
theorem pe_tupI  {x1} (h : PAi X es t) : PEi X (.Tuple es x1 pos) (tTup t) := by with_unfolding_all exact pe_tup (h := h)
theorem pe_lstI  (h : PAi X es t) : PEi X (.List es pos) (tLst t) := by with_unfolding_all exact pe_lst (h := h)
theorem pe_compSI  {tg elt iter : Expr} {os : List Str} {pos : Pos} {scope : Scope} {wi : TI} {g : TG} {te : TE} {caps : List (Nat × Str)} (N : List Str) (sc : Scope) (hi : PIi X tg iter wi) (hg : ∀ cl C s0 H0 fp, PGi (cxComp X scope cl (os ++ caps.map (·.2)) C s0 H0 fp) tg g) (he : ∀ cl C s0 H0 fp, PEi (cxComp X scope cl (os ++ caps.map (·.2)) C s0 H0 fp) elt te) (ok : compOk N sc scope caps = true) (hN : X.N = N := by rfl) (hsc : X.env.scope = sc := by rfl) (hc : X.calm = true := by rfl) (hfs : ∀ v, foldedSetIterable iter X.env v = pure v := by intro _; rfl) : PEi X (.ListComp elt [⟨tg, iter, [], 0⟩] scope pos) (tCompG os.length wi g te (caps.map (·.1))) := by with_unfolding_all exact pe_compS (N := N) (sc := sc) (hi := hi) (hg := hg) (he := he) (ok := ok) (hN := hN) (hsc := hsc) (hc := hc) (hfs := hfs)
theorem pe_listrevI  {e : Expr} {ta : TA} {p p2 pos pos2 : Pos} (hg : Gl X "list") (hm : X.mg "list" = none) (hg2 : Gl X "reversed") (hm2 : X.mg "reversed" = none) (ha : PAi X [e] ta) (hc : X.calm = true := by rfl) (he : starEach [e] X.env = (false, eval e X.env) :: starEach [] X.env := by rfl) (hpl : (backTo pos2 (starEach [] X.env)).any (·.1) = false := by rfl) (he2 : starEach [.Call (.Name "reversed" p2) [e] [] pos2] X.env = (false, eval (.Call (.Name "reversed" p2) [e] [] pos2) X.env) :: starEach [] X.env := by rfl) (hpl2 : (backTo pos (starEach [] X.env)).any (·.1) = false := by rfl) : PEi X (.Call (.Name "list" p) [.Call (.Name "reversed" p2) [e] [] pos2] [] pos) (tRevL X.K ta) := by with_unfolding_all exact pe_listrev (hg := hg) (hm := hm) (hg2 := hg2) (hm2 := hm2) (ha := ha) (hc := hc) (he := he) (hpl := hpl) (he2 := he2) (hpl2 := hpl2)
theorem pe_backwardI  (K : PySem.W.Frag) {e : Expr} {st : Expr} {te : TE} {ts : TO} {p2 pos : Pos} (he : PEi X e te) (hs : POi X (some st) ts) (hK : X.K = K := by rfl) : PEi X (.Subscript e (.Slice none none (some st) p2) pos) (tBack K te ts) := by with_unfolding_all exact pe_backward (K := K) (he := he) (hs := hs) (hK := hK)
theorem pa_nilI   : PAi X [] tNil := by with_unfolding_all exact pa_nil
theorem pa_consI  (ha : PEi X e te) (hr : PAi X es t) (hs : starEach (e :: es) X.env = (false, eval e X.env) :: starEach es X.env := by rfl) : PAi X (e :: es) (tCons te t) := by with_unfolding_all exact pa_cons (ha := ha) (hr := hr) (hs := hs)
theorem pt_cmpRI  {op : CmpOp} {r : R2} (ho : OpR X (compareOp op) r) (ha : PEi X a ta) (hb : PEi X b tb) (hm : behindInMarks op b = false) : PTi X (.Compare a [op] [b] pos) (tTest (tOp r ta tb)) := by with_unfolding_all exact pt_cmpR (ho := ho) (ha := ha) (hb := hb) (hm := hm)
theorem pt_chainI  {op op' : CmpOp} {r r' : R2} (ho : OpR X (compareOp op) r) (ho' : OpR X (compareOp op') r') (ha : PEi X a ta) (hb : PEi X b tb) (hc : PEi X c tc) (hm : lastMarks [op, op'] [b, c] = false := by with_unfolding_all rfl) : PTi X (.Compare a [op, op'] [b, c] pos) (tTest (tChain r r' ta tb tc)) := by with_unfolding_all exact pt_chain (ho := ho) (ho' := ho') (ha := ha) (hb := hb) (hc := hc) (hm := hm)
theorem pt_notI  (ha : PTi X a tA) : PTi X (.UnaryOp .Not a pos) (tNot tA) := by with_unfolding_all exact pt_not (ha := ha)
theorem pt_valI  {e : Expr} {t : TE} (h : PEi X e t) (he : ∀ whole, isTrue e X.env whole = (do let v ← whole; standAt e.pos; holding [v] (truthy v)) := by intro _; rfl) : PTi X e (tB t) := by with_unfolding_all exact pt_val (h := h) (he := he)
theorem PW_ptI  {X : Cx} {e : Expr} {t : TT} (h : PWi X e t) : PTi X e t := by with_unfolding_all exact L2.PW.pt (h := h)
theorem pw_and1I  (ha : PTi X a tA) : PWi X (.BoolOp .And [a] pos) tA := by with_unfolding_all exact pw_and1 (ha := ha)
theorem pw_or1I  (ha : PTi X a tA) : PWi X (.BoolOp .Or [a] pos) tA := by with_unfolding_all exact pw_or1 (ha := ha)
theorem pw_andI {rest : List Expr} (ha : PTi X a tA) (hb : PWi X (.BoolOp .And (b :: rest) pos) tB') : PWi X (.BoolOp .And (a :: b :: rest) pos) (tAnd tA tB') := by with_unfolding_all exact pw_and (ha := ha) (hb := hb)
theorem pw_orI {rest : List Expr} (ha : PTi X a tA) (hb : PWi X (.BoolOp .Or (b :: rest) pos) tB') : PWi X (.BoolOp .Or (a :: b :: rest) pos) (tOr tA tB') := by with_unfolding_all exact pw_or (ha := ha) (hb := hb)
theorem pss_nilI   : PSsi X [] tNext := by with_unfolding_all exact pss_nil
theorem pss_consI {st : Stmt} {rest : List Stmt} (h1 : PSi X st t) (h2 : PSsi X rest u) : PSsi X (st :: rest) (tSeq t u) := by with_unfolding_all exact pss_cons (h1 := h1) (h2 := h2)
theorem pss_oneI {st : Stmt} (h1 : PSi X st t) : PSsi X [st] t := by with_unfolding_all exact pss_one (h1 := h1)
theorem ps_exprI  (he : PEi X e te) (hs : swapsWith e none pos.line X.env = pure false := by rfl) : PSi X (.Expr e pos) (tDrop te) := by with_unfolding_all exact ps_expr (he := he) (hs := hs)
theorem ps_retI  (he : PEi X e te) : PSi X (.Return (some e) pos) (tRet te) := by with_unfolding_all exact ps_ret (he := he)
theorem ps_ifI  {c : Expr} {a b : List Stmt} {tc : TT} (hc : PTi X c tc) (ha : PSsi X a t) (hb : PSsi X b u) : PSi X (.If c a b pos) (tIfS tc t u) := by with_unfolding_all exact ps_if (hc := hc) (ha := ha) (hb := hb)
theorem ps_neverI {st : Stmt}  : PSi X st tNever := by with_unfolding_all exact ps_never
theorem ps_asgI  {tg e : Expr} {te : TE} {g : TG} (he : PEi X e te) (hg : PGi X tg g) (hs : swapsWithSole [tg] e pos.line X.env = pure false := by rfl) (hw : swappedStores [tg] e X.env = pure none := by rfl) (h1 : (assignEach [tg] X.env).map (·.2) = [assign tg X.env] := by rfl) : PSi X (.Assign [tg] e pos) (tAsg te g) := by with_unfolding_all exact ps_asg (he := he) (hg := hg) (hs := hs) (hw := hw) (h1 := h1)
theorem ps_setI  {i : Nat} {x : Str} {e : Expr} {te : TE} {pos' : Pos} (hN : X.N.Nodup) (hi : X.N[i]? = some x) (hx : Loc X.env.scope x) (he : PEi X e te) (hs : swapsWith e (some (.Name x pos')) pos.line X.env = pure false := by rfl) (hf : X.fn x = true ∨ X.env.scope.names.lookup x = some .local := by first | exact .inl rfl | exact .inr rfl | assumption) : PSi X (.Assign [.Name x pos'] e pos) (tAsg te (gName i)) := by with_unfolding_all exact ps_set (hN := hN) (hi := hi) (hx := hx) (he := he) (hs := hs) (hf := hf)
theorem ps_parI  {i j : Nat} {x y : Str} {a b : Expr} {ta : TA} {px py pt : Pos} {kt k2 pt2} (hc : X.calm = true) (hN : X.N.Nodup) (hi : X.N[i]? = some x) (hj : X.N[j]? = some y) (hij : i ≠ j) (hx : X.env.scope.names.lookup x = some .local) (hy : X.env.scope.names.lookup y = some .local) (ha : PAi X [a, b] ta) (hw : swappedStores [.Tuple [.Name x px, .Name y py] kt pt] (.Tuple [a, b] k2 pt2) X.env = pure (some [x, y])) (hs : swapsWithSole [.Tuple [.Name x px, .Name y py] kt pt] (.Tuple [a, b] k2 pt2) pos.line X.env = pure false := by rfl) : PSi X (.Assign [.Tuple [.Name x px, .Name y py] kt pt] (.Tuple [a, b] k2 pt2) pos) (tPar i j ta) := by with_unfolding_all exact ps_par (hc := hc) (hN := hN) (hi := hi) (hj := hj) (hij := hij) (hx := hx) (hy := hy) (ha := ha) (hw := hw) (hs := hs)
theorem ps_whileI  {c : Expr} {body : List Stmt} {tc : TT} {tb : TS} (hp : PassesOwn (model X.prog X.w) X.A X.env X.xe) (hc : PTi X c tc) (hb : PSsi X body tb) : PSi X (.While c body [] pos) (tWhile tc tb) := by with_unfolding_all exact ps_while (hp := hp) (hc := hc) (hb := hb)
theorem ps_forI  {iter : Expr} {body : List Stmt} {wi : TI} {g : TG} {tb : TS} {pos : Pos} (hp : PassesOwn (model X.prog X.w) X.A X.env X.xe) (hc : X.calm = true) (hi : PIi X tg iter wi) (hg : PGi X tg g) (hb : PSsi X body tb) (hs : ∀ x, foldedSetIterable iter X.env x = pure x := by intro _; rfl) : PSi X (.For tg iter body [] pos) (tFor wi g tb) := by with_unfolding_all exact ps_for (hp := hp) (hc := hc) (hi := hi) (hg := hg) (hb := hb) (hs := hs)
theorem ps_compSI  {tg elt iter : Expr} {os : List Str} {i : Nat} {y : Str} {py pos spos : Pos} {scope : Scope} {wi : TI} {g : TG} {te : TE} {caps : List (Nat × Str)} (N : List Str) (sc : Scope) (hNd : X.N.Nodup) (hy : X.N[i]? = some y) (hl : X.env.kindOf y = some .local) (hi : PIi X tg iter wi) (hg : ∀ cl C s0 H0 fp, PGi (cxComp X scope cl (os ++ caps.map (·.2)) C s0 H0 fp) tg g) (he : ∀ cl C s0 H0 fp, PEi (cxComp X scope cl (os ++ caps.map (·.2)) C s0 H0 fp) elt te) (ok : compOk N sc scope caps = true) (hN : X.N = N := by rfl) (hsc : X.env.scope = sc := by rfl) (hc : X.calm = true := by rfl) (hfs : ∀ v, foldedSetIterable iter X.env v = pure v := by intro _; rfl) (hsw : swapsWith (.ListComp elt [⟨tg, iter, [], 0⟩] scope pos) (some (.Name y py)) spos.line X.env = pure true := by rfl) : PSi X (.Assign [.Name y py] (.ListComp elt [⟨tg, iter, [], 0⟩] scope pos) spos) (tAsg (tCompG os.length wi g te (caps.map (·.1))) (gName i)) := by with_unfolding_all exact ps_compS (N := N) (sc := sc) (hNd := hNd) (hy := hy) (hl := hl) (hi := hi) (hg := hg) (he := he) (ok := ok) (hN := hN) (hsc := hsc) (hc := hc) (hfs := hfs) (hsw := hsw)
theorem ps_raiseI  (th : Throws X E) (c : XCls X.K X.mg x C) (ha : PAi X [e₀] ta) (hc : X.calm = true := by rfl) (hg : Gl X x := by rfl) (he : starEach [e₀] X.env = [(false, eval e₀ X.env)] := by rfl) (hd : (x == ("__debug__" : Str)) = false := by decide) : PSi X (.Raise (some (.Call (.Name x np) [e₀] [] cpos)) none pos) (tRaise E C ta) := by with_unfolding_all exact ps_raise (th := th) (c := c) (ha := ha) (hc := hc) (hg := hg) (he := he) (hd := hd)
theorem pg_nameI  {i : Nat} {x : Str} (hN : X.N.Nodup) (hi : X.N[i]? = some x) (hx : Loc X.env.scope x) (hf : X.fn x = true ∨ X.env.scope.names.lookup x = some .local := by first | exact .inl rfl | exact .inr rfl | assumption) : PGi X (.Name x pos) (gName i) := by with_unfolding_all exact pg_name (hN := hN) (hi := hi) (hx := hx) (hf := hf)
theorem pgs_nilI   : PGsi X [] gNil := by with_unfolding_all exact pgs_nil
theorem pgs_consI  {e : Expr} {es : List Expr} {t : TG} {u : TGs} (h1 : PGi X e t) (h2 : PGsi X es u) (hs : (assignEach (e :: es) X.env).map (·.2) = assign e X.env :: (assignEach es X.env).map (·.2) := by rfl) : PGsi X (e :: es) (gCons t u) := by with_unfolding_all exact pgs_cons (h1 := h1) (h2 := h2) (hs := hs)
theorem pg_tupKI  (K : PySem.W.Frag) {es : List Expr} {k : Nat} {t : TGs} {n : Nat} {pos : Pos} (hc : X.calm = true) (h : PGsi X es t) (hK : X.K = K := by rfl) (hn : (assignEach es X.env).length = n := by rfl) (hst : (assignEach es X.env).findIdx? (·.1) = none := by rfl) : PGi X (.Tuple es k pos) (gTup K n t) := by with_unfolding_all exact pg_tupK (K := K) (hc := hc) (h := h) (hK := hK) (hn := hn) (hst := hst)
theorem pg_subI  {o i : Expr} {to ti : TE} {t : TSet} (ho : PEi X o to) (hi : PEi X i ti) (hs : PSet X t) (ha : ∀ v, assign (.Subscript o i pos) X.env v = (do
      let ov ← holding [v] (eval o X.env)
      let iv ← holding [v, ov] (eval i X.env)
      standAt pos
      holding [v, ov, iv] (setItem ov iv v)
      release [v, ov, iv] []) := by intro _; rfl) : PGi X (.Subscript o i pos) (gSub to ti t) := by with_unfolding_all exact pg_sub (ho := ho) (hi := hi) (hs := hs) (ha := ha)
theorem pi_listI  {l : Expr} {tl : TE} (hl : PEi X l tl) : PIi X tg l (iList X.K tl) := by with_unfolding_all exact pi_list (hl := hl)
theorem pi_tupI  {l : Expr} {tl : TE} (hl : PEi X l tl) : PIi X tg l (iTup X.K tl) := by with_unfolding_all exact pi_tup (hl := hl)
theorem pi_range1I  {a : Expr} {ta : TA} {p pos : Pos} (hg : Gl X "range") (hm : X.mg "range" = none) (ha : PAi X [a] ta) (hs : starEach [a] X.env = [(false, eval a X.env)] := by rfl) : PIi X tg (.Call (.Name "range" p) [a] [] pos) (iRng1 ta) := by with_unfolding_all exact pi_range1 (hg := hg) (hm := hm) (ha := ha) (hs := hs)
theorem pi_zipI  {a b : Expr} {ta : TA} {p pos ppos : Pos} {elts : List Expr} {k0 : Nat} (hg : Gl X "zip") (hm : X.mg "zip" = none) (ha : PAi X [a, b] ta) (he : starEach [a, b] X.env = (false, eval a X.env) :: starEach [b] X.env := by rfl) (hpl : (backTo pos (starEach [b] X.env)).any (·.1) = false := by rfl) : PIi X (.Tuple elts k0 ppos) (.Call (.Name "zip" p) [a, b] [] pos) (iZip X.K ta) := by with_unfolding_all exact pi_zip (hg := hg) (hm := hm) (ha := ha) (he := he) (hpl := hpl)
theorem po_noneI   : POi X none tNoPart := by with_unfolding_all exact po_none
theorem po_someI  (h : PEi X e te) : POi X (some e) (tPart te) := by with_unfolding_all exact po_some (h := h)
theorem def_okI {P : Program} {w : World} {K : PySem.W.Frag} {mg : Str → Option Value} {base : Heap} {x : Str} {st : Stmt} {N ps : List Str} {k : Nat} {sp : Sp} (F : FunAt K mg x st ps) (S : FnScope N ps (defScope st)) (len : ∀ vs H Q E, sp vs H Q E → vs.length = ps.length) (hbody : ∀ (f : Addr) (cdv : Value) (A : Around) (outer : List Env) (s : Shared) (H : Hp) (vs : List V) (Q : VK) (E : XK), Room k (A.deeper (envOfC x (defScope st) s.heap.objs.size f cdv)) → sp vs H Q E →
      ∃ t, PSsi (cxOf CX0 P w K mg base N x (defScope st) f cdv A outer s H E).nox (defBody st) t ∧ t { nx := fun _ H' => Q .non H', rt := Q } (start N vs) H) : DefOk P w K mg base CX0 (k + 1) x ps sp := by with_unfolding_all exact def_ok (F := F) (S := S) (len := len) (hbody := hbody)
theorem def_okXI {P : Program} {w : World} {K : PySem.W.Frag} {mg : Str → Option Value} {base : Heap} {x : Str} {st : Stmt} {N ps : List Str} {k : Nat} {sp : Sp} (F : FunAt K mg x st ps) (S : FnScope N ps (defScope st)) (len : ∀ vs H Q E, sp vs H Q E → vs.length = ps.length) (hbody : ∀ (f : Addr) (cdv : Value) (A : Around) (outer : List Env) (s : Shared) (H : Hp) (vs : List V) (Q : VK) (E : XK), Room k (A.deeper (envOfC x (defScope st) s.heap.objs.size f cdv)) → sp vs H Q E →
      ∃ t, PSsi (cxOf (CXx P w) P w K mg base N x (defScope st) f cdv A outer s H E) (defBody st) t ∧ t { nx := fun _ H' => Q .non H', rt := Q } (start N vs) H) : DefOk P w K mg base (CXx P w) (k + 1) x ps sp := by with_unfolding_all exact def_okX (F := F) (S := S) (len := len) (hbody := hbody)
end
end Cv
namespace Cv
open PySem PySem.Spec PyProof.Rows L2
section
variable {prog : Program} {w : World} {A : Around} {E : Value → Shared → Prop} {s : Shared}
end
section
variable {X : Cx}
end
end Cv
namespace Cv
open PySem PySem.Spec PyProof.Rows L2
section
variable {X : Cx}
end
end Cv
namespace Cv
open PySem PySem.Spec PyProof.Rows L2
end Cv
namespace Cv
open PySem PySem.Spec PyProof.Rows L2
theorem uln0 {α : Type} {P : List α → Prop} (h : P []) : ∀ us : List α, us.length = 0 → P us
  | [], _ => h
theorem ulnS {α : Type} {n : Nat} {P : List α → Prop} (h : ∀ a, ∀ us : List α, us.length = n → P (a :: us)) : ∀ us : List α, us.length = n + 1 → P us
  | [], e => nomatch e
  | a :: us, e => h a us (Nat.succ.inj e)
@[elab_as_elim] theorem uln1 {α : Type} {P : List α → Prop} (h : ∀ a, P [a]) (us : List α) (hl : us.length = 1) : P us := (ulnS fun a => uln0 (h a)) us hl
@[elab_as_elim] theorem uln2 {α : Type} {P : List α → Prop} (h : ∀ a b, P [a, b]) (us : List α) (hl : us.length = 2) : P us := (ulnS fun a => ulnS fun b => uln0 (h a b)) us hl
@[elab_as_elim] theorem uln3 {α : Type} {P : List α → Prop} (h : ∀ a b c, P [a, b, c]) (us : List α) (hl : us.length = 3) : P us := (ulnS fun a => ulnS fun b => ulnS fun c => uln0 (h a b c)) us hl
@[elab_as_elim] theorem uln4 {α : Type} {P : List α → Prop} (h : ∀ a b c d, P [a, b, c, d]) (us : List α) (hl : us.length = 4) : P us := (ulnS fun a => ulnS fun b => ulnS fun c => ulnS fun d => uln0 (h a b c d)) us hl
end Cv
namespace Cv
open PySem PySem.Spec PyProof.Rows L2
theorem for_rangeH {lo : Int} {n : Nat} {g : TG} {tb : TS} {D : Ends} {σ : L2.St} {H : Hp} (Pv : Nat → L2.St → Hp → Prop) (h0 : Pv 0 σ H)
    (hs : ∀ (D' : Ends) (N : Nat → L2.St → Hp → Prop), (∀ i σ H, Pv i σ H → N i σ H) → (∀ v H, D.rt v H → D'.rt v H) → ∀ i σ H, i < n → Pv i σ H → g (.int (lo + i)) σ H fun σ2 H2 => tb { D' with nx := N (i + 1), ct := N (i + 1) } σ2 H2) (hd : ∀ σ H, Pv n σ H → D.nx σ H) :
    ∃ W : Nat → Nat → L2.St → Hp → Prop, (∃ m, W 0 m σ H) ∧ ∀ i m σ H, W i m σ H →
      ((Itr lo n).stop i H ∧ D.nx σ H) ∨ ((Itr lo n).go i H ∧ ∃ N : L2.St → Hp → Prop, (∀ σ' H', N σ' H' → ∃ m', m' < m ∧ W (i + 1) m' σ' H') ∧ ∀ x H', (Itr lo n).yld i H x H' → g x σ H' fun σ2 H2 => tb { D with nx := N, ct := N, bk := D.nx } σ2 H2) :=
  for_range Pv h0 (fun i σ H hi hp => hs { D with bk := D.nx } Pv (fun _ _ _ h => h) (fun _ _ h => h) i σ H hi hp) hd
theorem while_byH {c : TT} {tb : TS} {D : Ends} {σ : L2.St} {H : Hp} (Pv : L2.St → Hp → Prop) (μ : L2.St → Hp → Nat) (h0 : Pv σ H)
    (hs : ∀ (D' : Ends) (Z : L2.St → Hp → Prop), (∀ σ H, D.nx σ H → Z σ H) → (∀ v H, D.rt v H → D'.rt v H) → ∀ σ H, Pv σ H → ∀ N : L2.St → Hp → Prop, (∀ σ' H', Pv σ' H' ∧ μ σ' H' < μ σ H → N σ' H') → c σ H fun b H1 => if b = true then tb { D' with nx := N, ct := N } σ H1 else Z σ H1)
    (mono : ∀ σ H Q Q', (∀ b H1, Q b H1 → Q' b H1) → c σ H Q → c σ H Q') : tWhile c tb D σ H :=
  while_by Pv μ h0 (fun σ H hp => hs { D with bk := D.nx } D.nx (fun _ _ h => h) (fun _ _ h => h) σ H hp _ (fun _ _ h => h)) mono
end Cv
namespace Cv
open PySem PySem.Spec PyProof.Rows L2
theorem seqH {a b : TS} {D : Ends} {σ : L2.St} {H : Hp} (h : ∀ N : L2.St → Hp → Prop, (∀ σ' H', b D σ' H' → N σ' H') → a { D with nx := N } σ H) : tSeq a b D σ H := h _ fun _ _ h => h
end Cv
namespace Cv
open PySem PySem.Spec PyProof.Rows L2
section
variable {X : Cx}
theorem call_allBK (K : PySem.W.Frag) (hc : X.calm = true) (h : X.K = K := by rfl) : CallR X (.builtin "all") (fun xs H Q => ∃ (p : Addr) (bs : List Bool), xs = [.ref p] ∧ SqL K H p (bs.map V.bl) ∧ Q (.bl (bs.all id)) H) := by subst h; exact call_allB hc
end
end Cv
namespace Cv
open PySem PySem.Spec PyProof.Rows L2
end Cv
namespace Cv
open PySem PySem.Spec PyProof.Rows L2
noncomputable def PtV (H : Hp) (v : V) (x y : Rat) : Prop := ∃ a vx vy, v = .ref a ∧ H a = some (.tup [vx, vy]) ∧ ShV H vx x ∧ ShV H vy y
theorem PtV.same {H H' : Hp} {v : V} {x y : Rat} (h : PtV H v x y) (e : Same H H') : PtV H' v x y := by
  obtain ⟨a, vx, vy, rfl, h, h1, h2⟩ := h
  exact ⟨a, vx, vy, rfl, e _ _ h, h1.same e, h2.same e⟩
end Cv
namespace Cv
open PySem PySem.Spec PyProof.Rows L2
noncomputable def RwV (H : Hp) (v : V) (t b : Int) : Prop := ∃ a, v = .ref a ∧ H a = some (.tup [.int t, .int b])
theorem RwV.same {H H' : Hp} {v : V} {t b : Int} (h : RwV H v t b) (e : Same H H') : RwV H' v t b := by
  obtain ⟨a, rfl, h⟩ := h
  exact ⟨a, rfl, e _ _ h⟩
theorem ShV.rw {H : Hp} {v : V} {q : Rat} (h : ShV H v q) : RwV H v q.num q.den := h
end Cv
namespace Cv
open PySem PySem.Spec PyProof.Rows L2
theorem upd_keep {H : Hp} {p b : Addr} {o x : HO} (h : H p = none) (e : H b = some x) : upd H p o b = some x := by rw [upd_ne (ne_of_none e h)]; exact e
theorem Bd.zero' : Bd 1 (0 : Rat) := ⟨⟨by decide⟩, ⟨by decide⟩⟩
theorem Bd.one' : Bd 1 (1 : Rat) := ⟨⟨by decide⟩, ⟨by decide⟩⟩
theorem PtV.tup {H H' : Hp} {v : V} {x y : Rat} (h : PtV H v x y) (e : Tup H H') : PtV H' v x y := by
  obtain ⟨a, vx, vy, rfl, h, h1, h2⟩ := h
  exact ⟨a, vx, vy, rfl, e _ _ h, h1.tup e, h2.tup e⟩
theorem RwV.tup {H H' : Hp} {v : V} {x y : Int} (h : RwV H v x y) (e : Tup H H') : RwV H' v x y := by
  obtain ⟨a, rfl, h⟩ := h
  exact ⟨a, rfl, e _ _ h⟩
theorem SqL.same' {K : PySem.W.Frag} {H H' : Hp} {a : Addr} {xs : List V} (h : SqL K H a xs) (e : Same H H') : SqL K H' a xs := e.seq h
theorem SqT.same' {K : PySem.W.Frag} {H H' : Hp} {a : Addr} {xs : List V} (h : SqT K H a xs) (e : Same H H') : SqT K H' a xs := SqT.same e h
theorem at0 {α : Type} (x : α) (xs : List α) : atI (x :: xs) 0 = some x := atI_nat (j := 0) rfl
end Cv
namespace Cv
open PySem PySem.Spec PyProof.Rows L2
noncomputable def RwQ (H : Hp) (v : V) (r : Rat) (n : Nat) : Prop := ∃ t b : Int, RwV H v t b ∧ 0 < b ∧ (t : Rat) = r * (b : Rat) ∧ Sz n t ∧ Sz n b
theorem RwQ.same {H H' : Hp} {v : V} {r : Rat} {n : Nat} (h : RwQ H v r n) (e : Same H H') : RwQ H' v r n := by
  obtain ⟨t, b, h1, h2⟩ := h
  exact ⟨t, b, h1.same e, h2⟩
theorem RwQ.tup {H H' : Hp} {v : V} {r : Rat} {n : Nat} (h : RwQ H v r n) (e : Tup H H') : RwQ H' v r n := by
  obtain ⟨t, b, h1, h2⟩ := h
  exact ⟨t, b, h1.tup e, h2⟩
theorem cast_ne {b : Int} (h : 0 < b) : (b : Rat) ≠ 0 := by
  intro z
  have : b = 0 := by exact_mod_cast z
  omega
theorem mulN {n m : Nat} {i j : Int} (h1 : Sz n i) (h2 : Sz m j) (h : n + m ≤ 100000000) : CMulA i j := mulB h1 h2 h
end Cv
namespace Cv
noncomputable abbrev Pt := Rat × Rat
noncomputable def btw (t a b : Rat) : Rat := a + t * (b - a)
noncomputable def btwP (t : Rat) (p q : Pt) : Pt := (btw t p.1 q.1, btw t p.2 q.2)
noncomputable def nxP (t : Rat) (ps : List Pt) : List Pt := List.zipWith (btwP t) ps (ps.drop 1)
noncomputable def rowP (t : Rat) (ps : List Pt) : Nat → List Pt
  | 0 => ps
  | r + 1 => nxP t (rowP t ps r)
theorem nxP_len (t : Rat) (ps : List Pt) : (nxP t ps).length = ps.length - 1 := by
  unfold nxP
  rw [List.length_zipWith, List.length_drop]
  omega
theorem nxP_get (t : Rat) (ps : List Pt) (i : Nat) {p q : Pt} (h1 : ps[i]? = some p) (h2 : ps[i + 1]? = some q) : (nxP t ps)[i]? = some (btwP t p q) := by
  unfold nxP
  rw [List.getElem?_zipWith, List.getElem?_drop, h1, Nat.add_comm 1 i, h2]
theorem rowP_len (t : Rat) (ps : List Pt) : ∀ r, (rowP t ps r).length = ps.length - r
  | 0 => rfl
  | r + 1 => by
    show (nxP t (rowP t ps r)).length = _
    rw [nxP_len, rowP_len t ps r]
    omega
noncomputable def ptP (t : Rat) (ps : List Pt) : Pt := ((rowP t ps (ps.length - 1))[0]?).getD (0, 0)
theorem ptP_get (t : Rat) (ps : List Pt) (h : 1 ≤ ps.length) : rowP t ps (ps.length - 1) = [ptP t ps] := by
  have hl := rowP_len t ps (ps.length - 1)
  have e : (rowP t ps (ps.length - 1)).length = 1 := by omega
  match hq : rowP t ps (ps.length - 1), e with
  | [x], _ => unfold ptP; rw [hq]; rfl
noncomputable def Ov (D : Int) (n : Nat) (x : Rat) : Prop := ∃ m : Int, x * (D : Rat) = (m : Rat) ∧ Sz n m
theorem Ov.mono {D : Int} {n k : Nat} {x : Rat} (h : Ov D n x) (hk : n ≤ k) : Ov D k x := by
  obtain ⟨m, e, z⟩ := h
  exact ⟨m, e, z.mono hk⟩
theorem Ov.bd {D : Int} {n d : Nat} {x : Rat} (h : Ov D n x) (hD : D ≠ 0) (hd : Sz d D) : Bd (max n d) x := by
  obtain ⟨m, e, z⟩ := h
  rw [eq_divInt hD e]
  exact Bd.of z hd hD
theorem Ov.btw {D : Int} {n a : Nat} {x y t : Rat} (hx : Ov D n x) (hy : Ov D n y) (ht : Bd a t) : Ov (D * t.den) (n + a + 2) (btw t x y) := by
  obtain ⟨m1, e1, z1⟩ := hx
  obtain ⟨m2, e2, z2⟩ := hy
  refine ⟨((t.den : Int) - t.num) * m1 + t.num * m2, ?_, ?_⟩
  · have h3 := num_cast t
    simp only [Rat.intCast_add, Rat.intCast_mul, Rat.intCast_sub, Cv.btw]
    rw [← e1, ← e2, h3]
    grind
  · exact (((ht.den.sub ht.num).mul z1).add (ht.num.mul z2)).mono (by omega)
theorem Ov.add {D E : Int} {n m d e : Nat} {x y : Rat} (hx : Ov D n x) (hy : Ov E m y) (hd : Sz d D) (he : Sz e E) : Ov (D * E) (max (n + e) (m + d) + 1) (x + y) := by
  obtain ⟨m1, e1, z1⟩ := hx
  obtain ⟨m2, e2, z2⟩ := hy
  refine ⟨m1 * E + m2 * D, ?_, ?_⟩
  · simp only [Rat.intCast_add, Rat.intCast_mul]
    rw [← e1, ← e2]; grind
  · exact ((z1.mul he).add (z2.mul hd)).mono (by omega)
theorem Ov.mul {D E : Int} {n m : Nat} {x y : Rat} (hx : Ov D n x) (hy : Ov E m y) : Ov (D * E) (n + m) (x * y) := by
  obtain ⟨m1, e1, z1⟩ := hx
  obtain ⟨m2, e2, z2⟩ := hy
  refine ⟨m1 * m2, ?_, z1.mul z2⟩
  simp only [Rat.intCast_mul]
  rw [← e1, ← e2]; grind
theorem Bd.ov {n : Nat} {x : Rat} (h : Bd n x) : Ov x.den n x := ⟨x.num, (num_cast x).symm, h.num⟩
noncomputable def OvP (D : Int) (n : Nat) (p : Pt) : Prop := Ov D n p.1 ∧ Ov D n p.2
theorem ov_nx {D : Int} {n a : Nat} {t : Rat} {ps : List Pt} (ht : Bd a t) (h : ∀ p ∈ ps, OvP D n p) : ∀ p ∈ nxP t ps, OvP (D * t.den) (n + a + 2) p := by
  intro p hp
  obtain ⟨i, hi, rfl⟩ := List.getElem_of_mem hp
  have hl := nxP_len t ps
  have e1 : ps[i]? = some ps[i] := List.getElem?_eq_getElem (by omega)
  have e2 : ps[i + 1]? = some ps[i + 1] := List.getElem?_eq_getElem (by omega)
  have e3 := nxP_get t ps i e1 e2
  rw [List.getElem?_eq_getElem hi] at e3
  rw [Option.some.inj e3]
  have h1 := h ps[i] (List.getElem_mem _)
  have h2 := h ps[i + 1] (List.getElem_mem _)
  exact ⟨h1.1.btw h2.1 ht, h1.2.btw h2.2 ht⟩
theorem ov_row {D : Int} {n a : Nat} {t : Rat} {ps : List Pt} (ht : Bd a t) (h : ∀ p ∈ ps, OvP D n p) : ∀ r, ∀ p ∈ rowP t ps r, OvP (D * (t.den : Int) ^ r) (n + r * (a + 2)) p
  | 0 => by simpa [rowP] using h
  | r + 1 => by
    have q := ov_nx ht (ov_row ht h r)
    intro p hp
    have z := q p hp
    have e1 : D * (t.den : Int) ^ r * (t.den : Int) = D * (t.den : Int) ^ (r + 1) := by rw [Int.pow_succ, Int.mul_assoc]
    have e2 : n + r * (a + 2) + a + 2 = n + (r + 1) * (a + 2) := by rw [Nat.succ_mul]; omega
    rw [e1, e2] at z
    exact z
theorem sz_pow {a : Nat} {x : Int} (h : Sz a x) : ∀ r : Nat, Sz (r * a + 1) (x ^ r)
  | 0 => ⟨by simp⟩
  | r + 1 => by
    rw [Int.pow_succ]
    exact ((sz_pow h r).mul h).mono (by rw [Nat.succ_mul]; omega)
theorem pow_pos' {x : Int} (h : 0 < x) : ∀ r : Nat, 0 < x ^ r
  | 0 => by simp
  | r + 1 => by rw [Int.pow_succ]; exact Int.mul_pos (pow_pos' h r) h
end Cv
namespace Cv
open PySem PySem.Spec PyProof.Rows L2
structure PtsV (H : Hp) (vs : List V) (ps : List Pt) : Prop where
  len : vs.length = ps.length
  get : ∀ (i : Nat) v p, vs[i]? = some v → ps[i]? = some p → PtV H v p.1 p.2
theorem PtsV.tup {H H' : Hp} {vs : List V} {ps : List Pt} (h : PtsV H vs ps) (t : Tup H H') : PtsV H' vs ps := ⟨h.len, fun i v p e1 e2 => (h.get i v p e1 e2).tup t⟩
theorem PtsV.same {H H' : Hp} {vs : List V} {ps : List Pt} (h : PtsV H vs ps) (t : Same H H') : PtsV H' vs ps := h.tup t.tup
theorem PtsV.nil (H : Hp) : PtsV H [] [] := ⟨rfl, fun i v p e _ => by simp at e⟩
theorem PtsV.at {H : Hp} {vs : List V} {ps : List Pt} (h : PtsV H vs ps) {i : Nat} {p : Pt} (hp : ps[i]? = some p) : ∃ v, vs[i]? = some v ∧ PtV H v p.1 p.2 := by
  have hi : i < ps.length := (List.getElem?_eq_some_iff.mp hp).1
  have e : vs[i]? = some (vs[i]'(by rw [h.len]; exact hi)) := List.getElem?_eq_getElem _
  exact ⟨_, e, h.get i _ p e hp⟩
theorem PtsV.of {H : Hp} {vs : List V} {ps : List Pt} (hl : vs.length = ps.length) (h : ∀ (i : Nat) v p, vs[i]? = some v → ps[i]? = some p → PtV H v p.1 p.2) : PtsV H vs ps := ⟨hl, h⟩
theorem atI_last' {α : Type} (xs : List α) (v : α) (h : xs[xs.length - 1]? = some v) (hl : 1 ≤ xs.length) : atI xs (-1) = some v := by
  rcases List.eq_nil_or_concat xs with rfl | ⟨ys, y, rfl⟩
  · simp at hl
  · have : (ys ++ [y])[ys.length]? = some v := by simpa using h
    have e : y = v := by simpa using this
    subst e
    have := atI_last ys y
    simpa using this
theorem atI_nat' {α : Type} {xs : List α} {j : Nat} {i : Int} {v : α} (e : i = (j : Int)) (h : xs[j]? = some v) : atI xs i = some v := by subst e; exact atI_nat h
end Cv
namespace Cv
open PySem PySem.Spec PyProof.Rows L2
theorem cut_from {α : Type} (f : α → V) (xs : List α) (k : Nat) (h : k ≤ xs.length) : cutV (xs.map f) (some (k : Int)) none = (xs.drop k).map f := by
  unfold cutV
  have e : HT.sIx (xs.map f).length 0 (some (k : Int)) = k := by
    have := HT.sIx_nat (xs.map f).length 0 k
    rw [List.length_map] at this
    rw [List.length_map]
    exact this.trans (by omega)
  rw [e, HT.sIx_none, ← List.map_drop]
  refine List.take_of_length_le ?_
  rw [List.length_map, List.length_drop, List.length_map]
  omega
theorem cut_fromI {α : Type} (f : α → V) (xs : List α) (k : Int) (n : Nat) (e : k = (n : Int)) (h : n ≤ xs.length) : cutV (xs.map f) (some k) none = (xs.drop n).map f := by subst e; exact cut_from f xs n h
theorem low_gcd {t b x : Int} (hx : 0 ≤ x) (e : Int.gcd x 0 = Int.gcd t b) : x = (Int.gcd t b : Int) := by
  rw [Int.gcd_zero] at e
  omega
theorem ov_divInt {B m : Int} {n : Nat} (hB : B ≠ 0) (h : Sz n m) : Ov B n (Rat.divInt m B) := by
  refine ⟨m, ?_, h⟩
  rw [Rat.divInt_eq_div]
  have hb' : (B : Rat) ≠ 0 := by
    intro z
    exact hB (by exact_mod_cast z)
  grind
theorem getD_bnd {T : List Int} {lo hi : Int} (h : ∀ x ∈ T, lo ≤ x ∧ x ≤ hi) {j : Nat} (hj : j < T.length) : lo ≤ T.getD j 0 ∧ T.getD j 0 ≤ hi := by
  rw [List.getD_eq_getElem?_getD, List.getElem?_eq_getElem hj]
  exact h _ (List.getElem_mem hj)
theorem tab (T : List Int) (lo hi i : Int) (h : ∀ x ∈ T, lo ≤ x ∧ x ≤ hi) (h0 : 0 ≤ i) (h1 : i < (T.length : Int)) : ∃ v : Int, atI (T.map V.int) i = some (.int v) ∧ lo ≤ v ∧ v ≤ hi :=
  ⟨_, at_mapZ T i h0 h1, getD_bnd h (by omega)⟩
theorem sh_int (i : Int) : ((i : Rat).num = i) ∧ ((i : Rat).den = 1) := ⟨by simp, by simp⟩
theorem ShV.int {H : Hp} {a : Addr} {i : Int} (h : H a = some (.tup [.int i, .int 1])) : ShV H (.ref a) (i : Rat) := ⟨a, rfl, by rw [(sh_int i).1, (sh_int i).2]; exact h⟩
theorem Bd.intc {n : Nat} {i : Int} (h : Sz (n + 1) i) : Bd (n + 1) (i : Rat) := ⟨by rw [(sh_int i).1]; exact h, by rw [(sh_int i).2]; exact Sz.one.mono (by omega)⟩
theorem p29 : (10 : Int) ^ (29 : Int).toNat = 100000000000000000000000000000 := by decide
theorem p9 : (10 : Int) ^ (9 : Int).toNat = 1000000000 := by decide
end Cv
namespace Cv
open PySem PySem.Spec PyProof.Rows L2
structure Mp where
  a : Rat
  b : Rat
  c : Rat
  d : Rat
  e : Rat
  f : Rat
noncomputable def MpV (H : Hp) (v : V) (m : Mp) : Prop := ∃ x v0 v1 v2 v3 v4 v5, v = .ref x ∧ H x = some (.tup [v0, v1, v2, v3, v4, v5]) ∧ ShV H v0 m.a ∧ ShV H v1 m.b ∧ ShV H v2 m.c ∧ ShV H v3 m.d ∧ ShV H v4 m.e ∧ ShV H v5 m.f
theorem MpV.tup {H H' : Hp} {v : V} {m : Mp} (h : MpV H v m) (t : Tup H H') : MpV H' v m := by
  obtain ⟨x, v0, v1, v2, v3, v4, v5, rfl, h, h0, h1, h2, h3, h4, h5⟩ := h
  exact ⟨x, v0, v1, v2, v3, v4, v5, rfl, t _ _ h, h0.tup t, h1.tup t, h2.tup t, h3.tup t, h4.tup t, h5.tup t⟩
theorem MpV.same {H H' : Hp} {v : V} {m : Mp} (h : MpV H v m) (t : Same H H') : MpV H' v m := h.tup t.tup
noncomputable def ShsV (n : Nat) (H : Hp) (vs : List V) : Prop := ∀ (i : Nat) v, vs[i]? = some v → ∃ q, ShV H v q ∧ Bd n q
theorem ShsV.tup {n : Nat} {H H' : Hp} {vs : List V} (h : ShsV n H vs) (t : Tup H H') : ShsV n H' vs := fun i v e => let ⟨q, w, b⟩ := h i v e; ⟨q, w.tup t, b⟩
theorem ShsV.mono {n m : Nat} {H : Hp} {vs : List V} (h : ShsV n H vs) (hm : n ≤ m) : ShsV m H vs := fun i v e => let ⟨q, w, b⟩ := h i v e; ⟨q, w, b.mono hm⟩
theorem same_upd {H H' : Hp} {D : Addr} {o : HO} (h : H D = none) (s : Same H H') : Same H (upd H' D o) := fun b u e => by rw [upd_ne (ne_of_none e h)]; exact s b u e
theorem PtsV.one {H : Hp} {v : V} {p : Pt} (h : PtV H v p.1 p.2) : PtsV H [v] [p] := ⟨rfl, fun i w q e1 e2 => by
  cases i with
  | zero => simp at e1 e2; subst e1 e2; exact h
  | succ i => simp at e1⟩
end Cv
namespace Cv
noncomputable def prodI : List Int → Int
  | [] => 1
  | b :: r => b * prodI r
theorem prodI_append (xs ys : List Int) : prodI (xs ++ ys) = prodI xs * prodI ys := by
  induction xs with
  | nil => simp [prodI]
  | cons x r ih => simp only [List.cons_append, prodI, ih, Int.mul_assoc]
theorem prodI_snoc (xs : List Int) (y : Int) : prodI (xs ++ [y]) = prodI xs * y := by rw [prodI_append]; simp [prodI]
theorem prodI_pos {xs : List Int} (h : ∀ x ∈ xs, 0 < x) : 0 < prodI xs := by
  induction xs with
  | nil => decide
  | cons x r ih => exact Int.mul_pos (h x (.head _)) (ih fun y hy => h y (.tail _ hy))
noncomputable def axR (tops bs : List Int) : List Rat := tops.map fun x => Rat.divInt x (prodI bs)
noncomputable def nxR (t : Rat) (xs : List Rat) : List Rat := List.zipWith (btw t) xs (xs.drop 1)
theorem nxP_fst (t : Rat) (ps : List Pt) : (nxP t ps).map (·.1) = nxR t (ps.map (·.1)) := by
  unfold nxP nxR
  rw [← List.map_drop, List.zipWith_map, List.map_zipWith]
  rfl
theorem nxP_snd (t : Rat) (ps : List Pt) : (nxP t ps).map (·.2) = nxR t (ps.map (·.2)) := by
  unfold nxP nxR
  rw [← List.map_drop, List.zipWith_map, List.map_zipWith]
  rfl
noncomputable def nxT (t : Rat) (tops : List Int) : List Int := List.zipWith (fun x y => ((t.den : Int) - t.num) * x + t.num * y) tops (tops.drop 1)
theorem nxT_len (t : Rat) (tops : List Int) : (nxT t tops).length = tops.length - 1 := by
  unfold nxT
  rw [List.length_zipWith, List.length_drop]
  omega
theorem btw_tops (t : Rat) (x y P : Int) (hP : P ≠ 0) : Rat.divInt (((t.den : Int) - t.num) * x + t.num * y) (P * t.den) = btw t (Rat.divInt x P) (Rat.divInt y P) := by
  symm
  refine eq_divInt (Int.mul_ne_zero hP (den_ne t)) ?_
  have h3 := num_cast t
  have hP' : (P : Rat) ≠ 0 := by
    intro z
    exact hP (by exact_mod_cast z)
  simp only [Rat.intCast_add, Rat.intCast_mul, Rat.intCast_sub, btw, Rat.divInt_eq_div]
  rw [h3]
  grind
theorem axR_nx (t : Rat) (tops bs : List Int) (hb : ∀ b ∈ bs, 0 < b) : axR (nxT t tops) (bs ++ [(t.den : Int)]) = nxR t (axR tops bs) := by
  have hP : prodI bs ≠ 0 := by have := prodI_pos hb; omega
  unfold axR nxT nxR
  rw [List.map_zipWith, prodI_snoc, ← List.map_drop, List.zipWith_map]
  congr 1
  funext x y
  exact btw_tops t x y _ hP
theorem sz_nxT {n a : Nat} {t : Rat} {tops : List Int} (ht : Bd a t) (h : ∀ x ∈ tops, Sz n x) : ∀ x ∈ nxT t tops, Sz (n + a + 2) x := by
  intro x hx
  unfold nxT at hx
  obtain ⟨i, hi, rfl⟩ := List.getElem_of_mem hx
  rw [List.getElem_zipWith]
  exact (((ht.den.sub ht.num).mul (h _ (List.getElem_mem _))).add (ht.num.mul (h _ (List.mem_of_mem_drop (List.getElem_mem _))))).mono (by omega)
theorem int_dvd {y x u : Int} (hc : Int.gcd y x = 1) (h : y ∣ x * u) : y ∣ u := by
  have h2 : y.natAbs ∣ x.natAbs * u.natAbs := by rw [← Int.natAbs_mul]; exact Int.natAbs_dvd_natAbs.mpr h
  exact Int.natAbs_dvd_natAbs.mp (Nat.Coprime.dvd_of_dvd_mul_left hc h2)
theorem gcd_parts (a b : Int) (hb : 0 < b) : ∃ g x y : Int, (Int.gcd a b : Int) = g ∧ 0 < g ∧ a = g * x ∧ b = g * y ∧ Int.gcd x y = 1 ∧ 0 < y ∧ a.fdiv g = x ∧ b.fdiv g = y := by
  have g0 : 0 < (Int.gcd a b : Int) := by
    have := Int.gcd_pos_of_ne_zero_right a (show b ≠ 0 by omega)
    omega
  obtain ⟨x, hx⟩ : (Int.gcd a b : Int) ∣ a := Int.gcd_dvd_left ..
  obtain ⟨y, hy⟩ : (Int.gcd a b : Int) ∣ b := Int.gcd_dvd_right ..
  have hc : Int.gcd x y = 1 := by
    have h1 : Int.gcd a b = Int.gcd ((Int.gcd a b : Int) * x) ((Int.gcd a b : Int) * y) := by rw [← hx, ← hy]
    rw [Int.gcd_mul_left, Int.natAbs_natCast] at h1
    have h2 : 0 < Int.gcd a b := by omega
    have h3 : Int.gcd a b * 1 = Int.gcd a b * Int.gcd x y := by rw [Nat.mul_one]; exact h1
    exact (Nat.eq_of_mul_eq_mul_left h2 h3).symm
  generalize (Int.gcd a b : Int) = g at g0 hx hy
  have hyp : 0 < y := by
    rw [hy] at hb
    rcases Int.lt_trichotomy y 0 with h | h | h
    · have := Int.mul_neg_of_pos_of_neg g0 h; omega
    · rw [h, Int.mul_zero] at hb; omega
    · exact h
  refine ⟨g, x, y, rfl, g0, hx, hy, hc, hyp, ?_, ?_⟩
  · rw [Int.fdiv_eq_ediv_of_nonneg _ (Int.le_of_lt g0), hx]
    exact Int.mul_ediv_cancel_left _ (by omega)
  · rw [Int.fdiv_eq_ediv_of_nonneg _ (Int.le_of_lt g0), hy]
    exact Int.mul_ediv_cancel_left _ (by omega)
theorem over_step {top below b : Int} (hb : 0 < b) (hbe : 0 < below) (hg : Int.gcd top below = 1) :
    Int.gcd (top.fdiv (Int.gcd top b)) (below * b.fdiv (Int.gcd top b)) = 1 ∧ 0 < below * b.fdiv (Int.gcd top b) ∧ top.fdiv (Int.gcd top b) * b = top * b.fdiv (Int.gcd top b) ∧ 0 < (Int.gcd top b : Int) ∧ (Int.gcd top b : Int) ∣ b := by
  obtain ⟨g, x, y, eg, g0, hx, hy, hc, hyp, ex, ey⟩ := gcd_parts top b hb
  rw [eg, ex, ey]
  refine ⟨?_, Int.mul_pos hbe hyp, ?_, g0, ⟨y, hy⟩⟩
  · have h1 : Int.gcd x below = 1 := by
      have d1 : ((Int.gcd x below : Nat) : Int) ∣ top := Int.dvd_trans (Int.gcd_dvd_left ..) ⟨g, by rw [hx]; exact Int.mul_comm ..⟩
      have d2 : ((Int.gcd x below : Nat) : Int) ∣ below := Int.gcd_dvd_right ..
      have d3 : Int.gcd x below ∣ Int.gcd top below := Nat.dvd_gcd (by simpa using Int.natAbs_dvd_natAbs.mpr d1) (by simpa using Int.natAbs_dvd_natAbs.mpr d2)
      rw [hg] at d3
      exact Nat.dvd_one.mp d3
    show Nat.gcd x.natAbs (below * y).natAbs = 1
    rw [Int.natAbs_mul]
    exact Nat.Coprime.mul_right (show Nat.Coprime x.natAbs below.natAbs from h1) (show Nat.Coprime x.natAbs y.natAbs from hc)
  · rw [hx, hy]; grind
theorem low_unique {top below P T : Int} (hb : 0 < below) (hP : 0 < P) (hg : Int.gcd top below = 1) (e : top * P = T * below) : (Rat.divInt T P).num = top ∧ ((Rat.divInt T P).den : Int) = below := by
  have hc : Nat.Coprime top.natAbs below.natAbs := hg
  have hc' : Nat.Coprime top.natAbs below.toNat := by
    have : below.toNat = below.natAbs := by omega
    rw [this]; exact hc
  have q : (⟨top, below.toNat, by omega, hc'⟩ : Rat) = Rat.divInt T P := by
    rw [Rat.mk_eq_divInt]
    have e2 : ((below.toNat : Nat) : Int) = below := by omega
    rw [e2]
    exact (Rat.divInt_eq_divInt_iff (by omega) (by omega)).mpr e
  rw [← q]
  exact ⟨rfl, by show ((below.toNat : Nat) : Int) = below; omega⟩
theorem den_dvd {q : Rat} {D : Int} {n : Nat} (h : Ov D n q) : (q.den : Int) ∣ D := by
  obtain ⟨m, e, _⟩ := h
  have h1 := num_cast q
  have hd := den_cast_ne q
  have e2 : (q.num : Rat) * (D : Rat) = (m : Rat) * ((q.den : Int) : Rat) := by rw [h1, ← e]; grind
  have e3 : q.num * D = m * q.den := by exact_mod_cast e2
  have hr : Int.gcd q.den q.num = 1 := by rw [Int.gcd_comm]; exact q.reduced
  exact int_dvd hr ⟨m, by rw [e3]; exact Int.mul_comm ..⟩
theorem lcm_step {W d D : Int} (hd : 0 < d) (h1 : W ∣ D) (h2 : d ∣ D) : d ∣ W * d.fdiv (Int.gcd W d) ∧ W * d.fdiv (Int.gcd W d) ∣ D ∧ 0 < d.fdiv (Int.gcd W d) ∧ 0 < (Int.gcd W d : Int) ∧ (Int.gcd W d : Int) ∣ d := by
  obtain ⟨g, x, y, eg, g0, hx, hy, hc, hyp, ex, ey⟩ := gcd_parts W d hd
  rw [eg, ey]
  refine ⟨⟨x, by rw [hx, hy]; grind⟩, ?_, hyp, g0, ⟨y, hy⟩⟩
  obtain ⟨u, hu⟩ := h1
  obtain ⟨v, hv⟩ := h2
  have e : x * u = y * v := by
    have : g * (x * u) = g * (y * v) := by rw [← Int.mul_assoc, ← Int.mul_assoc, ← hx, ← hy, ← hu, hv]
    exact Int.eq_of_mul_eq_mul_left (by omega) this
  obtain ⟨w, hw⟩ := int_dvd (y := y) (x := x) (u := u) (by rw [Int.gcd_comm]; exact hc) ⟨v, e⟩
  exact ⟨w, by rw [hu, hw]; grind⟩
theorem sz_dvd {n : Nat} {x D : Int} (hD : D ≠ 0) (h : x ∣ D) (z : Sz n D) : Sz n x := z.le (Nat.le_of_dvd (by omega) (Int.natAbs_dvd_natAbs.mpr h))
end Cv
namespace Cv
open PySem PySem.Spec PyProof.Rows L2
structure ShL (H : Hp) (vs : List V) (qs : List Rat) : Prop where
  len : vs.length = qs.length
  get : ∀ (i : Nat) v q, vs[i]? = some v → qs[i]? = some q → ShV H v q
theorem ShL.tup {H H' : Hp} {vs : List V} {qs : List Rat} (h : ShL H vs qs) (t : Tup H H') : ShL H' vs qs := ⟨h.len, fun i v q e1 e2 => (h.get i v q e1 e2).tup t⟩
theorem ShL.same {H H' : Hp} {vs : List V} {qs : List Rat} (h : ShL H vs qs) (t : Same H H') : ShL H' vs qs := h.tup t.tup
theorem ShL.at {H : Hp} {vs : List V} {qs : List Rat} (h : ShL H vs qs) {i : Nat} {q : Rat} (hq : qs[i]? = some q) : ∃ v, vs[i]? = some v ∧ ShV H v q := by
  have hi : i < qs.length := (List.getElem?_eq_some_iff.mp hq).1
  have e : vs[i]? = some (vs[i]'(by rw [h.len]; exact hi)) := List.getElem?_eq_getElem _
  exact ⟨_, e, h.get i _ q e hq⟩
theorem ShL.atV {H : Hp} {vs : List V} {qs : List Rat} (h : ShL H vs qs) {i : Nat} {v : V} (hv : vs[i]? = some v) : ∃ q, qs[i]? = some q ∧ ShV H v q := by
  have hi : i < vs.length := (List.getElem?_eq_some_iff.mp hv).1
  have e : qs[i]? = some (qs[i]'(by rw [← h.len]; exact hi)) := List.getElem?_eq_getElem _
  exact ⟨_, e, h.get i v _ hv e⟩
theorem PtsV.atV {H : Hp} {vs : List V} {ps : List Pt} (h : PtsV H vs ps) {i : Nat} {v : V} (hv : vs[i]? = some v) : ∃ p, ps[i]? = some p ∧ PtV H v p.1 p.2 := by
  have hi : i < vs.length := (List.getElem?_eq_some_iff.mp hv).1
  have e : ps[i]? = some (ps[i]'(by rw [← h.len]; exact hi)) := List.getElem?_eq_getElem _
  exact ⟨_, e, h.get i v _ hv e⟩
noncomputable def AxV (H : Hp) (v : V) (n : Nat) (tops bs : List Int) : Prop := ∃ a lt lb, v = .ref a ∧ H a = some (.tup [.ref lt, .ref lb]) ∧ H lt = some (.lst (tops.map V.int)) ∧ H lb = some (.lst (bs.map V.int)) ∧ (∀ x ∈ tops, Sz n x) ∧ (∀ b ∈ bs, 0 < b ∧ Sz 9000 b) ∧ bs.length ≤ 100 ∧ tops.length ≤ 1000
theorem AxV.same {H H' : Hp} {v : V} {n : Nat} {tops bs : List Int} (h : AxV H v n tops bs) (s : Same H H') : AxV H' v n tops bs := by
  obtain ⟨a, lt, lb, e, h1, h2, h3, h4⟩ := h
  exact ⟨a, lt, lb, e, s _ _ h1, s _ _ h2, s _ _ h3, h4⟩
noncomputable def spCommon (K : PySem.W.Frag) : Sp := fun vs H Q _ => ∃ (a : Addr) (ws : List V) (qs : List Rat) (D : Int), vs = [.ref a] ∧ SqL K H a ws ∧ ShL H ws qs ∧ 0 < D ∧ Sz 9000 D ∧ (∀ q ∈ qs, (q.den : Int) ∣ D) ∧ qs.length ≤ 40 ∧
  ∀ (l : Addr) (bs : List Int) (H' : Hp), Same H H' → H' l = some (.lst (bs.map V.int)) → (∀ b ∈ bs, 0 < b ∧ Sz 9000 b) → (∀ q ∈ qs, (q.den : Int) ∣ prodI bs) → prodI bs ∣ D → bs.length ≤ qs.length → Q (.ref l) H'
noncomputable def spProduct (K : PySem.W.Frag) : Sp := fun vs H Q _ => ∃ (a : Addr) (bs : List Int), vs = [.ref a] ∧ SqL K H a (bs.map V.int) ∧ (∀ b ∈ bs, 0 < b ∧ Sz 9000 b) ∧ bs.length ≤ 100 ∧ Q (.int (prodI bs)) H
noncomputable def spAxis (K : PySem.W.Frag) : Sp := fun vs H Q _ => ∃ (a : Addr) (ws : List V) (qs : List Rat) (D : Int) (m : Nat), vs = [.ref a] ∧ SqL K H a ws ∧ ShL H ws qs ∧ 0 < D ∧ Sz 9000 D ∧ (∀ q ∈ qs, (q.den : Int) ∣ D ∧ Bd m q) ∧ m ≤ 9000 ∧ qs.length ≤ 40 ∧
  ∀ v tops bs H', Same H H' → AxV H' v (m + 9000) tops bs → axR tops bs = qs → bs.length ≤ qs.length → Q v H'
noncomputable def spAxes (K : PySem.W.Frag) : Sp := fun vs H Q _ => ∃ (a : Addr) (ws : List V) (ps : List Pt) (D : Int) (m : Nat), vs = [.ref a] ∧ SqL K H a ws ∧ PtsV H ws ps ∧ 0 < D ∧ Sz 9000 D ∧ (∀ p ∈ ps, ((p.1.den : Int) ∣ D ∧ Bd m p.1) ∧ (p.2.den : Int) ∣ D ∧ Bd m p.2) ∧ m ≤ 9000 ∧ ps.length ≤ 40 ∧
  ∀ c x y t1 b1 t2 b2 H', Same H H' → H' c = some (.tup [x, y]) → AxV H' x (m + 9000) t1 b1 → AxV H' y (m + 9000) t2 b2 → axR t1 b1 = ps.map (·.1) → axR t2 b2 = ps.map (·.2) → b1.length ≤ ps.length → b2.length ≤ ps.length → Q (.ref c) H'
noncomputable def spNarrowed : Sp := fun vs H Q _ => ∃ x z n tops bs t a, vs = [x, z] ∧ AxV H x n tops bs ∧ ShV H z t ∧ Bd a t ∧ a ≤ 9000 ∧ n ≤ 1000000 ∧ bs.length < 100 ∧
  ∀ v H', Same H H' → AxV H' v (n + a + 2) (nxT t tops) (bs ++ [(t.den : Int)]) → Q v H'
noncomputable def spOverAll (K : PySem.W.Frag) : Sp := fun vs H Q _ => ∃ (top : Int) (a : Addr) (bs : List Int), vs = [.int top, .ref a] ∧ SqL K H a (bs.map V.int) ∧ (∀ b ∈ bs, 0 < b ∧ Sz 9000 b) ∧ bs.length ≤ 100 ∧ ∀ v H', Same H H' → ShV H' v (Rat.divInt top (prodI bs)) → Q v H'
noncomputable def spPointsOf : Sp := fun vs H Q _ => ∃ x y n t1 b1 t2 b2, vs = [x, y] ∧ AxV H x n t1 b1 ∧ AxV H y n t2 b2 ∧ t1.length = t2.length ∧
  ∀ (l : Addr) (us : List V) (ps : List Pt) (H' : Hp), Same H H' → H l = none → H' l = some (.lst us) → PtsV H' us ps → ps.map (·.1) = axR t1 b1 → ps.map (·.2) = axR t2 b2 → Q (.ref l) H'
theorem prod_sz {bs : List Int} (h : ∀ b ∈ bs, 0 < b ∧ Sz 9000 b) : Sz (9000 * bs.length + 1) (prodI bs) := by
  induction bs with
  | nil => exact ⟨by decide⟩
  | cons b r ih =>
    show Sz _ (b * prodI r)
    exact ((h b (.head _)).2.mul (ih fun c hc => h c (.tail _ hc))).mono (by rw [List.length_cons]; omega)
theorem top_of {q : Rat} {W : Int} (hW : 0 < W) (h : (q.den : Int) ∣ W) : Rat.divInt (q.num * W.fdiv q.den) W = q := by
  have hd : 0 < (q.den : Int) := by have := q.den_pos; omega
  obtain ⟨w, hw⟩ := h
  have e : W.fdiv q.den = w := by
    rw [Int.fdiv_eq_ediv_of_nonneg _ (Int.le_of_lt hd)]
    conv => lhs; rw [hw]
    exact Int.mul_ediv_cancel_left _ (by omega)
  rw [e]
  symm
  refine eq_divInt (by omega) ?_
  have h1 := num_cast q
  rw [hw]
  simp only [Rat.intCast_mul]
  rw [h1]; grind
theorem quo_sz {n : Nat} {W d : Int} (hW : 0 < W) (hd : 0 < d) (h : d ∣ W) (z : Sz n W) : Sz n (W.fdiv d) := by
  obtain ⟨w, hw⟩ := h
  have e : W.fdiv d = w := by
    rw [Int.fdiv_eq_ediv_of_nonneg _ (Int.le_of_lt hd)]
    conv => lhs; rw [hw]
    exact Int.mul_ediv_cancel_left _ (by omega)
  rw [e]
  exact sz_dvd (by omega) ⟨d, by rw [hw]; exact Int.mul_comm ..⟩ z
theorem ints_at {bs : List Int} {i : Nat} {x : V} (h : (bs.map V.int)[i]? = some x) : ∃ b, bs[i]? = some b ∧ x = .int b := by
  rw [List.getElem?_map] at h
  cases e : bs[i]? with
  | none => rw [e] at h; cases h
  | some b => rw [e] at h; cases h; exact ⟨b, rfl, rfl⟩
theorem take_snoc {α : Type} {bs : List α} {i : Nat} {b : α} (h : bs[i]? = some b) : bs.take (i + 1) = bs.take i ++ [b] := by rw [List.take_succ, h]; rfl
theorem pairs_eq {ps : List Pt} {xs ys : List Rat} (h1 : ps.map (·.1) = xs) (h2 : ps.map (·.2) = ys) {qs : List Pt} (h3 : qs.map (·.1) = xs) (h4 : qs.map (·.2) = ys) : ps = qs := by
  subst h1 h2
  induction ps generalizing qs with
  | nil => cases qs with
    | nil => rfl
    | cons q r => simp at h3
  | cons p r ih =>
    cases qs with
    | nil => simp at h3
    | cons q s =>
      simp only [List.map_cons, List.cons.injEq] at h3 h4
      rw [ih h3.2 h4.2]
      rw [Prod.ext h3.1.symm h4.1.symm]
theorem axR_len (t b : List Int) : (axR t b).length = t.length := by unfold axR; rw [List.length_map]
theorem ints_of {α : Type} {ys : List V} {qs : List α} {f : α → Int} (hl : ys.length = qs.length) (h : ∀ (i : Nat) v, ys[i]? = some v → ∀ q, qs[i]? = some q → v = .int (f q)) : ys = (qs.map f).map V.int := by
  refine List.ext_getElem? fun i => ?_
  rw [List.getElem?_map, List.getElem?_map]
  cases e : ys[i]? with
  | none =>
    have : qs[i]? = none := List.getElem?_eq_none (by have := List.getElem?_eq_none_iff.mp e; omega)
    rw [this]; rfl
  | some v =>
    have hi : i < qs.length := by have := (List.getElem?_eq_some_iff.mp e).1; omega
    have e2 : qs[i]? = some qs[i] := List.getElem?_eq_getElem hi
    rw [h i v e _ e2, e2]; rfl
theorem axR_tops {qs : List Rat} {bs : List Int} (hb : 0 < prodI bs) (h : ∀ q ∈ qs, (q.den : Int) ∣ prodI bs) : axR (qs.map fun q => q.num * (prodI bs).fdiv q.den) bs = qs := by
  unfold axR
  rw [List.map_map]
  conv => rhs; rw [← List.map_id qs]
  refine List.map_congr_left fun q hq => ?_
  exact top_of hb (h q hq)
theorem ShL.map {H : Hp} {ys : List V} {ps : List Pt} {f : Pt → Rat} (hl : ys.length = ps.length) (h : ∀ (i : Nat) v, ys[i]? = some v → ∀ p, ps[i]? = some p → ShV H v (f p)) : ShL H ys (ps.map f) := by
  refine ⟨by rw [hl, List.length_map], fun i v q e1 e2 => ?_⟩
  rw [List.getElem?_map] at e2
  cases e3 : ps[i]? with
  | none => rw [e3] at e2; cases e2
  | some p => rw [e3] at e2; cases e2; exact h i v e1 p e3
theorem int_at {t : List Int} {i : Nat} {x : Int} (h : t[i]? = some x) : ((t.map V.int)[i]?).getD V.non = .int x := by rw [List.getElem?_map, h]; rfl
theorem pts_zip {H : Hp} {us : List V} {t1 b1 t2 b2 : List Int} (hl : us.length = t1.length) (h12 : t1.length = t2.length)
    (h : ∀ (i : Nat) v, us[i]? = some v → ∀ x y, t1[i]? = some x → t2[i]? = some y → PtV H v (Rat.divInt x (prodI b1)) (Rat.divInt y (prodI b2))) : ∃ ps : List Pt, PtsV H us ps ∧ ps.map (·.1) = axR t1 b1 ∧ ps.map (·.2) = axR t2 b2 := by
  refine ⟨(axR t1 b1).zip (axR t2 b2), ⟨?_, fun i v p e1 e2 => ?_⟩, ?_, ?_⟩
  · rw [List.length_zip, axR_len, axR_len, hl]; omega
  · rw [List.getElem?_zip_eq_some] at e2
    obtain ⟨a1, a2⟩ := e2
    unfold axR at a1 a2
    rw [List.getElem?_map] at a1 a2
    cases c1 : t1[i]? with
    | none => rw [c1] at a1; cases a1
    | some x =>
      cases c2 : t2[i]? with
      | none => rw [c2] at a2; cases a2
      | some y =>
        rw [c1] at a1; rw [c2] at a2
        have g1 : Rat.divInt x (prodI b1) = p.1 := by simpa using a1
        have g2 : Rat.divInt y (prodI b2) = p.2 := by simpa using a2
        rw [← g1, ← g2]
        exact h i v e1 x y c1 c2
  · exact List.map_fst_zip (by rw [axR_len, axR_len]; omega)
  · exact List.map_snd_zip (by rw [axR_len, axR_len]; omega)
theorem cut_tail {α : Type} (f : α → V) (xs : List α) : cutV (xs.map f) (some 1) none = (xs.drop 1).map f := by
  cases xs with
  | nil => rfl
  | cons x r => exact cut_fromI f (x :: r) 1 1 rfl (by simp)
theorem nx_ints {t : Rat} {tops : List Int} {ys : List V} (hl : ys.length = min tops.length (tops.drop 1).length)
    (h : ∀ (i : Nat) v, ys[i]? = some v → ∀ x y, tops[i]? = some x → tops[i + 1]? = some y → v = .int (((t.den : Int) - t.num) * x + t.num * y)) : ys = (nxT t tops).map V.int := by
  rw [List.length_drop] at hl
  refine List.ext_getElem? fun i => ?_
  rw [List.getElem?_map]
  unfold nxT
  rw [List.getElem?_zipWith, List.getElem?_drop, Nat.add_comm 1 i]
  cases e : ys[i]? with
  | none =>
    have hi := List.getElem?_eq_none_iff.mp e
    have : tops[i + 1]? = none := List.getElem?_eq_none (by omega)
    rw [this]
    cases tops[i]? <;> rfl
  | some v =>
    have hi : i < ys.length := (List.getElem?_eq_some_iff.mp e).1
    have e1 : tops[i]? = some (tops[i]'(by omega)) := List.getElem?_eq_getElem _
    have e2 : tops[i + 1]? = some (tops[i + 1]'(by omega)) := List.getElem?_eq_getElem _
    rw [h i v e _ _ e1 e2, e1, e2]; rfl
end Cv
namespace Cv
open PySem PySem.Spec PyProof.Rows L2
structure Fine (ps : List Pt) (D : Int) (m : Nat) : Prop where
  pos : 0 < D
  sz : Sz 9000 D
  dv : ∀ p ∈ ps, ((p.1.den : Int) ∣ D ∧ Bd m p.1) ∧ (p.2.den : Int) ∣ D ∧ Bd m p.2
  m : m ≤ 9000
  l1 : 1 ≤ ps.length
  l2 : ps.length ≤ 12
theorem fine_of {B : Int} {n d : Nat} {ps : List Pt} (hB : 0 < B) (zB : Sz d B) (h : ∀ p ∈ ps, OvP B n p) (h1 : 1 ≤ ps.length) (h2 : ps.length ≤ 12) (hn : n ≤ 9000) (hd : d ≤ 9000) : Fine ps B (max n d) :=
  ⟨hB, zB.mono hd, fun p hp => ⟨⟨den_dvd (h p hp).1, (h p hp).1.bd (by omega) zB⟩, den_dvd (h p hp).2, (h p hp).2.bd (by omega) zB⟩, by omega, h1, h2⟩
noncomputable def rowsBy (ts : List Rat) (ps : List Pt) : List Pt := ts.foldl (fun r t => nxP t r) ps
noncomputable def polP (ts : List Rat) (ps : List Pt) : Pt := ((rowsBy ts ps)[0]?).getD (0, 0)
theorem rowsBy_snoc (ts : List Rat) (t : Rat) (ps : List Pt) : rowsBy (ts ++ [t]) ps = nxP t (rowsBy ts ps) := by unfold rowsBy; rw [List.foldl_append]; rfl
theorem rowsBy_len (ts : List Rat) (ps : List Pt) : (rowsBy ts ps).length = ps.length - ts.length := by
  induction ts generalizing ps with
  | nil => simp [rowsBy]
  | cons t r ih =>
    show (rowsBy r (nxP t ps)).length = _
    rw [ih, nxP_len, List.length_cons]; omega
theorem rowsBy_rep (t : Rat) (ps : List Pt) : ∀ r, rowsBy (List.replicate r t) ps = rowP t ps r
  | 0 => rfl
  | r + 1 => by
    rw [List.replicate_succ', rowsBy_snoc, rowsBy_rep t ps r]; rfl
theorem polP_get (ts : List Rat) (ps : List Pt) (h : ps.length = ts.length + 1) : rowsBy ts ps = [polP ts ps] := by
  have hl := rowsBy_len ts ps
  have e : (rowsBy ts ps).length = 1 := by omega
  match hq : rowsBy ts ps, e with
  | [x], _ => unfold polP; rw [hq]; rfl
theorem AxV.lst {H : Hp} {v : V} {n : Nat} {tops bs : List Int} {l : Addr} {ls : List Addr} {o : HO} (h : AxV H v n tops bs) (hl : H l = some (.lst (ls.map V.ref))) (h1 : 1 ≤ ls.length) : AxV (upd H l o) v n tops bs := by
  obtain ⟨a, lt, lb, e, g1, g2, g3, g4⟩ := h
  have ne : ∀ (b : Addr) (xs : List Int), H b = some (.lst (xs.map V.int)) → b ≠ l := fun b xs e z => by
    rw [z, hl] at e
    have e' : ls.map V.ref = xs.map V.int := by simpa using e
    cases ls with
    | nil => simp at h1
    | cons x r =>
      cases xs with
      | nil => simp at e'
      | cons y s => simp at e'
  have na : a ≠ l := fun z => by rw [z, hl] at g1; cases g1
  exact ⟨a, lt, lb, e, by rw [upd_ne na]; exact g1, by rw [upd_ne (ne _ _ g2)]; exact g2, by rw [upd_ne (ne _ _ g3)]; exact g3, g4⟩
noncomputable def spPolar (K : PySem.W.Frag) : Sp := fun vs H Q _ => ∃ (a b : Addr) (ws zs : List V) (ps : List Pt) (ts : List Rat) (D : Int) (m ta : Nat), vs = [.ref a, .ref b] ∧ SqL K H a ws ∧ PtsV H ws ps ∧ SqL K H b zs ∧ ShL H zs ts ∧ (∀ t ∈ ts, Bd ta t) ∧ ta ≤ 9000 ∧ Fine ps D m ∧ ps.length = ts.length + 1 ∧
  ∀ v H', Same H H' → PtV H' v (polP ts ps).1 (polP ts ps).2 → Q v H'
theorem flat_rep {α : Type} (n : Nat) (x : α) : (List.replicate n [x]).flatten = List.replicate n x := by
  induction n with
  | zero => rfl
  | succ n ih => rw [List.replicate_succ, List.flatten_cons, ih, List.replicate_succ]; rfl
theorem ShL.reps {H : Hp} {x y : V} {s t : Rat} {n1 n2 m1 m2 : Nat} (h1 : n1 = m1) (h2 : n2 = m2) (hx : ShV H x s) (hy : ShV H y t) : ShL H ((List.replicate n1 [x]).flatten ++ (List.replicate n2 [y]).flatten) (List.replicate m1 s ++ List.replicate m2 t) := by
  subst h1 h2
  rw [flat_rep, flat_rep]
  refine ⟨by simp, fun i v q e1 e2 => ?_⟩
  by_cases hi : i < n1
  · rw [List.getElem?_append_left (by simpa using hi), List.getElem?_replicate, if_pos hi] at e1 e2
    cases e1; cases e2; exact hx
  · rw [List.getElem?_append_right (by simp; omega)] at e1 e2
    simp only [List.length_replicate] at e1 e2
    rw [List.getElem?_replicate] at e1 e2
    by_cases hj : i - n1 < n2
    · rw [if_pos hj] at e1 e2; cases e1; cases e2; exact hy
    · rw [if_neg hj] at e1; cases e1
end Cv
namespace Cv
open PySem PySem.Spec PyProof.Rows L2
end Cv
namespace Cv
end Cv
namespace Cv
end Cv
namespace Cv
open PySem PySem.Spec PyProof.Rows L2
noncomputable def spTurned (K : PySem.W.Frag) : Sp := fun vs H Q _ => ∃ (a : Addr) (ws : List V), vs = [.ref a] ∧ SqL K H a ws ∧ ∀ l, H l = none → Q (.ref l) (upd H l (.lst ws.reverse))
end Cv
namespace Cv
open PySem PySem.Spec PyProof.Rows L2
section
variable {X : Cx}
end
noncomputable def spPoint (K : PySem.W.Frag) : Sp := fun vs H Q _ => ∃ (a : Addr) (z : V) (ws : List V) (ps : List Pt) (t : Rat) (D : Int) (m ta : Nat), vs = [.ref a, z] ∧ SqL K H a ws ∧ PtsV H ws ps ∧ ShV H z t ∧ Bd ta t ∧ ta ≤ 9000 ∧ Fine ps D m ∧
  ∀ v H', Same H H' → PtV H' v (ptP t ps).1 (ptP t ps).2 → Q v H'
theorem rep_flat {H : Hp} {z : V} {t : Rat} {n m : Nat} (h : n = m) (hz : ShV H z t) : ShL H ((List.replicate n [z]).flatten) (List.replicate m t) := by
  have := ShL.reps (n2 := 0) (m2 := 0) h rfl hz hz
  simpa using this
theorem pt_pol (t : Rat) (ps : List Pt) : polP (List.replicate (ps.length - 1) t) ps = ptP t ps := by
  unfold polP ptP
  rw [rowsBy_rep]
theorem ShL.nil (H : Hp) : ShL H [] [] := ⟨rfl, fun i v q e => by simp at e⟩
theorem len2 {α : Type} {l : List α} (h : l.length = 2) : ∃ x y, l = [x, y] := by
  match l, h with
  | [x, y], _ => exact ⟨x, y, rfl⟩
end Cv
namespace Cv
open PySem PySem.Spec PyProof.Rows L2
noncomputable def ch : Nat → Nat → Nat
  | _, 0 => 1
  | 0, _ + 1 => 0
  | n + 1, k + 1 => ch n k + ch n (k + 1)
noncomputable def sm (f : Nat → Rat) : Nat → Rat
  | 0 => 0
  | n + 1 => sm f n + f n
noncomputable def gX (ps : List Pt) (j : Nat) : Rat := ((ps[j]?).getD (0, 0)).1
noncomputable def gY (ps : List Pt) (j : Nat) : Rat := ((ps[j]?).getD (0, 0)).2
theorem for_plain2 {K : PySem.W.Frag} {J : It} {H1 : Hp} {n : Nat} {f f' : Nat → V} {g : TG} {tb : TS} {D : Ends} {σ : L2.St} (hJ : Plain2 K J H1 n f f') (Pv : Nat → L2.St → Hp → Prop) (h0 : Pv 0 σ H1) (hS : ∀ i σ H, Pv i σ H → Same H1 H)
    (hs : ∀ i a σ H H', i < n → Pv i σ H → Same H H' → SqT K H' a [f i, f' i] → g (.ref a) σ H' fun σ2 H2 => tb { D with nx := Pv (i + 1), ct := Pv (i + 1), bk := D.nx } σ2 H2) (hd : ∀ σ H, Pv n σ H → D.nx σ H) :
    ∃ W : Nat → Nat → L2.St → Hp → Prop, (∃ m, W 0 m σ H1) ∧ ∀ i m σ H, W i m σ H →
      (J.stop i H ∧ D.nx σ H) ∨ (J.go i H ∧ ∃ N : L2.St → Hp → Prop, (∀ σ' H', N σ' H' → ∃ m', m' < m ∧ W (i + 1) m' σ' H') ∧ ∀ x H', J.yld i H x H' → g x σ H' fun σ2 H2 => tb { D with nx := N, ct := N, bk := D.nx } σ2 H2) := by
  refine ⟨fun i m σ H => m = n - i ∧ i ≤ n ∧ Pv i σ H, ⟨n, by simp, Nat.zero_le _, h0⟩, ?_⟩
  rintro i m σ H ⟨rfl, hi, p⟩
  have q := hJ H (hS i σ H p) i
  by_cases hlt : i < n
  · refine .inr ⟨(q.1 hlt).1, Pv (i + 1), fun σ' H' p' => ⟨n - (i + 1), by omega, rfl, hlt, p'⟩, fun x H' y => ?_⟩
    obtain ⟨s, a, rfl, ht⟩ := (q.1 hlt).2 x H' y
    exact hs i a σ H H' hlt p s ht
  · have e : i = n := by omega
    subst e
    exact .inl ⟨q.2 rfl, hd σ H p⟩
theorem pw_sz {x : Int} (h : Sz 300 x) {n : Nat} (hn : n ≤ 12) : Sz 4000 (x ^ n) := by
  have := sz_pow h n
  exact this.mono (by have : n * 300 ≤ 12 * 300 := Nat.mul_le_mul_right _ hn; omega)
theorem range_snoc {α : Type} (f : Nat → α) (n : Nat) : (List.range (n + 1)).map f = (List.range n).map f ++ [f n] := by rw [List.range_succ, List.map_append]; rfl
end Cv
namespace Cv
open PySem PySem.Spec PyProof.Rows L2
section
variable {X : Cx}
end
end Cv
namespace Cv
open PySem PySem.Spec PyProof.Rows L2
noncomputable def Ite (K : PySem.W.Frag) (l : Addr) : It :=
  ⟨fun i H => ∃ xs x, SqL K H l xs ∧ xs[i]? = some x,
   fun i H v H' => ∃ T a, v = .ref T ∧ H T = none ∧ H' = upd H T (.tup [.int (i : Int), a]) ∧ ∀ xs, SqL K H l xs → xs[i]? = some a,
   fun i H => ∃ xs, SqL K H l xs ∧ xs[i]? = none⟩
theorem turn_enum {P : Program} {w : World} {K : PySem.W.Frag} {elts : List Expr} {k0 : Nat} {pos : Pos} {e it l : Addr} (hei : e ≠ it) : Turn P w K (.Tuple elts k0 pos) (Ite K l) [e, it] e
    (fun i h => (∃ old, IsEnum h e it (i : Int) old) ∧ h.IsListIter it l i) where
  mem := by simp
  obj := fun i h st b hb => by
    obtain ⟨⟨old, he⟩, ⟨o1, e1, c1, d1⟩⟩ := st
    simp only [List.mem_cons, List.not_mem_nil, or_false] at hb
    rcases hb with rfl | rfl
    · exact ⟨_, he, fun v q => by have q' : Data.fields _ = Data.cell v := q; cases q'⟩
    · exact ⟨_, e1, fun v q => by rw [d1] at q; cases q⟩
  keep := fun i h h' st k => by
    obtain ⟨⟨old, he⟩, h1⟩ := st
    exact ⟨⟨old, k e (by simp) _ he⟩, h1.at fun o e => k it (by simp) o e⟩
  item := by
    intro X hP hw hK hc i pins s σ H E I hf st hg
    subst hP hw hK
    obtain ⟨xs, x, hq1, hx⟩ := hg
    obtain ⟨⟨old, he⟩, h1⟩ := st
    obtain ⟨its1, rv1, p1, hz1⟩ := I.list hq1
    obtain ⟨u1, hu1, ru1⟩ := rv1.get hx
    refine wpAny_pyNext_enum_item he h1 p1.isList (x := u1) (by simpa using hu1) hei fun h' a1 a2 a3 a4 a5 => ?_
    refine ⟨_, rfl, wpAny_letOwnedTupleGo_enum a1 fun h'' b1 b2 => ?_⟩
    have hT : H s.heap.objs.size = none := I.hok.fresh (Nat.le_refl _)
    have neT : ∀ {c o}, s.heap.get? c = some o → c ≠ s.heap.objs.size := fun e => Nat.ne_of_lt (Heap.lt_size e)
    have kk : ∀ b o, b ∉ [e, it] → s.heap.get? b = some o → h''.get? b = some o := fun b o hb e' => by
      simp only [List.mem_cons, List.not_mem_nil, or_false, not_or] at hb
      exact b2.extBut b o hb.1 (a5 b o hb.1 hb.2 e')
    have tT : h''.get? s.heap.objs.size = some { cls := .type "tuple", data := .seq #[.int i s.toks, u1] } := b2.extBut _ _ (Ne.symm (neT he)) a3
    have I1 := turnedLay (t' := s.toks + 1) (a := s.heap.objs.size) (o := .tup [.int (i : Int), x]) (h' := h'') I hf kk (Nat.le_refl _) ⟨by show 2 ≤ sizeLine; decide, [.int i s.toks, u1], .cons ⟨_, rfl⟩ (.cons ru1 .nil), ⟨_, tT, rfl, _, rfl⟩⟩
    refine ⟨.ref s.heap.objs.size, _, I1, rfl, ⟨s.heap.objs.size, x, rfl, hT, rfl, fun xs' hx' => by rw [I.list_inj hx' hq1]; exact hx⟩, ?_, fun c hc => ?_⟩
    · refine ⟨⟨u1, ?_⟩, a2.extBut b2.extBut (Ne.symm hei)⟩
      have : ((i + 1 : Nat) : Int) = (i : Int) + 1 := by omega
      rw [this]; exact b1
    · have e0 := (hf c hc).1
      rw [upd_ne ?_]
      · exact e0
      · intro q
        obtain ⟨o1, e1, _⟩ := h1
        simp only [List.mem_cons, List.not_mem_nil, or_false] at hc
        rcases hc with rfl | rfl
        · exact neT he q
        · exact neT e1 q
  done := by
    intro X hP hw hK hc i pins s σ H E I hf st hg
    subst hP hw hK
    obtain ⟨xs, hq1, hend⟩ := hg
    obtain ⟨⟨old, he⟩, h1⟩ := st
    obtain ⟨its1, rv1, p1, hz1⟩ := I.list hq1
    refine wpAny_pyNext_enum_end (I.ok.hd hc) he h1 p1.isList (by simpa using rv1.none_of hend) fun h' kk => ⟨rfl, turnedL (t' := s.toks) I hf fun b o hb e' => ?_⟩
    simp only [List.mem_cons, List.not_mem_nil, or_false, not_or] at hb
    exact kk b o hb.2 e'
  self := fun _ _ _ _ _ st h => by
    obtain ⟨⟨old, he⟩, _⟩ := st
    exact wpAny_pyIter_enum he h
section
variable {X : Cx}
noncomputable def iEnum (K : PySem.W.Frag) (ta : TA) : TI := fun σ H R => ta σ H fun vs H1 => ∃ l, vs = [.ref l] ∧ (∃ xs, SqL K H1 l xs) ∧ R (Ite K l) H1
theorem pi_enum {a : Expr} {ta : TA} {p pos ppos : Pos} {elts : List Expr} {k0 : Nat} (hg : Gl X "enumerate") (hm : X.mg "enumerate" = none) (ha : PA X [a] ta) (he : starEach [a] X.env = (false, eval a X.env) :: starEach [] X.env := by rfl)
    (hpl : (backTo pos (starEach [] X.env)).any (·.1) = false := by rfl) : PI X (.Tuple elts k0 ppos) (.Call (.Name "enumerate" p) [a] [] pos) (iEnum X.K ta) := by
  intro pins s σ H R I h
  refine wpAny_Call_Name_kw (ld_blt I hg hm boot_enumerate ?_ (by decide) (by decide))
  refine PyProof.Rows.callWith_type1 (thn (ha pos pins s σ H _ I h) fun us s1 ⟨vs, H1, I1, r1, q1⟩ => ?_) he hpl
  obtain ⟨l, rfl, ⟨xs, hq1⟩, q⟩ := q1
  obtain ⟨u1, rfl, e1⟩ := vals_one r1
  cases e1
  obtain ⟨its1, rv1, p1, hz1⟩ := I1.list hq1
  refine call_enumerate_list p1.isList fun h' he' hit hsz hk => ?_
  refine wpAny_pyIter_enum he' ?_
  refine ⟨_, [s1.heap.objs.size + 1, s1.heap.objs.size], _, _, H1, rfl, I1.kept (t' := s1.toks) hk, turn_enum (Nat.succ_ne_self _), ⟨⟨_, he'⟩, hit⟩, fun c hc => ?_, q⟩
  have hge : s1.heap.objs.size ≤ c := by
    simp only [List.mem_cons, List.not_mem_nil, or_false] at hc
    rcases hc with rfl | rfl <;> omega
  exact I1.fpOk hge (I1.hok.fresh hge)
theorem pi_enumI {a : Expr} {ta : TA} {p pos ppos : Pos} {elts : List Expr} {k0 : Nat} (hg : Gl X "enumerate") (hm : X.mg "enumerate" = none) (ha : PAi X [a] ta) (he : starEach [a] X.env = (false, eval a X.env) :: starEach [] X.env := by rfl)
    (hpl : (backTo pos (starEach [] X.env)).any (·.1) = false := by rfl) : PIi X (.Tuple elts k0 ppos) (.Call (.Name "enumerate" p) [a] [] pos) (iEnum X.K ta) := by with_unfolding_all exact pi_enum hg hm (ha := ha) (he := he) (hpl := hpl)
end
section
variable {X : Cx}
theorem call_minL (hc : X.calm = true) : CallR X (.builtin "min") (fun xs H Q => ∃ (p : Addr) (ns : List Int), xs = [.ref p] ∧ SqL X.K H p (ns.map V.int) ∧ 0 < ns.length ∧ ∀ M, M ∈ ns → (∀ a ∈ ns, M ≤ a) → Q (.int M) H) := by
  intro pins s σ H xs us Q I r h
  obtain ⟨p, ns, rfl, hq, hne, q⟩ := h
  obtain ⟨u, rfl, ru⟩ := vals_one r
  cases ru
  obtain ⟨its, rv, pl, hz⟩ := I.list hq
  have hi : IntsAre its ns := intsAre_of rv
  obtain ⟨ys, e⟩ := hi.allInts.items
  have hns : ns = ys.toList.map (·.1) := by rw [← hi.numsOf, ← nums_intItems, ← e]
  have hsz : 0 < ys.size := by have h3 := hne; rw [hns, List.length_map, Array.length_toList] at h3; exact h3
  have hl' : s.heap.IsList p (intItems ys) := e ▸ pl.isList
  refine min_intList (show X.A.handled = none from I.ok.hd hc) hl' hsz fun v h' tk hv hk => ?_
  obtain ⟨t, rfl⟩ := intItems_at hv
  obtain ⟨h1, h2⟩ := argBest_lt (numAt ys) (ys.size - 1)
  refine ⟨.int _, H, I.kept (h' := h') (t' := tk) hk, ⟨_, rfl⟩, q _ ?_ fun a ha => ?_⟩
  · rw [hns, numAt_eq]; exact getD_mem (by rw [List.length_map, Array.length_toList]; omega)
  · rw [hns] at ha
    obtain ⟨j, hj, rfl⟩ := mem_getD ha
    rw [List.length_map, Array.length_toList] at hj
    rw [← numAt_eq]; exact h2 j (by omega)
theorem call_maxL (hc : X.calm = true) : CallR X (.builtin "max") (fun xs H Q => ∃ (p : Addr) (ns : List Int), xs = [.ref p] ∧ SqL X.K H p (ns.map V.int) ∧ 0 < ns.length ∧ ∀ M, M ∈ ns → (∀ a ∈ ns, a ≤ M) → Q (.int M) H) := by
  intro pins s σ H xs us Q I r h
  obtain ⟨p, ns, rfl, hq, hne, q⟩ := h
  obtain ⟨u, rfl, ru⟩ := vals_one r
  cases ru
  obtain ⟨its, rv, pl, hz⟩ := I.list hq
  have hi : IntsAre its ns := intsAre_of rv
  obtain ⟨ys, e⟩ := hi.allInts.items
  have hns : ns = ys.toList.map (·.1) := by rw [← hi.numsOf, ← nums_intItems, ← e]
  have hsz : 0 < ys.size := by have h3 := hne; rw [hns, List.length_map, Array.length_toList] at h3; exact h3
  have hl' : s.heap.IsList p (intItems ys) := e ▸ pl.isList
  refine max_intList (show X.A.handled = none from I.ok.hd hc) hl' hsz fun v h' tk hv hk => ?_
  obtain ⟨t, rfl⟩ := intItems_at hv
  obtain ⟨h1, h2⟩ := argBest_gt (numAt ys) (ys.size - 1)
  refine ⟨.int _, H, I.kept (h' := h') (t' := tk) hk, ⟨_, rfl⟩, q _ ?_ fun a ha => ?_⟩
  · rw [hns, numAt_eq]; exact getD_mem (by rw [List.length_map, Array.length_toList]; omega)
  · rw [hns] at ha
    obtain ⟨j, hj, rfl⟩ := mem_getD ha
    rw [List.length_map, Array.length_toList] at hj
    rw [← numAt_eq]; exact h2 j (by omega)
end
end Cv
namespace Cv
open PySem PySem.Spec PyProof.Rows L2
noncomputable def TK (K : PySem.W.Frag) (H : Hp) (a : Addr) (xs : List V) : Prop := H a = some (.tup xs) ∨ ∃ (o : Obj) (its : Array Value) (n : Nat), K.lookup a = some o ∧ o.cls = .type "tuple" ∧ o.data = .seq its n ∧ its.size ≤ sizeLine ∧ Vals xs its.toList
theorem TK.of {K : PySem.W.Frag} {H : Hp} {a : Addr} {xs : List V} (h : H a = some (.tup xs)) : TK K H a xs := .inl h
theorem TK.sq {K : PySem.W.Frag} {H : Hp} {a : Addr} {xs : List V} (h : TK K H a xs) : SqT K H a xs := by
  rcases h with h | h
  · exact SqT.of h
  · exact .inr h
theorem TK.tup {K : PySem.W.Frag} {H H' : Hp} {a : Addr} {xs : List V} (h : TK K H a xs) (t : Tup H H') : TK K H' a xs := by
  rcases h with h | h
  · exact .inl (t _ _ h)
  · exact .inr h
theorem TK.same {K : PySem.W.Frag} {H H' : Hp} {a : Addr} {xs : List V} (h : TK K H a xs) (t : Same H H') : TK K H' a xs := h.tup t.tup
theorem TK.same' {K : PySem.W.Frag} {H H' : Hp} {a : Addr} {xs : List V} (t : Same H H') (h : TK K H a xs) : TK K H' a xs := h.tup t.tup
structure ShK (K : PySem.W.Frag) (H : Hp) (v : V) (q : Rat) : Prop where
  ex : ∃ a, v = .ref a ∧ TK K H a [.int q.num, .int (q.den : Int)]
structure PtK (K : PySem.W.Frag) (H : Hp) (v : V) (x y : Rat) : Prop where
  ex : ∃ a vx vy, v = .ref a ∧ TK K H a [vx, vy] ∧ ShK K H vx x ∧ ShK K H vy y
structure PtsK (K : PySem.W.Frag) (H : Hp) (vs : List V) (ps : List Pt) : Prop where
  len : vs.length = ps.length
  get : ∀ (i : Nat) v p, vs[i]? = some v → ps[i]? = some p → PtK K H v p.1 p.2
section
variable {K : PySem.W.Frag} {H H' : Hp} {v : V} {q x y : Rat} {vs : List V} {ps : List Pt}
theorem ShK.tup (h : ShK K H v q) (t : Tup H H') : ShK K H' v q := by obtain ⟨a, rfl, h⟩ := h; exact ⟨a, rfl, h.tup t⟩
theorem ShK.same (h : ShK K H v q) (t : Same H H') : ShK K H' v q := h.tup t.tup
theorem ShV.k (h : ShV H v q) : ShK K H v q := by obtain ⟨a, rfl, h⟩ := h; exact ⟨a, rfl, .inl h⟩
theorem PtK.tup (h : PtK K H v x y) (t : Tup H H') : PtK K H' v x y := by obtain ⟨a, vx, vy, rfl, h, h1, h2⟩ := h; exact ⟨a, vx, vy, rfl, h.tup t, h1.tup t, h2.tup t⟩
theorem PtK.same (h : PtK K H v x y) (t : Same H H') : PtK K H' v x y := h.tup t.tup
theorem PtV.k (h : PtV H v x y) : PtK K H v x y := by obtain ⟨a, vx, vy, rfl, h, h1, h2⟩ := h; exact ⟨a, vx, vy, rfl, .inl h, h1.k, h2.k⟩
theorem PtsK.tup (h : PtsK K H vs ps) (t : Tup H H') : PtsK K H' vs ps := ⟨h.len, fun i v p e1 e2 => (h.get i v p e1 e2).tup t⟩
theorem PtsK.same (h : PtsK K H vs ps) (t : Same H H') : PtsK K H' vs ps := h.tup t.tup
theorem PtsV.k (h : PtsV H vs ps) : PtsK K H vs ps := ⟨h.len, fun i v p e1 e2 => (h.get i v p e1 e2).k⟩
theorem PtsK.nil (K : PySem.W.Frag) (H : Hp) : PtsK K H [] [] := ⟨rfl, fun i v p e _ => by simp at e⟩
theorem PtsK.at (h : PtsK K H vs ps) {i : Nat} {p : Pt} (hp : ps[i]? = some p) : ∃ v, vs[i]? = some v ∧ PtK K H v p.1 p.2 := by
  have hi : i < ps.length := (List.getElem?_eq_some_iff.mp hp).1
  have e : vs[i]? = some (vs[i]'(by rw [h.len]; exact hi)) := List.getElem?_eq_getElem _
  exact ⟨_, e, h.get i _ p e hp⟩
end
theorem Ov.zero (D : Int) (n : Nat) : Ov D (n + 1) 0 := ⟨0, by simp, ⟨by show 0 < _; exact Nat.two_pow_pos _⟩⟩
section
variable {X : Cx}
end
theorem ovp_bd4 {D : Int} {n d : Nat} {p : Pt} (hD : 0 < D) (zD : Sz d D) (h : OvP D n p) (k : Nat) (h1 : n ≤ k) (h2 : d ≤ k) : Bd k p.1 ∧ Bd k p.2 :=
  ⟨(h.1.bd (by omega) zD).mono (by omega), (h.2.bd (by omega) zD).mono (by omega)⟩
theorem for_enum {K : PySem.W.Frag} {l : Addr} {xs : List V} {g : TG} {tb : TS} {D : Ends} {σ : L2.St} {H : Hp} (Pv : Nat → L2.St → Hp → Prop) (h0 : Pv 0 σ H) (hl : ∀ i σ H, i ≤ xs.length → Pv i σ H → SqL K H l xs)
    (hs : ∀ i T x σ H, xs[i]? = some x → Pv i σ H → H T = none → g (.ref T) σ (upd H T (.tup [.int (i : Int), x])) fun σ2 H2 => tb { D with nx := Pv (i + 1), ct := Pv (i + 1), bk := D.nx } σ2 H2) (hd : ∀ σ H, Pv xs.length σ H → D.nx σ H) :
    ∃ W : Nat → Nat → L2.St → Hp → Prop, (∃ m, W 0 m σ H) ∧ ∀ i m σ H, W i m σ H →
      ((Ite K l).stop i H ∧ D.nx σ H) ∨ ((Ite K l).go i H ∧ ∃ N : L2.St → Hp → Prop, (∀ σ' H', N σ' H' → ∃ m', m' < m ∧ W (i + 1) m' σ' H') ∧ ∀ x H', (Ite K l).yld i H x H' → g x σ H' fun σ2 H2 => tb { D with nx := N, ct := N, bk := D.nx } σ2 H2) := by
  refine ⟨fun i m σ H => m = xs.length - i ∧ i ≤ xs.length ∧ Pv i σ H, ⟨xs.length, by simp, Nat.zero_le _, h0⟩, ?_⟩
  rintro i m σ H ⟨rfl, hi, p⟩
  have q := hl i σ H hi p
  by_cases hlt : i < xs.length
  · refine .inr ⟨⟨xs, xs[i], q, List.getElem?_eq_getElem hlt⟩, Pv (i + 1), fun σ' H' p' => ⟨xs.length - (i + 1), by omega, rfl, hlt, p'⟩, fun x H' y => ?_⟩
    obtain ⟨T, a, rfl, hT, rfl, e⟩ := y
    exact hs i T a σ H (e xs q) p hT
  · have e : i = xs.length := by omega
    subst e
    exact .inl ⟨⟨xs, q, List.getElem?_eq_none (Nat.le_refl _)⟩, hd σ H p⟩
end Cv
namespace Cv
open PySem PySem.Spec PyProof.Rows L2
section
variable {prog : Program} {w : World} {A : Around} {E : Value → Shared → Prop}
theorem draw_list {it t : Addr} {itz : Array Value} (hne : t ≠ it) : ∀ (n i : Nat) (s : Shared) (Q : List Value → Shared → Prop), s.heap.IsListIter it t i → s.heap.IsList t itz → i + n ≤ itz.size →
    (∀ h', h'.IsListIter it t (i + n) → Heap.SameBut it s.heap h' → Q ((itz.toList.drop i).take n) { s with heap := h' }) → wpAny (model prog w) A (draw (.ref it) n) Q E s
  | 0, i, s, Q, hit, _, _, hQ => by
    show wpAny _ _ (pure []) Q E s
    exact wpAny_pure (by simpa using hQ s.heap hit (Heap.SameBut.refl ..))
  | n + 1, i, s, Q, hit, ht, hle, hQ => by
    have hl9 : i < itz.size := by omega
    show wpAny _ _ (pyNext (.ref it) >>= _) Q E s
    refine wpAny_bind (wpAny_pyNext_list_item hit ht (x := itz[i]) (by simp [hl9]) fun hA hiA hsA => ?_)
    refine wpAny_bind (wpAny_holding (draw_list hne n (i + 1) _ _ hiA (ht.extBut hsA.extBut hne) (by omega) fun hB hiB hsB => wpAny_pure ?_))
    have hd : itz.toList.drop i = itz[i] :: itz.toList.drop (i + 1) := by simp [List.drop_eq_getElem_cons, hl9]
    have := hQ hB (by rw [show i + (n + 1) = i + 1 + n by omega]; exact hiB) (hsA.trans hsB)
    rw [hd, List.take_succ_cons] at this
    exact this
variable {s : Shared}
theorem unpackItems_list {t : Addr} {itz : Array Value} {Q : List Value → Shared → Prop} (hh : A.handled = none) (ht : s.heap.IsList t itz)
    (hQ : ∀ h', Heap.ExtBut s.heap.objs.size s.heap h' → Q itz.toList { s with heap := h' }) : wpAny (model prog w) A (unpackItems (.ref t) itz.size none) Q E s := by
  have hl9 : t ≠ s.heap.objs.size := by obtain ⟨o, ho, _⟩ := ht; exact Nat.ne_of_lt (Heap.lt_size ho)
  unfold unpackItems
  refine wpAny_bind ?_
  · unfold notIterableAtAll
    refine wpAny_bind (wpAny_specialOf ht.typeIs F.slot_list_iter.lookup ?_)
    refine wpAny_pure ?_
    simp only [if_false, Bool.false_eq_true]
    refine wpAny_bind (wpAny_holding (wpAny_pyIter_list ht ?_))
    refine wpAny_bind (wpAny_holding (draw_list hl9 itz.size 0 _ _ ⟨_, Heap.get?_push_size _ rfl, rfl, rfl⟩ (Heap.IsList.push ht _) (by omega) fun hA hiA hsA => ?_))
    have hal0 : List.take itz.size (List.drop 0 itz.toList) = itz.toList := by
      rw [List.drop_zero]; exact List.take_of_length_le (by simp)
    rw [hal0]
    rw [if_neg (by simp)]
    have htA : hA.IsList t itz := (Heap.IsList.push ht _).extBut hsA.extBut hl9
    refine wpAny_bind (wpAny_holding (wpAny_pyNext_list_end hh hiA htA (by simp) fun hB heB => ?_))
    simp only [if_false, Bool.false_eq_true, Option.isSome_none]
    refine wpAny_pure (hQ hB fun b o hb e => heB b o hb (hsA.extBut b o hb (Heap.get?_push_of_some _ e)))
theorem assign_Tuple_list {env : Env} {elts : List Expr} {x1} {pos : Pos} {t : Addr} {itz : Array Value} {Q : Unit → Shared → Prop} (hh : A.handled = none) (ht : s.heap.IsList t itz)
    (hn : (assignEach elts env).length = itz.size) (hstar : (assignEach elts env).findIdx? (·.1) = none)
    (h : ∀ h', Heap.ExtBut s.heap.objs.size s.heap h' → wpAny (model prog w) A (assignInOrder ((assignEach elts env).map (·.2)) itz.toList) Q E { s with heap := h' }) :
    wpAny (model prog w) A (assign (.Tuple elts x1 pos) env (.ref t)) Q E s := by
  rw [arm_assign_Tuple]
  refine wpAny_bind (wpAny_standAt ?_)
  unfold unpack
  rw [hn, hstar]
  exact wpAny_bind (wpAny_holding (unpackItems_list hh ht h))
end
section
variable {X : Cx}
noncomputable def gTupL (K : PySem.W.Frag) (n : Nat) (t : TGs) : TG := fun v σ H Q => ∃ a xs, v = .ref a ∧ SqL K H a xs ∧ xs.length = n ∧ t xs σ H Q
theorem pg_lstK (K : PySem.W.Frag) {es : List Expr} {k : Nat} {t : TGs} {n : Nat} {pos : Pos} (hc : X.calm = true) (h : PGs X es t) (hK : X.K = K := by rfl)
    (hn : (assignEach es X.env).length = n := by rfl) (hst : (assignEach es X.env).findIdx? (·.1) = none := by rfl) : PG X (.Tuple es k pos) (gTupL K n t) := by
  subst hK
  intro pins s σ H v u Q I r hw
  obtain ⟨a, xs, e1, hq, hl, hw⟩ := hw
  subst e1
  cases r
  obtain ⟨its, rv, ht, hz⟩ := I.list hq
  refine assign_Tuple_list (I.ok.hd hc) ht.isList (by simp [hn, ← hl, rv.length]) hst fun h' hx => ?_
  have I1 : Inv X pins σ H { s with heap := h' } := I.kept (t' := s.toks) fun b o e => hx b o (Nat.ne_of_lt (Heap.lt_size e)) e
  exact h pins _ σ H xs _ Q I1 (by simpa using rv) hw
theorem pg_lstKI (K : PySem.W.Frag) {es : List Expr} {k : Nat} {t : TGs} {n : Nat} {pos : Pos} (hc : X.calm = true) (h : PGsi X es t) (hK : X.K = K := by rfl)
    (hn : (assignEach es X.env).length = n := by rfl) (hst : (assignEach es X.env).findIdx? (·.1) = none := by rfl) : PGi X (.Tuple es k pos) (gTupL K n t) := by with_unfolding_all exact pg_lstK (K := K) (hc := hc) (h := h) (hK := hK) (hn := hn) (hst := hst)
end
end Cv
namespace Cv
open PySem PySem.Spec PyProof.Rows L2
noncomputable abbrev Pl := Int × Int
structure PlsV (H : Hp) (vs : List V) (pl : List Pl) : Prop where
  len : vs.length = pl.length
  get : ∀ (i : Nat) v p, vs[i]? = some v → pl[i]? = some p → RwV H v p.1 p.2
section
variable {H H' : Hp} {vs : List V} {pl : List Pl}
theorem PlsV.tup (h : PlsV H vs pl) (t : Tup H H') : PlsV H' vs pl := ⟨h.len, fun i v p e1 e2 => (h.get i v p e1 e2).tup t⟩
theorem PlsV.same (h : PlsV H vs pl) (t : Same H H') : PlsV H' vs pl := h.tup t.tup
theorem PlsV.at (h : PlsV H vs pl) {i : Nat} {p : Pl} (hp : pl[i]? = some p) : ∃ a, vs[i]? = some (.ref a) ∧ H a = some (.tup [.int p.1, .int p.2]) := by
  have hi : i < pl.length := (List.getElem?_eq_some_iff.mp hp).1
  have e : vs[i]? = some (vs[i]'(by rw [h.len]; exact hi)) := List.getElem?_eq_getElem _
  obtain ⟨a, e2, h2⟩ := h.get i _ p e hp
  exact ⟨a, by rw [e, e2], h2⟩
theorem pls_exist {n : Nat} : ∀ {ys : List V}, (∀ (i : Nat) v, ys[i]? = some v → ∃ x y : Int, RwV H v x y ∧ Sz n x ∧ Sz n y) → ∃ pl : List Pl, PlsV H ys pl ∧ ∀ p ∈ pl, Sz n p.1 ∧ Sz n p.2
  | [], _ => ⟨[], ⟨rfl, fun i v p e => by simp at e⟩, fun _ h => nomatch h⟩
  | y :: ys, h => by
    obtain ⟨a, b, hp, z1, z2⟩ := h 0 y rfl
    obtain ⟨pl, hP, hO⟩ := pls_exist (ys := ys) fun i v e => h (i + 1) v e
    refine ⟨(a, b) :: pl, ⟨by rw [List.length_cons, List.length_cons, hP.len], fun i v q e1 e2 => ?_⟩, fun q hq => ?_⟩
    · cases i with
      | zero => cases e1; cases e2; exact hp
      | succ i => exact hP.get i v q e1 e2
    · rcases List.mem_cons.mp hq with rfl | hq
      · exact ⟨z1, z2⟩
      · exact hO q hq
end
theorem plain_pls {K : PySem.W.Frag} {a : Addr} {ws : List V} {pl : List Pl} {H1 : Hp} (h : SqL K H1 a ws) (hP : PlsV H1 ws pl) : Plain2 K (Itl K a) H1 pl.length (fun i => .int ((pl[i]?).getD (0, 0)).1) (fun i => .int ((pl[i]?).getD (0, 0)).2) := fun H2 s i => by
  refine ⟨fun hi => ?_, fun e => ⟨ws, s.seq h, by rw [hP.len]; omega⟩⟩
  obtain ⟨b, e1, hb⟩ := hP.at (List.getElem?_eq_getElem hi)
  refine ⟨⟨ws, _, s.seq h, e1⟩, fun x H' y => ?_⟩
  obtain ⟨rfl, y2⟩ := y
  have := y2 ws (s.seq h)
  rw [e1] at this
  refine ⟨L2.Same.refl _, b, (Option.some.inj this).symm, SqT.of ?_⟩
  show H' b = some (.tup [.int ((pl[i]?).getD (0, 0)).1, .int ((pl[i]?).getD (0, 0)).2])
  rw [List.getElem?_eq_getElem hi]
  exact s _ _ hb
structure WayV (H : Hp) (v : V) (B kd : Int) : Prop where
  ex : ∃ (a s b : Addr) (sx sy bx by_ : Int), v = .ref a ∧ H a = some (.tup [.int B, .int kd, .ref s, .ref b]) ∧ H s = some (.tup [.int sx, .int sy]) ∧ H b = some (.tup [.int bx, .int by_]) ∧ 1 ≤ B ∧ B ≤ 1000000007 ∧ sx.natAbs ≤ 20 ∧ sy.natAbs ≤ 20 ∧ bx.natAbs ≤ 3 ∧ by_.natAbs ≤ 3
theorem WayV.same {H H' : Hp} {v : V} {B kd : Int} (h : WayV H v B kd) (t : Same H H') : WayV H' v B kd := by
  obtain ⟨a, s, b, sx, sy, bx, by_, rfl, h1, h2, h3, r⟩ := h
  exact ⟨a, s, b, sx, sy, bx, by_, rfl, t _ _ h1, t _ _ h2, t _ _ h3, r⟩
noncomputable def spStreamC : Sp := fun vs H Q _ => ∃ c : Int, ∃ n : Nat, vs = [.int c, .int (n : Int)] ∧ n ≤ 1000 ∧ ∀ (l : Addr) (xs : List Int) (H' : Hp), Same H H' → H l = none → H' l = some (.lst (xs.map V.int)) → xs.length = n → (∀ x ∈ xs, 0 ≤ x ∧ x ≤ 2147483647) → Q (.ref l) H'
noncomputable def spWay : Sp := fun vs H Q _ => ∃ c : Int, vs = [.int c] ∧ ∀ v B kd H', Same H H' → WayV H' v B kd → Q v H'
noncomputable def spPlace : Sp := fun vs H Q _ => ∃ (c : Int) (w : V) (B kd : Int), vs = [.int c, w] ∧ WayV H w B kd ∧ ∀ v x y H', Same H H' → RwV H' v x y → Sz 110 x → Sz 110 y → Q v H'
noncomputable def ptsOf (B : Int) (pl : List Pl) : List Pt := pl.map fun p => (Rat.divInt p.1 B, Rat.divInt p.2 B)
noncomputable def spHanded (K : PySem.W.Frag) : Sp := fun vs H Q _ => ∃ (a : Addr) (ws : List V) (pl : List Pl) (B : Int), vs = [.ref a, .int B] ∧ SqL K H a ws ∧ PlsV H ws pl ∧ 1 ≤ B ∧ Sz 9000 B ∧ pl.length ≤ 1000 ∧ ∀ (l : Addr) (us : List V) (H' : Hp), Same H H' → H l = none → H' l = some (.lst us) → PtsV H' us (ptsOf B pl) → Q (.ref l) H'
theorem p25 : (10 : Int) ^ (25 : Int).toNat = 10000000000000000000000000 := by decide
noncomputable def LeastQ (qs : List Rat) (m : Rat) : Prop := m ∈ qs ∧ ∀ q ∈ qs, m ≤ q
noncomputable def GreatQ (qs : List Rat) (m : Rat) : Prop := m ∈ qs ∧ ∀ q ∈ qs, q ≤ m
theorem LeastQ.one {qs : List Rat} {a b : Rat} (h1 : LeastQ qs a) (h2 : LeastQ qs b) : a = b := Rat.le_antisymm (h1.2 b h2.1) (h2.2 a h1.1)
theorem GreatQ.one {qs : List Rat} {a b : Rat} (h1 : GreatQ qs a) (h2 : GreatQ qs b) : a = b := Rat.le_antisymm (h2.2 a h1.1) (h1.2 b h2.1)
theorem LeastQ.of {qs rs : List Rat} {a : Rat} (h : LeastQ qs a) (e : ∀ q, q ∈ qs ↔ q ∈ rs) : LeastQ rs a := ⟨(e a).mp h.1, fun q hq => h.2 q ((e q).mpr hq)⟩
theorem GreatQ.of {qs rs : List Rat} {a : Rat} (h : GreatQ qs a) (e : ∀ q, q ∈ qs ↔ q ∈ rs) : GreatQ rs a := ⟨(e a).mp h.1, fun q hq => h.2 q ((e q).mpr hq)⟩
structure BoxV (H : Hp) (v : V) (xs ys : List Rat) : Prop where
  ex : ∃ (a : Addr) (v1 v2 v3 v4 : V) (q1 q2 q3 q4 : Rat), v = .ref a ∧ H a = some (.tup [v1, v2, v3, v4]) ∧ ShV H v1 q1 ∧ ShV H v2 q2 ∧ ShV H v3 q3 ∧ ShV H v4 q4 ∧ LeastQ xs q1 ∧ LeastQ ys q2 ∧ GreatQ xs q3 ∧ GreatQ ys q4
theorem BoxV.same {H H' : Hp} {v : V} {xs ys : List Rat} (h : BoxV H v xs ys) (t : Same H H') : BoxV H' v xs ys := by
  obtain ⟨a, v1, v2, v3, v4, q1, q2, q3, q4, rfl, h0, h1, h2, h3, h4, r⟩ := h
  exact ⟨a, v1, v2, v3, v4, q1, q2, q3, q4, rfl, t _ _ h0, h1.same t, h2.same t, h3.same t, h4.same t, r⟩
theorem BoxV.of {H : Hp} {v : V} {xs ys xs' ys' : List Rat} (h : BoxV H v xs ys) (e1 : ∀ q, q ∈ xs ↔ q ∈ xs') (e2 : ∀ q, q ∈ ys ↔ q ∈ ys') : BoxV H v xs' ys' := by
  obtain ⟨a, v1, v2, v3, v4, q1, q2, q3, q4, rfl, h0, h1, h2, h3, h4, r1, r2, r3, r4⟩ := h
  exact ⟨a, v1, v2, v3, v4, q1, q2, q3, q4, rfl, h0, h1, h2, h3, h4, r1.of e1, r2.of e2, r3.of e1, r4.of e2⟩
theorem div_le {x y P : Int} (hP : 0 < P) (h : x ≤ y) : Rat.divInt x P ≤ Rat.divInt y P := by
  have hP' : (0 : Rat) < (P : Rat) := by exact_mod_cast hP
  have hn : (P : Rat) ≠ 0 := cast_ne hP
  have e : ∀ z : Int, Rat.divInt z P * (P : Rat) = (z : Rat) := fun z => by rw [Rat.divInt_eq_div]; grind
  refine Rat.le_of_mul_le_mul_right ?_ hP'
  rw [e, e]
  exact_mod_cast h
theorem least_div {ns : List Int} {M P : Int} (hP : 0 < P) (h1 : M ∈ ns) (h2 : ∀ a ∈ ns, M ≤ a) : LeastQ (ns.map fun x => Rat.divInt x P) (Rat.divInt M P) := by
  refine ⟨List.mem_map.mpr ⟨M, h1, rfl⟩, fun q hq => ?_⟩
  obtain ⟨x, hx, rfl⟩ := List.mem_map.mp hq
  exact div_le hP (h2 x hx)
theorem great_div {ns : List Int} {M P : Int} (hP : 0 < P) (h1 : M ∈ ns) (h2 : ∀ a ∈ ns, a ≤ M) : GreatQ (ns.map fun x => Rat.divInt x P) (Rat.divInt M P) := by
  refine ⟨List.mem_map.mpr ⟨M, h1, rfl⟩, fun q hq => ?_⟩
  obtain ⟨x, hx, rfl⟩ := List.mem_map.mp hq
  exact div_le hP (h2 x hx)
noncomputable def spEnds : Sp := fun vs H Q _ => ∃ x n tops bs, vs = [x] ∧ AxV H x n tops bs ∧ 0 < tops.length ∧ ∀ v M N H', Same H H' → AxV H' v n [M, N] bs → M ∈ tops → N ∈ tops → (∀ a ∈ tops, M ≤ a) → (∀ a ∈ tops, a ≤ N) → Q v H'
noncomputable def spBox (K : PySem.W.Frag) : Sp := fun vs H Q _ => ∃ (a : Addr) (ws : List V) (ps : List Pt) (D : Int) (m : Nat), vs = [.ref a] ∧ SqL K H a ws ∧ PtsV H ws ps ∧ 0 < D ∧ Sz 9000 D ∧ (∀ p ∈ ps, ((p.1.den : Int) ∣ D ∧ Bd m p.1) ∧ (p.2.den : Int) ∣ D ∧ Bd m p.2) ∧ m ≤ 9000 ∧ 1 ≤ ps.length ∧ ps.length ≤ 40 ∧
  ∀ v H', Same H H' → BoxV H' v (ps.map (·.1)) (ps.map (·.2)) → Q v H'
theorem for_plain1 {J : It} {H1 : Hp} {n : Nat} {f : Nat → V} {g : TG} {tb : TS} {D : Ends} {σ : L2.St} (hJ : Plain1 J H1 n f) (Pv : Nat → L2.St → Hp → Prop) (h0 : Pv 0 σ H1) (hS : ∀ i σ H, Pv i σ H → Same H1 H)
    (hs : ∀ i σ H, i < n → Pv i σ H → g (f i) σ H fun σ2 H2 => tb { D with nx := Pv (i + 1), ct := Pv (i + 1), bk := D.nx } σ2 H2) (hd : ∀ σ H, Pv n σ H → D.nx σ H) :
    ∃ W : Nat → Nat → L2.St → Hp → Prop, (∃ m, W 0 m σ H1) ∧ ∀ i m σ H, W i m σ H →
      (J.stop i H ∧ D.nx σ H) ∨ (J.go i H ∧ ∃ N : L2.St → Hp → Prop, (∀ σ' H', N σ' H' → ∃ m', m' < m ∧ W (i + 1) m' σ' H') ∧ ∀ x H', J.yld i H x H' → g x σ H' fun σ2 H2 => tb { D with nx := N, ct := N, bk := D.nx } σ2 H2) := by
  refine ⟨fun i m σ H => m = n - i ∧ i ≤ n ∧ Pv i σ H, ⟨n, by simp, Nat.zero_le _, h0⟩, ?_⟩
  rintro i m σ H ⟨rfl, hi, p⟩
  have q := hJ H (hS i σ H p) i
  by_cases hlt : i < n
  · refine .inr ⟨(q.1 hlt).1, Pv (i + 1), fun σ' H' p' => ⟨n - (i + 1), by omega, rfl, hlt, p'⟩, fun x H' y => ?_⟩
    obtain ⟨rfl, rfl⟩ := (q.1 hlt).2 x H' y
    exact hs i σ H' hlt p
  · have e : i = n := by omega
    subst e
    exact .inl ⟨q.2 rfl, hd σ H p⟩
theorem ptsOf_fst (B : Int) (pl : List Pl) : (ptsOf B pl).map (·.1) = (pl.map (·.1)).map fun x => Rat.divInt x B := by unfold ptsOf; simp
theorem ptsOf_snd (B : Int) (pl : List Pl) : (ptsOf B pl).map (·.2) = (pl.map (·.2)).map fun x => Rat.divInt x B := by unfold ptsOf; simp
theorem ptsOf_len (B : Int) (pl : List Pl) : (ptsOf B pl).length = pl.length := by unfold ptsOf; simp
theorem ptsOf_ov {B : Int} {pl : List Pl} {n : Nat} (hB : 0 < B) (h : ∀ p ∈ pl, Sz n p.1 ∧ Sz n p.2) : ∀ p ∈ ptsOf B pl, OvP B n p := fun p hp => by
  unfold ptsOf at hp
  obtain ⟨q, hq, rfl⟩ := List.mem_map.mp hp
  exact ⟨ov_divInt (by omega) (h q hq).1, ov_divInt (by omega) (h q hq).2⟩
end Cv
namespace Cv
open PySem PySem.Spec PyProof.Rows L2
section
variable {X : Cx}
theorem call_divmodB : CallR X (.builtin "divmod") (fun xs H Q => ∃ i j, xs = [.int i, .int j] ∧ (0 < j ∧ Sz 9000 j) ∧ ∀ p, H p = none → Q (.ref p) (upd H p (.tup [.int (i / j), .int (i % j)]))) := by
  intro pins s σ H xs us Q I r h
  obtain ⟨i, j, rfl, ⟨h1, h2⟩, q⟩ := h
  obtain ⟨u, w', rfl, ⟨t, rfl⟩, ⟨t', rfl⟩⟩ := vals_two r
  have hp : j.natAbs ≠ 0 := by omega
  refine divmod_int (by omega) ?_ (.inl (PyProof.noPylong_of_log2 ((Nat.log2_lt hp).mpr h2.lt)))
  rw [Int.fdiv_eq_ediv_of_nonneg i (by omega), Int.fmod_eq_emod_of_nonneg i (by omega)]
  have hn : H s.heap.objs.size = none := I.hok.fresh (Nat.le_refl _)
  refine ⟨.ref s.heap.objs.size, _, ?_, rfl, q _ hn⟩
  refine I.laid (fun b o e => Heap.get?_push_of_some _ e) (Nat.le_refl _) ⟨by simp only [List.length_cons, List.length_nil]; rw [sizeLine_eq]; decide, [.int (i / j) s.toks, .int (i % j) (s.toks + 1)], .cons ⟨_, rfl⟩ (.cons ⟨_, rfl⟩ .nil), ?_⟩
  exact ⟨_, Heap.get?_push_size s.heap rfl, rfl, 0, rfl⟩
theorem call_int_text : CallR X (.type "int") (fun xs H Q => ∃ x n, xs = [.str x] ∧ PySem.intText? x = some n ∧ x.length ≤ 640 ∧ Q (.int n) H) := by
  intro pins s σ H xs us Q I r h
  obtain ⟨x, n, rfl, h1, h2, q⟩ := h
  obtain ⟨u, rfl, t, rfl⟩ := vals_one r
  exact PySem.W.KIN.call_text h1 h2 ⟨.int n, H, I.tok _, ⟨_, rfl⟩, q⟩
theorem mt_starts : MtR X "str.startswith" (fun x vs H Q => ∃ a b, x = .str a ∧ vs = [.str b] ∧ Q (.bl (Txt.startswith a b)) H) := by
  intro pins s σ H x vs v us Q I rx rv h
  obtain ⟨a, b, rfl, rfl, q⟩ := h
  obtain ⟨t, rfl⟩ := rx
  obtain ⟨u, rfl, t', rfl⟩ := vals_one rv
  exact SC.startswith ⟨.bl _, H, I, rfl, q⟩
theorem mt_zfill : MtR X "str.zfill" (fun x vs H Q => ∃ a i, x = .str a ∧ vs = [.int i] ∧ PadOk i = true ∧ Q (.str (Txt.zfill a i)) H) := by
  intro pins s σ H x vs v us Q I rx rv h
  obtain ⟨a, i, rfl, rfl, hp, q⟩ := h
  obtain ⟨t, rfl⟩ := rx
  obtain ⟨u, rfl, t', rfl⟩ := vals_one rv
  refine call_gives F.slot_str_zfill (typeIs_str _ _ _) F.entry_str_zfill (F.args_str_zfill_2 _ _) (gives_str_zfill a i t t' (PadOk.parts hp).1 (PadOk.parts hp).2) ?_
  exact post_val_or_made (fits_zfilled (PadOk.parts hp).2) fun t' k => ⟨.str _, H, I.tok _, ⟨_, rfl⟩, q⟩
theorem strs_of : ∀ {ts : List Str} {us : List Value}, Vals (ts.map V.str) us → ∃ l : List (Str × Tok), l.map (·.1) = ts ∧ us = strValues l
  | [], _, .nil => ⟨[], rfl, rfl⟩
  | t :: ts, _, .cons r rs => by
    obtain ⟨tk, rfl⟩ := r
    obtain ⟨l, h1, h2⟩ := strs_of rs
    exact ⟨(t, tk) :: l, by rw [List.map_cons, h1], by rw [h2]; rfl⟩
theorem vals_strs : ∀ (l : List (Str × Tok)), Vals ((l.map (·.1)).map V.str) (strValues l)
  | [] => .nil
  | (x, t) :: l => .cons ⟨t, rfl⟩ (vals_strs l)
theorem mt_join : MtR X "str.join" (fun x vs H Q => ∃ (a : Str) (p : Addr) (ts : List Str), x = .str a ∧ vs = [.ref p] ∧ SqL X.K H p (ts.map V.str) ∧ JoinOk a ts = true ∧ Q (.str (Txt.join a ts)) H) := by
  intro pins s σ H x vs v us Q I rx rv h
  obtain ⟨a, p, ts, rfl, rfl, hq, hj, q⟩ := h
  obtain ⟨t, rfl⟩ := rx
  obtain ⟨u, rfl, ru⟩ := vals_one rv
  cases ru
  obtain ⟨its, r, pl, hz⟩ := I.list hq
  obtain ⟨l, h1, rfl⟩ := strs_of r
  exact SC.join pl.isList h1 hj fun t' k => ⟨.str _, H, I.tok _, ⟨_, rfl⟩, q⟩
end
section
variable {X : Cx}
theorem parts_len (x y : Str) : (Builtin.Str.partsBetween x (Builtin.Str.occurrences x y 0 x.length (x.length + 1)) y.length).length ≤ x.length + 2 := by
  have h := StrLaws.occ_length_le x y 0 x.length (x.length + 1)
  rw [StrLaws.partsBetween_eq]
  have : ∀ (cuts : List Nat) (a : Nat), (StrLaws.partsFrom x y.length a cuts).length = cuts.length + 1 := by
    intro cuts
    induction cuts with
    | nil => intro a; rfl
    | cons c cuts ih => intro a; simp [StrLaws.partsFrom, ih]
  rw [this]; omega
theorem mt_split : MtR X "str.split" (fun x vs H Q => ∃ a b, x = .str a ∧ vs = [.str b] ∧ (b.length == 0) = false ∧ a.length ≤ 50000 ∧ ∀ p, H p = none → Q (.ref p) (upd H p (.lst ((Txt.split a b).map V.str)))) := by
  intro pins s σ H x vs v us Q I rx rv h
  obtain ⟨x, y, rfl, rfl, hy, hl, q⟩ := h
  obtain ⟨t, rfl⟩ := rx
  obtain ⟨u, rfl, t', rfl⟩ := vals_one rv
  have z1 : x.length ≤ sizeLine := Nat.le_of_lt (small_line (by omega))
  have z2 : (Builtin.Str.partsBetween x (Builtin.Str.occurrences x y 0 x.length (x.length + 1)) y.length).length ≤ sizeLine := Nat.le_of_lt (small_line (by have := parts_len x y; omega))
  have hn : H s.heap.objs.size = none := I.hok.fresh (Nat.le_refl _)
  have fin : ∀ (l : List (Str × Tok)) (k : Nat), l.map (·.1) = Txt.split x y → l.length ≤ sizeLine → EP X pins σ Q (.ref s.heap.objs.size) { s with heap := s.heap.push { cls := .type "list", data := .seq (strValues l).toArray }, toks := k } := fun l k hl hz => by
    refine ⟨.ref s.heap.objs.size, _, I.lnew (ys := (Txt.split x y).map V.str) (by rw [← hl]; exact vals_strs l) (by rw [← hl, List.length_map, List.length_map]; exact hz), rfl, q _ hn⟩
  cases h1 : (decide (x.length < y.length) || decide (Builtin.Str.strKind x < Builtin.Str.strKind y))
  · cases hf : (Builtin.Str.occurrences x y 0 x.length (x.length + 1)).isEmpty
    · refine call_meets F.slot_str_split (typeIs_str _ _ _) F.entry_str_split (F.args_str_split_2 _ _) (meets_str_split_sep x y t t' h1 hy hf z1 z2) ?_
      show wants _ _ _ { s with toks := _, heap := s.heap.push { cls := .type "list", data := .seq (strsFrom s.toks (Builtin.Str.partsBetween x (Builtin.Str.occurrences x y 0 x.length (x.length + 1)) y.length)).toArray } }
      rw [strsFrom_eq]
      exact fin (numbered s.toks _) _ ((numbered_texts _ _).trans ((if_neg (ne_true_of_eq_false h1)).trans (if_neg (ne_true_of_eq_false hf))).symm) (by rw [← List.length_map (f := (·.1)), numbered_texts]; exact z2)
    · exact call_meets F.slot_str_split (typeIs_str _ _ _) F.entry_str_split (F.args_str_split_2 _ _) (meets_str_split_not_found x y t t' h1 hy hf) (fin [(x, t)] s.toks ((if_neg (ne_true_of_eq_false h1)).trans (if_pos hf)).symm (by show 1 ≤ sizeLine; decide))
  · exact call_meets F.slot_str_split (typeIs_str _ _ _) F.entry_str_split (F.args_str_split_2 _ _) (meets_str_split_cannot_occur x y t t' h1) (fin [(x, t)] s.toks (if_pos h1).symm (by show 1 ≤ sizeLine; decide))
noncomputable def rSlS : V → Option Int → Option Int → Hp → VK → Prop := fun x lo hi H Q => ∃ z, x = .str z ∧ z.length ≤ 50000 ∧ Q (.str (StrLaws.sliceText z lo hi)) H
theorem sl_str : SlR X rSlS := by
  intro pins s σ H x v vl vu lo hi sl Q I rx hs pl pu h
  obtain ⟨z, rfl, hz, q⟩ := h
  obtain ⟨t, rfl⟩ := rx
  refine ⟨"str", _, F.slot_str_getitem.lookup, typeIs_str s z t, ?_⟩
  obtain ⟨l, rfl, el⟩ : ∃ l : Option (Int × Tok), vl = partValue l ∧ l.map (·.1) = lo := by
    cases pl with
    | none => exact ⟨none, rfl, rfl⟩
    | int i t => exact ⟨some (i, t), rfl, rfl⟩
  obtain ⟨u, rfl, eu⟩ : ∃ l : Option (Int × Tok), vu = partValue l ∧ l.map (·.1) = hi := by
    cases pu with
    | none => exact ⟨none, rfl, rfl⟩
    | int i t => exact ⟨some (i, t), rfl, rfl⟩
  refine wpAny_getItem_str_slice (l := l) (u := u) (st := none) hs rfl ?_
  unfold StrLaws.sliceText at q
  unfold sliceMade slicePicked
  rw [el, eu]
  show Made.post (if ((1 : Int) == 1 && (Builtin.Str.strSliceIndices lo hi 1 z.length).length == z.length) = true then _ else _) _ s
  by_cases c : ((1 : Int) == 1 && (Builtin.Str.strSliceIndices lo hi 1 z.length).length == z.length) = true
  · rw [if_pos c] at q ⊢
    exact ⟨.str z, H, I, ⟨t, rfl⟩, q⟩
  · rw [if_neg c] at q ⊢
    refine ⟨?_, .str _, H, I.tok _, ⟨_, rfl⟩, q⟩
    have h1 := indices_len_le lo hi z.length
    have h2 := List.length_filterMap_le (fun j => z.cps[j]?) (Builtin.Str.strSliceIndices lo hi 1 z.length)
    have h3 : z.length < sizeLine := small_line (by omega)
    show (List.toArray _).size ≤ sizeLine
    rw [List.size_toArray]
    exact Nat.le_trans h2 (Nat.le_trans h1 (Nat.le_of_lt h3))
noncomputable def Its (x : Str) : It := ⟨fun i _ => i < x.cps.size, fun i H v H' => H' = H ∧ ∃ c, x.cps[i]? = some c ∧ v = .str ⟨#[c]⟩, fun i _ => x.cps.size ≤ i⟩
theorem turn_str {P : Program} {w : World} {K : PySem.W.Frag} {tg : Expr} (it : Addr) (x : Str) (t : Tok) (ty : String)
    (hn : ["enumerate", "zip", "dict_itemiterator", "dict_reverseitemiterator", "odict_iterator", "itertools.zip_longest", "itertools.pairwise"].contains ty = false)
    (W : ∀ A' : Around, A'.handled = none → Walks P w A' it [it] [it] x.cps.size (SignAt x) (fun i h => h.IsStrIter it ty x t i))
    (hend : ∀ (A : Around) (i : Nat) (s : Shared) (Q : Option Value → Shared → Prop) (E : Value → Shared → Prop), A.handled = none → s.heap.IsStrIter it ty x t i → x.cps[i]? = none → (∀ h', Heap.ExtBut it s.heap h' → Q none { s with heap := h' }) → wpAny (model P w) A (pyNext (.ref it)) Q E s)
    (hself : ∀ (A : Around) (i : Nat) (s : Shared) (Q : Value → Shared → Prop) (E : Value → Shared → Prop), s.heap.IsStrIter it ty x t i → Q (.ref it) s → wpAny (model P w) A (pyIter (.ref it)) Q E s) :
    Turn P w K tg (Its x) [it] it (fun i h => h.IsStrIter it ty x t i) where
  mem := by simp
  obj := fun i h st b hb => by
    have e : b = it := by simpa using hb
    subst e
    obtain ⟨o, e, c, d⟩ := st
    exact ⟨o, e, fun v z => by rw [d] at z; cases z⟩
  keep := fun i h h' st k => by
    obtain ⟨o, e, r⟩ := st
    exact ⟨o, k it (by simp) o e, r⟩
  item := by
    intro X hP hw hK hc i pins s σ H E I hf st hg
    subst hP hw hK
    obtain ⟨f0, f1, f2, f3, f4, f5⟩ := hf it (by simp)
    refine (W X.A (I.ok.hd hc)).item i s _ _ hg st fun v h' tk hv st' kk => ?_
    obtain ⟨c, u, hc', rfl⟩ := hv
    have I1 : Inv X pins σ H { s with heap := h', toks := tk } := I.turned (fun b o hb e => kk b o (by simpa using hb) e) f0 f1 f3 f4 f5
    obtain ⟨o, e, c', d⟩ := id st'
    exact ⟨_, rfl, go_of (s := { s with heap := h', toks := tk }) e c' d hn ⟨.str ⟨#[c]⟩, H, I1, ⟨u, rfl⟩, ⟨rfl, c, hc', rfl⟩, st', fun b hb => (hf b hb).1⟩⟩
  done := by
    intro X hP hw hK hc i pins s σ H E I hf st hg
    subst hP hw hK
    obtain ⟨f0, f1, f2, f3, f4, f5⟩ := hf it (by simp)
    have hg' : x.cps.size ≤ i := hg
    exact hend X.A i s _ _ (I.ok.hd hc) st (by simp; omega) fun h' eb => ⟨rfl, I.turned (t' := s.toks) (fun b o hb e => eb b o hb e) f0 f1 f3 f4 f5⟩
  self := fun A i s Q E st h => hself A i s Q E st h
noncomputable def iStr (tl : TE) : TI := fun σ H R => tl σ H fun x H1 => ∃ z, x = .str z ∧ R (Its z) H1
theorem pi_str {tg l : Expr} {tl : TE} (hl : PE X l tl) : PI X tg l (iStr tl) := by
  intro pins s σ H R I h
  refine thn (hl pins s σ H _ I h) fun v s1 ⟨x, H1, I1, r1, q1⟩ => ?_
  obtain ⟨z, rfl, q⟩ := q1
  obtain ⟨t, rfl⟩ := r1
  have fp : ∀ b ∈ [s1.heap.objs.size], FpOk X pins H1 b := fun b hb => by
    have e : b = s1.heap.objs.size := by simpa using hb
    subst e
    exact I1.fpOk (Nat.le_refl _) (I1.hok.fresh (Nat.le_refl _))
  cases ha : z.cps.all (· < 128)
  · refine wpAny_pyIter_wide ha ?_
    refine ⟨s1.heap.objs.size, [s1.heap.objs.size], _, _, H1, rfl, I1.kept (t' := s1.toks) fun b o e => Heap.get?_push_of_some _ e, turn_str _ z t "str_iterator" (by decide) (fun A' hA => Walks.strWide hA _ z t) (fun A i s Q E hh st hx k => wpAny_pyNext_wide_end hh st hx k) (fun A i s Q E st k => wpAny_pyIter_striter_wide st k), ⟨_, Heap.get?_push_size _ rfl, rfl, rfl⟩, fp, q⟩
  · refine wpAny_pyIter_ascii ha ?_
    refine ⟨s1.heap.objs.size, [s1.heap.objs.size], _, _, H1, rfl, I1.kept (t' := s1.toks) fun b o e => Heap.get?_push_of_some _ e, turn_str _ z t "str_ascii_iterator" (by decide) (fun A' hA => Walks.strAscii hA _ z t) (fun A i s Q E hh st hx k => wpAny_pyNext_ascii_end hh st hx k) (fun A i s Q E st k => wpAny_pyIter_striter_ascii st k), ⟨_, Heap.get?_push_size _ rfl, rfl, rfl⟩, fp, q⟩
theorem plain_str (x : Str) (H1 : Hp) : Plain1 (Its x) H1 x.cps.size fun i => .str ⟨#[x.cps.getD i 0]⟩ := fun H2 _ i =>
  ⟨fun hi => ⟨hi, fun v H' y => ⟨y.1, by
    obtain ⟨_, c, h1, rfl⟩ := y
    have : x.cps.getD i 0 = c := by
      rw [Array.getD_eq_getD_getElem?, h1]; rfl
    show V.str ⟨#[c]⟩ = V.str ⟨#[x.cps.getD i 0]⟩
    rw [this]⟩⟩, fun e => by subst e; exact Nat.le_refl _⟩
end
section
variable {X : Cx}
theorem kit_ss (K : PySem.W.Frag) : PySem.W.kitOne K (.type "str") (.type "str") = some true := rfl
theorem pi_strI {tg l : Expr} {tl : TE} (hl : PEi X l tl) : PIi X tg l (iStr tl) := by with_unfolding_all exact pi_str (hl := hl)
theorem mt_joinK (K : PySem.W.Frag) (hK : X.K = K := by rfl) : MtR X "str.join" (fun x vs H Q => ∃ (a : Str) (p : Addr) (ts : List Str), x = .str a ∧ vs = [.ref p] ∧ SqL K H p (ts.map V.str) ∧ JoinOk a ts = true ∧ Q (.str (Txt.join a ts)) H) := by subst hK; exact mt_join
end
end Cv
namespace Cv
open PySem PySem.Spec PyProof.Rows L2
noncomputable def dg (m : Nat) : List Nat := (Nat.toDigits 10 m).map Char.toNat
noncomputable def tN (i : Int) : Str := Str.ofString (toString i)
theorem tN_nat (m : Nat) : (tN (m : Int)).cps.toList = dg m := PySem.W.KIN.signs_num m
theorem str_ext {a b : Str} (h : a.cps.toList = b.cps.toList) : a = b := by
  cases a; cases b
  simp at h
  rw [h]
theorem cps_app (a b : Str) : (a ++ b).cps.toList = a.cps.toList ++ b.cps.toList := by
  show (a.cps ++ b.cps).toList = _
  simp
theorem tN_neg (m : Nat) : (tN (-((m + 1 : Nat) : Int))).cps.toList = 45 :: dg (m + 1) := by
  have e : toString (-((m + 1 : Nat) : Int)) = "-" ++ toString (m + 1) := rfl
  unfold tN
  rw [e, signs_ofString]
  show ("-" ++ Nat.repr (m + 1)).toList.map Char.toNat = _
  rw [String.toList_append, List.map_append, Nat.toList_repr]
  rfl
theorem dg_step {n d : Nat} (hn : 0 < n) (hd : d < 10) : dg (10 * n + d) = dg n ++ [48 + d] := by
  unfold dg
  rw [← Nat.toDigits_append_toDigits (by decide) hn hd, List.map_append, Nat.toDigits_of_lt_base hd]
  congr 1
  have : ∀ d : Nat, d < 10 → [Nat.digitChar d].map Char.toNat = [48 + d] := by decide
  exact this d hd
theorem dg_lt {d : Nat} (hd : d < 10) : dg d = [48 + d] := by
  unfold dg
  rw [Nat.toDigits_of_lt_base hd]
  have : ∀ d : Nat, d < 10 → [Nat.digitChar d].map Char.toNat = [48 + d] := by decide
  exact this d hd
noncomputable def padD : Nat → Nat → List Nat
  | 0, _ => []
  | k + 1, d => padD k (d / 10) ++ [48 + d % 10]
theorem padD_zero : ∀ k, padD k 0 = List.replicate k 48
  | 0 => rfl
  | k + 1 => by
    rw [padD, padD_zero k, List.replicate_succ']
theorem dg_pow : ∀ (k n d : Nat), 0 < n → d < 10 ^ k → dg (10 ^ k * n + d) = dg n ++ padD k d
  | 0, n, d, hn, hd => by
    have : d = 0 := by simpa using hd
    subst this
    simp [padD]
  | k + 1, n, d, hn, hd => by
    have hd' : d / 10 < 10 ^ k := by rw [Nat.pow_succ] at hd; omega
    have e : 10 ^ (k + 1) * n + d = 10 * (10 ^ k * n + d / 10) + d % 10 := by rw [Nat.pow_succ, Nat.mul_comm (10 ^ k) 10, Nat.mul_assoc]; omega
    have hp : 0 < 10 ^ k * n + d / 10 := Nat.lt_of_lt_of_le (Nat.mul_pos (Nat.pow_pos (by decide)) hn) (Nat.le_add_right _ _)
    rw [e, dg_step hp (Nat.mod_lt _ (by decide)), dg_pow k n (d / 10) hn hd', padD, List.append_assoc]
theorem padD_eq : ∀ (k d : Nat), d < 10 ^ k → 1 ≤ k → padD k d = List.replicate (k - (dg d).length) 48 ++ dg d
  | 0, d, _, h => by omega
  | k + 1, d, hd, _ => by
    by_cases h : d < 10
    · rw [padD, dg_lt h, Nat.div_eq_of_lt h, padD_zero, Nat.mod_eq_of_lt h]; simp
    · have hd' : d / 10 < 10 ^ k := by rw [Nat.pow_succ] at hd; omega
      have hk : 1 ≤ k := by
        cases k with
        | zero => simp at hd'; omega
        | succ k => omega
      have e : dg d = dg (d / 10) ++ [48 + d % 10] := by
        have := dg_step (n := d / 10) (d := d % 10) (by omega) (Nat.mod_lt _ (by decide))
        rwa [Nat.div_add_mod] at this
      rw [padD, padD_eq k (d / 10) hd' hk, e, List.length_append, List.length_singleton, List.append_assoc]
      congr 2
      omega
theorem dg_len_pos (m : Nat) : 1 ≤ (dg m).length := by
  unfold dg
  rw [List.length_map]
  exact PySem.toDigits_len_ge 10 m
theorem dg_len {k m : Nat} (hk : 1 ≤ k) (h : m < 10 ^ k) : (dg m).length ≤ k := by
  unfold dg
  rw [List.length_map]
  exact toDigits_len_pow (by decide) hk h
theorem dg_len_ge : ∀ (k m : Nat), 10 ^ k ≤ m → k + 1 ≤ (dg m).length
  | 0, m, _ => dg_len_pos m
  | k + 1, m, h => by
    have hp : 0 < 10 ^ k := Nat.pow_pos (by decide)
    have h2 : 10 ^ k ≤ m / 10 := by rw [Nat.pow_succ] at h; omega
    have := dg_step (n := m / 10) (d := m % 10) (by omega) (Nat.mod_lt _ (by decide))
    rw [Nat.div_add_mod] at this
    rw [this, List.length_append, List.length_singleton]
    have := dg_len_ge k (m / 10) h2
    omega
theorem dg_digit (m : Nat) : ∀ c ∈ dg m, 48 ≤ c ∧ c ≤ 57 := fun c hc => by
  unfold dg at hc
  obtain ⟨ch, h1, h2⟩ := List.mem_map.mp hc
  have r := digit_range (Nat.isDigit_of_mem_toDigits (by decide) (by decide) h1)
  rw [← h2]
  exact r
theorem dg_head : ∀ (m : Nat), 0 < m → ∃ c r, dg m = c :: r ∧ 49 ≤ c ∧ c ≤ 57 := by
  intro m
  induction m using Nat.strongRecOn with
  | _ m ih =>
    intro h
    by_cases h10 : m < 10
    · exact ⟨48 + m, [], dg_lt h10, by omega, by omega⟩
    · obtain ⟨c, r, e, h1, h2⟩ := ih (m / 10) (by omega) (by omega)
      have := dg_step (n := m / 10) (d := m % 10) (by omega) (Nat.mod_lt _ (by decide))
      rw [Nat.div_add_mod, e] at this
      exact ⟨c, _, this, h1, h2⟩
theorem tN_reads {m : Nat} (h : (dg m).length ≤ 640) : PySem.intText? (tN (m : Int)) = some (m : Int) := by
  have hc := tN_nat m
  have hd : PySem.NumText.AllDigits (tN (m : Int)).cps.toList := by
    rw [hc]
    intro c hc'
    exact dg_digit m c hc'
  have hne : (tN (m : Int)).cps.toList ≠ [] := by
    rw [hc]
    intro e
    have := dg_len_pos m
    rw [e] at this
    simp at this
  have e := PySem.intText_digits hd hne (by rw [Str.length, ← Array.length_toList, hc]; omega)
  rw [hc] at e
  have v : PySem.NumText.digitsVal (dg m) = m := PySem.W.KIN.val_back m
  rw [v] at e
  exact e
structure Sep (sep : Str) (c m : Nat) : Prop where
  at_ : sep.cps.toList[m]? = some c
  pre : ∀ j, j < m → sep.cps.toList[j]? ≠ some c
  len : 1 ≤ sep.length
noncomputable def jn (sep : List Nat) : List (List Nat) → List Nat
  | [] => []
  | [p] => p
  | p :: q :: r => p ++ sep ++ jn sep (q :: r)
theorem join_cps (sep : Str) : ∀ ts : List Str, (Str.join sep ts).cps.toList = jn sep.cps.toList (ts.map (·.cps.toList))
  | [] => rfl
  | [p] => rfl
  | p :: q :: r => by
    have ih := join_cps sep (q :: r)
    show (p ++ sep ++ Str.join sep (q :: r)).cps.toList = _
    rw [cps_app, cps_app, ih]
    rfl
theorem at_cps {x y : Str} {k : Nat} (h : StrLaws.At x y x.length k) : ∀ j (c : Nat), y.cps.toList[j]? = some c → x.cps.toList[k + j]? = some c := fun j c hj => by
  have h2 := h.2
  rw [StrLaws.subAt_eq] at h2
  have e : (x.cps.toList.drop k).take y.length = y.cps.toList := by simpa using h2
  have hj' : j < y.length := by
    have := (List.getElem?_eq_some_iff.mp hj).1
    simpa [Str.length] using this
  rw [← e, List.getElem?_take_of_lt hj', List.getElem?_drop] at hj
  exact hj
theorem cps_at {x y : Str} {k : Nat} (h : k + y.length ≤ x.length) (e : (x.cps.toList.drop k).take y.length = y.cps.toList) : StrLaws.At x y x.length k := by
  refine ⟨h, ?_⟩
  rw [StrLaws.subAt_eq, e]
  simp
theorem not_at {x sep : Str} {c m a : Nat} {p rest : List Nat} (S : Sep sep c m) (hp : c ∉ p) (hx : x.cps.toList.drop a = p ++ rest) (hr : ∀ j, j < m → rest[j]? ≠ some c) {k : Nat} (h1 : a ≤ k) (h2 : k < a + p.length) : ¬ StrLaws.At x sep x.length k := fun h => by
  have e := at_cps h m c S.at_
  have e2 : (x.cps.toList.drop a)[k - a + m]? = some c := by rw [List.getElem?_drop, show a + (k - a + m) = k + m by omega]; exact e
  rw [hx] at e2
  by_cases hlt : k - a + m < p.length
  · rw [List.getElem?_append_left hlt] at e2
    exact hp (List.mem_of_getElem? e2)
  · rw [List.getElem?_append_right (by omega)] at e2
    exact hr _ (by omega) e2
theorem no_at {x sep : Str} {c m a : Nat} {p : List Nat} (S : Sep sep c m) (hp : c ∉ p) (hx : x.cps.toList.drop a = p) {k : Nat} (h1 : a ≤ k) : ¬ StrLaws.At x sep x.length k := fun h => by
  have e := at_cps h m c S.at_
  have e2 : (x.cps.toList.drop a)[k - a + m]? = some c := by rw [List.getElem?_drop, show a + (k - a + m) = k + m by omega]; exact e
  rw [hx] at e2
  exact hp (List.mem_of_getElem? e2)
theorem parts_jn {x sep : Str} {c m : Nat} (S : Sep sep c m) : ∀ (ps : List (List Nat)) (a : Nat) (cuts : List Nat) (f : Nat), ps ≠ [] → (∀ p ∈ ps, c ∉ p) → a ≤ x.length → x.cps.toList.drop a = jn sep.cps.toList ps →
    StrLaws.ChainG x sep x.length a cuts f → (∀ k, f ≤ k → ¬ StrLaws.At x sep x.length k) → (StrLaws.partsFrom x sep.length a cuts).map (·.cps.toList) = ps
  | [], a, cuts, f, h, _, _, _, _, _ => absurd rfl h
  | [p], a, cuts, f, _, hf, ha, hx, hc, _ => by
    have hp := hf p (by simp)
    cases cuts with
    | cons c0 r => exact absurd hc.2.1 (no_at S hp hx hc.1)
    | nil =>
      show [(Builtin.Str.strSub x a x.length).cps.toList] = [p]
      rw [StrLaws.strSub_toList, hx]
      have : p.length ≤ x.length - a := by
        have := congrArg List.length hx
        rw [List.length_drop, Array.length_toList] at this
        show (jn sep.cps.toList [p]).length ≤ x.cps.size - a
        omega
      show [p.take (x.length - a)] = [p]
      rw [List.take_of_length_le this]
  | p :: q :: r, a, cuts, f, _, hf, ha, hx, hc, hend => by
    have hp := hf p (by simp)
    have hx' : x.cps.toList.drop a = p ++ (sep.cps.toList ++ jn sep.cps.toList (q :: r)) := by rw [hx]; show p ++ sep.cps.toList ++ _ = _; rw [List.append_assoc]
    have sl : sep.cps.toList.length = sep.length := by simp [Str.length]
    have hlen := congrArg List.length hx'
    rw [List.length_drop, List.length_append, List.length_append, Array.length_toList, sl] at hlen
    have hxl : x.cps.size = x.length := rfl
    rw [hxl] at hlen
    have hm : m < sep.cps.toList.length := (List.getElem?_eq_some_iff.mp S.at_).1
    have hat : StrLaws.At x sep x.length (a + p.length) := by
      refine cps_at (by omega) ?_
      rw [← List.drop_drop, hx', List.drop_left', ← sl, List.take_left']
      · rfl
      · rfl
    have hnot : ∀ k, a ≤ k → k < a + p.length → ¬ StrLaws.At x sep x.length k := fun k h1 h2 => not_at S hp hx' (fun j hj => by rw [List.getElem?_append_left (by omega)]; exact S.pre j hj) h1 h2
    cases cuts with
    | nil =>
      have e : f = a := hc
      subst e
      exact absurd hat (hend _ (by omega))
    | cons c0 r' =>
      obtain ⟨h1, h2, h3, h4⟩ := hc
      have e0 : c0 = a + p.length := by
        rcases Nat.lt_trichotomy c0 (a + p.length) with z | z | z
        · exact absurd h2 (hnot c0 h1 z)
        · exact z
        · exact absurd hat (h3 _ (by omega) z)
      subst e0
      have hd : x.cps.toList.drop (a + p.length + sep.length) = jn sep.cps.toList (q :: r) := by
        rw [← List.drop_drop, ← List.drop_drop, hx', List.drop_left', ← sl, List.drop_left']
        · rfl
        · rfl
      have ih := parts_jn S (q :: r) (a + p.length + sep.length) r' f (by simp) (fun p' h' => hf p' (List.mem_cons_of_mem _ h')) (by omega) hd h4 hend
      show (Builtin.Str.strSub x a (a + p.length)).cps.toList :: (StrLaws.partsFrom x sep.length (a + p.length + sep.length) r').map (·.cps.toList) = _
      rw [ih, StrLaws.strSub_toList, hx', show a + p.length - a = p.length by omega, List.take_left']
      rfl
theorem kind_ge (x : Str) : 1 ≤ Builtin.Str.strKind x := by
  unfold Builtin.Str.strKind
  split
  · decide
  · split <;> decide
theorem split_jn {x sep : Str} {c m : Nat} (S : Sep sep c m) (hk : Builtin.Str.strKind sep = 1) {ps : List (List Nat)} (hne : ps ≠ []) (hf : ∀ p ∈ ps, c ∉ p) (hx : x.cps.toList = jn sep.cps.toList ps) : (Txt.split x sep).map (·.cps.toList) = ps := by
  obtain ⟨f, hc, hend⟩ := StrLaws.occ_tight x sep S.len
  have key := parts_jn S ps 0 _ f hne hf (Nat.zero_le _) (by rw [List.drop_zero]; exact hx) hc hend
  have one : ∀ h : StrLaws.ChainG x sep x.length 0 [] f, [x].map (·.cps.toList) = ps := fun h => by
    have := parts_jn S ps 0 [] f hne hf (Nat.zero_le _) (by rw [List.drop_zero]; exact hx) h hend
    rw [← this]
    show [x.cps.toList] = [(Builtin.Str.strSub x 0 x.length).cps.toList]
    rw [StrLaws.sub_whole]
  have kx := kind_ge x
  unfold Txt.split
  by_cases h1 : (decide (x.length < sep.length) || decide (Builtin.Str.strKind x < Builtin.Str.strKind sep)) = true
  · rw [if_pos h1]
    have hl : x.length < sep.length := by
      simp only [Bool.or_eq_true, decide_eq_true_eq] at h1
      omega
    refine one ?_
    cases he : Builtin.Str.occurrences x sep 0 x.length (x.length + 1) with
    | nil => rw [he] at hc; exact hc
    | cons c0 r =>
      rw [he] at hc
      have := hc.2.1.1
      omega
  · rw [if_neg h1]
    by_cases h2 : (Builtin.Str.occurrences x sep 0 x.length (x.length + 1)).isEmpty = true
    · rw [if_pos h2]
      refine one ?_
      rw [List.isEmpty_iff.mp h2] at hc
      exact hc
    · rw [if_neg h2, StrLaws.partsBetween_eq]
      exact key
end Cv
namespace Cv
open PySem PySem.Spec PyProof.Rows L2
section
variable {X : Cx}
end
section
variable {K : PySem.W.Frag} {J : It} {H1 : Hp} {te : TE} {cs : L2.St} {Q : VK} {n : Nat}
end
end Cv
namespace Cv
open PySem PySem.Spec PyProof.Rows L2
section
variable {prog : Program} {w : World} {A : Around} {R : Result → Shared → Prop} {s : Shared}
end
section
variable {X : Cx}
end
end Cv
namespace Cv
open PySem PySem.Spec PyProof.Rows L2
structure LsV (H1 H2 : Hp) (D : Addr) (ys : List V) (R : Nat → List V → Hp → Prop) : Prop where
  get : ∀ (i : Nat) (v : V), ys[i]? = some v → ∃ (l : Addr) (xs : List V), v = V.ref l ∧ H1 l = none ∧ l ≠ D ∧ H2 l = some (HO.lst xs) ∧ R i xs H2
  one : ∀ (i j : Nat) (v : V), ys[i]? = some v → ys[j]? = some v → i = j
section
variable {K : PySem.W.Frag} {J : It} {H1 : Hp} {te : TE} {cs : L2.St} {Q : VK} {n : Nat}
end
theorem LsV.base {H0 H1 H2 : Hp} {D : Addr} {ys : List V} {R : Nat → List V → Hp → Prop} (h : LsV H1 H2 D ys R) (s : Same H0 H1) : LsV H0 H2 D ys R :=
  ⟨fun i v e => by obtain ⟨l, xs, e1, e2, e3⟩ := h.get i v e; exact ⟨l, xs, e1, s.free e2, e3⟩, h.one⟩
end Cv
namespace Cv
open PySem PySem.Spec PyProof.Rows L2
section
variable {X : Cx}
theorem pi_tupKI (K : PySem.W.Frag) {tg l : Expr} {tl : TE} (hl : PEi X l tl) (hK : X.K = K := by rfl) : PIi X tg l (iTup K tl) := by subst hK; exact pi_tupI hl
theorem pi_listKI (K : PySem.W.Frag) {tg l : Expr} {tl : TE} (hl : PEi X l tl) (hK : X.K = K := by rfl) : PIi X tg l (iList K tl) := by subst hK; exact pi_listI hl
end
end Cv
namespace Cv
open PySem PySem.Spec PyProof.Rows L2
structure ClsK (K : PySem.W.Frag) (mg : Str → Option Value) (x : Str) (C : Addr) : Prop where
  cl : Cls K C
  makes : PySem.W.makesIn K C = true
  kp : PySem.W.keepIn K (.ref C) = true
  at_ : mg x = some (.ref C)
structure MthAt (K : PySem.W.Frag) (C : Addr) (m q : Str) (st : Stmt) (ps : List Str) : Prop where
  ex : ∃ (f : Addr) (fd : FuncData), Fun K m q st f fd ∧ Meth K C m f ∧ Binds K fd ps []
structure MthOk (P : Program) (w : World) (K : PySem.W.Frag) (mg : Str → Option Value) (base : Heap) (CX : CXT) (k : Nat) (C : Addr) (m : Str) (ps : List Str) (sp : Sp) : Prop where
  ex : ∃ (f : Addr) (fd : FuncData), FnOk P w K mg base CX k f fd ps sp ∧ Meth K C m f ∧ Binds K fd ps []
section
variable {P : Program} {w : World} {K : PySem.W.Frag} {mg : Str → Option Value} {base : Heap}
theorem MthAt.mk' {C : Addr} {m q : Str} {st : Stmt} {ps : List Str} {f : Addr} {oc : Value} {od an : Option Addr} {osl : Array (Option Value)} {kV doc pm cdv ct : Value} (hm : PySem.W.findIn K (.ref C) m = some (some (.ref f))) (hi : PySem.W.isFn K (.ref f) = true)
    (l : K.lookup f = some ⟨oc, od, .func (PySem.W.fnOf m q (defArgs st) (defBody st) (defScope st) .none kV doc pm an cdv ct), osl⟩)
    (c : PySem.W.codeIn K cdv q = true) (k : PySem.W.keepIn K (.ref f) = true)
    (h : ∀ (kV doc pm : Value) (an : Option Addr) (cdv ct : Value) (us : List Value), us.length = ps.length → bindArgs (PySem.W.fnOf m q (defArgs st) (defBody st) (defScope st) .none kV doc pm an cdv ct) ⟨us, []⟩ = pure (ps.zip us)) : MthAt K C m q st ps := by
  have F := fun_mk (st := st) l c k
  exact ⟨_, _, F, ⟨hm, hi, k⟩, F.binds h⟩
theorem mth_ok {C : Addr} {m q : Str} {st : Stmt} {N ps : List Str} {k : Nat} {sp : Sp} (F : MthAt K C m q st ps) (S : FnScope N ps (defScope st)) (len : ∀ vs H Q E, sp vs H Q E → vs.length = ps.length)
    (hbody : ∀ (f : Addr) (cdv : Value) (A : Around) (outer : List Env) (s : Shared) (H : Hp) (vs : List V) (Q : VK) (E : XK), Room k (A.deeper (envOfC q (defScope st) s.heap.objs.size f cdv)) → sp vs H Q E →
      ∃ t, PSsi (cxOf CX0 P w K mg base N q (defScope st) f cdv A outer s H E).nox (defBody st) t ∧ t { nx := fun _ H' => Q .non H', rt := Q } (start N vs) H) : MthOk P w K mg base CX0 (k + 1) C m ps sp := by
  obtain ⟨f, fd, F, hm, hb⟩ := F.ex
  refine ⟨f, fd, F.ok S len fun cdv A outer s H vs Q E hr h => ?_, hm, hb⟩
  obtain ⟨t, h1, h2⟩ := hbody f cdv A outer s H vs Q E hr h
  exact ⟨t, by unfold PSsi at h1; exact h1, h2⟩
end
section
variable {X : Cx} {CX : CXT} {k j : Nat} {ps : List Str} {sp : Sp} {E : XK} {x m : Str} {p pos apos : Pos} {o e : Expr} {es : List Expr} {t : TA} {ta : TE} {C : Addr}
noncomputable def tMk (C : Addr) (sp : Sp) (E : XK) (t : TA) : TE := fun σ H Q => t σ H fun vs H1 => ∀ x dx, H1 x = none → H1 dx = none → dx ≠ x →
  sp (.ref x :: vs) (upd (upd H1 dx (.own x)) x (.ins C dx [])) (fun v H2 => v = .non ∧ Q (.ref x) H2) E
noncomputable def tMth (C : Addr) (m : Str) (sp : Sp) (E : XK) (ta : TE) (t : TA) : TE := fun σ H Q => ta σ H fun x H1 => ∃ a dx fs, x = .ref a ∧ H1 a = some (.ins C dx fs) ∧ fs.lookup m = none ∧ t σ H1 fun vs H2 => sp (x :: vs) H2 Q E
theorem pe_mth {pl : Sem Bool} (T : ClsK X.K X.mg x C) (D : MthOk X.prog X.w X.K X.mg X.base CX k C m ps sp) (he : PE X o ta) (hr : Room j X.A) (hx : Passes CX X E) (ha : PA X (e :: es) t) (hk : k ≤ j := by decide)
    (hst : starEach (e :: es) X.env = (false, eval e X.env) :: starEach es X.env := by rfl) (hpl : (backTo pos (starEach es X.env)).any (·.1) = false := by rfl)
    (ht : eval (.Call (.Attribute o m apos) (e :: es) [] pos) X.env = (do
      let ov ← eval o X.env
      standAt apos.atName
      let (f, first) ← holding [ov] (getMethod ov m pl)
      callWith pos f first (backTo pos (starEach (e :: es) X.env)) (backToKw pos (keywordEach [] X.env))) := by rfl) :
    PE X (.Call (.Attribute o m apos) (e :: es) [] pos) (tMth C m sp E ta t) := by
  obtain ⟨f, fd, F, hm, hb⟩ := D.ex
  intro pins s σ H Q I h
  refine pe_meth (X := X) (pos := pos) (apos := apos) (pl := pl) he T.cl hm F (hr.mono hk) hb .nil hx ha hst hpl ht pins s σ H Q I ?_
  unfold tMth at h
  unfold tMeth
  simp only [List.append_nil]
  exact h
theorem pe_mthI {pl : Sem Bool} (T : ClsK X.K X.mg x C) (D : MthOk X.prog X.w X.K X.mg X.base CX k C m ps sp) (he : PEi X o ta) (hr : Room j X.A) (hx : Passes CX X E) (ha : PAi X (e :: es) t) (hk : k ≤ j := by decide)
    (hst : starEach (e :: es) X.env = (false, eval e X.env) :: starEach es X.env := by rfl) (hpl : (backTo pos (starEach es X.env)).any (·.1) = false := by rfl)
    (ht : eval (.Call (.Attribute o m apos) (e :: es) [] pos) X.env = (do
      let ov ← eval o X.env
      standAt apos.atName
      let (f, first) ← holding [ov] (getMethod ov m pl)
      callWith pos f first (backTo pos (starEach (e :: es) X.env)) (backToKw pos (keywordEach [] X.env))) := by rfl) :
    PEi X (.Call (.Attribute o m apos) (e :: es) [] pos) (tMth C m sp E ta t) := by with_unfolding_all exact pe_mth (pl := pl) T D he hr hx ha hk hst hpl ht
theorem pe_fldI {f : Str} (he : PEi X e ta) (hb : attributeBase e f X.env (eval e X.env) = eval e X.env := by rfl) : PEi X (.Attribute e f pos) (tFld X.K ta f) := by with_unfolding_all exact pe_fld he hb
theorem ps_fldI {f : Str} {pos' : Pos} {value : Expr} {tv : TE} (ha : PEi X o ta) (hv : PEi X value tv) (hs : swapsWith value (some (.Attribute o f pos')) pos.line X.env = pure false := by rfl) : PSi X (.Assign [.Attribute o f pos'] value pos) (sFld X.K ta tv f) := by with_unfolding_all exact ps_fld ha hv hs
end
section
variable {X : Cx}
end
end Cv
namespace Cv
open PySem PySem.Spec PyProof.Rows L2
section
variable {prog : Program} {w : World} {A : Around} {E : Value → Shared → Prop} {s : Shared}
end
section
variable {X : Cx} {pins : List (Addr × Obj)} {σ : L2.St} {A : Around}
end
end Cv
namespace Cv
open PySem PySem.Spec PyProof.Rows L2
theorem AxV.mono {H : Hp} {v : V} {n m : Nat} {t b : List Int} (h : AxV H v n t b) (hn : n ≤ m) : AxV H v m t b := by
  obtain ⟨a, lt, lb, e, h1, h2, h3, h4, r⟩ := h
  exact ⟨a, lt, lb, e, h1, h2, h3, fun x hx => (h4 x hx).mono hn, r⟩
end Cv
namespace Cv
open PySem PySem.Spec PyProof.Rows L2
section
variable {X : Cx} {tg : Expr}
end
noncomputable def ptAt (ps : List Pt) (j : Nat) : Pt := (gX ps j, gY ps j)
noncomputable def rr (N : Nat) (g : Nat → Rat) (k : Nat) : Rat := ((((N : Int) : Rat) - ((k : Int) : Rat)) * g k + ((k : Int) : Rat) * g (k - 1)) / ((N : Int) : Rat)
end Cv
namespace Cv
open PySem PySem.Spec PyProof.Rows L2
noncomputable def sg : Nat → Rat
  | 0 => 1
  | k + 1 => -(sg k)
structure Cnt (E : Nat → Prop) (most : Nat) (r : Int) : Prop where
  lo : -1 ≤ r
  hi : r ≤ most
  all : ∀ j : Nat, (j : Int) ≤ r → E j
  stop : r = most ∨ ¬ E (r + 1).toNat
theorem Cnt.one {E : Nat → Prop} {most : Nat} {r s : Int} (h1 : Cnt E most r) (h2 : Cnt E most s) : r = s := by
  have key : ∀ {r s : Int}, Cnt E most r → Cnt E most s → ¬ r < s := fun {r s} h1 h2 hlt => by
    have := h1.lo
    have := h2.hi
    rcases h1.stop with q | q
    · omega
    · exact q (h2.all _ (by omega))
  have a := key h1 h2
  have b := key h2 h1
  omega
theorem PlsV.snoc {H : Hp} {vs : List V} {pl : List Pl} {v : V} {p : Pl} (h : PlsV H vs pl) (hv : RwV H v p.1 p.2) : PlsV H (vs ++ [v]) (pl ++ [p]) := by
  refine ⟨by simp [h.len], fun i w q e1 e2 => ?_⟩
  have hl := h.len
  by_cases hi : i < vs.length
  · rw [List.getElem?_append_left hi] at e1
    rw [List.getElem?_append_left (by omega)] at e2
    exact h.get i w q e1 e2
  · rw [List.getElem?_append_right (by omega)] at e1 e2
    rw [← hl] at e2
    cases hk : i - vs.length with
    | zero =>
      rw [hk] at e1 e2
      simp at e1 e2
      subst e1 e2
      exact hv
    | succ k => rw [hk] at e1; simp at e1
theorem PlsV.nil (H : Hp) : PlsV H [] [] := ⟨rfl, fun i v p e => by simp at e⟩
section
variable {X : Cx}
end
theorem PlsV.drop {H : Hp} {vs : List V} {p : List Pl} (h : PlsV H vs p) (n : Nat) : PlsV H (vs.drop n) (p.drop n) := by
  have hl := h.len
  refine ⟨by rw [List.length_drop, List.length_drop, hl], fun i v r e1 e2 => ?_⟩
  rw [List.getElem?_drop] at e1 e2
  exact h.get _ v r e1 e2
end Cv
namespace Cv
open PySem PySem.Spec PyProof.Rows L2
structure ShLK (K : PySem.W.Frag) (H : Hp) (vs : List V) (qs : List Rat) : Prop where
  len : vs.length = qs.length
  get : ∀ (i : Nat) v q, vs[i]? = some v → qs[i]? = some q → ShK K H v q
section
variable {K : PySem.W.Frag} {H H' : Hp} {vs : List V} {qs : List Rat}
theorem ShLK.tup (h : ShLK K H vs qs) (t : Tup H H') : ShLK K H' vs qs := ⟨h.len, fun i v q e1 e2 => (h.get i v q e1 e2).tup t⟩
theorem ShLK.same (h : ShLK K H vs qs) (t : Same H H') : ShLK K H' vs qs := h.tup t.tup
theorem ShL.k (h : ShL H vs qs) : ShLK K H vs qs := ⟨h.len, fun i v q e1 e2 => (h.get i v q e1 e2).k⟩
theorem ShLK.map {ps : List Pt} {f : Pt → Rat} {ys : List V} (hl : ys.length = ps.length) (h : ∀ (i : Nat) v, ys[i]? = some v → ∀ p, ps[i]? = some p → ShK K H v (f p)) : ShLK K H ys (ps.map f) := by
  refine ⟨by rw [hl, List.length_map], fun i v q e1 e2 => ?_⟩
  rw [List.getElem?_map] at e2
  cases e3 : ps[i]? with
  | none => rw [e3] at e2; cases e2
  | some p =>
    rw [e3] at e2
    cases e2
    exact h i v e1 p e3
end
end Cv
namespace Cv
open PySem PySem.Spec PyProof.Rows L2
section
variable {prog : Program} {w : World} {A : Around} {E : Value → Shared → Prop} {s : Shared}
end
section
variable {X : Cx} {tg : Expr}
end
section
variable {X : Cx}
end
end Cv
namespace Cv
open PySem PySem.Spec PyProof.Rows L2
end Cv
namespace Cv
open PySem PySem.Spec PyProof.Rows L2
end Cv
namespace Cv
open PySem PySem.Spec PyProof.Rows L2
end Cv
namespace Cv
open PySem PySem.Spec PyProof.Rows L2
end Cv
namespace Cv
open PySem PySem.Spec PyProof.Rows L2
end Cv
namespace Cv
open PySem PySem.Spec PyProof.Rows L2
end Cv
namespace Cv
open PySem PySem.Spec PyProof.Rows L2
noncomputable def cvP (ps : List Pt) (d e : Nat → Rat) (k : Nat) : List Pt := [ptAt ps k, (gX ps k + d k, gY ps k + e k), (gX ps (k + 1) - d (k + 1), gY ps (k + 1) - e (k + 1)), ptAt ps (k + 1)]
end Cv
namespace Cv
open PySem PySem.Spec PyProof.Rows L2
end Cv
namespace Cv
noncomputable def toP (dx dy : Int) (c : List Pl) : List Pt := c.map fun p => (Rat.divInt p.1 dx, Rat.divInt p.2 dy)
noncomputable def Dvs (k : Nat) (c : List Pl) : Prop := ∀ p ∈ c, (2 : Int) ^ k ∣ p.1 ∧ (2 : Int) ^ k ∣ p.2
noncomputable def SzQ (n : Nat) (c : List Pl) : Prop := ∀ p ∈ c, Sz n p.1 ∧ Sz n p.2
theorem toP_len (dx dy : Int) (c : List Pl) : (toP dx dy c).length = c.length := by unfold toP; rw [List.length_map]
theorem two_dvd {j k : Nat} (h : j ≤ k) : (2 : Int) ^ j ∣ 2 ^ k := ⟨2 ^ (k - j), by rw [← Int.pow_add]; congr 1; omega⟩
theorem Dvs.mono {k j : Nat} {c : List Pl} (h : Dvs k c) (hj : j ≤ k) : Dvs j c := fun p hp =>
  ⟨Int.dvd_trans (two_dvd hj) (h p hp).1, Int.dvd_trans (two_dvd hj) (h p hp).2⟩
noncomputable def hp : Nat → Rat
  | 0 => 1
  | d + 1 => hp d * (1 / 2)
end Cv
namespace Cv
open PySem PySem.Spec PyProof.Rows L2
structure CsV (H : Hp) (D : Option Addr) (ys : List V) (css : List (List Pl)) : Prop where
  len : ys.length = css.length
  get : ∀ (i : Nat) (v : V) (c : List Pl), ys[i]? = some v → css[i]? = some c → ∃ (l : Addr) (us : List V), v = .ref l ∧ some l ≠ D ∧ H l = some (.lst us) ∧ PlsV H us c
theorem CsV.same {H H' : Hp} {D : Option Addr} {ys : List V} {css : List (List Pl)} (h : CsV H D ys css) (s : Same H H') : CsV H' D ys css :=
  ⟨h.len, fun i v c e1 e2 => by obtain ⟨l, us, r1, r2, r3, r4⟩ := h.get i v c e1 e2; exact ⟨l, us, r1, r2, s _ _ r3, r4.same s⟩⟩
theorem CsV.at {H : Hp} {D : Option Addr} {ys : List V} {css : List (List Pl)} (h : CsV H D ys css) {i : Nat} {c : List Pl} (hc : css[i]? = some c) : ∃ (l : Addr) (us : List V), ys[i]? = some (.ref l) ∧ H l = some (.lst us) ∧ PlsV H us c := by
  have hi : i < css.length := (List.getElem?_eq_some_iff.mp hc).1
  have e : ys[i]? = some (ys[i]'(by rw [h.len]; exact hi)) := List.getElem?_eq_getElem _
  obtain ⟨l, us, r1, r2, r3, r4⟩ := h.get i _ c e hc
  exact ⟨l, us, by rw [e, r1], r3, r4⟩
theorem snoc_get {α : Type} {ys : List α} {v w : α} {j : Nat} (e : (ys ++ [v])[j]? = some w) : (j < ys.length ∧ ys[j]? = some w) ∨ (j = ys.length ∧ w = v) := by
  by_cases hj : j < ys.length
  · rw [List.getElem?_append_left hj] at e
    exact .inl ⟨hj, e⟩
  · rw [List.getElem?_append_right (by omega)] at e
    have hj0 : j - ys.length = 0 := by
      cases q : j - ys.length with
      | zero => rfl
      | succ k => rw [q] at e; simp at e
    rw [hj0] at e
    exact .inr ⟨by omega, by simpa using e.symm⟩
theorem CsV.snoc {H : Hp} {D : Option Addr} {ys : List V} {css : List (List Pl)} {l : Addr} {us : List V} {c : List Pl} (h : CsV H D ys css) (hl : some l ≠ D) (h1 : H l = some (.lst us)) (h2 : PlsV H us c) : CsV H D (ys ++ [.ref l]) (css ++ [c]) := by
  refine ⟨by rw [List.length_append, List.length_append, h.len]; rfl, fun i v c' e1 e2 => ?_⟩
  rcases snoc_get e1 with ⟨q1, q2⟩ | ⟨q1, rfl⟩
  · rcases snoc_get e2 with ⟨p1, p2⟩ | ⟨p1, _⟩
    · exact h.get i v c' q2 p2
    · have := h.len; omega
  · rcases snoc_get e2 with ⟨p1, p2⟩ | ⟨p1, rfl⟩
    · have := h.len; omega
    · exact ⟨l, us, rfl, hl, h1, h2⟩
theorem CsV.upd {H : Hp} {D : Addr} {ys zs ws : List V} {css : List (List Pl)} (h : CsV H (some D) ys css) (hD : H D = some (.lst zs)) : CsV (upd H D (.lst ws)) (some D) ys css := by
  refine ⟨h.len, fun i v c e1 e2 => ?_⟩
  obtain ⟨l, us, r1, r2, r3, r4⟩ := h.get i v c e1 e2
  have n : l ≠ D := fun z => r2 (by rw [z])
  exact ⟨l, us, r1, r2, by rw [upd_ne n]; exact r3, r4.tup (Tup.lst hD)⟩
end Cv
namespace Cv
open PySem PySem.Spec PyProof.Rows L2
theorem Plain2.congr {K : PySem.W.Frag} {J : It} {H1 : Hp} {n m : Nat} {f g f' g' : Nat → V} (h : Plain2 K J H1 n f g) (hn : n = m) (hf : ∀ i, i < n → f i = f' i) (hg : ∀ i, i < n → g i = g' i) : Plain2 K J H1 m f' g' := fun H2 s i => by
  subst hn
  refine ⟨fun hi => ⟨((h H2 s i).1 hi).1, fun x H' y => ?_⟩, (h H2 s i).2⟩
  have q := ((h H2 s i).1 hi).2 x H' y
  rw [hf i hi, hg i hi] at q
  exact q
theorem PlsV.rev {H : Hp} {us : List V} {pl : List Pl} (h : PlsV H us pl) : PlsV H us.reverse pl.reverse := by
  have hl := h.len
  refine ⟨by rw [List.length_reverse, List.length_reverse, hl], fun i w q e1 e2 => ?_⟩
  have hi : i < us.length := by have := (List.getElem?_eq_some_iff.mp e1).1; rwa [List.length_reverse] at this
  rw [List.getElem?_reverse hi] at e1
  rw [List.getElem?_reverse (by omega)] at e2
  rw [hl] at e1
  exact h.get _ w q e1 e2
end Cv
namespace Cv
open PySem PySem.Spec PyProof.Rows L2
end Cv
namespace Cv
open PySem PySem.Spec PyProof.Rows L2
theorem LsV.mono {H1 H2 : Hp} {D : Addr} {ys : List V} {R R' : Nat → List V → Hp → Prop} (h : LsV H1 H2 D ys R) (f : ∀ i xs, i < ys.length → R i xs H2 → R' i xs H2) : LsV H1 H2 D ys R' :=
  ⟨fun i v e => by obtain ⟨l, xs, e1, e2, e3, e4, e5⟩ := h.get i v e; exact ⟨l, xs, e1, e2, e3, e4, f i xs (List.getElem?_eq_some_iff.mp e).1 e5⟩, h.one⟩
end Cv
namespace Cv
open PySem PySem.Spec PyProof.Rows L2
structure CvB (H : Hp) (v : V) (l : Addr) (ws : List V) (ps : List Pt) (B : Int) (mo : Nat) : Prop where
  ref : v = .ref l
  lst : H l = some (.lst ws)
  pts : PtsV H ws ps
  l1 : 1 ≤ ps.length
  l2 : ps.length ≤ mo
  ov : ∀ p ∈ ps, OvP B 110 p
theorem CvB.same {H H' : Hp} {v : V} {l : Addr} {ws : List V} {ps : List Pt} {B : Int} {mo : Nat} (h : CvB H v l ws ps B mo) (s : Same H H') : CvB H' v l ws ps B mo := ⟨h.ref, s _ _ h.lst, h.pts.same s, h.l1, h.l2, h.ov⟩
theorem PtsV.rev {H : Hp} {us : List V} {ps : List Pt} (h : PtsV H us ps) : PtsV H us.reverse ps.reverse := by
  have hl := h.len
  refine ⟨by rw [List.length_reverse, List.length_reverse, hl], fun i w q e1 e2 => ?_⟩
  have hi : i < us.length := by have := (List.getElem?_eq_some_iff.mp e1).1; rwa [List.length_reverse] at this
  rw [List.getElem?_reverse hi] at e1
  rw [List.getElem?_reverse (by omega)] at e2
  rw [hl] at e1
  exact h.get _ w q e1 e2
end Cv
namespace Cv
open PySem PySem.Spec PyProof.Rows L2
noncomputable def PssV (H : Hp) (us : List V) (n : Nat) (qs : Nat → List Pt) : Prop := us.length = n ∧ ∀ (i : Nat) (v : V), us[i]? = some v → ∃ (l : Addr) (xs : List V), v = .ref l ∧ H l = some (.lst xs) ∧ PtsV H xs (qs i)
theorem PssV.same {H H' : Hp} {us : List V} {n : Nat} {qs : Nat → List Pt} (h : PssV H us n qs) (s : Same H H') : PssV H' us n qs :=
  ⟨h.1, fun i v e => by obtain ⟨l, xs, e1, e2, e3⟩ := h.2 i v e; exact ⟨l, xs, e1, s _ _ e2, e3.same s⟩⟩
theorem PssV.at {H : Hp} {us : List V} {n : Nat} {qs : Nat → List Pt} (h : PssV H us n qs) {i : Nat} (hi : i < n) : ∃ (l : Addr) (xs : List V), us[i]? = some (.ref l) ∧ H l = some (.lst xs) ∧ PtsV H xs (qs i) := by
  have e : us[i]? = some (us[i]'(by rw [h.1]; exact hi)) := List.getElem?_eq_getElem _
  obtain ⟨l, xs, e1, e2, e3⟩ := h.2 i _ e
  exact ⟨l, xs, by rw [e, e1], e2, e3⟩
theorem PssV.drop {H : Hp} {us : List V} {n k : Nat} {qs : Nat → List Pt} (h : PssV H us n qs) (hk : k ≤ n) : PssV H (us.drop k) (n - k) (fun i => qs (k + i)) :=
  ⟨by rw [List.length_drop, h.1], fun i v e => by rw [List.getElem?_drop] at e; exact h.2 (k + i) v e⟩
end Cv
namespace Cv
open PySem PySem.Spec PyProof.Rows L2
structure But (us : List V) (i : Nat) (H H' : Hp) : Prop where
  keep : ∀ b o, H b = some o → (∀ j, j < i → us[j]? ≠ some (.ref b)) → H' b = some o
theorem But.refl (us : List V) (H : Hp) : But us 0 H H := ⟨fun _ _ e _ => e⟩
theorem But.same {us : List V} {i : Nat} {H H1 H2 : Hp} (h : But us i H H1) (s : Same H1 H2) : But us i H H2 := ⟨fun b o e n => s _ _ (h.keep b o e n)⟩
theorem But.tup {us : List V} {i : Nat} {H H' : Hp} (h : But us i H H') (hl : ∀ (j : Nat) (l : Addr), us[j]? = some (.ref l) → ∃ xs, H l = some (.lst xs)) : Tup H H' := fun b xs e => h.keep b _ e fun j hj z => by
  obtain ⟨ys, hy⟩ := hl j b z
  rw [e] at hy; cases hy
theorem But.first {us : List V} {i : Nat} {H0 H H' : Hp} {f : Addr} {qs : Nat → List Pt} (h : But us i H H') (hL : LsV H0 H f us fun i xs H => PtsV H xs (qs i)) {n : Nat} (hn : us.length = n) (hi : i ≤ n) : PssV H' (us.drop i) (n - i) (fun j => qs (i + j)) := by
  have tp := h.tup fun j l e => by obtain ⟨l', xs, e1, _, _, e4, _⟩ := hL.get j _ e; cases e1; exact ⟨xs, e4⟩
  refine ⟨by rw [List.length_drop, hn], fun j v e => ?_⟩
  rw [List.getElem?_drop] at e
  obtain ⟨l, xs, rfl, e2, e3, e4, e5⟩ := hL.get (i + j) v e
  refine ⟨l, xs, rfl, h.keep l _ e4 fun j' hj' z => ?_, e5.tup tp⟩
  have := hL.one _ _ _ e z
  omega
end Cv
namespace Cv
open PySem PySem.Spec PyProof.Rows L2
noncomputable def headQ (q : List Pt) : Option Pt := q[0]?
noncomputable def lastQ (q : List Pt) : Option Pt := q[q.length - 1]?
noncomputable def Joined (n : Nat) (qs : Nat → List Pt) : Prop := ∀ i, i + 1 < n → lastQ (qs i) = headQ (qs (i + 1))
noncomputable def partsF (lp : Addr) : List (Str × V) := putF "parts" (.ref lp) []
structure PathAt (C : Addr) (H : Hp) (p lp : Addr) (ks : List V) (n : Nat) (qs : Nat → List Pt) : Prop where
  ob : ∃ dx, H p = some (.ins C dx (partsF lp))
  ls : H lp = some (.lst ks)
  pt : PssV H ks n qs
theorem PathAt.same {C : Addr} {H H' : Hp} {p lp : Addr} {ks : List V} {n : Nat} {qs : Nat → List Pt} (h : PathAt C H p lp ks n qs) (s : Same H H') : PathAt C H' p lp ks n qs := by
  obtain ⟨⟨dx, h1⟩, h2, h3⟩ := h
  exact ⟨⟨dx, s _ _ h1⟩, s _ _ h2, h3.same s⟩
end Cv
namespace Cv
open PySem PySem.Spec PyProof.Rows L2
noncomputable def spPSeats (K : PySem.W.Frag) : Sp := fun vs H Q _ => ∃ (c : Int) (m : Nat) (w : V) (B kd : Int), vs = [.int c, .int (m : Int), w] ∧ m ≤ 100 ∧ WayV H w B kd ∧
  ∀ (l : Addr) (us : List V) (pl : List Pl) (H' : Hp), Same H H' → H l = none → H' l = some (.lst us) → PlsV H' us pl → pl.length = m → SzQ 110 pl → Q (.ref l) H'
structure JoinedI (css : List (List Pl)) : Prop where
  ne : ∀ c ∈ css, 1 ≤ c.length ∧ c.length ≤ 10
  sz : ∀ c ∈ css, SzQ 110 c
  jn : ∀ (i : Nat) (a b : List Pl), css[i]? = some a → css[i + 1]? = some b → a[a.length - 1]? = b[0]?
noncomputable def qsOf (B : Int) (css : List (List Pl)) (i : Nat) : List Pt := ptsOf B ((css[i]?).getD [])
noncomputable def Apart (css : List (List Pl)) : Prop := ∃ (i : Nat) (a b : List Pl), css[i]? = some a ∧ css[i + 1]? = some b ∧ a[a.length - 1]? ≠ b[0]?
theorem ptsOf_len' (B : Int) (pl : List Pl) : (ptsOf B pl).length = pl.length := by unfold ptsOf; rw [List.length_map]
theorem ptsOf_get (B : Int) (pl : List Pl) (i : Nat) : (ptsOf B pl)[i]? = (pl[i]?).map fun p => (Rat.divInt p.1 B, Rat.divInt p.2 B) := by unfold ptsOf; rw [List.getElem?_map]
theorem divInt_inj {x y B : Int} (hB : B ≠ 0) (h : Rat.divInt x B = Rat.divInt y B) : x = y := by
  rw [divInt_cast, divInt_cast] at h
  have b0 : (B : Rat) ≠ 0 := fun z => hB (Rat.intCast_inj.mp (z.trans (Rat.intCast_zero).symm))
  have : (x : Rat) = (y : Rat) := by grind
  exact Rat.intCast_inj.mp this
theorem of_ends {B : Int} (hB : B ≠ 0) {a b : List Pl} (h : lastQ (ptsOf B a) = headQ (ptsOf B b)) : a[a.length - 1]? = b[0]? := by
  unfold lastQ headQ at h
  rw [ptsOf_len', ptsOf_get, ptsOf_get] at h
  cases e1 : a[a.length - 1]? with
  | none =>
    rw [e1] at h
    cases e2 : b[0]? with
    | none => rfl
    | some q => rw [e2] at h; cases h
  | some p =>
    rw [e1] at h
    cases e2 : b[0]? with
    | none => rw [e2] at h; cases h
    | some q =>
      rw [e2] at h
      have h' := Option.some.inj h
      rw [Prod.mk.injEq] at h'
      rw [Prod.ext (divInt_inj hB h'.1) (divInt_inj hB h'.2)]
theorem qsOf_some {B : Int} {css : List (List Pl)} {i : Nat} {c : List Pl} (h : css[i]? = some c) : qsOf B css i = ptsOf B c := by unfold qsOf; rw [h]; rfl
theorem Apart.not {css : List (List Pl)} (h : Apart css) {B : Int} (hB : B ≠ 0) : ¬ Joined css.length (qsOf B css) := fun hj => by
  obtain ⟨i, a, b, e1, e2, n⟩ := h
  have hi : i + 1 < css.length := (List.getElem?_eq_some_iff.mp e2).1
  have := hj i hi
  rw [qsOf_some e1, qsOf_some e2] at this
  exact n (of_ends hB this)
theorem JoinedI.nil : JoinedI [] := ⟨fun _ h => (nomatch h), fun _ h => (nomatch h), fun i a b e => by simp at e⟩
end Cv
namespace Cv
open PySem PySem.Spec PyProof.Rows L2
theorem WayV.tup {H H' : Hp} {v : V} {B kd : Int} (h : WayV H v B kd) (t : Tup H H') : WayV H' v B kd := by
  obtain ⟨a, s, b, sx, sy, bx, by_, rfl, h1, h2, h3, r⟩ := h
  exact ⟨a, s, b, sx, sy, bx, by_, rfl, t _ _ h1, t _ _ h2, t _ _ h3, r⟩
theorem PlsV.cons {H : Hp} {us : List V} {pl : List Pl} {v : V} {x y : Int} (hv : RwV H v x y) (h : PlsV H us pl) : PlsV H (v :: us) ((x, y) :: pl) := by
  refine ⟨by rw [List.length_cons, List.length_cons, h.len], fun i w q e1 e2 => ?_⟩
  cases i with
  | zero => cases e1; cases e2; exact hv
  | succ i => exact h.get i w q (by simpa using e1) (by simpa using e2)
theorem CsV.drop {H : Hp} {D : Option Addr} {ys : List V} {css : List (List Pl)} (h : CsV H D ys css) : CsV H none ys css :=
  ⟨h.len, fun i v c e1 e2 => by obtain ⟨l, us, q1, q2, q3, q4⟩ := h.get i v c e1 e2; exact ⟨l, us, q1, (fun z => by cases z), q3, q4⟩⟩
end Cv
namespace Cv
open PySem PySem.Spec PyProof.Rows L2
theorem CsV.dropK {H : Hp} {D : Option Addr} {ys : List V} {css : List (List Pl)} (h : CsV H D ys css) (k : Nat) : CsV H D (ys.drop k) (css.drop k) := by
  refine ⟨by rw [List.length_drop, List.length_drop, h.len], fun i v c e1 e2 => ?_⟩
  rw [List.getElem?_drop] at e1 e2
  exact h.get _ v c e1 e2
end Cv
namespace Cv
open PySem PySem.Spec PyProof.Rows L2
end Cv
namespace Cv
open PySem PySem.Spec PyProof.Rows L2
theorem But.base {us : List V} {i : Nat} {H0 H H' : Hp} (h : But us i H H') (s : Same H0 H) (hn : ∀ (j : Nat) (l : Addr), us[j]? = some (.ref l) → H0 l = none) : Same H0 H' := fun b o e => h.keep b o (s _ _ e) fun j hj z => by
  rw [hn j b z] at e; cases e
theorem LsV.new {H1 H2 : Hp} {D : Addr} {ys : List V} {R : Nat → List V → Hp → Prop} (h : LsV H1 H2 D ys R) (j : Nat) (l : Addr) (e : ys[j]? = some (.ref l)) : H1 l = none := by
  obtain ⟨l', xs, e1, e2, _⟩ := h.get j _ e
  cases e1; exact e2
theorem LsV.there {H1 H2 : Hp} {D : Addr} {ys : List V} {R : Nat → List V → Hp → Prop} (h : LsV H1 H2 D ys R) (j : Nat) (l : Addr) (e : ys[j]? = some (.ref l)) : ∃ xs, H2 l = some (.lst xs) := by
  obtain ⟨l', xs, e1, _, _, e4, _⟩ := h.get j _ e
  cases e1; exact ⟨xs, e4⟩
theorem PssV.nil (H : Hp) : PssV H [] 0 (fun _ => []) := ⟨rfl, fun i v e => nomatch (show (none : Option V) = some v from e)⟩
theorem PathAt.upd {C : Addr} {H : Hp} {x lp l : Addr} {ks ls : List V} {n : Nat} {qs : Nat → List Pt} {o : HO} (h : PathAt C H x lp ks n qs) (hl : H l = some (.lst ls)) (h1 : l ≠ lp) (h2 : ∀ j : Nat, ks[j]? ≠ some (.ref l)) : PathAt C (L2.upd H l o) x lp ks n qs := by
  obtain ⟨⟨dx, q1⟩, q2, q3⟩ := h
  refine ⟨⟨dx, by rw [upd_ne (fun z => by rw [z, hl] at q1; cases q1)]; exact q1⟩, by rw [upd_ne (fun z => h1 z.symm)]; exact q2, q3.1, fun j v e => ?_⟩
  obtain ⟨l', xs, rfl, e2, e3⟩ := q3.2 j v e
  exact ⟨l', xs, rfl, by rw [upd_ne (fun z => h2 j (by rw [← z]; exact e))]; exact e2, e3.tup (Tup.lst hl)⟩
end Cv
namespace Cv
open PySem PySem.Spec PyProof.Rows L2
end Cv
namespace Cv
open PySem PySem.Spec PyProof.Rows L2
end Cv
namespace Cv
noncomputable def nxI (t : Rat) (c : List Pl) : List Pl := List.zipWith (fun p q => (((t.den : Int) - t.num) * p.1 + t.num * q.1, ((t.den : Int) - t.num) * p.2 + t.num * q.2)) c (c.drop 1)
noncomputable def rwI (t : Rat) (c : List Pl) : Nat → List Pl
  | 0 => c
  | r + 1 => nxI t (rwI t c r)
theorem nxI_len (t : Rat) (c : List Pl) : (nxI t c).length = c.length - 1 := by
  unfold nxI
  rw [List.length_zipWith, List.length_drop]; omega
theorem rwI_len (t : Rat) (c : List Pl) : ∀ r, (rwI t c r).length = c.length - r
  | 0 => rfl
  | r + 1 => by
    show (nxI t (rwI t c r)).length = _
    rw [nxI_len, rwI_len t c r]; omega
theorem nxI_get {t : Rat} {c : List Pl} {i : Nat} {p q : Pl} (h1 : c[i]? = some p) (h2 : c[i + 1]? = some q) : (nxI t c)[i]? = some (((t.den : Int) - t.num) * p.1 + t.num * q.1, ((t.den : Int) - t.num) * p.2 + t.num * q.2) := by
  unfold nxI
  rw [List.getElem?_zipWith, List.getElem?_drop, h1, Nat.add_comm 1 i, h2]
theorem nxI_pts {t : Rat} {P : Int} (hP : P ≠ 0) (c : List Pl) : ptsOf (P * t.den) (nxI t c) = nxP t (ptsOf P c) := by
  refine List.ext_getElem? fun i => ?_
  by_cases hi : i + 1 < c.length
  · have e1 : c[i]? = some (c[i]'(by omega)) := List.getElem?_eq_getElem _
    have e2 : c[i + 1]? = some (c[i + 1]'(by omega)) := List.getElem?_eq_getElem _
    rw [ptsOf_get, nxI_get e1 e2, nxP_get t _ i (by rw [ptsOf_get, e1]; rfl) (by rw [ptsOf_get, e2]; rfl)]
    show some (_, _) = some (btwP _ _ _)
    unfold btwP
    rw [btw_tops _ _ _ _ hP, btw_tops _ _ _ _ hP]
  · rw [List.getElem?_eq_none (by rw [ptsOf_len', nxI_len]; omega), List.getElem?_eq_none (by rw [nxP_len, ptsOf_len']; omega)]
theorem den_posI (t : Rat) : (0 : Int) < (t.den : Int) := by have := t.den_pos; omega
theorem rwI_pts {t : Rat} {B : Int} (hB : 0 < B) (c : List Pl) : ∀ r, ptsOf (B * (t.den : Int) ^ r) (rwI t c r) = rowP t (ptsOf B c) r
  | 0 => by show ptsOf (B * 1) c = ptsOf B c; rw [Int.mul_one]
  | r + 1 => by
    show ptsOf _ (nxI t (rwI t c r)) = nxP t (rowP t (ptsOf B c) r)
    rw [← rwI_pts hB c r, ← nxI_pts (by have := Int.mul_pos hB (pow_pos' (den_posI t) r); omega), Int.pow_succ, Int.mul_assoc]
theorem nxI_sz {n a : Nat} {t : Rat} {c : List Pl} (ht : Bd a t) (h : SzQ n c) : SzQ (n + a + 2) (nxI t c) := fun z hz => by
  unfold nxI at hz
  obtain ⟨i, hi, rfl⟩ := List.getElem_of_mem hz
  rw [List.length_zipWith, List.length_drop] at hi
  rw [List.getElem_zipWith, List.getElem_drop]
  have a1 := h _ (List.getElem_mem (show i < c.length by omega))
  have a2 := h _ (List.getElem_mem (show 1 + i < c.length by omega))
  exact ⟨(((ht.den.sub ht.num).mul a1.1).add (ht.num.mul a2.1)).mono (by omega), (((ht.den.sub ht.num).mul a1.2).add (ht.num.mul a2.2)).mono (by omega)⟩
theorem rwI_sz {n a : Nat} {t : Rat} {c : List Pl} (ht : Bd a t) (h : SzQ n c) : ∀ r, SzQ (n + r * (a + 2)) (rwI t c r)
  | 0 => by simpa [rwI] using h
  | r + 1 => by
    have q := nxI_sz ht (rwI_sz ht h r)
    have e2 : n + r * (a + 2) + a + 2 = n + (r + 1) * (a + 2) := by rw [Nat.succ_mul]; omega
    rw [e2] at q
    exact q
theorem last_row {t : Rat} {B : Int} (hB : 0 < B) {c : List Pl} (h : 1 ≤ c.length) {p : Pl} (hp : (rwI t c (c.length - 1))[0]? = some p) : (Rat.divInt p.1 (B * (t.den : Int) ^ (c.length - 1)), Rat.divInt p.2 (B * (t.den : Int) ^ (c.length - 1))) = ptP t (ptsOf B c) := by
  have h1 := ptP_get t (ptsOf B c) (by rw [ptsOf_len']; exact h)
  rw [ptsOf_len', ← rwI_pts hB] at h1
  have h2 := congrArg (fun l => l[0]?) h1
  simp only [ptsOf_get, hp] at h2
  exact Option.some.inj h2
end Cv
namespace Cv
open PySem PySem.Spec PyProof.Rows L2
noncomputable def spIRows (K : PySem.W.Frag) : Sp := fun vs H Q _ => ∃ (a : Addr) (z : V) (ws : List V) (c : List Pl) (t : Rat), vs = [.ref a, z] ∧ H a = some (.lst ws) ∧ PlsV H ws c ∧ ShV H z t ∧ Bd 120 t ∧ SzQ 110 c ∧ 1 ≤ c.length ∧ c.length ≤ 12 ∧
  ∀ (l : Addr) (ls : List V) (H' : Hp), Same H H' → H l = none → H' l = some (.lst ls) → CsV H' none ls ((List.range c.length).map (rwI t c)) → Q (.ref l) H'
noncomputable def spPow : Sp := fun vs H Q _ => ∃ (x : Int) (n : Nat), vs = [.int x, .int (n : Int)] ∧ n ≤ 12 ∧ Sz 300 x ∧ Q (.int (x ^ n)) H
end Cv
namespace Cv
open PySem PySem.Spec PyProof.Rows L2
theorem CsV.one {H : Hp} {D : Option Addr} {l : Addr} {us : List V} {c : List Pl} (hD : some l ≠ D) (h1 : H l = some (.lst us)) (h2 : PlsV H us c) : CsV H D [.ref l] [c] :=
  ⟨rfl, fun i v c' e1 e2 => by
    cases i with
    | zero => cases e1; cases e2; exact ⟨l, us, rfl, hD, h1, h2⟩
    | succ i => simp at e1⟩
noncomputable def muF (σ : L2.St) (H : Hp) : Nat := match (show List (Option V) from σ)[2]? with
  | some (some (V.ref l)) => (match H l with | some (.lst xs) => 20 - xs.length | _ => 0)
  | _ => 0
theorem muF_eq {a b : Option V} {r : L2.St} {l : Addr} {H : Hp} {xs : List V} (h : H l = some (.lst xs)) : muF (a :: b :: some (.ref l) :: r) H = 20 - xs.length := by
  unfold muF
  show (match H l with | some (.lst xs) => 20 - xs.length | _ => 0) = _
  rw [h]
theorem rw_take {t : Rat} {c : List Pl} {r i : Nat} {p q : Pl} (h1 : (rwI t c r)[i]? = some p) (h2 : (rwI t c r)[i + 1]? = some q) : (rwI t c (r + 1)).take (i + 1) = (rwI t c (r + 1)).take i ++ [(((t.den : Int) - t.num) * p.1 + t.num * q.1, ((t.den : Int) - t.num) * p.2 + t.num * q.2)] :=
  take_snoc (nxI_get h1 h2)
end Cv
namespace Cv
open PySem PySem.Spec PyProof.Rows L2
end Cv
namespace Cv
open PySem PySem.Spec PyProof.Rows L2
noncomputable def OnT (n : Nat) (v : V) (H : Hp) : Prop := ∃ t : Rat, ShV H v t ∧ Bd 101 t ∧ 0 ≤ t.num ∧ t.num ≤ n * (t.den : Int)
theorem OnT.tup {n : Nat} {v : V} {H H' : Hp} (h : OnT n v H) (s : Tup H H') : OnT n v H' := by
  obtain ⟨t, h1, h2⟩ := h
  exact ⟨t, h1.tup s, h2⟩
theorem OnT.int {n k : Nat} {a : Addr} {H : Hp} (h : H a = some (.tup [.int (k : Int), .int 1])) (hk : k ≤ n) (hn : n ≤ 12) : OnT n (.ref a) H := by
  refine ⟨((k : Int) : Rat), ShV.int h, Bd.mono (Bd.intc (n := 20) (sz_of (b := 16) (by omega) (by decide))) (by decide), by rw [Rat.num_intCast]; omega, ?_⟩
  rw [Rat.num_intCast, Rat.den_intCast]; omega
end Cv
namespace Cv
end Cv
namespace Cv
open PySem PySem.Spec PyProof.Rows L2
theorem PssV.congr {H : Hp} {us : List V} {n m : Nat} {qs qs' : Nat → List Pt} (h : PssV H us n qs) (hn : n = m) (hq : ∀ i, i < n → qs i = qs' i) : PssV H us m qs' :=
  ⟨by rw [h.1, hn], fun i v e => by
    have hi : i < n := by have := (List.getElem?_eq_some_iff.mp e).1; rw [h.1] at this; exact this
    rw [← hq i hi]; exact h.2 i v e⟩
theorem same_ins {H : Hp} {x dx C : Addr} (hx : H x = none) (hdx : H dx = none) : Same H (L2.upd (L2.upd H dx (.own x)) x (.ins C dx [])) := fun b o e => by rw [upd_ne (ne_of_none e hx), upd_ne (ne_of_none e hdx)]; exact e
end Cv
namespace Cv
open PySem PySem.Spec PyProof.Rows L2
end Cv
namespace Cv
open PySem PySem.Spec PyProof.Rows L2
noncomputable def InT (n : Nat) (v : V) (H : Hp) : Prop := ∃ t : Rat, ShV H v t ∧ Bd 40 t ∧ 0 < t.num ∧ t.num < n * (t.den : Int)
theorem InT.tup {n : Nat} {v : V} {H H' : Hp} (h : InT n v H) (s : Tup H H') : InT n v H' := by
  obtain ⟨t, h1, h2⟩ := h
  exact ⟨t, h1.tup s, h2⟩
theorem InT.int {n : Nat} {k : Int} {a : Addr} {H : Hp} (h : H a = some (.tup [.int k, .int 1])) (h0 : 0 < k) (hk : k < n) (hn : n ≤ 12) : InT n (.ref a) H := by
  refine ⟨(k : Rat), ShV.int h, Bd.mono (Bd.intc (n := 20) (sz_of (b := 16) (by omega) (by decide))) (by decide), by rw [Rat.num_intCast]; exact h0, ?_⟩
  rw [Rat.num_intCast, Rat.den_intCast]; omega
noncomputable def OutT (n : Nat) (v : V) (H : Hp) : Prop := ∃ t : Rat, ShV H v t ∧ Bd 101 t ∧ ¬ (0 < t.num ∧ t.num < n * (t.den : Int))
theorem OutT.tup {n : Nat} {v : V} {H H' : Hp} (h : OutT n v H) (s : Tup H H') : OutT n v H' := by
  obtain ⟨t, h1, h2⟩ := h
  exact ⟨t, h1.tup s, h2⟩
theorem OutT.int {n : Nat} {k : Int} {a : Addr} {H : Hp} (h : H a = some (.tup [.int k, .int 1])) (hk : k = 0 ∨ k = n) (hn : n ≤ 12) : OutT n (.ref a) H := by
  refine ⟨(k : Rat), ShV.int h, Bd.mono (Bd.intc (n := 20) (sz_of (b := 16) (by omega) (by decide))) (by decide), ?_⟩
  rw [Rat.num_intCast, Rat.den_intCast]; omega
end Cv
namespace Cv
noncomputable def cr (p q : Int × Int) : Int := p.1 * q.2 - p.2 * q.1
noncomputable def dt (w d : Int × Int) : Int := w.1 * d.1 + w.2 * d.2
theorem cr_self (p : Int × Int) : cr p p = 0 := by unfold cr; grind
noncomputable def amid (r l : Int × Int) : Int × Int := (l.2 - r.2, r.1 - l.1)
end Cv
namespace Cv
open PySem PySem.Spec PyProof.Rows L2
section
variable {X : Cx}
end
end Cv
namespace Cv
open PySem PySem.Spec PyProof.Rows L2
noncomputable def SzW (n : Nat) (p : Pl) : Prop := Sz n p.1 ∧ Sz n p.2
noncomputable abbrev Stp := Pl × Int × Int
noncomputable def StV (H : Hp) (v : V) (s : Stp) : Prop := ∃ a : Addr, v = .ref a ∧ H a = some (.tup [.int s.1.1, .int s.1.2, .int s.2.1, .int s.2.2])
theorem StV.same {H H' : Hp} {v : V} {s : Stp} (h : StV H v s) (e : Same H H') : StV H' v s := by
  obtain ⟨a, rfl, h⟩ := h
  exact ⟨a, rfl, e _ _ h⟩
structure StsV (H : Hp) (vs : List V) (ss : List Stp) : Prop where
  len : vs.length = ss.length
  get : ∀ (i : Nat) v s, vs[i]? = some v → ss[i]? = some s → StV H v s
theorem StsV.same {H H' : Hp} {vs : List V} {ss : List Stp} (h : StsV H vs ss) (e : Same H H') : StsV H' vs ss := ⟨h.len, fun i v s e1 e2 => (h.get i v s e1 e2).same e⟩
theorem StsV.at {H : Hp} {vs : List V} {ss : List Stp} (h : StsV H vs ss) {i : Nat} {s : Stp} (e : ss[i]? = some s) : ∃ a, vs[i]? = some (.ref a) ∧ H a = some (.tup [.int s.1.1, .int s.1.2, .int s.2.1, .int s.2.2]) := by
  have hi : i < ss.length := (List.getElem?_eq_some_iff.mp e).1
  have e1 : vs[i]? = some (vs[i]'(by rw [h.len]; exact hi)) := List.getElem?_eq_getElem _
  obtain ⟨a, e2, h2⟩ := h.get i _ s e1 e
  exact ⟨a, by rw [e1, e2], h2⟩
noncomputable def Holds0 (ss : List Stp) : Prop := (∃ r, ss = [r] ∧ r.1 = (0, 0)) ∨ (∃ r f, ss = [r, f] ∧ cr r.1 f.1 = 0 ∧ dt r.1 f.1 ≤ 0 ∧ r.1 ≠ (0, 0)) ∨ (∃ r l f, ss = [r, l, f] ∧ 0 < cr r.1 l.1 ∧ cr r.1 f.1 ≤ 0 ∧ cr f.1 l.1 ≤ 0)
noncomputable def Across (pl ql : List Pl) (s : Stp) : Prop := ∃ (i j : Nat) (p q : Pl), pl[i]? = some p ∧ ql[j]? = some q ∧ s = ((q.1 - p.1, q.2 - p.2), (i : Int), (j : Int))
end Cv
namespace Cv
open PySem PySem.Spec PyProof.Rows L2
theorem Across.sz {n : Nat} {pl ql : List Pl} {s : Stp} (h : Across pl ql s) (zp : SzQ n pl) (zq : SzQ n ql) : SzW (n + 1) s.1 := by
  obtain ⟨i, j, p, q, h1, h2, rfl⟩ := h
  have a := zp _ (List.mem_of_getElem? h1)
  have b := zq _ (List.mem_of_getElem? h2)
  exact ⟨Sz.mono (Sz.sub b.1 a.1) (by omega), Sz.mono (Sz.sub b.2 a.2) (by omega)⟩
noncomputable def RLok (r l : Stp) : Prop := (r = l ∧ r.1 ≠ (0, 0)) ∨ 0 < cr r.1 l.1
theorem RLok.ne {r l : Stp} (h : 0 < cr r.1 l.1) : r ≠ l := fun e => by subst e; rw [cr_self] at h; omega
theorem SzQ.mono {n m : Nat} {c : List Pl} (h : SzQ n c) (e : n ≤ m) : SzQ m c := fun p hp => ⟨(h p hp).1.mono e, (h p hp).2.mono e⟩
end Cv
namespace Cv
open PySem PySem.Spec PyProof.Rows L2
end Cv
namespace Cv
open PySem PySem.Spec PyProof.Rows L2
end Cv
namespace Cv
open PySem PySem.Spec PyProof.Rows L2
noncomputable def CvsV (H : Hp) (us : List V) (ps : List Pt) (d e : Nat → Rat) : Prop := ∀ (i : Nat) (v : V), us[i]? = some v → ∃ (l : Addr) (xs : List V), v = V.ref l ∧ H l = some (HO.lst xs) ∧ PtsV H xs (cvP ps d e i)
theorem CvsV.same {H H' : Hp} {us : List V} {ps : List Pt} {d e : Nat → Rat} (h : CvsV H us ps d e) (s : Same H H') : CvsV H' us ps d e := fun i v ev => by
  obtain ⟨l, xs, e1, e2, e3⟩ := h i v ev
  exact ⟨l, xs, e1, s _ _ e2, e3.same s⟩
end Cv
namespace Cv
open PySem PySem.Spec PyProof.Rows L2
end Cv
namespace Cv
open PySem PySem.Spec PyProof.Rows L2
end Cv
namespace Cv
open PySem PySem.Spec PyProof.Rows L2
theorem StV.tup {H H' : Hp} {v : V} {s : Stp} (h : StV H v s) (e : Tup H H') : StV H' v s := by
  obtain ⟨a, rfl, h⟩ := h
  exact ⟨a, rfl, e _ _ h⟩
theorem StsV.tup {H H' : Hp} {vs : List V} {ss : List Stp} (h : StsV H vs ss) (e : Tup H H') : StsV H' vs ss := ⟨h.len, fun i v s e1 e2 => (h.get i v s e1 e2).tup e⟩
noncomputable def HoldsS (ss : List Stp) : Prop := (∃ r, ss = [r] ∧ r.1 = (0, 0)) ∨ (∃ r f, ss = [r, f] ∧ cr r.1 f.1 = 0 ∧ r.1.1 * f.1.1 ≤ 0 ∧ r.1.2 * f.1.2 ≤ 0 ∧ r.1 ≠ (0, 0)) ∨ (∃ r l f, ss = [r, l, f] ∧ 0 < cr r.1 l.1 ∧ cr r.1 f.1 ≤ 0 ∧ cr f.1 l.1 ≤ 0)
theorem sq_nn (a : Int) : 0 ≤ a * a := by
  rcases Int.le_total 0 a with h | h
  · exact Int.mul_nonneg h h
  · have := Int.mul_nonneg (show 0 ≤ -a by omega) (show 0 ≤ -a by omega); grind
theorem sign_of {a b c d : Int} (h : a * d - b * c = 0) (h2 : a * c + b * d ≤ 0) : a * c ≤ 0 := by
  rcases Int.lt_or_le 0 (a * c) with z | z
  · exfalso
    have e : (b * d) * (a * c) = (b * c) * (b * c) := by
      have : a * d = b * c := by omega
      grind
    have p := sq_nn (b * c)
    rw [← e] at p
    have : b * d < 0 := by omega
    have := Int.mul_neg_of_neg_of_pos this z
    omega
  · exact z
theorem Holds0.s {ss : List Stp} (h : Holds0 ss) : HoldsS ss := by
  rcases h with h | ⟨r, f, e, h1, h2, h3⟩ | h
  · exact .inl h
  · refine .inr (.inl ⟨r, f, e, h1, ?_, ?_, h3⟩)
    · exact sign_of h1 h2
    · refine sign_of (a := r.1.2) (b := r.1.1) (c := f.1.2) (d := f.1.1) ?_ ?_
      · unfold cr at h1; grind
      · unfold dt at h2; omega
  · exact .inr (.inr h)
end Cv
namespace Cv
open PySem PySem.Spec PyProof.Rows L2
section
variable {X : Cx}
end
section
variable {K : PySem.W.Frag} {J : It} {H1 : Hp} {te : TE} {cs : L2.St} {Q : VK} {n : Nat}
end
structure Over (ps : List Pt) (pl : List Pl) (X Y : Int) : Prop where
  x0 : 0 < X
  y0 : 0 < Y
  eq : toP X Y pl = ps
noncomputable def dotQ (qs cs : List Rat) : Rat := (List.zipWith (fun (t c : Rat) => t * c) qs cs).sum
structure MeanQ (ps qs : List Pt) (r1 r2 : List Rat) : Prop where
  l1 : r1.length = ps.length
  l2 : r2.length = qs.length
  n1 : ∀ r ∈ r1, 0 ≤ r
  n2 : ∀ r ∈ r2, 0 ≤ r
  o1 : r1.sum = 1
  o2 : r2.sum = 1
  ex : dotQ r1 (ps.map (·.1)) = dotQ r2 (qs.map (·.1))
  ey : dotQ r1 (ps.map (·.2)) = dotQ r2 (qs.map (·.2))
theorem Over.len {ps : List Pt} {c : List Pl} {X Y : Int} (h : Over ps c X Y) : c.length = ps.length := by rw [← h.eq, toP_len]
theorem Over.at {ps : List Pt} {c : List Pl} {X Y : Int} (h : Over ps c X Y) {i : Nat} {p : Pl} (e : c[i]? = some p) : ps[i]? = some (Rat.divInt p.1 X, Rat.divInt p.2 Y) := by
  rw [← h.eq]; unfold toP; rw [List.getElem?_map, e]; rfl
end Cv
namespace Cv
open PySem PySem.Spec PyProof.Rows L2
noncomputable def co (p : Pt) (i : Nat) : Rat := if i = 0 then p.1 else p.2
end Cv
namespace L2
open PySem PySem.Spec PyProof.Rows
section
variable {X : Cx} {pos : Pos}
end
end L2
namespace Cv
open PySem PySem.Spec PyProof.Rows L2
end Cv
namespace Cv
open PySem PySem.Spec PyProof.Rows L2
structure LineQ (ps qs : List Pt) (q1 q2 q3 : Rat) : Prop where
  lo : ∀ p ∈ ps, q1 * p.1 + q2 * p.2 < q3
  hi : ∀ p ∈ qs, q3 < q1 * p.1 + q2 * p.2
structure LineV (H : Hp) (c : Addr) (ps qs : List Pt) (s : Nat) : Prop where
  ex : ∃ (v1 v2 v3 : V) (q1 q2 q3 : Rat), H c = some (.tup [.str "line", v1, v2, v3]) ∧ ShV H v1 q1 ∧ ShV H v2 q2 ∧ ShV H v3 q3 ∧ Bd s q1 ∧ Bd s q2 ∧ Bd s q3 ∧ LineQ ps qs q1 q2 q3
structure ComV (H : Hp) (c l1 l2 : Addr) (ps qs : List Pt) (s : Nat) : Prop where
  ex : ∃ (v1 v2 : List V) (r1 r2 : List Rat), H c = some (.tup [.str "common", .ref l1, .ref l2]) ∧ H l1 = some (.lst v1) ∧ H l2 = some (.lst v2) ∧ ShL H v1 r1 ∧ ShL H v2 r2 ∧ (∀ r ∈ r1, Bd s r) ∧ (∀ r ∈ r2, Bd s r) ∧ MeanQ ps qs r1 r2
theorem LineV.same {H H' : Hp} {c : Addr} {ps qs : List Pt} {s : Nat} (h : LineV H c ps qs s) (e : Same H H') : LineV H' c ps qs s := by
  obtain ⟨v1, v2, v3, q1, q2, q3, h0, h1, h2, h3, r⟩ := h
  exact ⟨v1, v2, v3, q1, q2, q3, e _ _ h0, h1.same e, h2.same e, h3.same e, r⟩
theorem ComV.same {H H' : Hp} {c l1 l2 : Addr} {ps qs : List Pt} {s : Nat} (h : ComV H c l1 l2 ps qs s) (e : Same H H') : ComV H' c l1 l2 ps qs s := by
  obtain ⟨v1, v2, r1, r2, h0, h1, h2, h3, h4, r⟩ := h
  exact ⟨v1, v2, r1, r2, e _ _ h0, e _ _ h1, e _ _ h2, h3.same e, h4.same e, r⟩
noncomputable def KdV (H : Hp) (c : Addr) (ps qs : List Pt) (s : Nat) (b : Bool) (l1 l2 : Addr) : Prop := if b = true then LineV H c ps qs s else ComV H c l1 l2 ps qs s
theorem KdV.same {H H' : Hp} {c l1 l2 : Addr} {ps qs : List Pt} {s : Nat} {b : Bool} (h : KdV H c ps qs s b l1 l2) (e : Same H H') : KdV H' c ps qs s b l1 l2 := by
  cases b with
  | true => exact LineV.same (show LineV H c ps qs s from h) e
  | false => exact ComV.same (show ComV H c l1 l2 ps qs s from h) e
end Cv
namespace Cv
open PySem PySem.Spec PyProof.Rows L2
noncomputable def cp (x : Str) : List Nat := x.cps.toList
theorem cp_app (a b : Str) : cp (a ++ b) = cp a ++ cp b := cps_app a b
theorem cp_len (a : Str) : (cp a).length = a.length := by unfold cp; simp [Str.length]
theorem cp_ext {a b : Str} (h : cp a = cp b) : a = b := str_ext h
noncomputable def tSh (q : Rat) : Str := if q.den = 1 then tN q.num else tN q.num ++ "/" ++ tN (q.den : Int)
noncomputable def tPt (p : Pt) : Str := tSh p.1 ++ "," ++ tSh p.2
noncomputable def tCv (ps : List Pt) : Str := Str.join " " (ps.map tPt)
noncomputable def FgN (k : Nat) (i : Int) : Prop := i.natAbs < 10 ^ k
noncomputable def Fg (k : Nat) (q : Rat) : Prop := q.num.natAbs < 10 ^ k ∧ q.den < 10 ^ k
theorem nat_or (i : Int) : (∃ m : Nat, i = (m : Int)) ∨ ∃ m : Nat, i = -((m + 1 : Nat) : Int) := by
  rcases Int.lt_or_le i 0 with h | h
  · right; exact ⟨i.natAbs - 1, by omega⟩
  · left; exact ⟨i.toNat, by omega⟩
theorem tN_cp (i : Int) : cp (tN i) = if i < 0 then 45 :: dg i.natAbs else dg i.natAbs := by
  rcases nat_or i with ⟨m, rfl⟩ | ⟨m, rfl⟩
  · rw [if_neg (by omega), Int.natAbs_natCast]; exact tN_nat m
  · rw [if_pos (by omega), Int.natAbs_neg, Int.natAbs_natCast]; exact tN_neg m
theorem tN_sg (i : Int) : ∀ c ∈ cp (tN i), c = 45 ∨ (48 ≤ c ∧ c ≤ 57) := fun c hc => by
  rw [tN_cp] at hc
  split at hc
  · rcases List.mem_cons.mp hc with h | h
    · exact .inl h
    · exact .inr (dg_digit _ c h)
  · exact .inr (dg_digit _ c hc)
theorem tN_ln {k : Nat} {i : Int} (hk : 1 ≤ k) (h : FgN k i) : (tN i).length ≤ k + 1 := by
  have d := dg_len hk h
  rw [← cp_len, tN_cp]
  split
  · rw [List.length_cons]; omega
  · omega
theorem tSh_sg (q : Rat) : ∀ c ∈ cp (tSh q), c = 45 ∨ c = 47 ∨ (48 ≤ c ∧ c ≤ 57) := fun c hc => by
  unfold tSh at hc
  split at hc
  · rcases tN_sg _ c hc with h | h
    · exact .inl h
    · exact .inr (.inr h)
  · rw [cp_app, cp_app] at hc
    simp only [List.mem_append] at hc
    rcases hc with (h | h) | h
    · rcases tN_sg _ c h with h | h
      · exact .inl h
      · exact .inr (.inr h)
    · have : cp ("/" : Str) = [47] := rfl
      rw [this] at h
      exact .inr (.inl (List.mem_singleton.mp h))
    · rcases tN_sg _ c h with h | h
      · exact .inl h
      · exact .inr (.inr h)
theorem len_app (a b : Str) : (a ++ b).length = a.length + b.length := by rw [← cp_len, cp_app, List.length_append, cp_len, cp_len]
theorem tSh_ln {k : Nat} {q : Rat} (hk : 1 ≤ k) (h : Fg k q) : (tSh q).length ≤ 2 * k + 3 := by
  unfold tSh
  have a := tN_ln hk (show FgN k q.num from h.1)
  have b := tN_ln hk (show FgN k (q.den : Int) from by unfold FgN; rw [Int.natAbs_natCast]; exact h.2)
  split
  · omega
  · rw [len_app, len_app]
    have : ("/" : Str).length = 1 := rfl
    omega
theorem tPt_sg (p : Pt) : ∀ c ∈ cp (tPt p), c = 44 ∨ c = 45 ∨ c = 47 ∨ (48 ≤ c ∧ c ≤ 57) := fun c hc => by
  unfold tPt at hc
  rw [cp_app, cp_app] at hc
  simp only [List.mem_append] at hc
  rcases hc with (h | h) | h
  · exact .inr (tSh_sg _ c h)
  · have : cp ("," : Str) = [44] := rfl
    rw [this] at h
    exact .inl (List.mem_singleton.mp h)
  · exact .inr (tSh_sg _ c h)
noncomputable def FgP (k : Nat) (p : Pt) : Prop := Fg k p.1 ∧ Fg k p.2
theorem tPt_ln {k : Nat} {p : Pt} (hk : 1 ≤ k) (h : FgP k p) : (tPt p).length ≤ 4 * k + 7 := by
  unfold tPt
  have a := tSh_ln hk h.1
  have b := tSh_ln hk h.2
  rw [len_app, len_app]
  have : ("," : Str).length = 1 := rfl
  omega
theorem join_ln {sep : Str} {B : Nat} {ts : List Str} (h : ∀ t ∈ ts, t.length ≤ B) : (Str.join sep ts).length ≤ ts.length * B + ts.length * sep.length := by
  have a := StrLaws.join_length_le sep ts
  have b := StrLaws.sumLen_le ts h
  omega
theorem tCv_ln {k : Nat} {ps : List Pt} (hk : 1 ≤ k) (h : ∀ p ∈ ps, FgP k p) : (tCv ps).length ≤ ps.length * (4 * k + 8) := by
  unfold tCv
  have := join_ln (sep := " ") (ts := ps.map tPt) (B := 4 * k + 7) fun t ht => by obtain ⟨p, hp, rfl⟩ := List.mem_map.mp ht; exact tPt_ln hk (h p hp)
  rw [List.length_map] at this
  have e : (" " : Str).length = 1 := rfl
  rw [e, ← Nat.mul_add] at this
  exact this
theorem join_ok {sep : Str} {B : Nat} {ts : List Str} (h : ∀ t ∈ ts, t.length ≤ B) (h2 : ts.length * B + ts.length * sep.length ≤ 16777216) : JoinOk sep ts = true := by
  unfold JoinOk
  rw [StrLaws.joinFits h h2]; rfl
theorem txt_join (sep : Str) (ts : List Str) : Txt.join sep ts = Str.join sep ts := StrLaws.glued_eq_join sep ts
theorem sepS {sep : Str} {c : Nat} (h : sep.cps.toList = [c]) : Sep sep c 0 := ⟨by rw [h]; rfl, fun j h => by omega, by
  have := congrArg List.length h
  rw [Array.length_toList, List.length_singleton] at this
  show 1 ≤ sep.cps.size
  exact Nat.le_of_eq this.symm⟩
theorem kSl : Builtin.Str.strKind "/" = 1 := by decide +kernel
theorem kCm : Builtin.Str.strKind "," = 1 := by decide +kernel
theorem kBl : Builtin.Str.strKind " " = 1 := by decide +kernel
theorem split_of {x sep : Str} {c m : Nat} (S : Sep sep c m) (hk : Builtin.Str.strKind sep = 1) {ts : List Str} (hne : ts ≠ []) (hf : ∀ t ∈ ts, c ∉ cp t) (hx : x = Str.join sep ts) : Txt.split x sep = ts := by
  have := split_jn (x := x) S hk (ps := ts.map cp) (by simpa using hne) (fun p hp => by obtain ⟨t, ht, rfl⟩ := List.mem_map.mp hp; exact hf t ht) (by rw [hx]; exact join_cps sep ts)
  have inj : ∀ (as bs : List Str), as.map (·.cps.toList) = bs.map cp → as = bs := by
    intro as
    induction as with
    | nil => intro bs h; cases bs with | nil => rfl | cons b bs => simp at h
    | cons a as ih =>
      intro bs h
      cases bs with
      | nil => simp at h
      | cons b bs =>
        simp only [List.map_cons, List.cons.injEq] at h
        rw [cp_ext (show cp a = cp b from h.1), ih bs h.2]
  exact inj _ _ this
theorem split_sl (q : Rat) : Txt.split (tSh q) "/" = if q.den = 1 then [tN q.num] else [tN q.num, tN (q.den : Int)] := by
  have nf : ∀ i : Int, 47 ∉ cp (tN i) := fun i h => by rcases tN_sg i 47 h with z | z <;> omega
  unfold tSh
  split
  · exact split_of (sepS (c := 47) rfl) kSl (by simp) (fun t ht => by rw [List.mem_singleton.mp ht]; exact nf _) rfl
  · refine split_of (sepS (c := 47) rfl) kSl (by simp) (fun t ht => ?_) rfl
    simp only [List.mem_cons, List.not_mem_nil, or_false] at ht
    rcases ht with rfl | rfl <;> exact nf _
theorem split_cm (p : Pt) : Txt.split (tPt p) "," = [tSh p.1, tSh p.2] := by
  have nf : ∀ q : Rat, 44 ∉ cp (tSh q) := fun i h => by rcases tSh_sg i 44 h with z | z | z <;> omega
  refine split_of (sepS (c := 44) rfl) kCm (by simp) (fun t ht => ?_) rfl
  simp only [List.mem_cons, List.not_mem_nil, or_false] at ht
  rcases ht with rfl | rfl <;> exact nf _
noncomputable def spShowN : Sp := fun vs H Q _ => ∃ n : Int, vs = [.int n] ∧ FgN 1000 n ∧ ∀ H', Same H H' → Q (.str (tN n)) H'
noncomputable def spShowS : Sp := fun vs H Q _ => ∃ (v : V) (q : Rat), vs = [v] ∧ ShV H v q ∧ Fg 1000 q ∧ ∀ H', Same H H' → Q (.str (tSh q)) H'
noncomputable def spShowP : Sp := fun vs H Q _ => ∃ (v : V) (x y : Rat), vs = [v] ∧ PtV H v x y ∧ FgP 1000 (x, y) ∧ ∀ H', Same H H' → Q (.str (tPt (x, y))) H'
noncomputable def spShowC : Sp := fun vs H Q _ => ∃ (a : Addr) (ws : List V) (ps : List Pt), vs = [.ref a] ∧ H a = some (.lst ws) ∧ PtsV H ws ps ∧ (∀ p ∈ ps, FgP 1000 p) ∧ ps.length ≤ 100 ∧ ∀ H', Same H H' → Q (.str (tCv ps)) H'
noncomputable def spPieces : Sp := fun vs H Q _ => ∃ (x y : Str), vs = [.str x, .str y] ∧ (y.length == 0) = false ∧ x.length ≤ 50000 ∧ ∀ p, H p = none → Q (.ref p) (upd H p (.lst ((Txt.split x y).map V.str)))
noncomputable def spReadF (CN : Addr) : Sp := fun vs H Q E => ∃ x : Str, vs = [.str x] ∧ ((∃ m : Nat, x = tN (m : Int) ∧ m < 10 ^ 100 ∧ ∀ H', Same H H' → Q (.int (m : Int)) H') ∨ (100 < x.length ∧ x.length ≤ 50000 ∧ ∀ H', Same H H' → E (.ref CN) none H'))
noncomputable def spReadW (CN : Addr) : Sp := fun vs H Q E => ∃ x : Str, vs = [.str x] ∧ ((∃ i : Int, x = tN i ∧ FgN 100 i ∧ ∀ H', Same H H' → Q (.int i) H') ∨ (∃ m : Nat, x = tN (m : Int) ∧ 10 ^ 100 ≤ m ∧ m < 10 ^ 1000 ∧ ∀ H', Same H H' → E (.ref CN) none H'))
noncomputable def spReadS (K : PySem.W.Frag) (CN : Addr) : Sp := fun vs H Q E => ∃ x : Str, vs = [.str x] ∧ ((∃ q : Rat, x = tSh q ∧ Fg 100 q ∧ ∀ v H', Same H H' → ShV H' v q → Q v H') ∨ (∃ m : Nat, x = tN (m : Int) ∧ 10 ^ 100 ≤ m ∧ m < 10 ^ 1000 ∧ ∀ H', Same H H' → E (.ref CN) none H'))
noncomputable def spReadP : Sp := fun vs H Q _ => ∃ p : Pt, vs = [.str (tPt p)] ∧ FgP 100 p ∧ ∀ v H', Same H H' → PtV H' v p.1 p.2 → Q v H'
theorem padded_cp (x : Str) (m : Nat) : cp (Builtin.Str.padded x m 0 48) = List.replicate m 48 ++ cp x := by
  unfold Builtin.Str.padded cp
  simp
theorem zf_cp {d : Nat} (h : d < 10 ^ 64) : cp (Txt.zfill (tN (d : Int)) 64) = padD 64 d := by
  have hc : cp (tN (d : Int)) = dg d := tN_nat d
  have hl : (tN (d : Int)).length = (dg d).length := by rw [← cp_len, hc]
  have l64 := dg_len (by decide) h
  have lp := dg_len_pos d
  rw [padD_eq 64 d h (by decide)]
  unfold Txt.zfill
  by_cases e : (64 : Int) ≤ ((tN (d : Int)).length : Int)
  · rw [if_pos e, hc, show 64 - (dg d).length = 0 by omega]; rfl
  · rw [if_neg e]
    have h0 : ∃ c, (tN (d : Int)).cps[0]? = some c ∧ 48 ≤ c := by
      cases e2 : dg d with
      | nil => rw [e2] at lp; simp at lp
      | cons c r =>
        refine ⟨c, ?_, (dg_digit d c (by rw [e2]; simp)).1⟩
        have : (tN (d : Int)).cps.toList[0]? = some c := by
          show (cp (tN (d : Int)))[0]? = some c
          rw [hc, e2]; rfl
        simpa using this
    obtain ⟨c, hc0, h48⟩ := h0
    have z : zfilled (tN (d : Int)) ((64 : Int).toNat - (tN (d : Int)).length) = Builtin.Str.padded (tN (d : Int)) ((64 : Int).toNat - (tN (d : Int)).length) 0 48 := by
      unfold zfilled
      rw [hc0]
      split
      · rename_i h1; cases h1; omega
      · rename_i h1; cases h1; omega
      · rfl
    rw [z, padded_cp, hc, hl]; rfl
theorem log_small {i : Int} (h : i.natAbs < 10 ^ 300) : i.natAbs.log2 < 1920 := by
  by_cases e : i.natAbs = 0
  · rw [e]; decide
  · refine (Nat.log2_lt e).mpr (Nat.lt_trans h ?_)
    exact Nat.lt_of_le_of_lt (Nat.pow_le_pow_left (show 10 ≤ 2 ^ 4 by decide) 300) (by rw [← Nat.pow_mul]; exact Nat.pow_lt_pow_right (by decide) (by decide))
theorem szP : Sz 9000 10000000000000000000000000000000000000000000000000000000000000000 := (show Sz 220 _ from ⟨by decide⟩).mono (by decide)
theorem P64 : (10000000000000000000000000000000000000000000000000000000000000000 : Int) = ((10 ^ 64 : Nat) : Int) := by decide
theorem strs_eq {α : Type} {ys : List V} {ps : List α} {f : α → Str} (hl : ys.length = ps.length) (h : ∀ (i : Nat) v, ys[i]? = some v → ∀ p, ps[i]? = some p → v = .str (f p)) : ys = (ps.map f).map V.str := by
  refine List.ext_getElem? fun i => ?_
  rw [List.getElem?_map, List.getElem?_map]
  by_cases hi : i < ys.length
  · have e : ys[i]? = some ys[i] := List.getElem?_eq_getElem hi
    have e2 : ps[i]? = some (ps[i]'(by omega)) := List.getElem?_eq_getElem _
    rw [e, h i _ e _ e2, e2]; rfl
  · rw [List.getElem?_eq_none (by omega), List.getElem?_eq_none (by omega)]; rfl
theorem starts_cp (x : Str) : Txt.startswith x "-" = decide ((cp x)[0]? = some 45) := by
  unfold Txt.startswith
  rw [StrLaws.subAt_eq, List.drop_zero]
  have e1 : ("-" : Str).length = 1 := rfl
  have e2 : ("-" : Str).cps.toList = [45] := rfl
  rw [e1, e2]
  have hl := cp_len x
  unfold cp at *
  cases h : x.cps.toList with
  | nil => rw [h] at hl; simp at hl; simp [← hl]
  | cons c r =>
    rw [h] at hl
    simp at hl
    simp [← hl]
    cases e : decide (c = 45) with
    | true => simpa using e
    | false => simpa using e
theorem starts_neg (i : Int) : Txt.startswith (tN i) "-" = decide (i < 0) := by
  rw [starts_cp, tN_cp]
  by_cases h : i < 0
  · rw [if_pos h]; simp [h]
  · rw [if_neg h]
    have : (dg i.natAbs)[0]? ≠ some 45 := fun e => by have := dg_digit _ _ (List.mem_of_getElem? e); omega
    simp [h, this]
theorem tail_neg {i : Int} (h : i < 0) : StrLaws.sliceText (tN i) (some 1) none = tN (-i) := by
  have hc := tN_cp i
  rw [if_pos h] at hc
  have hl : (tN i).cps.toList.length = (dg i.natAbs).length + 1 := by
    show (cp (tN i)).length = _
    rw [hc]; rfl
  rw [StrLaws.sliceText_from ⟨by decide, by rw [hl]; omega⟩]
  refine cp_ext ?_
  rw [tN_cp, if_neg (by omega), Int.natAbs_neg]
  show List.take _ (List.drop 1 (cp (tN i))) = _
  rw [hc, hl]
  show List.take _ (dg i.natAbs) = _
  rw [List.take_of_length_le (by omega)]
theorem fig_in {c : Nat} (h1 : 48 ≤ c) (h2 : c ≤ 57) : (!(Builtin.Str.occurrences ("0123456789" : Str) ⟨#[c]⟩ 0 ("0123456789" : Str).length 1).isEmpty) = true := by
  rw [StrLaws.found_one]
  have e : ("0123456789" : Str).cps.toList = [48, 49, 50, 51, 52, 53, 54, 55, 56, 57] := rfl
  rw [e]
  refine decide_eq_true ?_
  simp only [List.mem_cons, List.not_mem_nil, or_false]
  omega
theorem dg_at {x : Str} {m i : Nat} (hx : cp x = dg m) (hi : i < x.cps.size) : 48 ≤ x.cps.getD i 0 ∧ x.cps.getD i 0 ≤ 57 := by
  refine dg_digit m _ ?_
  rw [← hx]
  unfold cp
  rw [Array.getD_eq_getD_getElem?, Array.getElem?_eq_getElem hi]
  simp
theorem str_one {c d : Nat} : (V.str ⟨#[c]⟩ = V.str ⟨#[d]⟩) ↔ c = d := by simp
theorem bls_true {ys : List V} (h : ∀ (i : Nat) v, ys[i]? = some v → v = .bl true) : ys = (List.replicate ys.length true).map V.bl := by
  refine List.ext_getElem? fun i => ?_
  rw [List.getElem?_map, List.getElem?_replicate]
  by_cases hi : i < ys.length
  · rw [List.getElem?_eq_getElem hi, h i _ (List.getElem?_eq_getElem hi), if_pos hi]; rfl
  · rw [List.getElem?_eq_none (by omega), if_neg hi]; rfl
theorem all_rep (n : Nat) : (List.replicate n true).all id = true := by
  rw [List.all_eq_true]; intro b hb; rw [List.eq_of_mem_replicate hb]; rfl
theorem fg_sz {m : Nat} (h : m < 10 ^ 100) : Sz 9000 (m : Int) := by
  refine (show Sz 400 (m : Int) from ⟨?_⟩).mono (by decide)
  rw [Int.natAbs_natCast]
  exact Nat.lt_of_lt_of_le h (by rw [show (400 : Nat) = 4 * 100 by decide, Nat.pow_mul]; exact Nat.pow_le_pow_left (by decide) 100)
end Cv
namespace Cv
open PySem PySem.Spec PyProof.Rows L2
noncomputable def spLTxS : Sp := fun vs H Q _ => ∃ (v : V) (q : Rat), vs = [v] ∧ ShV H v q ∧ Fg 300 q ∧ Q (.str (tSh q)) H
noncomputable def spLTxC (K : PySem.W.Frag) : Sp := fun vs H Q _ => ∃ (a : Addr) (ws : List V) (ps : List Pt), vs = [.ref a] ∧ H a = some (.lst ws) ∧ PtsV H ws ps ∧ (∀ p ∈ ps, FgP 300 p) ∧ ps.length ≤ 100 ∧ ∀ H', Same H H' → Q (.str (tCv ps)) H'
theorem fg_mono {j k : Nat} {q : Rat} (h : Fg j q) (hk : j ≤ k) : Fg k q := ⟨Nat.lt_of_lt_of_le h.1 (Nat.pow_le_pow_right (by decide) hk), Nat.lt_of_lt_of_le h.2 (Nat.pow_le_pow_right (by decide) hk)⟩
theorem fgP_mono {j k : Nat} {p : Pt} (h : FgP j p) (hk : j ≤ k) : FgP k p := ⟨fg_mono h.1 hk, fg_mono h.2 hk⟩
theorem fg_bd {q : Rat} (h : Bd 300 q) : Fg 100 q := by
  have e : (2 : Nat) ^ 300 ≤ 10 ^ 100 := by rw [show (300 : Nat) = 3 * 100 by decide, Nat.pow_mul]; exact Nat.pow_le_pow_left (by decide) 100
  refine ⟨Nat.lt_of_lt_of_le h.num.lt e, ?_⟩
  have := h.den.lt
  rw [Int.natAbs_natCast] at this
  exact Nat.lt_of_lt_of_le this e
end Cv
namespace Cv
open PySem PySem.Spec PyProof.Rows L2
section
variable {prog : Program} {w : World} {A : Around} {E : Value → Shared → Prop} {s : Shared}
theorem unpack_star {t : Addr} {x : Value} {xs : List Value} {Q : List Value → Shared → Prop} (hh : A.handled = none) (ht : s.heap.IsList t (x :: xs).toArray) (hz : xs.length < sizeLine)
    (hQ : ∀ (h' : Heap) (tk : Nat), (∀ b o, s.heap.get? b = some o → h'.get? b = some o) → Q [x, .ref h'.objs.size] { s with heap := h'.push { cls := .type "list", data := .seq xs.toArray }, toks := tk }) :
    wpAny (model prog w) A (unpackItems (.ref t) 2 (some 1)) Q E s := by
  have hl9 : t ≠ s.heap.objs.size := by obtain ⟨o, ho, _⟩ := ht; exact Nat.ne_of_lt (Heap.lt_size ho)
  have hlt : t < s.heap.objs.size := by obtain ⟨o, ho, _⟩ := ht; exact Heap.lt_size ho
  unfold unpackItems
  refine wpAny_bind ?_
  unfold notIterableAtAll
  refine wpAny_bind (wpAny_specialOf ht.typeIs F.slot_list_iter.lookup ?_)
  refine wpAny_pure ?_
  simp only [if_false, Bool.false_eq_true]
  refine wpAny_bind (wpAny_holding (wpAny_pyIter_list ht ?_))
  refine wpAny_bind (wpAny_holding (draw_list hl9 1 0 _ _ ⟨_, Heap.get?_push_size _ rfl, rfl, rfl⟩ (Heap.IsList.push ht _) (by simp) fun hA hiA hsA => ?_))
  rw [if_neg (by simp)]
  have htA : hA.IsList t (x :: xs).toArray := (Heap.IsList.push ht _).extBut hsA.extBut hl9
  have szA : s.heap.objs.size < hA.objs.size := by obtain ⟨o, ho, _⟩ := hiA; exact Heap.lt_size ho
  refine wpAny_bind (wpAny_holding (PySem.W.kun_collect (T := "list_iterator") (.inr (.inr (.inl rfl))) (Walks.list (A := A.in1) hh s.heap.objs.size t hl9 (x :: xs).toArray) (k := 1) ?_ (by simp) ⟨hiA, htA⟩ szA (Nat.lt_trans hlt szA) (fun hB tk kB => ?_) ?_))
  · rintro i u ⟨⟨o, h1, h2, _⟩, _⟩
    exact ⟨o, h1, h2⟩
  · rw [if_neg (by simp)]
    refine wpAny_bind (wpAny_newList ?_)
    refine wpAny_pure ?_
    have q := hQ hB tk fun b o e => kB b o (Nat.ne_of_lt (Heap.lt_size e)) (hsA.extBut b o (Nat.ne_of_lt (Heap.lt_size e)) (Heap.get?_push_of_some _ e))
    simpa using q
  · simp; omega
theorem assign_star {env : Env} {elts : List Expr} {x1} {pos : Pos} {t : Addr} {x : Value} {xs : List Value} {Q : Unit → Shared → Prop} (hh : A.handled = none) (ht : s.heap.IsList t (x :: xs).toArray) (hz : xs.length < sizeLine)
    (hn : (assignEach elts env).length = 2) (hstar : (assignEach elts env).findIdx? (·.1) = some 1)
    (h : ∀ (h' : Heap) (tk : Nat), (∀ b o, s.heap.get? b = some o → h'.get? b = some o) → wpAny (model prog w) A (assignInOrder ((assignEach elts env).map (·.2)) [x, .ref h'.objs.size]) Q E { s with heap := h'.push { cls := .type "list", data := .seq xs.toArray }, toks := tk }) :
    wpAny (model prog w) A (assign (.Tuple elts x1 pos) env (.ref t)) Q E s := by
  rw [arm_assign_Tuple]
  refine wpAny_bind (wpAny_standAt ?_)
  unfold unpack
  rw [hn, hstar]
  exact wpAny_bind (wpAny_holding (unpack_star hh ht hz h))
end
section
variable {X : Cx}
noncomputable def gStar (K : PySem.W.Frag) (t : TGs) : TG := fun v σ H Q => ∃ a x xs, v = .ref a ∧ SqL K H a (x :: xs) ∧ xs.length ≤ 100000 ∧ ∀ l, H l = none → t [x, .ref l] σ (upd H l (.lst xs)) Q
theorem pg_star (K : PySem.W.Frag) {es : List Expr} {k : Nat} {t : TGs} {pos : Pos} (hc : X.calm = true) (h : PGs X es t) (hK : X.K = K := by rfl)
    (hn : (assignEach es X.env).length = 2 := by rfl) (hst : (assignEach es X.env).findIdx? (·.1) = some 1 := by rfl) : PG X (.Tuple es k pos) (gStar K t) := by
  subst hK
  intro pins s σ H v u Q I r hw
  obtain ⟨a, x, xs, rfl, hs, hz, q⟩ := hw
  cases r
  obtain ⟨its, rv, p, _⟩ := I.list hs
  cases rv with
  | @cons _ y _ ys ry rys =>
    have hl : ys.length = xs.length := rys.length.symm
    refine assign_star (I.ok.hd hc) p.isList (Nat.lt_of_le_of_lt (Nat.le_of_eq hl) (small_line hz)) hn hst fun h' tk kk => ?_
    have I1 : Inv X pins σ H { s with heap := h', toks := tk } := I.kept kk
    have I2 := I1.lnew (t' := tk) rys (Nat.le_of_lt (small_line hz))
    exact h pins _ σ _ [x, .ref h'.objs.size] _ Q I2 (.cons ry (.cons rfl .nil)) (q _ I1.fresh)
theorem pgs_star {e : Expr} {es : List Expr} {t : TG} {u : TGs} {p : Pos} (h1 : PG X e t) (h2 : PGs X es u)
    (hs : (assignEach (.Starred e p :: es) X.env).map (·.2) = assign e X.env :: (assignEach es X.env).map (·.2) := by rfl) : PGs X (.Starred e p :: es) (gCons t u) := by
  intro pins s σ H vs us Q I r h
  obtain ⟨v, vr, e1, h⟩ := h
  subst e1
  cases r with
  | cons r rr =>
    rw [hs]
    refine assignInOrder_cons (thn (h1 pins s σ H _ _ _ I r h) fun _ s1 ⟨σ1, H1, I1, q1⟩ => ?_)
    exact h2 pins s1 σ1 H1 _ _ Q I1 rr q1
theorem pg_starI (K : PySem.W.Frag) {es : List Expr} {k : Nat} {t : TGs} {pos : Pos} (hc : X.calm = true) (h : PGsi X es t) (hK : X.K = K := by rfl)
    (hn : (assignEach es X.env).length = 2 := by rfl) (hst : (assignEach es X.env).findIdx? (·.1) = some 1 := by rfl) : PGi X (.Tuple es k pos) (gStar K t) := by with_unfolding_all exact pg_star (K := K) (hc := hc) (h := h) (hK := hK) (hn := hn) (hst := hst)
theorem pgs_starI {e : Expr} {es : List Expr} {t : TG} {u : TGs} {p : Pos} (h1 : PGi X e t) (h2 : PGsi X es u)
    (hs : (assignEach (.Starred e p :: es) X.env).map (·.2) = assign e X.env :: (assignEach es X.env).map (·.2) := by rfl) : PGsi X (.Starred e p :: es) (gCons t u) := by with_unfolding_all exact pgs_star (h1 := h1) (h2 := h2) (hs := hs)
end
section
variable {X : Cx} {CX : CXT} {j : Nat} {E : XK} {x : Str} {p pos : Pos} {e : Expr} {es : List Expr} {t : TA}
noncomputable def DefBy (P : Program) (w : World) (K : PySem.W.Frag) (mg : Str → Option Value) (base : Heap) (CX : CXT) (k : Nat) (f : Addr) (sp : Sp) : Prop := ∃ x ps, DefOk P w K mg base CX k x ps sp ∧ mg x = some (.ref f)
noncomputable def tFv (P : Program) (w : World) (K : PySem.W.Frag) (mg : Str → Option Value) (base : Heap) (CX : CXT) (j i : Nat) (E : XK) (t : TA) : TE := fun σ H Q => ∃ f sp k, σ[i]? = some (some (.ref f)) ∧ DefBy P w K mg base CX k f sp ∧ k ≤ j ∧ t σ H fun vs H1 => sp vs H1 Q E
theorem pe_fv {i : Nat} (hn : PE X (.Name x p) (tVar i)) (hr : Room j X.A) (hx : Passes CX X E) (ha : PA X (e :: es) t)
    (he : starEach (e :: es) X.env = (false, eval e X.env) :: starEach es X.env := by rfl) (hpl : (backTo pos (starEach es X.env)).any (·.1) = false := by rfl) :
    PE X (.Call (.Name x p) (e :: es) [] pos) (tFv X.prog X.w X.K X.mg X.base CX j i E t) := by
  intro pins s σ H Q I h
  obtain ⟨f, sp, k, hf, ⟨y, ps, D, hy⟩, hk, h⟩ := h
  obtain ⟨f', fd, F, hm, kp, hb, _⟩ := D.ex
  have e1 := hm.symm.trans hy
  cases e1
  refine wpAny_Call_Name_kw (thn (hn pins s σ H (fun v H1 => v = .ref f ∧ H1 = H) I ⟨_, hf, rfl, rfl⟩) fun u s1 ⟨v, H1, I1, r1, e1, e2⟩ => ?_)
  subst e1 e2
  cases r1
  refine PySem.W.callWith_K (h₀ := X.base) I.ok.mod.kin kp (thn (ha pos pins s1 σ H1 _ I1 h) fun us s2 ⟨vs, H2, I2, r, q⟩ => ⟨I2.kIn, ?_⟩) he hpl
  exact run_fn F (hr.mono hk) hb .nil hx I2 r (by rw [List.append_nil]; exact q)
end
end Cv
namespace Cv
open PySem PySem.Spec PyProof.Rows L2
theorem sortedS_pw : ∀ {l : List Str}, sortedS l = true → l.Pairwise fun a b => decide (b.cps.toList < a.cps.toList) = false
  | [], _ => .nil
  | [x], _ => List.pairwise_singleton _ _
  | x :: y :: r, h => by
    have h' : (!Spec.ltCps y.cps.toList x.cps.toList && risingS y r) = true := h
    rw [ltCps_eq] at h'
    simp only [Bool.and_eq_true, Bool.not_eq_true'] at h'
    have p := sortedS_pw (l := y :: r) h'.2
    refine List.pairwise_cons.mpr ⟨fun z hz => ?_, p⟩
    rcases List.mem_cons.mp hz with rfl | hz
    · exact h'.1
    · have q := (List.pairwise_cons.mp p).1 z hz
      have q2 := h'.1
      cases e : decide (z.cps.toList < x.cps.toList) with
      | false => rfl
      | true =>
        rcases PyProof.Rows.strKind.negTrans z.cps.toList y.cps.toList x.cps.toList e with u | u
        · exact absurd (q.symm.trans u) (by decide)
        · exact absurd (q2.symm.trans u) (by decide)
theorem sorted_one {a b : List Str} (h : a.Perm b) (h1 : sortedS a = true) (h2 : sortedS b = true) : a = b :=
  List.Perm.eq_of_pairwise (fun x y _ _ e1 e2 => cp_ext (PyProof.Rows.strKind.total _ _ e2 e1)) (sortedS_pw h1) (sortedS_pw h2) h
section
variable {prog : Program} {w : World} {A : Around} {E : Value → Shared → Prop} {s : Shared}
theorem strs_at : ∀ {vs : List Value} {ss : List Str}, vs.length = ss.length → (∀ (i : Nat) v, vs[i]? = some v → ∃ x t, ss[i]? = some x ∧ v = .str x t) → StrsAre vs ss
  | [], [], _, _ => .nil
  | v :: vs, y :: ys, hl, h => by
    obtain ⟨x, t, e1, e2⟩ := h 0 v rfl
    cases e1
    rw [e2]
    exact .cons _ _ (strs_at (by simpa using hl) fun i u hu => h (i + 1) u hu)
theorem strs_of_keys {kvs : List (Key × Value)} {ss : List Str} {acc : Array Value} (hk : kvs.map (·.1) = ss.map Sum.inr) (hi : ItemsOf (fun i v => ∃ k x, kvs[i]? = some (k, x) ∧ (mixKind prog w).is k v = true) acc kvs.length) : StrsAre acc.toList ss := by
  have hl : kvs.length = ss.length := by have := congrArg List.length hk; simpa using this
  refine strs_at (by rw [Array.length_toList, hi.1, hl]) fun i v e => ?_
  obtain ⟨k, x, e1, e2⟩ := hi.2 i v (by rw [← Array.getElem?_toList]; exact e)
  have e3 : (kvs.map (·.1))[i]? = some k := by rw [List.getElem?_map, e1]; rfl
  rw [hk, List.getElem?_map] at e3
  obtain ⟨y, e4, rfl⟩ := Option.map_eq_some_iff.mp e3
  obtain ⟨t, e5⟩ := Value.isStrOf_shape (x := y) (v := v) e2
  exact ⟨y, t, e4, e5⟩
theorem sorted_dict {d : Addr} {kvs : List (Key × Value)} {ss : List Str} {Q : Value → Shared → Prop} (hh : A.handled = none) (hd : (d == sysModules) = false) (D : s.heap.DictOf (mixKind prog w) d kvs) (hn : kvs.length < 64) (hk : kvs.map (·.1) = ss.map Sum.inr)
    (hQ : ∀ (hA h' : Heap) (tk : Nat) (out : Array Value) (n : Nat) (ss' : List Str), (∀ b o, s.heap.get? b = some o → hA.get? b = some o) → (∀ b o, hA.get? b = some o → h'.get? b = some o) → h'.get? hA.objs.size = some { cls := .type "list", data := .seq out n } → StrsAre out.toList ss' → ss'.Perm ss → sortedS ss' = true →
      Q (.ref hA.objs.size) { s with heap := h', toks := tk }) : wpAny (model prog w) A (call (.builtin "sorted") [.ref d]) Q E s := by
  obtain ⟨o, es, ep, h1, h2, h3, h4, h5, h6⟩ := id D
  refine wpAny_call (codeAny_call_builtin plain_sorted entry_sorted ?_)
  have hz := args_sorted1 (.ref d)
  have hc : checkBuiltinCall "sorted" ⟨[.ref d], []⟩ = pure () := by
    simp only [checkBuiltinCall, kind_sorted]
    unfold argsOk at hz
    revert hz
    generalize Manifest.signature? "sorted" = sg
    intro hz
    cases sg with
    | none => rfl
    | some sig => exact hz
  refine wpAny_of_eq hc ?_
  unfold Builtin.sorted
  refine wpAny_bind (wpAny_pure ?_)
  refine wpAny_bind (PySem.W.kdu_collect (PySem.W.kdl_dict (knd := mixKind prog w) (kvs := kvs) (ep := ep) hd) hh ⟨o, es, h1, h2, h3, h4, h5, h6⟩ (Nat.le_of_lt (small_line (by omega))) fun hA tk acc kA hi => ?_)
  have sa := strs_of_keys hk hi
  have hal : acc.toList.length < 64 := by rw [Array.length_toList, hi.1]; exact hn
  refine wpAny_bind (wpAny_newList ?_ (Nat.le_of_lt (small_line (by omega))))
  refine wpAny_bind (wpAny_holding ?_)
  have hS : (hA.push { cls := .type "list", data := .seq acc.toList.toArray }).get? hA.objs.size = some { cls := .type "list", data := .seq acc.toList.toArray } := Heap.get?_push_size _ rfl
  refine wpAny_call_entry slot_list_sort ⟨_, hS, rfl⟩ entry_list_sort (list_sort_treeK strKind_oneLt hS sa.keysOf (fun v1 v2 r e => keyKind_strs (by rw [← e]; exact sa)) hal fun st' p1 p2 => ⟨_, rfl, ?_⟩) (args_list_sort _)
  obtain ⟨ss', q1, q2, q3⟩ := sorted_out_str sa p1 p2
  refine wpAny_pure ?_
  have a1 : ∀ b o, hA.get? b = some o → (sortedHeap (hA.push { cls := .type "list", data := .seq acc.toList.toArray }) hA.objs.size acc.toList (Array.map (fun x => x.snd) (arrOf st'))).get? b = some o := fun b o e => by
    have e1 := Heap.get?_push_of_some (o := { cls := .type "list", data := .seq acc.toList.toArray }) e
    rw [sortedHeap_old (Nat.ne_of_lt (Heap.lt_size e)) (Heap.lt_size e1)]
    exact e1
  obtain ⟨n, a2⟩ := sortedHeap_at (out := Array.map (fun x => x.snd) (arrOf st')) hS
  exact hQ hA _ tk (Array.map (fun x => x.snd) (arrOf st')) n ss' kA a1 a2 q1 q2 q3
end
end Cv
namespace Cv
open PySem PySem.Spec PyProof.Rows L2
noncomputable def DKn (P : Program) (w : World) (K : PySem.W.Frag) (a : Addr) (kvs : List (Key × V)) : Prop := ∀ h, K.In h → (a == sysModules) = false ∧ ∃ vs, KV kvs vs ∧ h.DictOf (mixKind P w) a vs
noncomputable def DGx (P : Program) (w : World) (K : PySem.W.Frag) (H : Hp) (a : Addr) (y : V) (o : Option V) : Prop := DGet H a y o ∨ ∃ kvs k, DKn P w K a kvs ∧ y = kV k ∧ o = valV kvs k
section
variable {X : Cx} {pins : List (Addr × Obj)} {σ : L2.St} {H : Hp} {s : Shared} {a : Addr} {y v : V} {u : Value} {o : Option V}
theorem dgx_typeIs (I : Inv X pins σ H s) (g : DGx X.prog X.w X.K H a y o) : s.TypeIs (.ref a) "dict" := by
  rcases g with g | ⟨kvs, k, D, _, _⟩
  · exact dict_typeIs I g
  · obtain ⟨_, vs, _, dd⟩ := D _ I.kIn
    exact dd.typeIs
theorem dgx_get {A : Around} {E : Value → Shared → Prop} {Q : Value → Shared → Prop} (hu : A.units + 1 < cLine) (I : Inv X pins σ H s) (g : DGx X.prog X.w X.K H a y (some v)) (ry : RelV y u) (h : ∀ w' s', Inv X pins σ H s' → RelV v w' → Q w' s') :
    wpAny (model X.prog X.w) A (getItem (.ref a) u) Q E s := by
  rcases g with g | ⟨kvs, k, D, ey, l⟩
  · exact d_getItem hu I g ry h
  · subst ey
    obtain ⟨hd, vs, rel, dd⟩ := D _ I.kIn
    obtain ⟨w', hw, rw'⟩ := RelO.some_of (v := v) (o := valueAt vs k) (by rw [l]; exact rel.val k)
    exact wpAny_getItem_of (kV_is ry) dd.mapOf hw (h w' _ (I.tok _) rw')
theorem dgx_notIn {A : Around} {E : Value → Shared → Prop} {Q : Value → Shared → Prop} (hu : A.units + 1 < cLine) (I : Inv X pins σ H s) (g : DGx X.prog X.w X.K H a y o) (ry : RelV y u) (h : ∀ s', Inv X pins σ H s' → Q (.bool (!o.isSome)) s') :
    wpAny (model X.prog X.w) A (compareOp .NotIn u (.ref a)) Q E s := by
  rcases g with g | ⟨kvs, k, D, ey, l⟩
  · exact d_notIn hu I g ry h
  · subst ey
    obtain ⟨hd, vs, rel, dd⟩ := D _ I.kIn
    refine wpAny_notIn_of (kV_is ry) hd dd.mapOf ?_
    rw [← (rel.val k).isSome_eq, ← l]
    exact h _ (I.tok _)
end
section
variable {X : Cx} (P : Program) (w : World) (K : PySem.W.Frag)
noncomputable def rNotInD : R2 := fun x y H Q => ∃ a o, y = .ref a ∧ DGx P w K H a x o ∧ Q (.bl (!o.isSome)) H
noncomputable def rIxD : R2 := fun x y H Q => ∃ a v, x = .ref a ∧ DGx P w K H a y (some v) ∧ Q v H
theorem op_notinD (hu : X.A.units + 64 < cLine) (hP : X.prog = P := by rfl) (hw : X.w = w := by rfl) (hK : X.K = K := by rfl) : OpR X (compareOp .NotIn) (rNotInD P w K) := by
  subst hP hw hK
  intro pins s σ H x y v u Q I rx ry h
  obtain ⟨a, o, rfl, g, q⟩ := h
  cases ry
  exact dgx_notIn (Nat.lt_of_le_of_lt (by omega) hu) I g rx fun s' I' => ⟨.bl _, H, I', rfl, q⟩
theorem ix_dict (hu : X.A.units + 64 < cLine) (hP : X.prog = P := by rfl) (hw : X.w = w := by rfl) (hK : X.K = K := by rfl) : IxR X (rIxD P w K) := by
  subst hP hw hK
  intro value slice pins s σ H x y v u Q I rx ry h hs
  obtain ⟨a, z, rfl, g, q⟩ := h
  cases rx
  have hT := dgx_typeIs I g
  unfold subscriptTail
  refine wpAny_bind ?_
  rw [getitemInPython_of_ne hT.not_modules]
  refine wpAny_bind (wpAny_specialOf hT PySem.F.slot_dict_getitem.lookup ?_)
  have fin : wpAny (model X.prog X.w) X.A (subscripted slice false (.ref a) u) (fun r s₃ => wpAny (model X.prog X.w) X.A (letTemporaryGo value (.ref a) r >>= fun _ => pure r) (EP X pins σ Q) X.xe s₃) X.xe s := by
    rw [hs]
    exact wpAny_operating (dgx_get (Nat.lt_of_le_of_lt (by omega) hu) I g ry fun w' s3 I3 rw' => wpAny_bind (wpAny_letTemporaryGo (wpAny_pure ⟨z, H, I3, rw', q⟩)))
  first
    | exact wpAny_pure (wpAny_bind fin)
    | exact wpAny_bind (wpAny_pure (wpAny_bind fin))
    | exact wpAny_bind fin
noncomputable def rSetD : TSet := fun o i v H Q => ∃ a H', o = .ref a ∧ DPut H a i v H' ∧ Q H'
theorem set_dict (hu : X.A.units + 64 < cLine) : PSet X rSetD := by
  intro pins s σ H o i v ov iv u Q I ro ri rv h
  obtain ⟨a, H', rfl, g, q⟩ := h
  cases ro
  exact d_setItem (Nat.lt_of_le_of_lt (by omega) hu) I g ri rv fun s' I' => ⟨H', I', q⟩
end
section
variable {X : Cx} {pos : Pos}
theorem pe_dnewI : PEi X (.Dict [] [] pos) tDNewK := by with_unfolding_all exact pe_dnewK
theorem strs_vals : ∀ {vs : List Value} {ss : List Str}, StrsAre vs ss → Vals (ss.map V.str) vs
  | _, _, .nil => .nil
  | _, _, .cons y t h => .cons ⟨t, rfl⟩ (strs_vals h)
theorem call_sortD (hc : X.calm = true := by rfl) : CallR X (.builtin "sorted") (fun xs H Q => ∃ (a : Addr) (kvs : List (Key × V)) (ss : List Str), xs = [.ref a] ∧ Rd H a (.dK kvs) ∧ kvs.map (·.1) = ss.map Sum.inr ∧ kvs.length < 64 ∧
    ∀ (l : Addr) (ss' : List Str), H l = none → ss'.Perm ss → sortedS ss' = true → Q (.ref l) (upd H l (.lst (ss'.map V.str)))) := by
  intro pins s σ H xs us Q I rv h
  obtain ⟨a, kvs, ss, rfl, hR, hk, hn, q⟩ := h
  obtain ⟨u, rfl, rfl⟩ := vals_one rv
  obtain ⟨z, hd, vs, rel, dd⟩ := dk_rd I.hok hR
  have ek : vs.map (·.1) = ss.map Sum.inr := by rw [← hk]; exact rel.keys.symm
  refine sorted_dict (I.ok.hd hc) hd dd (by rw [← rel.length]; exact hn) ek fun hA h' tk out n ss' k1 k2 e1 e2 e3 e4 => ?_
  have I1 : Inv X pins σ H { s with heap := hA, toks := tk } := I.kept k1
  have hl : ss'.length = kvs.length := by
    have := congrArg List.length hk
    rw [List.length_map, List.length_map] at this
    rw [e3.length_eq, this]
  refine ⟨.ref hA.objs.size, _, I1.laid (a := hA.objs.size) (o := .lst (ss'.map V.str)) (t' := tk) k2 (Nat.le_refl _) ⟨by rw [List.length_map, hl]; exact Nat.le_of_lt (small_line (by omega)), out.toList, n, strs_vals e2, e1⟩, rfl, q _ ss' I1.fresh e3 e4⟩
noncomputable def words (a : Str) : List Str := if (Builtin.Str.spaceWords a (a.length + 1) == [(0, a.length)]) = true then [a] else wordsOf a
theorem mt_split0 : MtR X "str.split" (fun x vs H Q => ∃ a, x = .str a ∧ vs = [] ∧ a.length ≤ 50000 ∧ (Builtin.Str.spaceWords a (a.length + 1)).length ≤ 50000 ∧ (words a).length ≤ 50000 ∧ ∀ p, H p = none → Q (.ref p) (upd H p (.lst ((words a).map V.str)))) := by
  intro pins s σ H x vs v us Q I rx rv h
  obtain ⟨x, rfl, rfl, hl, hw, hw2, q⟩ := h
  obtain ⟨t, rfl⟩ := rx
  cases rv
  have hn : H s.heap.objs.size = none := I.hok.fresh (Nat.le_refl _)
  have fin : ∀ (l : List (Str × Tok)) (k : Nat), l.map (·.1) = words x → EP X pins σ Q (.ref s.heap.objs.size) { s with heap := s.heap.push { cls := .type "list", data := .seq (strValues l).toArray }, toks := k } := fun l k hl => by
    refine ⟨.ref s.heap.objs.size, _, I.lnew (ys := (words x).map V.str) (by rw [← hl]; exact vals_strs l) (Nat.le_of_lt (small_line (by rw [List.length_map]; omega))), rfl, q _ hn⟩
  refine call_meets F.slot_str_split (typeIs_str _ _ _) F.entry_str_split (F.args_str_split_1 _) (meets_str_split_space x t (Nat.le_of_lt (small_line (by omega))) (Nat.le_of_lt (small_line (by omega)))) ?_
  cases hb : (Builtin.Str.spaceWords x (x.length + 1) == [(0, x.length)])
  · rw [if_neg (by simp)]
    show wants _ _ _ { s with toks := _, heap := s.heap.push { cls := .type "list", data := .seq (strsFrom s.toks (wordsOf x)).toArray } }
    rw [strsFrom_eq]
    exact fin (numbered s.toks _) _ ((numbered_texts _ _).trans (by unfold words; rw [hb]; rfl))
  · rw [if_pos rfl]
    exact fin [(x, t)] s.toks (by unfold words; rw [hb]; rfl)
end
end Cv
namespace Cv
open PySem PySem.Spec PyProof.Rows L2
section
variable {X : Cx} {CX : CXT} {j : Nat} {E : XK} {x : Str} {p pos : Pos} {e : Expr} {es : List Expr} {t : TA}
theorem pe_fvI {i : Nat} (hn : PEi X (.Name x p) (tVar i)) (hr : Room j X.A) (hx : Passes CX X E) (ha : PAi X (e :: es) t)
    (he : starEach (e :: es) X.env = (false, eval e X.env) :: starEach es X.env := by rfl) (hpl : (backTo pos (starEach es X.env)).any (·.1) = false := by rfl) :
    PEi X (.Call (.Name x p) (e :: es) [] pos) (tFv X.prog X.w X.K X.mg X.base CX j i E t) := by with_unfolding_all exact pe_fv (hn := hn) (hr := hr) (hx := hx) (ha := ha) (he := he) (hpl := hpl)
end
noncomputable def Itk (d : Addr) (o : Obj) (kvs : List (Key × V)) (ss : List Str) : It :=
  ⟨fun i H => i < ss.length ∧ H d = some (.frz o (.dK kvs)), fun i H x H' => H' = H ∧ ∃ y, ss[i]? = some y ∧ x = .str y, fun i H => i = ss.length ∧ H d = some (.frz o (.dK kvs))⟩
theorem frz_at {X : Cx} {pins : List (Addr × Obj)} {σ : L2.St} {H : Hp} {s : Shared} {d : Addr} {o : Obj} {es : Array DictEntry} {ep : Nat} {kvs : List (Key × V)} (I : Inv X pins σ H s) (h : H d = some (.frz o (.dK kvs))) (ho : o.data = .dict es ep) :
    ∃ vs, KV kvs vs ∧ s.heap.DictAt (mixKind X.prog X.w) d vs ep := by
  obtain ⟨e, z, hd, vs, rel, o', es', ep', h1, h2, h3, h4, h5, h6⟩ := (show ObjOk X.prog X.w H s.heap d (.frz o (.dK kvs)) from I.hok d _ h)
  have e1 := e.symm.trans h1
  cases e1
  have e2 := ho.symm.trans h3
  cases e2
  exact ⟨vs, rel, o, es, h1, h2, h3, h4, h5, h6⟩
theorem turn_dict {P : Program} {w : World} {K : PySem.W.Frag} {tg : Expr} {o : Obj} {es : Array DictEntry} {ep : Nat} {kvs : List (Key × V)} {ss : List Str} (d it : Addr) (hne : d ≠ it) (ho : o.data = .dict es ep) (hk : kvs.map (·.1) = ss.map Sum.inr) :
    Turn P w K tg (Itk d o kvs ss) [it] it (fun i h => h.IsKeyIter it d i ss.length ep) where
  mem := by simp
  obj := fun i h st b hb => by
    have e : b = it := by simpa using hb
    subst e
    obtain ⟨o, e, c, d⟩ := st
    exact ⟨o, e, fun v z => by rw [d] at z; cases z⟩
  keep := fun i h h' st k => by
    obtain ⟨o, e, c, d⟩ := st
    exact ⟨o, k it (by simp) o e, c, d⟩
  item := by
    intro X hP hw hK hc i pins s σ H E I hf st hg
    subst hP hw hK
    obtain ⟨hi, hq⟩ := hg
    obtain ⟨vs, rel, D⟩ := frz_at I hq ho
    have hl : kvs.length = ss.length := by have := congrArg List.length hk; simpa using this
    have hl2 : vs.length = ss.length := by rw [← rel.length, hl]
    obtain ⟨f0, f1, f2, f3, f4, f5⟩ := hf it (by simp)
    refine (Walks.dictKeys (knd := mixKind X.prog X.w) (A := X.A) (I.ok.hd hc) it d hne vs ep).item i s _ _ (by omega) ⟨by rw [hl2]; exact st, D⟩ fun v h' tk pv st' kk => ?_
    obtain ⟨k, x, e1, e2⟩ := pv
    have e3 : (vs.map (·.1))[i]? = some k := by rw [List.getElem?_map, e1]; rfl
    rw [← rel.keys, hk, List.getElem?_map] at e3
    obtain ⟨y, e4, rfl⟩ := Option.map_eq_some_iff.mp e3
    obtain ⟨tt, e5⟩ := Value.isStrOf_shape (x := y) (v := v) e2
    have I1 : Inv X pins σ H { s with heap := h', toks := tk } := I.turned (t' := tk) (fun b o hb e => kk b o (by simpa using hb) e) f0 f1 f3 f4 f5
    obtain ⟨st', D'⟩ := st'
    rw [hl2] at st'
    obtain ⟨oo, ee, cc, dd⟩ := id st'
    exact ⟨v, rfl, go_of (s := { s with heap := h', toks := tk }) ee cc dd (by decide) ⟨.str y, H, I1, ⟨tt, e5⟩, ⟨rfl, y, e4, rfl⟩, st', fun b hb => (hf b hb).1⟩⟩
  done := by
    intro X hP hw hK hc i pins s σ H E I hf st hg
    subst hP hw hK
    obtain ⟨hi, hq⟩ := hg
    obtain ⟨vs, rel, D⟩ := frz_at I hq ho
    have hl : kvs.length = ss.length := by have := congrArg List.length hk; simpa using this
    have hl2 : vs.length = ss.length := by rw [← rel.length, hl]
    obtain ⟨f0, f1, f2, f3, f4, f5⟩ := hf it (by simp)
    refine (Walks.dictKeys (knd := mixKind X.prog X.w) (A := X.A) (I.ok.hd hc) it d hne vs ep).done s _ _ ⟨by rw [hl2]; subst hi; exact st, D⟩ fun h' tk kk => ?_
    exact ⟨rfl, I.turned (t' := tk) (fun b o hb e => kk b o (by simpa using hb) e) f0 f1 f3 f4 f5⟩
  self := fun A i s Q E st h => by
    obtain ⟨o, e, c, d'⟩ := st
    have hT : s.TypeIs (.ref it) "dict_keyiterator" := ⟨o, e, c⟩
    refine wpAny_pyIter_slot hT F.slot_dict_keyiterator_iter (wpAny_call_entry F.slot_dict_keyiterator_iter hT F.entry_dict_keyiterator_iter ?_ (F.args_dict_keyiterator_iter_1 _))
    show wpAny _ _ (ret (.ref it)) _ _ _
    exact wpAny_pure ⟨_, rfl, "dict_keyiterator", _, hT, F.slot_dict_keyiterator_next.lookup, h⟩
section
variable {X : Cx}
noncomputable def iDict (tl : TE) : TI := fun σ H R => tl σ H fun x H1 => ∃ (a : Addr) (kvs : List (Key × V)) (ss : List Str), x = .ref a ∧ H1 a = some (.dK kvs) ∧ kvs.map (·.1) = ss.map Sum.inr ∧ ∀ o, R (Itk a o kvs ss) (upd H1 a (.frz o (.dK kvs)))
theorem pi_dict {tg l : Expr} {tl : TE} (hl : PE X l tl) : PI X tg l (iDict tl) := by
  intro pins s σ H R I h
  refine thn (hl pins s σ H _ I h) fun v s1 ⟨x, H1, I1, r1, q1⟩ => ?_
  obtain ⟨a, kvs, ss, rfl, hq, hk, q⟩ := q1
  cases r1
  obtain ⟨z, hd, vs, rel, o, es, ep, h1, h2, h3, h4, h5, h6⟩ := (show ObjOk X.prog X.w H1 s1.heap a (.dK kvs) from I1.hok a _ hq)
  have hl : kvs.length = ss.length := by have := congrArg List.length hk; simpa using this
  have hl2 : vs.length = ss.length := by rw [← rel.length, hl]
  have I2 : Inv X pins σ (upd H1 a (.frz o (.dK kvs))) { s1 with heap := s1.heap, toks := s1.toks } := I1.write (x := a) (e := a) (by rw [hq]; exact True.intro) (.inl rfl) (fun b u _ e => e) ⟨o, h1⟩ ⟨h1, z, hd, vs, rel, o, es, ep, h1, h2, h3, h4, h5, h6⟩
  refine wpAny_pyIter_dict hd (knd := mixKind X.prog X.w) ⟨o, es, h1, h2, h3, h4, h5, h6⟩ ?_
  have lt := Heap.lt_size h1
  refine ⟨s1.heap.objs.size, [s1.heap.objs.size], _, _, _, rfl, I2.kept (t' := s1.toks) fun b o e => Heap.get?_push_of_some _ e, turn_dict a _ (Nat.ne_of_lt lt) h3 hk, ⟨_, Heap.get?_push_size _ rfl, rfl, by rw [hl2]; rfl⟩, fun b hb => ?_, q o⟩
  have e : b = s1.heap.objs.size := by simpa using hb
  subst e
  exact I2.fpOk (Nat.le_refl _) (I2.hok.fresh (Nat.le_refl _))
theorem pi_dictI {tg l : Expr} {tl : TE} (hl : PEi X l tl) : PIi X tg l (iDict tl) := by with_unfolding_all exact pi_dict (hl := hl)
theorem plain_dict {d : Addr} {o : Obj} {kvs : List (Key × V)} {ss : List Str} {H1 : Hp} (h : H1 d = some (.frz o (.dK kvs))) : Plain1 (Itk d o kvs ss) H1 ss.length fun i => .str (ss.getD i "") := fun H2 s2 i =>
  ⟨fun hi => ⟨⟨hi, s2 _ _ h⟩, fun x H' y => ⟨y.1, by obtain ⟨z, e1, e2⟩ := y.2; subst e2; show V.str z = V.str (ss.getD i _); rw [List.getD_eq_getElem?_getD, e1]; rfl⟩⟩, fun e => ⟨e, s2 _ _ h⟩⟩
end
end Cv
namespace Cv
open PySem PySem.Spec PyProof.Rows L2
noncomputable def Nm (s : Str) : Prop := 1 ≤ s.length ∧ s.length ≤ 12 ∧ ∀ c ∈ cp s, 97 ≤ c ∧ c ≤ 122
inductive Wd | nm (s : Str) | sh (q : Rat) | pt (p : Pt)
noncomputable def Wd.tx : Wd → Str | .nm s => s | .sh q => tSh q | .pt p => tPt p
noncomputable def Wd.ok : Wd → Prop | .nm s => Nm s | .sh q => Fg 100 q | .pt p => FgP 100 p
noncomputable def Wd.Is (H : Hp) (v : V) : Wd → Prop | .nm s => v = .str s | .sh q => ShV H v q | .pt p => PtV H v p.1 p.2
noncomputable def Wd.kd (k : Str) : Wd → Prop | .nm _ => k = "name" ∨ k = "new" | .sh _ => k = "share" | .pt _ => k = "point"
theorem Wd.Is.same {H H' : Hp} {v : V} {d : Wd} (h : d.Is H v) (s : Same H H') : d.Is H' v := by
  cases d with
  | nm n => exact h
  | sh q => exact ShV.same h s
  | pt p => exact PtV.same h s
theorem Wd.Is.tup {H H' : Hp} {v : V} {d : Wd} (h : d.Is H v) (s : Tup H H') : d.Is H' v := by
  cases d with
  | nm n => exact h
  | sh q => exact ShV.tup h s
  | pt p => exact PtV.tup h s
theorem Wd.ln {d : Wd} (h : d.ok) : d.tx.length ≤ 408 := by
  cases d with
  | nm n => exact Nat.le_trans h.2.1 (by decide)
  | sh q => exact Nat.le_trans (tSh_ln (k := 100) (by decide) h) (by decide)
  | pt p => exact Nat.le_trans (tPt_ln (k := 100) (by decide) h) (by decide)
theorem Wd.nb {d : Wd} (h : d.ok) : 32 ∉ cp d.tx := by
  cases d with
  | nm n => intro z; have := h.2.2 32 z; omega
  | sh q => intro z; rcases tSh_sg q 32 z with z | z | z <;> omega
  | pt p => intro z; rcases tPt_sg p 32 z with z | z | z | z <;> omega
theorem let_dec (c : Nat) : (!(Builtin.Str.occurrences ("abcdefghijklmnopqrstuvwxyz" : Str) ⟨#[c]⟩ 0 ("abcdefghijklmnopqrstuvwxyz" : Str).length 1).isEmpty) = decide (97 ≤ c ∧ c ≤ 122) := by
  rw [StrLaws.found_one]
  have e : ("abcdefghijklmnopqrstuvwxyz" : Str).cps.toList = [97, 98, 99, 100, 101, 102, 103, 104, 105, 106, 107, 108, 109, 110, 111, 112, 113, 114, 115, 116, 117, 118, 119, 120, 121, 122] := rfl
  rw [e]
  refine decide_eq_decide.mpr ?_
  simp only [List.mem_cons, List.not_mem_nil, or_false]
  omega
noncomputable def spNever : Sp := fun _ _ _ _ => False
noncomputable def spName : Sp := fun vs H Q _ => ∃ s : Str, vs = [.str s] ∧ Nm s ∧ ∀ H', Same H H' → Q (.str s) H'
noncomputable def spWord : Sp := fun vs H Q _ => ∃ (k : Str) (d : Wd), vs = [.str k, .str d.tx] ∧ d.kd k ∧ d.ok ∧ ∀ v H', Same H H' → d.Is H' v → Q v H'
noncomputable def formsL : List (Str × Str) := [("tell", "name"), ("names", ""), ("point", "name share"), ("cut", "name share new new"), ("stretch", "name share share new"), ("turn", "name"), ("raise", "name"), ("lower", "name"), ("least", "name"), ("speed", "name new"), ("move", "name share share share share share share"), ("same", "name name"), ("hull", "name"), ("box", "name"), ("part", "name name"), ("meet", "name name level"), ("join", "name name")]
noncomputable def formsKV : List (Key × V) := formsL.map fun p => (.inr p.1, .str p.2)
noncomputable def KD (first : Str) (n : Nat) (ks : List Str) : Prop := (first = "curve" ∧ 2 ≤ n ∧ n ≤ 13 ∧ ks = ("new" : Str) :: List.replicate (n - 1) ("point" : Str)) ∨ (first ≠ "curve" ∧ ∃ f, valV formsKV (.inr first) = some (.str f) ∧ words f = ks ∧ ks.length = n ∧ f.length ≤ 1000 ∧ (Builtin.Str.spaceWords f (f.length + 1)).length ≤ 1000)
noncomputable def spKinds : Sp := fun vs H Q _ => ∃ (first : Str) (n : Nat) (ks : List Str), vs = [.str first, .int (n : Int)] ∧ KD first n ks ∧ n ≤ 1000 ∧ ∀ (l : Addr) (H' : Hp), Same H H' → H l = none → H' l = some (.lst (ks.map V.str)) → Q (.ref l) H'
noncomputable def WdsV (H : Hp) (us : List V) (ds : List Wd) : Prop := us.length = ds.length ∧ ∀ (i : Nat) (v : V) (d : Wd), us[i]? = some v → ds[i]? = some d → d.Is H v
noncomputable def KdsOk (ks : List Str) (ds : List Wd) : Prop := ks.length = ds.length ∧ ∀ (i : Nat) (k : Str) (d : Wd), ks[i]? = some k → ds[i]? = some d → d.kd k ∧ d.ok
noncomputable def rowT (first : Str) (ds : List Wd) : Str := Str.join " " (first :: ds.map Wd.tx)
noncomputable def spRow : Sp := fun vs H Q _ => ∃ (first : Str) (ds : List Wd) (ks : List Str), vs = [.str (rowT first ds)] ∧ 32 ∉ cp first ∧ first.length ≤ 20 ∧ KD first ds.length ks ∧ ds.length ≤ 13 ∧ KdsOk ks ds ∧
  ∀ (t lk lt : Addr) (us : List V) (H' : Hp), Same H H' → H' t = some (.tup [.str first, .ref lk, .ref lt]) → H' lk = some (.lst (ks.map V.str)) → H' lt = some (.lst us) → WdsV H' us ds → Q (.ref t) H'
section
variable {α : Type}
noncomputable def getA (cs : List (Str × α)) (n : Str) : Option α := (cs.find? fun c => decide (c.1 = n)).map (·.2)
noncomputable def putA (cs : List (Str × α)) (n : Str) (x : α) : List (Str × α) := if (cs.any fun c => decide (c.1 = n)) = true then cs.map (fun c => if c.1 = n then (c.1, x) else c) else cs ++ [(n, x)]
noncomputable def KvR (R : V → α → Prop) : List (Key × V) → List (Str × α) → Prop := Paired fun kv c => kv.1 = .inr c.1 ∧ R kv.2 c.2
theorem KvR.mono {R S : V → α → Prop} {kvs : List (Key × V)} {cs : List (Str × α)} (h : KvR R kvs cs) (f : ∀ v x, R v x → S v x) : KvR S kvs cs := Paired.mapP h fun _ _ z => ⟨z.1, f _ _ z.2⟩
theorem KvR.keys {R : V → α → Prop} {kvs : List (Key × V)} {cs : List (Str × α)} (h : KvR R kvs cs) : kvs.map (·.1) = (cs.map (·.1)).map Sum.inr := by
  unfold KvR at h
  induction h with
  | nil => rfl
  | cons h t ih => rw [List.map_cons, List.map_cons, List.map_cons, ih, h.1]
theorem KvR.length {R : V → α → Prop} {kvs : List (Key × V)} {cs : List (Str × α)} (h : KvR R kvs cs) : kvs.length = cs.length := by
  have := congrArg List.length h.keys
  simpa using this
theorem KvR.val {R : V → α → Prop} {kvs : List (Key × V)} {cs : List (Str × α)} (h : KvR R kvs cs) (n : Str) : (getA cs n = none ∧ valV kvs (.inr n) = none) ∨ ∃ x v, getA cs n = some x ∧ valV kvs (.inr n) = some v ∧ R v x := by
  unfold KvR at h
  induction h with
  | nil => exact .inl ⟨rfl, rfl⟩
  | @cons p q ps qs h t ih =>
    by_cases e : q.1 = n
    · refine .inr ⟨q.2, p.2, ?_, valV_pos (by rw [h.1, e]), h.2⟩
      simp [getA, List.find?_cons, e]
    · have e1 : getA (q :: qs) n = getA qs n := by simp [getA, List.find?_cons, e]
      rw [e1, valV_neg (by rw [h.1]; intro z; exact e (Sum.inr.inj z))]
      exact ih
theorem KvR.there {R : V → α → Prop} {kvs : List (Key × V)} {cs : List (Str × α)} (h : KvR R kvs cs) {n : Str} {x : α} (e : getA cs n = some x) : ∃ v, valV kvs (.inr n) = some v ∧ R v x := by
  rcases h.val n with ⟨e1, _⟩ | ⟨y, v, e1, e2, e3⟩
  · rw [e] at e1; cases e1
  · rw [e] at e1; cases e1; exact ⟨v, e2, e3⟩
theorem KvR.put {R : V → α → Prop} {kvs : List (Key × V)} {cs : List (Str × α)} (h : KvR R kvs cs) (n : Str) {v : V} {x : α} (hv : R v x) : KvR R (putK kvs (.inr n) v) (putA cs n x) := by
  have e : (kvs.any fun kv => decide (kv.1 = .inr n)) = (cs.any fun c => decide (c.1 = n)) := by
    unfold KvR at h
    induction h with
    | nil => rfl
    | cons h t ih =>
      rw [List.any_cons, List.any_cons, ih, h.1]
      congr 1
      exact decide_eq_decide.mpr ⟨fun z => Sum.inr.inj z, fun z => by rw [z]⟩
  unfold putK putA
  rw [e]
  by_cases q : (cs.any fun c => decide (c.1 = n)) = true
  · rw [if_pos q, if_pos q]
    clear q e
    unfold KvR at h ⊢
    induction h with
    | nil => exact .nil
    | @cons p r ps rs h t ih =>
      rw [List.map_cons, List.map_cons]
      refine .cons ?_ ih
      by_cases z : r.1 = n
      · rw [if_pos (by rw [h.1, z]), if_pos z]; exact ⟨h.1, hv⟩
      · rw [if_neg (by rw [h.1]; intro y; exact z (Sum.inr.inj y)), if_neg z]; exact h
  · rw [if_neg q, if_neg q]
    exact Paired.snoc h ⟨rfl, hv⟩
theorem length_putA (cs : List (Str × α)) (n : Str) (x : α) : (putA cs n x).length ≤ cs.length + 1 := by
  unfold putA
  split
  · rw [List.length_map]; omega
  · rw [List.length_append]; simp
theorem getA_pos {c : Str × α} {cs : List (Str × α)} {n : Str} (e : c.1 = n) : getA (c :: cs) n = some c.2 := by simp [getA, List.find?_cons, e]
theorem getA_neg {c : Str × α} {cs : List (Str × α)} {n : Str} (e : ¬ c.1 = n) : getA (c :: cs) n = getA cs n := by simp [getA, List.find?_cons, e]
theorem getA_map (n m : Str) (x : α) : ∀ cs : List (Str × α), getA (cs.map fun c => if c.1 = n then (c.1, x) else c) m = (getA cs m).map fun y => if m = n then x else y
  | [] => rfl
  | c :: cs => by
    rw [List.map_cons]
    by_cases e : c.1 = m
    · rw [getA_pos e, getA_pos (by split <;> exact e)]
      by_cases z : c.1 = n
      · rw [if_pos z, Option.map_some, if_pos (e.symm.trans z)]
      · rw [if_neg z, Option.map_some, if_neg (fun y => z (e.trans y))]
    · rw [getA_neg e, getA_neg (by split <;> exact e)]
      exact getA_map n m x cs
theorem getA_snoc (n m : Str) (x : α) : ∀ cs : List (Str × α), getA (cs ++ [(n, x)]) m = match getA cs m with | some y => some y | none => if n = m then some x else none
  | [] => by
    by_cases e : n = m
    · rw [if_pos e]; exact getA_pos e
    · rw [if_neg e]; exact getA_neg e
  | c :: cs => by
    rw [List.cons_append]
    by_cases e : c.1 = m
    · rw [getA_pos e, getA_pos e]
    · rw [getA_neg e, getA_neg e]; exact getA_snoc n m x cs
theorem any_getA (n : Str) : ∀ cs : List (Str × α), (cs.any fun c => decide (c.1 = n)) = (getA cs n).isSome
  | [] => rfl
  | c :: cs => by
    rw [List.any_cons]
    by_cases e : c.1 = n
    · rw [getA_pos e, decide_eq_true e]; rfl
    · rw [getA_neg e, decide_eq_false e, Bool.false_or]; exact any_getA n cs
theorem getA_put (cs : List (Str × α)) (n m : Str) (x : α) : getA (putA cs n x) m = if m = n then some x else getA cs m := by
  unfold putA
  rw [any_getA]
  by_cases q : (getA cs n).isSome = true
  · rw [if_pos q, getA_map]
    by_cases e : m = n
    · rw [if_pos e, e]
      obtain ⟨y, hy⟩ := Option.isSome_iff_exists.mp q
      rw [hy, Option.map_some]; simp
    · rw [if_neg e]; simp [e]
  · rw [if_neg q, getA_snoc]
    by_cases e : m = n
    · have z : getA cs m = none := by rw [e]; simpa using q
      rw [z, if_pos e]; simp [e]
    · rw [if_neg e]
      cases getA cs m with
      | some y => rfl
      | none => simp; exact fun z => e z.symm
end
noncomputable def Ex (d : Addr) (H H' : Hp) : Prop := ∀ b o, b ≠ d → H b = some o → H' b = some o
noncomputable def CvV (H : Hp) (v : V) (ps : List Pt) : Prop := ∃ (l : Addr) (ws : List V), v = .ref l ∧ H l = some (.lst ws) ∧ PtsV H ws ps
noncomputable def DictC (H : Hp) (d : Addr) (cs : List (Str × List Pt)) : Prop := ∃ kvs, H d = some (.dK kvs) ∧ KvR (CvV H) kvs cs ∧ cs.length ≤ 40
end Cv
namespace Cv
open PySem PySem.Spec PyProof.Rows L2
noncomputable def EntsOk (w : World) (es : Array DictEntry) (kvs : List (Key × V)) : Prop := Paired (fun (e : DictEntry) (kv : Key × V) => keyIs kv.1 e.key = true ∧ e.hash = keyH w kv.1 ∧ RelV kv.2 e.val) es.toList kvs
theorem ents_pairs {P : Program} {w : World} {es : List DictEntry} {kvs : List (Key × V)} (h : Paired (fun (e : DictEntry) (kv : Key × V) => keyIs kv.1 e.key = true ∧ e.hash = keyH w kv.1 ∧ RelV kv.2 e.val) es kvs) :
    ∃ vs, KV kvs vs ∧ Pairs (mixKind P w) es vs ∧ vs.map (·.1) = kvs.map (·.1) ∧ ∀ e ∈ es, ∃ k, (mixKind P w).is k e.key = true ∧ e.hash = (mixKind P w).hash k := by
  induction h with
  | nil => exact ⟨[], .nil, .nil, rfl, fun e he => nomatch he⟩
  | @cons e kv es kvs h t ih =>
    obtain ⟨vs, h1, h2, h3, h4⟩ := ih
    refine ⟨(kv.1, e.val) :: vs, .cons ⟨rfl, h.2.2⟩ h1, .cons h.1 rfl h2, by rw [List.map_cons, List.map_cons, h3], fun e' he => ?_⟩
    rcases List.mem_cons.mp he with rfl | he
    · exact ⟨kv.1, h.1, h.2.1⟩
    · exact h4 e' he
theorem dkn_of {P : Program} {w : World} {K : PySem.W.Frag} {a : Addr} {es : Array DictEntry} {ep : Nat} {kvs : List (Key × V)} (l : K.lookup a = some ⟨.type "dict", none, .dict es ep, #[]⟩) (h : EntsOk w es kvs) (hn : (kvs.map (·.1)).Nodup) (ha : (a == sysModules) = false) : DKn P w K a kvs := fun hp KX => by
  obtain ⟨vs, h1, h2, h3, h4⟩ := ents_pairs (P := P) h
  exact ⟨ha, vs, h1, ⟨.type "dict", none, .dict es ep, #[]⟩, es, ep, KX _ _ l, ⟨rfl, rfl, rfl⟩, rfl, fun e he => h4 e (Array.mem_toList_iff.mpr he), h2, by rw [h3]; exact hn⟩
section
variable {X : Cx} {CX : CXT} {k j : Nat} {ps : List Str} {sp : Sp} {E : XK} {x : Str} {C : Addr} {p pos : Pos}
theorem pe_mk0 (T : ClsK X.K X.mg x C) (D : MthOk X.prog X.w X.K X.mg X.base CX k C "__init__" ps sp) (hr : Room j X.A) (hx : Passes CX X E) (hk : k + 1 ≤ j := by decide) (hg : Gl X x := by rfl)
    (hdb : (x == ("__debug__" : Str)) = false := by decide) : PE X (.Call (.Name x p) [] [] pos) (tMk C sp E tNil) := by
  obtain ⟨f, fd, F, hm, hb⟩ := D.ex
  intro pins s σ H Q I h
  have q := pe_make0 (X := X) (p := p) (pos := pos) ⟨T.makes, hm.at_, hm.fn, T.kp⟩ F (hr.mono hk) hg T.at_ hb .nil hx hdb
  refine q pins s σ H Q I ?_
  exact h
theorem pe_mk0I (T : ClsK X.K X.mg x C) (D : MthOk X.prog X.w X.K X.mg X.base CX k C "__init__" ps sp) (hr : Room j X.A) (hx : Passes CX X E) (hk : k + 1 ≤ j := by decide) (hg : Gl X x := by rfl)
    (hdb : (x == ("__debug__" : Str)) = false := by decide) : PEi X (.Call (.Name x p) [] [] pos) (tMk C sp E tNil) := by with_unfolding_all exact pe_mk0 T D hr hx hk hg hdb
end
section
variable {X : Cx}
noncomputable def tTrD (t : TE) : TT := fun σ H Q => t σ H fun x H1 => ∃ (a : Addr) (kvs : List (Key × V)), x = .ref a ∧ Rd H1 a (.dK kvs) ∧ Q (!kvs.isEmpty) H1
theorem pt_dict {e : Expr} {t : TE} (h : PE X e t) (he : ∀ whole, isTrue e X.env whole = (do let v ← whole; standAt e.pos; holding [v] (truthy v)) := by intro _; rfl) : PT X e (tTrD t) := by
  intro pins s σ H Q I hw
  refine isTrue_plain (thn (h pins s σ H _ I hw) fun v s1 ⟨x, H1, I1, r1, q1⟩ => ?_) (he _)
  obtain ⟨a, kvs, rfl, hR, q⟩ := q1
  cases r1
  exact d_truth I1 hR fun s' I' => ⟨H1, I', q⟩
theorem pt_dictI {e : Expr} {t : TE} (h : PEi X e t) (he : ∀ whole, isTrue e X.env whole = (do let v ← whole; standAt e.pos; holding [v] (truthy v)) := by intro _; rfl) : PTi X e (tTrD t) := by with_unfolding_all exact pt_dict (h := h) (he := he)
end
end Cv
namespace Cv
open PySem PySem.Spec PyProof.Rows L2
theorem Ex.of_same {d : Addr} {H H' : Hp} (s : Same H H') : Ex d H H' := fun b o _ e => s b o e
theorem Ex.trans {d : Addr} {H H1 H2 : Hp} (a : Ex d H H1) (b : Ex d H1 H2) : Ex d H H2 := fun c o n e => b c o n (a c o n e)
theorem Ex.put {d : Addr} {H : Hp} {o : HO} : Ex d H (upd H d o) := fun b u n e => by rw [upd_ne n]; exact e
theorem Ex.tup {d : Addr} {H H' : Hp} {kvs : List (Key × V)} (h : Ex d H H') (hd : H d = some (.dK kvs)) : Tup H H' := fun a xs e => h a _ (ne_of e hd (fun z => nomatch z)) e
theorem Ex.lst {d l : Addr} {H H' : Hp} {kvs : List (Key × V)} {ws : List V} (h : Ex d H H') (hd : H d = some (.dK kvs)) (e : H l = some (.lst ws)) : H' l = some (.lst ws) := h l _ (ne_of e hd (fun z => nomatch z)) e
theorem CvV.same {H H' : Hp} {v : V} {ps : List Pt} (h : CvV H v ps) (s : Same H H') : CvV H' v ps := by
  obtain ⟨l, ws, e, hl, hP⟩ := h
  exact ⟨l, ws, e, s _ _ hl, hP.same s⟩
theorem CvV.ex {d : Addr} {H H' : Hp} {v : V} {ps : List Pt} {kvs : List (Key × V)} (h : CvV H v ps) (s : Ex d H H') (hd : H d = some (.dK kvs)) : CvV H' v ps := by
  obtain ⟨l, ws, e, hl, hP⟩ := h
  exact ⟨l, ws, e, s.lst hd hl, hP.tup (s.tup hd)⟩
theorem DictC.same {H H' : Hp} {d : Addr} {cs : List (Str × List Pt)} (h : DictC H d cs) (s : Same H H') : DictC H' d cs := by
  obtain ⟨kvs, hd, hK, hl⟩ := h
  exact ⟨kvs, s _ _ hd, hK.mono fun v x r => r.same s, hl⟩
theorem DictC.ex {H H' : Hp} {d e : Addr} {cs : List (Str × List Pt)} {kvs : List (Key × V)} (h : DictC H d cs) (s : Ex e H H') (he : H e = some (.dK kvs)) (hne : d ≠ e) : DictC H' d cs := by
  obtain ⟨kv, hd, hK, hl⟩ := h
  exact ⟨kv, s _ _ hne hd, hK.mono fun v x r => r.ex s he, hl⟩
theorem DictC.put {H : Hp} {d l : Addr} {cs : List (Str × List Pt)} {kvs : List (Key × V)} {n : Str} {ws : List V} {ps : List Pt} (hd : H d = some (.dK kvs)) (hK : KvR (CvV H) kvs cs) (hc : cs.length < 40) (hl : H l = some (.lst ws)) (hP : PtsV H ws ps) :
    DictC (upd H d (.dK (putK kvs (.inr n) (.ref l)))) d (putA cs n ps) := by
  refine ⟨_, upd_same, ((hK.mono fun v x r => r.ex Ex.put hd).put n (CvV.ex ⟨l, ws, rfl, hl, hP⟩ Ex.put hd)), ?_⟩
  have := length_putA cs n ps
  omega
noncomputable def keptF (d : Addr) : List (Str × V) := putF "kept" (.ref d) []
theorem kept_get (d : Addr) : (keptF d).lookup ("kept" : Str) = some (.ref d) := by
  unfold keptF
  rw [lookup_putF, if_pos rfl]
theorem kept_no (d : Addr) {m : Str} (h : ¬ m = "kept") : (keptF d).lookup m = none := by
  unfold keptF
  rw [lookup_putF, if_neg h]; rfl
noncomputable def DeskAt (C : Addr) (H : Hp) (x d : Addr) (cs : List (Str × List Pt)) : Prop := (∃ dx, H x = some (.ins C dx (keptF d))) ∧ DictC H d cs
theorem DeskAt.same {C : Addr} {H H' : Hp} {x d : Addr} {cs : List (Str × List Pt)} (h : DeskAt C H x d cs) (s : Same H H') : DeskAt C H' x d cs := by
  obtain ⟨⟨dx, hx⟩, hD⟩ := h
  exact ⟨⟨dx, s _ _ hx⟩, hD.same s⟩
theorem DeskAt.own {C : Addr} {H H' : Hp} {x d : Addr} {cs cs' : List (Str × List Pt)} (h : DeskAt C H x d cs) (s : Ex d H H') (h' : DictC H' d cs') : DeskAt C H' x d cs' := by
  obtain ⟨⟨dx, hx⟩, kvs, hd, _⟩ := h
  exact ⟨⟨dx, s _ _ (ne_of hx hd (fun z => nomatch z)) hx⟩, h'⟩
theorem DeskAt.ex {C : Addr} {H H' : Hp} {x d e : Addr} {cs : List (Str × List Pt)} {kvs : List (Key × V)} (h : DeskAt C H x d cs) (s : Ex e H H') (he : H e = some (.dK kvs)) (hne : d ≠ e) : DeskAt C H' x d cs := by
  obtain ⟨⟨dx, hx⟩, hD⟩ := h
  exact ⟨⟨dx, s _ _ (ne_of hx he (fun z => nomatch z)) hx⟩, hD.ex s he hne⟩
noncomputable def spDInit (C : Addr) : Sp := fun vs H Q _ => ∃ x dx, vs = [.ref x] ∧ H x = some (.ins C dx []) ∧ ∀ (d : Addr) (H1 : Hp), Same H H1 → H d = none → H1 d = some (.dK []) → Q .non (upd H1 x (.ins C dx (keptF d)))
noncomputable def spKeep : Sp := fun vs H Q _ => ∃ (d lt : Addr) (cs : List (Str × List Pt)) (n : Str) (ws : List V) (ps : List Pt), vs = [.ref d, .ref lt] ∧ DictC H d cs ∧ cs.length < 40 ∧ H lt = some (.lst (.str n :: ws)) ∧ PtsV H ws ps ∧ ps.length ≤ 100 ∧ ∀ H', Ex d H H' → DictC H' d (putA cs n ps) → Q (.str "ok") H'
noncomputable def spTellC : Sp := fun vs H Q _ => ∃ (d lt : Addr) (cs : List (Str × List Pt)) (n : Str) (ps : List Pt), vs = [.ref d, .ref lt] ∧ DictC H d cs ∧ H lt = some (.lst [.str n]) ∧ getA cs n = some ps ∧ (∀ p ∈ ps, FgP 1000 p) ∧ ps.length ≤ 100 ∧ ∀ H', Same H H' → Q (.str (tCv ps)) H'
noncomputable def spNames : Sp := fun vs H Q _ => ∃ (d lt : Addr) (cs : List (Str × List Pt)), vs = [.ref d, .ref lt] ∧ DictC H d cs ∧ ((cs = [] ∧ ∀ H', Same H H' → Q (.str "none") H') ∨ (cs ≠ [] ∧ (∀ c ∈ cs, c.1.length ≤ 12) ∧ ∀ ss' H', Same H H' → ss'.Perm (cs.map (·.1)) → sortedS ss' = true → Q (.str (Str.join " " ss')) H'))
noncomputable def spTPoint : Sp := fun vs H Q _ => ∃ (d lt : Addr) (cs : List (Str × List Pt)) (n : Str) (ps : List Pt) (z : V) (t : Rat) (D : Int) (m ta : Nat), vs = [.ref d, .ref lt] ∧ DictC H d cs ∧ H lt = some (.lst [.str n, z]) ∧ ShV H z t ∧ getA cs n = some ps ∧ Bd ta t ∧ ta ≤ 9000 ∧ Fine ps D m ∧ FgP 1000 (ptP t ps) ∧ ∀ H', Same H H' → Q (.str (tPt (ptP t ps))) H'
noncomputable def tBox (q1 q2 q3 q4 : Rat) : Str := Str.join " " [tSh q1, tSh q2, tSh q3, tSh q4]
noncomputable def spTBox : Sp := fun vs H Q _ => ∃ (d lt : Addr) (cs : List (Str × List Pt)) (n : Str) (ps : List Pt) (D : Int) (m : Nat), vs = [.ref d, .ref lt] ∧ DictC H d cs ∧ H lt = some (.lst [.str n]) ∧ getA cs n = some ps ∧ Fine ps D m ∧ (∀ p ∈ ps, FgP 1000 p) ∧
  ∀ q1 q2 q3 q4 H', Same H H' → LeastQ (ps.map (·.1)) q1 → LeastQ (ps.map (·.2)) q2 → GreatQ (ps.map (·.1)) q3 → GreatQ (ps.map (·.2)) q4 → Q (.str (tBox q1 q2 q3 q4)) H'
noncomputable def spTurnC : Sp := fun vs H Q _ => ∃ (d lt : Addr) (cs : List (Str × List Pt)) (n : Str) (ps : List Pt), vs = [.ref d, .ref lt] ∧ DictC H d cs ∧ cs.length < 40 ∧ H lt = some (.lst [.str n]) ∧ getA cs n = some ps ∧ ∀ H', Ex d H H' → DictC H' d (putA cs n ps.reverse) → Q (.str "ok") H'
inductive Say (H : Hp) (d : Addr) (cs : List (Str × List Pt)) (Q : VK) : Str → Prop
  | curve (n : Str) (ps : List Pt) (hn : Nm n) (h1 : 1 ≤ ps.length) (h12 : ps.length ≤ 12) (hf : ∀ p ∈ ps, FgP 100 p) (hc : cs.length < 40) (k : ∀ H', Ex d H H' → DictC H' d (putA cs n ps) → Q (.str "ok") H') : Say H d cs Q (rowT "curve" (.nm n :: ps.map .pt))
  | tell (n : Str) (ps : List Pt) (hn : Nm n) (e : getA cs n = some ps) (hf : ∀ p ∈ ps, FgP 1000 p) (hl : ps.length ≤ 100) (k : ∀ H', Same H H' → Q (.str (tCv ps)) H') : Say H d cs Q (rowT "tell" [.nm n])
  | none (e : cs = []) (k : ∀ H', Same H H' → Q (.str "none") H') : Say H d cs Q (rowT "names" [])
  | names (e : cs ≠ []) (hl : ∀ c ∈ cs, c.1.length ≤ 12) (k : ∀ ss' H', Same H H' → ss'.Perm (cs.map (·.1)) → sortedS ss' = true → Q (.str (Str.join " " ss')) H') : Say H d cs Q (rowT "names" [])
  | point (n : Str) (ps : List Pt) (t : Rat) (D : Int) (m ta : Nat) (hn : Nm n) (ht : Fg 100 t) (e : getA cs n = some ps) (hb : Bd ta t) (h9 : ta ≤ 9000) (hF : Fine ps D m) (hg : FgP 1000 (ptP t ps)) (k : ∀ H', Same H H' → Q (.str (tPt (ptP t ps))) H') : Say H d cs Q (rowT "point" [.nm n, .sh t])
  | box (n : Str) (ps : List Pt) (D : Int) (m : Nat) (hn : Nm n) (e : getA cs n = some ps) (hF : Fine ps D m) (hf : ∀ p ∈ ps, FgP 1000 p) (k : ∀ q1 q2 q3 q4 H', Same H H' → LeastQ (ps.map (·.1)) q1 → LeastQ (ps.map (·.2)) q2 → GreatQ (ps.map (·.1)) q3 → GreatQ (ps.map (·.2)) q4 → Q (.str (tBox q1 q2 q3 q4)) H') : Say H d cs Q (rowT "box" [.nm n])
  | turn (n : Str) (ps : List Pt) (hn : Nm n) (e : getA cs n = some ps) (hc : cs.length < 40) (k : ∀ H', Ex d H H' → DictC H' d (putA cs n ps.reverse) → Q (.str "ok") H') : Say H d cs Q (rowT "turn" [.nm n])
noncomputable def spSay (C : Addr) : Sp := fun vs H Q _ => ∃ (x d : Addr) (row : Str) (cs : List (Str × List Pt)), vs = [.ref x, .str row] ∧ DeskAt C H x d cs ∧ Say H d cs Q row
end Cv
namespace Cv
open PySem PySem.Spec PyProof.Rows L2
inductive DeedIs : Str → Sp → Prop
  | curve : DeedIs "curve" spKeep
  | tell : DeedIs "tell" spTellC
  | names : DeedIs "names" spNames
  | point : DeedIs "point" spTPoint
  | box : DeedIs "box" spTBox
  | turn : DeedIs "turn" spTurnC
theorem kd_name {first : Str} (hc : first ≠ "curve") (e : valV formsKV (.inr first) = some (.str "name")) : KD first 1 ["name"] := .inr ⟨hc, "name", e, by decide +kernel, rfl, by decide, by decide +kernel⟩
theorem kd_names : KD "names" 0 [] := .inr ⟨by decide, "", by decide +kernel, by decide +kernel, rfl, by decide, by decide +kernel⟩
theorem kd_point : KD "point" 2 ["name", "share"] := .inr ⟨by decide, "name share", by decide +kernel, by decide +kernel, rfl, by decide, by decide +kernel⟩
theorem kds_one {s : Str} (h : Nm s) : KdsOk ["name"] [.nm s] := ⟨rfl, fun i k d e1 e2 => by
  cases i with
  | zero => cases e1; cases e2; exact ⟨.inl rfl, h⟩
  | succ i => simp at e1⟩
theorem wds_one {H : Hp} {us : List V} {s : Str} (h : WdsV H us [.nm s]) : us = [.str s] := by
  obtain ⟨hl, h⟩ := h
  match us, hl with
  | [v], _ => rw [show v = .str s from h 0 v _ rfl rfl]
structure Used (H : Hp) (d : Addr) (cs : List (Str × List Pt)) (Q : VK) (E : XK) (row : Str) (first : Str) (ds : List Wd) (ks : List Str) (sp : Sp) : Prop where
  row : row = rowT first ds
  nb : 32 ∉ cp first
  ln : first.length ≤ 20
  kd : KD first ds.length ks
  d13 : ds.length ≤ 13
  ok : KdsOk ks ds
  nm : ∀ (i : Nat) (w : Wd), ks[i]? = some "name" → ds[i]? = some w → ∃ s x, w = .nm s ∧ getA cs s = some x
  deed : DeedIs first sp
  go : ∀ (H' : Hp) (lt : Addr) (us : List V), Same H H' → H' lt = some (.lst us) → WdsV H' us ds → sp [.ref d, .ref lt] H' Q E
theorem used_one {H : Hp} {d : Addr} {cs : List (Str × List Pt)} {Q : VK} {E : XK} {first n : Str} {ps : List Pt} {sp : Sp} (hc : first ≠ "curve") (e : valV formsKV (.inr first) = some (.str "name")) (nb : 32 ∉ cp first) (ln : first.length ≤ 20) (hn : Nm n) (hg : getA cs n = some ps) (D : DeedIs first sp)
    (go : ∀ (H' : Hp) (lt : Addr), Same H H' → H' lt = some (.lst [.str n]) → sp [.ref d, .ref lt] H' Q E) : Used H d cs Q E (rowT first [.nm n]) first [.nm n] ["name"] sp :=
  ⟨rfl, nb, ln, kd_name hc e, by simp, kds_one hn, fun i w e1 e2 => by
    cases i with
    | zero => cases e2; exact ⟨n, ps, rfl, hg⟩
    | succ i => simp at e1, D, fun H' lt us s hl hw => by rw [wds_one hw] at hl; exact go H' lt s hl⟩
theorem Same.ex_left {d : Addr} {H H' H'' : Hp} (s : Same H H') (e : Ex d H' H'') : Ex d H H'' := fun b o n h => e b o n (s b o h)
theorem Say.use {H : Hp} {d : Addr} {cs : List (Str × List Pt)} {Q : VK} {E : XK} {row : Str} (h : Say H d cs Q row) (hD : DictC H d cs) : ∃ first ds ks sp, Used H d cs Q E row first ds ks sp := by
  cases h with
  | curve n ps hn h1 h12 hf hc k =>
    refine ⟨"curve", .nm n :: ps.map .pt, _, spKeep, rfl, by decide, by decide, .inl ⟨rfl, ?_, ?_, rfl⟩, ?_, ⟨?_, ?_⟩, ?_, .curve, ?_⟩
    · rw [List.length_cons, List.length_map]; omega
    · rw [List.length_cons, List.length_map]; omega
    · rw [List.length_cons, List.length_map]; omega
    · simp
    · intro i kk w e1 e2
      cases i with
      | zero => cases e1; cases e2; exact ⟨.inr rfl, hn⟩
      | succ i =>
        rw [List.getElem?_cons_succ] at e1 e2
        have := List.eq_of_mem_replicate (List.mem_of_getElem? e1)
        rw [List.getElem?_map] at e2
        obtain ⟨p, ep, rfl⟩ := Option.map_eq_some_iff.mp e2
        exact ⟨this, hf p (List.mem_of_getElem? ep)⟩
    · intro i w e1 e2
      cases i with
      | zero => exact absurd (Option.some.inj e1) (by decide)
      | succ i =>
        rw [List.getElem?_cons_succ] at e1
        exact absurd (List.eq_of_mem_replicate (List.mem_of_getElem? e1)) (by decide)
    · intro H' lt us s hl hw
      obtain ⟨hul, hu⟩ := hw
      match us, hul with
      | v :: ws, hul =>
        have e0 : v = .str n := hu 0 v _ rfl rfl
        subst e0
        have hwl : ws.length = ps.length := by simpa using hul
        exact ⟨d, lt, cs, n, ws, ps, rfl, hD.same s, hc, hl, ⟨hwl, fun i v p e1 e2 => hu (i + 1) v (.pt p) e1 (by rw [List.getElem?_cons_succ, List.getElem?_map, e2]; rfl)⟩, by omega, fun H'' e hC => k H'' (Same.ex_left s e) hC⟩
  | tell n ps hn e hf hl k => exact ⟨_, _, _, spTellC, used_one (by decide) (by decide +kernel) (by decide) (by decide) hn e .tell fun H' lt s hl' => ⟨d, lt, cs, n, ps, rfl, hD.same s, hl', e, hf, hl, fun H'' s' => k H'' (s.trans s')⟩⟩
  | none e k => exact ⟨"names", [], [], spNames, rfl, by decide, by decide, kd_names, by decide, ⟨rfl, fun i k d e1 _ => by simp at e1⟩, fun i w e1 _ => by simp at e1, .names, fun H' lt us s hl hw => ⟨d, lt, cs, rfl, hD.same s, .inl ⟨e, fun H'' s' => k H'' (s.trans s')⟩⟩⟩
  | names e hl k => exact ⟨"names", [], [], spNames, rfl, by decide, by decide, kd_names, by decide, ⟨rfl, fun i k d e1 _ => by simp at e1⟩, fun i w e1 _ => by simp at e1, .names, fun H' lt us s hl' hw => ⟨d, lt, cs, rfl, hD.same s, .inr ⟨e, hl, fun ss' H'' s' => k ss' H'' (s.trans s')⟩⟩⟩
  | point n ps t D m ta hn ht e hb h9 hF hg k =>
    refine ⟨"point", [.nm n, .sh t], ["name", "share"], spTPoint, rfl, by decide, by decide, kd_point, by simp, ⟨rfl, ?_⟩, ?_, .point, ?_⟩
    · intro i kk w e1 e2
      match i with
      | 0 => cases e1; cases e2; exact ⟨.inl rfl, hn⟩
      | 1 => cases e1; cases e2; exact ⟨rfl, ht⟩
      | i + 2 => simp at e1
    · intro i w e1 e2
      match i with
      | 0 => cases e2; exact ⟨n, ps, rfl, e⟩
      | 1 => exact absurd (Option.some.inj e1) (by decide)
      | i + 2 => simp at e1
    · intro H' lt us s hl hw
      obtain ⟨hul, hu⟩ := hw
      match us, hul with
      | [v, z], _ =>
        have e0 : v = .str n := hu 0 v _ rfl rfl
        subst e0
        exact ⟨d, lt, cs, n, ps, z, t, D, m, ta, rfl, hD.same s, hl, hu 1 z _ rfl rfl, e, hb, h9, hF, hg, fun H'' s' => k H'' (s.trans s')⟩
  | box n ps D m hn e hF hf k => exact ⟨_, _, _, spTBox, used_one (by decide) (by decide +kernel) (by decide) (by decide) hn e .box fun H' lt s hl' => ⟨d, lt, cs, n, ps, D, m, rfl, hD.same s, hl', e, hF, hf, fun q1 q2 q3 q4 H'' s' => k q1 q2 q3 q4 H'' (s.trans s')⟩⟩
  | turn n ps hn e hc k => exact ⟨_, _, _, spTurnC, used_one (by decide) (by decide +kernel) (by decide) (by decide) hn e .turn fun H' lt s hl' => ⟨d, lt, cs, n, ps, rfl, hD.same s, hc, hl', e, fun H'' e' hC => k H'' (Same.ex_left s e') hC⟩⟩
end Cv
namespace Cv
open PySem PySem.Spec PyProof.Rows L2
noncomputable def spLTxP : Sp := fun vs H Q _ => ∃ (v : V) (x y : Rat), vs = [v] ∧ PtV H v x y ∧ FgP 300 (x, y) ∧ Q (.str (tPt (x, y))) H
noncomputable def spPtDue (K : PySem.W.Frag) : Sp := fun vs H Q _ => ∃ (a : Addr) (ws : List V) (pl : List Pl) (B : Int) (z : V) (t : Rat), vs = [.ref a, .int B, z] ∧ H a = some (.lst ws) ∧ PlsV H ws pl ∧ SzQ 110 pl ∧ 1 ≤ pl.length ∧ pl.length ≤ 6 ∧ 1 ≤ B ∧ B ≤ 1000000007 ∧ ShV H z t ∧ Bd 101 t ∧ FgP 300 (ptP t (ptsOf B pl)) ∧ ∀ H', Same H H' → Q (.str (tPt (ptP t (ptsOf B pl)))) H'
noncomputable def spBxDue (K : PySem.W.Frag) : Sp := fun vs H Q _ => ∃ (a : Addr) (ws : List V) (pl : List Pl) (B : Int), vs = [.ref a, .int B] ∧ H a = some (.lst ws) ∧ PlsV H ws pl ∧ 1 ≤ B ∧ B ≤ 1000000007 ∧ 1 ≤ pl.length ∧ pl.length ≤ 1000 ∧ (∀ p ∈ ptsOf B pl, FgP 300 p) ∧
  ∀ q1 q2 q3 q4 H', Same H H' → LeastQ ((ptsOf B pl).map (·.1)) q1 → LeastQ ((ptsOf B pl).map (·.2)) q2 → GreatQ ((ptsOf B pl).map (·.1)) q3 → GreatQ ((ptsOf B pl).map (·.2)) q4 → Q (.str (tBox q1 q2 q3 q4)) H'
noncomputable def spLNames : Sp := fun vs H Q _ => ∃ (c : Int) (m : Nat), vs = [.int c, .int (m : Int)] ∧ 1 ≤ m ∧ m ≤ 12 ∧ ∀ (l : Addr) (ss : List Str) (H' : Hp), Same H H' → H l = none → H' l = some (.lst (ss.map V.str)) → ss.length = m → (∀ s ∈ ss, Nm s) → Q (.ref l) H'
theorem let_at {i : Int} (h0 : 0 ≤ i) (h1 : i < 26) : ∃ c, atI ("abcdefghijklmnopqrstuvwxyz" : Str).cps.toList i = some c ∧ 97 ≤ c ∧ c ≤ 122 := by
  have hl : ∀ j, j < 26 → ("abcdefghijklmnopqrstuvwxyz" : Str).cps.toList[j]? = some (97 + j) := by decide +kernel
  refine ⟨97 + i.toNat, ?_, by omega, by omega⟩
  exact atI_nat' (j := i.toNat) (by omega) (hl _ (by omega))
noncomputable def Lt (s : Str) : Prop := ∀ c ∈ cp s, 97 ≤ c ∧ c ≤ 122
theorem lt_empty : Lt "" := fun c h => by rw [show cp ("" : Str) = [] from rfl] at h; cases h
theorem lt_snoc {s : Str} {c : Nat} (h : Lt s) (hc : 97 ≤ c ∧ c ≤ 122) : Lt (s ++ ⟨#[c]⟩) := fun d hd => by
  rw [cp_app] at hd
  rcases List.mem_append.mp hd with hd | hd
  · exact h d hd
  · have : d = c := by simpa [cp] using hd
    rw [this]; exact hc
theorem len_snoc (s : Str) (c : Nat) : (s ++ (⟨#[c]⟩ : Str)).length = s.length + 1 := by rw [len_app]; rfl
theorem jn_nil : ∀ ls : List (List Nat), jn [] ls = ls.flatten
  | [] => rfl
  | [a] => by simp [jn]
  | a :: b :: r => by
    show a ++ [] ++ jn [] (b :: r) = _
    rw [jn_nil (b :: r)]; simp
theorem ones_join {ts : List Str} (h : ∀ t ∈ ts, ∃ c, t = ⟨#[c]⟩ ∧ 97 ≤ c ∧ c ≤ 122) : (Str.join "" ts).length = ts.length ∧ Lt (Str.join "" ts) := by
  have e : cp (Str.join "" ts) = (ts.map cp).flatten := by
    exact (join_cps "" ts).trans (jn_nil _)
  constructor
  · rw [← cp_len, e]
    clear e
    induction ts with
    | nil => rfl
    | cons t r ih =>
      obtain ⟨c, rfl, _⟩ := h t (by simp)
      rw [List.map_cons, List.flatten_cons, List.length_append, ih fun t ht => h t (by simp [ht])]
      show 1 + _ = _
      rw [List.length_cons]; omega
  · intro d hd
    rw [e] at hd
    obtain ⟨l, hl, hd⟩ := List.mem_flatten.mp hd
    obtain ⟨t, ht, rfl⟩ := List.mem_map.mp hl
    obtain ⟨c, rfl, hc⟩ := h t ht
    have : d = c := by simpa [cp] using hd
    rw [this]; exact hc
theorem nm_slice {s : Str} {j : Int} (h : Lt s) (h0 : 1 ≤ j) (h1 : j ≤ (s.length : Int)) (h12 : j ≤ 12) : Nm (StrLaws.sliceText s none (some j)) := by
  have hl : s.cps.toList.length = s.length := cp_len s
  rw [StrLaws.sliceText_to ⟨by omega, by rw [hl]; exact h1⟩]
  have e : cp (⟨(List.take (j - 0).toNat (List.drop 0 s.cps.toList)).toArray⟩ : Str) = (cp s).take j.toNat := by
    show (List.take (j - 0).toNat (List.drop 0 s.cps.toList)) = _
    rw [List.drop_zero]
    congr 1
    omega
  refine ⟨?_, ?_, fun c hc => h c (List.mem_of_mem_take (by rw [← e]; exact hc))⟩
  · rw [← cp_len, e, List.length_take, cp_len]; omega
  · rw [← cp_len, e, List.length_take, cp_len]; omega
theorem ones_of : ∀ {ys : List V}, (∀ (i : Nat) v, ys[i]? = some v → ∃ c, v = .str ⟨#[c]⟩ ∧ 97 ≤ c ∧ c ≤ 122) → ∃ ts : List Str, ys = ts.map V.str ∧ ∀ t ∈ ts, ∃ c, t = ⟨#[c]⟩ ∧ 97 ≤ c ∧ c ≤ 122
  | [], _ => ⟨[], rfl, fun t h => nomatch h⟩
  | v :: ys, h => by
    obtain ⟨c, rfl, hc⟩ := h 0 v rfl
    obtain ⟨ts, rfl, ht⟩ := ones_of fun i v e => h (i + 1) v e
    exact ⟨⟨#[c]⟩ :: ts, rfl, fun t hh => by
      rcases List.mem_cons.mp hh with rfl | hh
      · exact ⟨c, rfl, hc⟩
      · exact ht t hh⟩
theorem nms_of : ∀ {ys : List V}, (∀ (i : Nat) v, ys[i]? = some v → ∃ s, v = .str s ∧ Nm s) → ∃ ts : List Str, ys = ts.map V.str ∧ ∀ t ∈ ts, Nm t
  | [], _ => ⟨[], rfl, fun t h => nomatch h⟩
  | v :: ys, h => by
    obtain ⟨s, rfl, hs⟩ := h 0 v rfl
    obtain ⟨ts, rfl, ht⟩ := nms_of fun i v e => h (i + 1) v e
    exact ⟨s :: ts, rfl, fun t hh => by
      rcases List.mem_cons.mp hh with rfl | hh
      · exact hs
      · exact ht t hh⟩
end Cv
namespace Cv
open PySem PySem.Spec PyProof.Rows L2
noncomputable abbrev Bk := Int × List Pl
structure Gd (b : Bk) : Prop where
  b1 : 1 ≤ b.1
  b2 : b.1 ≤ 1000000007
  n1 : 1 ≤ b.2.length
  n6 : b.2.length ≤ 6
  sz : SzQ 110 b.2
noncomputable def BkV (H : Hp) (v : V) (b : Bk) : Prop := ∃ (t l : Addr) (ws : List V), v = .ref t ∧ H t = some (.tup [.int b.1, .ref l]) ∧ H l = some (.lst ws) ∧ PlsV H ws b.2
noncomputable def DictB (H : Hp) (b : Addr) (bs : List (Str × Bk)) : Prop := ∃ kvs, Rd H b (.dK kvs) ∧ KvR (BkV H) kvs bs ∧ bs.length ≤ 40
noncomputable def DictW (H : Hp) (b : Addr) (bs : List (Str × Bk)) : Prop := ∃ kvs, H b = some (.dK kvs) ∧ KvR (BkV H) kvs bs ∧ bs.length ≤ 40
theorem DictW.r {H : Hp} {b : Addr} {bs : List (Str × Bk)} (h : DictW H b bs) : DictB H b bs := by
  obtain ⟨kvs, h1, h2, h3⟩ := h
  exact ⟨kvs, .inl h1, h2, h3⟩
noncomputable def cvs (bs : List (Str × Bk)) : List (Str × List Pt) := bs.map fun b => (b.1, ptsOf b.2.1 b.2.2)
theorem cvs_keys (bs : List (Str × Bk)) : (cvs bs).map (·.1) = bs.map (·.1) := by unfold cvs; rw [List.map_map]; rfl
theorem cvs_len (bs : List (Str × Bk)) : (cvs bs).length = bs.length := by unfold cvs; rw [List.length_map]
theorem getA_cvs (n : Str) : ∀ bs : List (Str × Bk), getA (cvs bs) n = (getA bs n).map fun b => ptsOf b.1 b.2
  | [] => rfl
  | c :: cs => by
    show getA ((c.1, ptsOf c.2.1 c.2.2) :: cvs cs) n = _
    by_cases e : c.1 = n
    · rw [getA_pos (c := (c.1, ptsOf c.2.1 c.2.2)) e, getA_pos e]; rfl
    · rw [getA_neg (c := (c.1, ptsOf c.2.1 c.2.2)) e, getA_neg e]; exact getA_cvs n cs
theorem putA_cvs (bs : List (Str × Bk)) (n : Str) (b : Bk) : cvs (putA bs n b) = putA (cvs bs) n (ptsOf b.1 b.2) := by
  unfold putA
  rw [any_getA, any_getA, getA_cvs, Option.isSome_map]
  split
  · unfold cvs
    rw [List.map_map, List.map_map]
    refine List.map_congr_left fun c _ => ?_
    show (fun b : Str × Bk => (b.1, ptsOf b.2.1 b.2.2)) (if c.1 = n then (c.1, b) else c) = if c.1 = n then (c.1, ptsOf b.1 b.2) else (c.1, ptsOf c.2.1 c.2.2)
    split <;> rfl
  · unfold cvs; rw [List.map_append]; rfl
theorem mem_putA {α : Type} {cs : List (Str × α)} {n : Str} {x : α} {c : Str × α} (h : c ∈ putA cs n x) : (c.1 = n ∧ c.2 = x) ∨ c ∈ cs := by
  unfold putA at h
  split at h
  · obtain ⟨d, hd, rfl⟩ := List.mem_map.mp h
    by_cases e : d.1 = n
    · rw [if_pos e]; exact .inl ⟨e, rfl⟩
    · rw [if_neg e]; exact .inr hd
  · rcases List.mem_append.mp h with h | h
    · exact .inr h
    · cases List.mem_singleton.mp h; exact .inl ⟨rfl, rfl⟩
theorem putA_ne {α : Type} (cs : List (Str × α)) (n : Str) (x : α) : putA cs n x ≠ [] := by
  intro e
  have := getA_put cs n n x
  rw [e, if_pos rfl] at this
  cases this
noncomputable def Good (bs : List (Str × Bk)) : Prop := ∀ c ∈ bs, Nm c.1 ∧ Gd c.2
theorem Good.put {bs : List (Str × Bk)} {n : Str} {b : Bk} (h : Good bs) (hn : Nm n) (hb : Gd b) : Good (putA bs n b) := fun c hc => by
  rcases mem_putA hc with ⟨e1, e2⟩ | hc
  · rw [e1, e2]; exact ⟨hn, hb⟩
  · exact h c hc
theorem getA_mem {α : Type} {n : Str} : ∀ {cs : List (Str × α)} {x : α}, getA cs n = some x → (n, x) ∈ cs
  | [], _, h => by cases h
  | c :: cs, x, h => by
    by_cases e : c.1 = n
    · rw [getA_pos e] at h; cases h; rw [← e]; simp
    · rw [getA_neg e] at h; exact List.mem_cons_of_mem _ (getA_mem h)
theorem mem_getA {α : Type} {n : Str} : ∀ {cs : List (Str × α)}, n ∈ cs.map (·.1) → ∃ x, getA cs n = some x
  | c :: cs, h => by
    by_cases e : c.1 = n
    · exact ⟨_, getA_pos e⟩
    · rw [getA_neg e]
      refine mem_getA ?_
      rcases List.mem_cons.mp h with h | h
      · exact absurd h.symm e
      · exact h
noncomputable def Ex2 (d b : Addr) (H H' : Hp) : Prop := ∀ a o, a ≠ d → a ≠ b → H a = some o → H' a = some o
theorem Ex2.of_same {d b : Addr} {H H' : Hp} (s : Same H H') : Ex2 d b H H' := fun c o _ _ e => s c o e
theorem Ex2.trans {d b : Addr} {H H1 H2 : Hp} (x : Ex2 d b H H1) (y : Ex2 d b H1 H2) : Ex2 d b H H2 := fun c o n m e => y c o n m (x c o n m e)
theorem Ex2.of_l {d b : Addr} {H H' : Hp} (s : Ex d H H') : Ex2 d b H H' := fun c o n _ e => s c o n e
theorem Ex2.of_r {d b : Addr} {H H' : Hp} (s : Ex b H H') : Ex2 d b H H' := fun c o _ m e => s c o m e
theorem BkV.same {H H' : Hp} {v : V} {b : Bk} (h : BkV H v b) (s : Same H H') : BkV H' v b := by
  obtain ⟨t, l, ws, e, ht, hl, hP⟩ := h
  exact ⟨t, l, ws, e, s _ _ ht, s _ _ hl, hP.same s⟩
theorem BkV.ex {d : Addr} {H H' : Hp} {v : V} {b : Bk} {kvs : List (Key × V)} (h : BkV H v b) (s : Ex d H H') (hd : H d = some (.dK kvs)) : BkV H' v b := by
  obtain ⟨t, l, ws, e, ht, hl, hP⟩ := h
  exact ⟨t, l, ws, e, s.tup hd _ _ ht, s.lst hd hl, hP.tup (s.tup hd)⟩
theorem DictB.same {H H' : Hp} {b : Addr} {bs : List (Str × Bk)} (h : DictB H b bs) (s : Same H H') : DictB H' b bs := by
  obtain ⟨kvs, hd, hK, hl⟩ := h
  refine ⟨kvs, ?_, hK.mono fun v x r => r.same s, hl⟩
  rcases hd with hd | ⟨o, hd⟩
  · exact .inl (s _ _ hd)
  · exact .inr ⟨o, s _ _ hd⟩
theorem DictW.same {H H' : Hp} {b : Addr} {bs : List (Str × Bk)} (h : DictW H b bs) (s : Same H H') : DictW H' b bs := by
  obtain ⟨kvs, hd, hK, hl⟩ := h
  exact ⟨kvs, s _ _ hd, hK.mono fun v x r => r.same s, hl⟩
theorem DictB.ex {H H' : Hp} {b e : Addr} {bs : List (Str × Bk)} {kvs : List (Key × V)} (h : DictB H b bs) (s : Ex e H H') (he : H e = some (.dK kvs)) (hne : b ≠ e) : DictB H' b bs := by
  obtain ⟨kv, hd, hK, hl⟩ := h
  refine ⟨kv, ?_, hK.mono fun v x r => r.ex s he, hl⟩
  rcases hd with hd | ⟨o, hd⟩
  · exact .inl (s _ _ hne hd)
  · exact .inr ⟨o, s _ _ hne hd⟩
theorem DictW.ex {H H' : Hp} {b e : Addr} {bs : List (Str × Bk)} {kvs : List (Key × V)} (h : DictW H b bs) (s : Ex e H H') (he : H e = some (.dK kvs)) (hne : b ≠ e) : DictW H' b bs := by
  obtain ⟨kv, hd, hK, hl⟩ := h
  exact ⟨kv, s _ _ hne hd, hK.mono fun v x r => r.ex s he, hl⟩
theorem DictW.put {H : Hp} {b t l : Addr} {bs : List (Str × Bk)} {kvs : List (Key × V)} {n : Str} {ws : List V} {bk : Bk} (hd : H b = some (.dK kvs)) (hK : KvR (BkV H) kvs bs) (hc : bs.length < 40) (ht : H t = some (.tup [.int bk.1, .ref l])) (hl : H l = some (.lst ws)) (hP : PlsV H ws bk.2) :
    DictW (upd H b (.dK (putK kvs (.inr n) (.ref t)))) b (putA bs n bk) := by
  refine ⟨_, upd_same, ((hK.mono fun v x r => r.ex Ex.put hd).put n (BkV.ex ⟨t, l, ws, rfl, ht, hl, hP⟩ Ex.put hd)), ?_⟩
  have := length_putA bs n bk
  omega
section
variable {b : Bk}
theorem Gd.zB (h : Gd b) : Sz 31 b.1 := ⟨by show _ < 2 ^ 31; have := h.b1; have := h.b2; omega⟩
theorem Gd.ov (h : Gd b) : ∀ p ∈ ptsOf b.1 b.2, OvP b.1 110 p := ptsOf_ov (by have := h.b1; omega) h.sz
theorem Gd.bd (h : Gd b) : ∀ p ∈ ptsOf b.1 b.2, Bd 110 p.1 ∧ Bd 110 p.2 := fun p hp => ovp_bd4 (by have := h.b1; omega) h.zB (h.ov p hp) 110 (by decide) (by decide)
theorem Gd.fg (h : Gd b) : ∀ p ∈ ptsOf b.1 b.2, FgP 100 p := fun p hp => ⟨fg_bd ((h.bd p hp).1.mono (by decide)), fg_bd ((h.bd p hp).2.mono (by decide))⟩
theorem fg_bd9 {q : Rat} (h : Bd 900 q) : Fg 300 q := by
  have e : (2 : Nat) ^ 900 ≤ 10 ^ 300 := by rw [show (900 : Nat) = 3 * 300 by decide, Nat.pow_mul]; exact Nat.pow_le_pow_left (by decide) 300
  refine ⟨Nat.lt_of_lt_of_le h.num.lt e, ?_⟩
  have := h.den.lt
  rw [Int.natAbs_natCast] at this
  exact Nat.lt_of_lt_of_le this e
theorem Gd.pt {t : Rat} (h : Gd b) (ht : Bd 101 t) : FgP 300 (ptP t (ptsOf b.1 b.2)) := by
  have hl : (ptsOf b.1 b.2).length = b.2.length := ptsOf_len _ _
  have n1 := h.n1
  have n6 := h.n6
  have z := ov_row ht h.ov ((ptsOf b.1 b.2).length - 1) (ptP t (ptsOf b.1 b.2)) (by rw [ptP_get t _ (by omega)]; simp)
  have hpos : (0 : Int) < (t.den : Int) := by have := t.den_pos; omega
  have hB : 0 < b.1 := by have := h.b1; omega
  have hne : b.1 * (t.den : Int) ^ ((ptsOf b.1 b.2).length - 1) ≠ 0 := by
    have := Int.mul_pos hB (pow_pos' hpos ((ptsOf b.1 b.2).length - 1))
    omega
  have hsz := h.zB.mul (sz_pow ht.den ((ptsOf b.1 b.2).length - 1))
  have hr : (ptsOf b.1 b.2).length - 1 ≤ 5 := by omega
  have m1 : ((ptsOf b.1 b.2).length - 1) * (101 + 2) ≤ 5 * (101 + 2) := Nat.mul_le_mul_right _ hr
  have m2 : ((ptsOf b.1 b.2).length - 1) * 101 ≤ 5 * 101 := Nat.mul_le_mul_right _ hr
  exact ⟨fg_bd9 ((z.1.bd hne hsz).mono (by omega)), fg_bd9 ((z.2.bd hne hsz).mono (by omega))⟩
theorem Gd.fine (h : Gd b) : Fine (ptsOf b.1 b.2) b.1 (max 110 31) := fine_of (by have := h.b1; omega) h.zB h.ov (by rw [ptsOf_len]; exact h.n1) (by rw [ptsOf_len]; have := h.n6; omega) (by decide) (by decide)
end
theorem row_curve {n : Str} {ps : List Pt} (h : 1 ≤ ps.length) : "curve " ++ n ++ " " ++ tCv ps = rowT "curve" (.nm n :: ps.map .pt) := by
  refine cp_ext ?_
  cases ps with
  | nil => simp at h
  | cons p r =>
    have e1 : cp (tCv (p :: r)) = jn [32] (((p :: r).map tPt).map cp) := join_cps " " _
    have e2 : cp (rowT "curve" (.nm n :: (p :: r).map .pt)) = jn [32] ((("curve" : Str) :: (Wd.nm n :: (p :: r).map .pt).map Wd.tx).map cp) := join_cps " " _
    rw [e2, cp_app, cp_app, cp_app, e1]
    have e3 : ((p :: r).map Wd.pt).map Wd.tx = (p :: r).map tPt := by rw [List.map_map]; rfl
    rw [List.map_cons (f := Wd.tx), e3]
    show [99, 117, 114, 118, 101, 32] ++ cp n ++ [32] ++ jn [32] (cp (tPt p) :: (r.map tPt).map cp) = [99, 117, 114, 118, 101] ++ [32] ++ (cp n ++ [32] ++ jn [32] (cp (tPt p) :: (r.map tPt).map cp))
    simp
theorem row_tell (n : Str) : "tell " ++ n = rowT "tell" [.nm n] := cp_ext (by rw [cp_app]; exact ((join_cps " " [("tell" : Str), n]).symm))
theorem row_box (n : Str) : "box " ++ n = rowT "box" [.nm n] := cp_ext (by rw [cp_app]; exact ((join_cps " " [("box" : Str), n]).symm))
theorem row_turn (n : Str) : "turn " ++ n = rowT "turn" [.nm n] := cp_ext (by rw [cp_app]; exact ((join_cps " " [("turn" : Str), n]).symm))
theorem row_names : ("names" : Str) = rowT "names" [] := rfl
theorem row_point (n : Str) (t : Rat) : "point " ++ n ++ " " ++ tSh t = rowT "point" [.nm n, .sh t] := by
  refine cp_ext ?_
  have e2 : cp (rowT "point" [.nm n, .sh t]) = jn [32] [cp "point", cp n, cp (tSh t)] := join_cps " " _
  rw [e2, cp_app, cp_app, cp_app]
  show [112, 111, 105, 110, 116, 32] ++ cp n ++ [32] ++ cp (tSh t) = [112, 111, 105, 110, 116] ++ [32] ++ (cp n ++ [32] ++ cp (tSh t))
  simp
theorem Ex2.tup {d b : Addr} {H H' : Hp} {k1 k2 : List (Key × V)} (h : Ex2 d b H H') (hd : H d = some (.dK k1)) (hb : H b = some (.dK k2)) : Tup H H' := fun a xs e => h a _ (ne_of e hd (fun z => nomatch z)) (ne_of e hb (fun z => nomatch z)) e
theorem Ex2.lst {d b l : Addr} {H H' : Hp} {k1 k2 : List (Key × V)} {ws : List V} (h : Ex2 d b H H') (hd : H d = some (.dK k1)) (hb : H b = some (.dK k2)) (e : H l = some (.lst ws)) : H' l = some (.lst ws) := h l _ (ne_of e hd (fun z => nomatch z)) (ne_of e hb (fun z => nomatch z)) e
theorem DeskAt.ex2 {C : Addr} {H H' : Hp} {x d e f : Addr} {cs : List (Str × List Pt)} {k1 k2 : List (Key × V)} (h : DeskAt C H x d cs) (s : Ex2 e f H H') (he : H e = some (.dK k1)) (hf : H f = some (.dK k2)) (n1 : d ≠ e) (n2 : d ≠ f) : DeskAt C H' x d cs := by
  obtain ⟨⟨dx, hx⟩, kv, hd, hK, hl⟩ := h
  refine ⟨⟨dx, s _ _ (ne_of hx he (fun z => nomatch z)) (ne_of hx hf (fun z => nomatch z)) hx⟩, kv, s _ _ n1 n2 hd, hK.mono fun v p r => ?_, hl⟩
  obtain ⟨l, ws, e1, hl, hP⟩ := r
  exact ⟨l, ws, e1, s.lst he hf hl, hP.tup (s.tup he hf)⟩
theorem DictB.ex2 {H H' : Hp} {b e f : Addr} {bs : List (Str × Bk)} {k1 k2 : List (Key × V)} (h : DictB H b bs) (s : Ex2 e f H H') (he : H e = some (.dK k1)) (hf : H f = some (.dK k2)) (n1 : b ≠ e) (n2 : b ≠ f) : DictB H' b bs := by
  obtain ⟨kv, hd, hK, hl⟩ := h
  refine ⟨kv, ?_, hK.mono fun v p r => ?_, hl⟩
  · rcases hd with hd | ⟨o, hd⟩
    · exact .inl (s _ _ n1 n2 hd)
    · exact .inr ⟨o, s _ _ n1 n2 hd⟩
  · obtain ⟨t, l, ws, e1, ht, hl, hP⟩ := r
    exact ⟨t, l, ws, e1, s.tup he hf _ _ ht, s.lst he hf hl, hP.tup (s.tup he hf)⟩
theorem DictC.at {H : Hp} {d : Addr} {cs : List (Str × List Pt)} (h : DictC H d cs) : ∃ kvs, H d = some (.dK kvs) := by obtain ⟨k, h, _⟩ := h; exact ⟨k, h⟩
theorem DictW.at {H : Hp} {d : Addr} {cs : List (Str × Bk)} (h : DictW H d cs) : ∃ kvs, H d = some (.dK kvs) := by obtain ⟨k, h, _⟩ := h; exact ⟨k, h⟩
theorem DeskAt.made {C : Addr} {H2 H3 : Hp} {x dx d : Addr} (hx : H2 x = some (.ins C dx [])) (hd0 : H2 d = none) (hd : H3 d = some (.dK [])) : DeskAt C (upd H3 x (.ins C dx (keptF d))) x d [] :=
  ⟨⟨dx, upd_same⟩, [], by rw [upd_ne (Ne.symm (ne_of_none hx hd0))]; exact hd, .nil, by decide⟩
theorem SqL.ex2 {K : PySem.W.Frag} {d b l : Addr} {H H' : Hp} {k1 k2 : List (Key × V)} {xs : List V} (q : SqL K H l xs) (h : Ex2 d b H H') (hd : H d = some (.dK k1)) (hb : H b = some (.dK k2)) : SqL K H' l xs := by
  rcases q with (e | ⟨o, e⟩) | q
  · exact .inl (.inl (h.lst hd hb e))
  · exact .inl (.inr ⟨o, h _ _ (ne_of e hd (fun z => nomatch z)) (ne_of e hb (fun z => nomatch z)) e⟩)
  · exact .inr q
theorem cut_thirty (ns : List Int) : ∃ ms : List Int, cutV (ns.map V.int) (some 6) (some 36) = ms.map V.int ∧ ms.length ≤ 30 := by
  have e1 : HT.sIx (ns.map V.int).length 0 (some 6) = min 6 ns.length := by
    have := HT.sIx_nat (ns.map V.int).length 0 6
    rw [List.length_map] at this ⊢; exact this
  have e2 : HT.sIx (ns.map V.int).length (ns.map V.int).length (some 36) = min 36 ns.length := by
    have := HT.sIx_nat (ns.map V.int).length (ns.map V.int).length 36
    rw [List.length_map] at this ⊢; exact this
  refine ⟨(ns.drop (min 6 ns.length)).take (min 36 ns.length - min 6 ns.length), ?_, ?_⟩
  · unfold cutV
    rw [e1, e2, List.map_take, List.map_drop]
  · rw [List.length_take, List.length_drop]; omega
noncomputable def spTold (C : Addr) : Sp := fun vs H Q _ => ∃ (x d b : Addr) (n : Str) (c : Int) (bs : List (Str × Bk)), vs = [.ref x, .ref b, .str n, .int c] ∧ DeskAt C H x d (cvs bs) ∧ DictW H b bs ∧ d ≠ b ∧ Nm n ∧ bs.length < 39 ∧
  ∀ bk H', Ex2 d b H H' → DeskAt C H' x d (cvs (putA bs n bk)) → DictW H' b (putA bs n bk) → Gd bk → Q (.bl true) H'
noncomputable def spAsked (C : Addr) : Sp := fun vs H Q _ => ∃ (x d b ln : Addr) (c : Int) (bs : List (Str × Bk)) (ss : List Str), vs = [.ref x, .ref b, .int c, .ref ln] ∧ DeskAt C H x d (cvs bs) ∧ DictW H b bs ∧ d ≠ b ∧ Good bs ∧ bs ≠ [] ∧ bs.length < 39 ∧ H ln = some (.lst (ss.map V.str)) ∧ (∀ s ∈ ss, Nm s) ∧ 1 ≤ ss.length ∧ ss.length ≤ 12 ∧
  ∀ bs' H', Ex2 d b H H' → DeskAt C H' x d (cvs bs') → DictW H' b bs' → Good bs' → bs' ≠ [] → bs'.length ≤ bs.length + 1 → Q (.bl true) H'
noncomputable def spTurns (C : Addr) : Sp := fun vs H Q _ => ∃ (x d x2 d2 b : Addr) (c : Int) (bs : List (Str × Bk)), vs = [.ref x, .ref x2, .ref b, .int c] ∧ DeskAt C H x d (cvs bs) ∧ DeskAt C H x2 d2 [] ∧ DictB H b bs ∧ d ≠ d2 ∧ d2 ≠ b ∧ Good bs ∧ bs.length ≤ 38 ∧ ∀ H', Q (.bl true) H'
end Cv
set_option maxHeartbeats 4000000
namespace Cv
open PySem L2
local macro_rules | `(tactic| walk_at "hf") => `(tactic| first
  | assumption
  | exact upd_same
  | (refine upd_keep (by assumption) ?_; walk_at "hf")
  | (refine (by assumption : L2.Same _ _) _ _ ?_; walk_at "hf")
  | fail)
local macro_rules | `(tactic| walk_at "sm") => `(tactic| first
  | assumption
  | exact L2.Same.refl _
  | (refine L2.Same.trans ?_ (by assumption : L2.Same _ _); walk_at "sm")
  | (refine L2.Same.trans ?_ (Same.new (by assumption)); walk_at "sm")
  | fail)
local macro_rules | `(tactic| walk_at "mv") => `(tactic| first
  | assumption
  | (refine ShV.same ?_ (by assumption : L2.Same _ _); walk_at "mv")
  | (refine ShV.same ?_ (Same.new (by assumption)); walk_at "mv")
  | (refine PtV.same ?_ (by assumption : L2.Same _ _); walk_at "mv")
  | (refine PtV.same ?_ (Same.new (by assumption)); walk_at "mv")
  | (refine RwV.same ?_ (by assumption : L2.Same _ _); walk_at "mv")
  | (refine RwV.same ?_ (Same.new (by assumption)); walk_at "mv")
  | (refine RwQ.same ?_ (by assumption : L2.Same _ _); walk_at "mv")
  | (refine RwQ.same ?_ (Same.new (by assumption)); walk_at "mv")
  | (refine MpV.same ?_ (by assumption : L2.Same _ _); walk_at "mv")
  | (refine MpV.same ?_ (Same.new (by assumption)); walk_at "mv")
  | (refine PtsV.same ?_ (by assumption : L2.Same _ _); walk_at "mv")
  | (refine PtsV.same ?_ (Same.new (by assumption)); walk_at "mv")
  | (refine AxV.same ?_ (by assumption : L2.Same _ _); walk_at "mv")
  | (refine AxV.same ?_ (Same.new (by assumption)); walk_at "mv")
  | (refine ShL.same ?_ (by assumption : L2.Same _ _); walk_at "mv")
  | (refine ShL.same ?_ (Same.new (by assumption)); walk_at "mv")
  | (refine SqL.same' ?_ (by assumption : L2.Same _ _); walk_at "mv")
  | (refine SqL.same' ?_ (Same.new (by assumption)); walk_at "mv")
  | fail)
local macro_rules | `(tactic| walk_at "sq") => `(tactic| first
  | exact SqT.of (by walk_at "hf")
  | exact SqL.of (by walk_at "hf")
  | walk_at "mv"
  | fail)
local macro_rules | `(tactic| walk_at "at") => `(tactic| first
  | rfl
  | assumption
  | exact at_mapZ _ _ (by omega) (by omega)
  | fail)
local macro_rules | `(tactic| walk_at "sz") => `(tactic| first
  | assumption
  | exact Bd.num (by assumption)
  | exact Bd.den (by assumption)
  | exact Sz.one
  | exact Sz.mul (by walk_at "sz") (by walk_at "sz")
  | exact Sz.add (by walk_at "sz") (by walk_at "sz")
  | exact Sz.sub (by walk_at "sz") (by walk_at "sz")
  | exact Sz.neg (by walk_at "sz")
  | fail)
local macro_rules | `(tactic| walk_at "bdx") => `(tactic| first
  | assumption
  | exact Bd.zero'
  | exact Bd.one'
  | exact Bd.add (by walk_at "bdx") (by walk_at "bdx")
  | exact Bd.sub (by walk_at "bdx") (by walk_at "bdx")
  | exact Bd.mul (by walk_at "bdx") (by walk_at "bdx")
  | fail)
local macro_rules | `(tactic| walk_at "bd") => `(tactic| exact Bd.mono (by walk_at "bdx") (by decide))
local macro_rules | `(tactic| walk_at "szm") => `(tactic| exact Sz.mono (by walk_at "sz") (by decide))
local macro_rules | `(tactic| walk_at "arith") => `(tactic| first
  | exact pos30
  | exact pl
  | exact ⟨by decide, by decide⟩
  | exact ⟨by decide, by decide, by decide⟩
  | exact mulL (by decide) (by decide)
  | exact mulR (by decide) (by decide)
  | exact mulR (by omega) (by omega)
  | exact mulL (by omega) (by omega)
  | exact mulB (by walk_at "sz") (by walk_at "sz")
  | fail)
local macro_rules | `(tactic| walk_at "len") => `(tactic| first
  | (show 2 ≤ sizeLine; decide)
  | (show 0 ≤ sizeLine; decide)
  | (show 1 ≤ sizeLine; decide)
  | (show 3 ≤ sizeLine; decide)
  | (show 4 ≤ sizeLine; decide)
  | (show 5 ≤ sizeLine; decide)
  | (show 6 ≤ sizeLine; decide)
  | (show 8 ≤ sizeLine; decide)
  | fail)
local macro_rules | `(tactic| walk_at "r1") => `(tactic| first
  | refine ⟨_, _, rfl, rfl, by walk_at "arith", ?_⟩
  | refine ⟨_, _, rfl, rfl, ?_⟩
  | refine ⟨_, _, _, _, rfl, rfl, by walk_at "sq", by walk_at "at", ?_⟩
  | refine ⟨_, rfl, ?_⟩
  | refine ⟨rfl, ?_⟩
  | refine ⟨_, _, rfl, .inr (SqT.of (by walk_at "hf")), ?_⟩
  | refine ⟨_, _, rfl, .inl (SqL.of (by walk_at "hf")), ?_⟩
  | refine ⟨_, "tuple", _, _, rfl, TyOf.tup (by walk_at "hf"), kit_tt _, ?_⟩
  | refine ⟨_, "list", _, _, rfl, TyOf.lst (by walk_at "hf"), kit_ll _, ?_⟩
  | refine ⟨_, "int", _, _, rfl, TyOf.int _, kit_ii _, ?_⟩
  | refine ⟨_, "bool", _, _, rfl, TyOf.int _, kit_ib _, ?_⟩
  | refine ⟨_, "bool", _, _, rfl, TyOf.bl _, kit_bb _, ?_⟩
  | refine ⟨by walk_at "len", ?_⟩
  | refine ⟨by decide, ?_⟩
  | fail)
local macro_rules | `(tactic| walk_at "rd") => `(tactic| repeat walk_at "r1")
local macro_rules | `(tactic| walk_at "fr") => `(tactic| first
  | assumption
  | (refine L2.Same.free (by assumption : L2.Same _ _) ?_; walk_at "fr")
  | (refine L2.Same.free (Same.new (by assumption)) ?_; walk_at "fr")
  | fail)
local macro_rules | `(tactic| walk_at "tk") => `(tactic| first
  | assumption
  | fail)
local macro_rules | `(tactic| walk_at "mv") => `(tactic| first
  | assumption
  | (refine ShK.same ?_ (by assumption : L2.Same _ _); walk_at "mv")
  | (refine ShK.same ?_ (Same.new (by assumption)); walk_at "mv")
  | (refine PtK.same ?_ (by assumption : L2.Same _ _); walk_at "mv")
  | (refine PtK.same ?_ (Same.new (by assumption)); walk_at "mv")
  | (refine PtsK.same ?_ (by assumption : L2.Same _ _); walk_at "mv")
  | (refine PtsK.same ?_ (Same.new (by assumption)); walk_at "mv")
  | (refine ShV.k ?_; walk_at "mv")
  | (refine PtV.k ?_; walk_at "mv")
  | (refine PtsV.k ?_; walk_at "mv")
  | fail)
local macro_rules | `(tactic| walk_at "sq") => `(tactic| first
  | exact TK.sq (by walk_at "tk")
  | fail)
local macro_rules | `(tactic| walk_at "rk1") => `(tactic| first
  | refine ⟨_, "tuple", _, _, rfl, .inr ⟨rfl, _, _, rfl, by walk_at "sq"⟩, kit_tt _, ?_⟩
  | refine ⟨_, "list", _, _, rfl, .inl (TyOf.lst (by walk_at "hf")), kit_ll _, ?_⟩
  | refine ⟨_, "int", _, _, rfl, .inl (TyOf.int _), kit_ii _, ?_⟩
  | refine ⟨_, "bool", _, _, rfl, .inl (TyOf.int _), kit_ib _, ?_⟩
  | refine ⟨_, "bool", _, _, rfl, .inl (TyOf.bl _), kit_bb _, ?_⟩
  | refine ⟨_, _, rfl, .inr (by walk_at "sq"), ?_⟩
  | walk_at "r1"
  | fail)
local macro_rules | `(tactic| walk_at "rk") => `(tactic| repeat walk_at "rk1")
structure Cst (K : PySem.W.Frag) (mg : Str → Option Value) (w : World) (A_FORMS A_DEEDS F_keep_curve F_tell_curve F_tell_names F_tell_point F_keep_cut F_keep_stretch F_turn_curve F_raise_curve F_lower_curve F_lower_fully F_keep_speed F_move_curve F_tell_same F_tell_hull F_tell_box F_tell_part F_tell_meet F_tell_join : Addr) (t_MOST_SEATS t_FIGURES t_MOST_FIGURES t_PIECE_FIGURES t_PIECE t_LETTERS t_MOST_LETTERS : Tok) : Prop where
  MOST_SEATS : mg "MOST_SEATS" = some (.int 12 t_MOST_SEATS)
  FIGURES : mg "FIGURES" = some (.str "0123456789" t_FIGURES)
  MOST_FIGURES : mg "MOST_FIGURES" = some (.int 100 t_MOST_FIGURES)
  PIECE_FIGURES : mg "PIECE_FIGURES" = some (.int 64 t_PIECE_FIGURES)
  PIECE : mg "PIECE" = some (.int 10000000000000000000000000000000000000000000000000000000000000000 t_PIECE)
  divmod : mg "divmod" = none
  LETTERS : mg "LETTERS" = some (.str "abcdefghijklmnopqrstuvwxyz" t_LETTERS)
  MOST_LETTERS : mg "MOST_LETTERS" = some (.int 12 t_MOST_LETTERS)
  FORMS : mg "FORMS" = some (.ref A_FORMS)
  dFORMS : ∀ P, DKn P w K A_FORMS formsKV
  DEEDS : mg "DEEDS" = some (.ref A_DEEDS)
  dDEEDS : ∀ P, DKn P w K A_DEEDS [(.inr "curve", .ref F_keep_curve), (.inr "tell", .ref F_tell_curve), (.inr "names", .ref F_tell_names), (.inr "point", .ref F_tell_point), (.inr "cut", .ref F_keep_cut), (.inr "stretch", .ref F_keep_stretch), (.inr "turn", .ref F_turn_curve), (.inr "raise", .ref F_raise_curve), (.inr "lower", .ref F_lower_curve), (.inr "least", .ref F_lower_fully), (.inr "speed", .ref F_keep_speed), (.inr "move", .ref F_move_curve), (.inr "same", .ref F_tell_same), (.inr "hull", .ref F_tell_hull), (.inr "box", .ref F_tell_box), (.inr "part", .ref F_tell_part), (.inr "meet", .ref F_tell_meet), (.inr "join", .ref F_tell_join)]
  gkeep_curve : mg "keep_curve" = some (.ref F_keep_curve)
  gtell_curve : mg "tell_curve" = some (.ref F_tell_curve)
  gtell_names : mg "tell_names" = some (.ref F_tell_names)
  gtell_point : mg "tell_point" = some (.ref F_tell_point)
  gturn_curve : mg "turn_curve" = some (.ref F_turn_curve)
  gtell_box : mg "tell_box" = some (.ref F_tell_box)
structure Exc (K : PySem.W.Frag) (mg : Str → Option Value) (C_SeatError C_NoText C_NoName : Addr) : Prop where
  SeatError : mg "SeatError" = some (.ref C_SeatError)
  NoText : mg "NoText" = some (.ref C_NoText)
  NoName : mg "NoName" = some (.ref C_NoName)
  xNoText : XCls K mg "NoText" C_NoText
  mNoText : PySem.W.exmOne K (.ref C_NoText) (.ref C_SeatError) = some true
  vNoText : PySem.W.kitOne K (.ref C_NoText) (.type "ValueError") = some true
  xNoName : XCls K mg "NoName" C_NoName
  mNoName : PySem.W.exmOne K (.ref C_NoName) (.ref C_SeatError) = some true
  vNoName : PySem.W.kitOne K (.ref C_NoName) (.type "ValueError") = some true
noncomputable def top (i : Nat) : Stmt := PySem.Challenge.pw_curveseat_k82_rows_answered.main.body.getD i (.Pass ⟨0, 0, 0, 0⟩)
noncomputable abbrev s_greatest_common : Stmt := top 8
theorem sc_greatest_common : FnScope ["one", "other"] ["one", "other"] (defScope s_greatest_common) := ⟨rfl, rfl, rfl, by decide +kernel, rfl, by decide +kernel, by decide +kernel⟩
noncomputable abbrev s_share : Stmt := top 9
theorem sc_share : FnScope ["top", "bottom", "common"] ["top", "bottom"] (defScope s_share) := ⟨rfl, rfl, rfl, by decide +kernel, rfl, by decide +kernel, by decide +kernel⟩
noncomputable abbrev s_common_bottoms : Stmt := top 15
theorem sc_common_bottoms : FnScope ["shares", "found", "whole", "one", "more"] ["shares"] (defScope s_common_bottoms) := ⟨rfl, rfl, rfl, by decide +kernel, rfl, by decide +kernel, by decide +kernel⟩
noncomputable abbrev s_product : Stmt := top 16
theorem sc_product : FnScope ["numbers", "found", "number"] ["numbers"] (defScope s_product) := ⟨rfl, rfl, rfl, by decide +kernel, rfl, by decide +kernel, by decide +kernel⟩
noncomputable abbrev s_share_over : Stmt := top 17
theorem sc_share_over : FnScope ["top", "bottoms", "below", "bottom", "common"] ["top", "bottoms"] (defScope s_share_over) := ⟨rfl, rfl, rfl, by decide +kernel, rfl, by decide +kernel, by decide +kernel⟩
noncomputable abbrev s_axis : Stmt := top 18
theorem sc_axis : FnScope ["shares", "bottoms", "whole"] ["shares"] (defScope s_axis) := ⟨rfl, rfl, rfl, by decide +kernel, rfl, by decide +kernel, by decide +kernel⟩
noncomputable abbrev s_axes : Stmt := top 19
theorem sc_axes : FnScope ["points"] ["points"] (defScope s_axes) := ⟨rfl, rfl, rfl, by decide +kernel, rfl, by decide +kernel, by decide +kernel⟩
noncomputable abbrev s_points_of : Stmt := top 20
theorem sc_points_of : FnScope ["xs", "ys"] ["xs", "ys"] (defScope s_points_of) := ⟨rfl, rfl, rfl, by decide +kernel, rfl, by decide +kernel, by decide +kernel⟩
noncomputable abbrev s_narrowed : Stmt := top 21
theorem sc_narrowed : FnScope ["one", "t", "tops", "bottoms", "near", "far"] ["one", "t"] (defScope s_narrowed) := ⟨rfl, rfl, rfl, by decide +kernel, rfl, by decide +kernel, by decide +kernel⟩
noncomputable abbrev s_point : Stmt := top 25
theorem sc_point : FnScope ["curve", "t"] ["curve", "t"] (defScope s_point) := ⟨rfl, rfl, rfl, by decide +kernel, rfl, by decide +kernel, by decide +kernel⟩
noncomputable abbrev s_polar : Stmt := top 26
theorem sc_polar : FnScope ["curve", "shares", "xs", "ys", "t"] ["curve", "shares"] (defScope s_polar) := ⟨rfl, rfl, rfl, by decide +kernel, rfl, by decide +kernel, by decide +kernel⟩
noncomputable abbrev s_turned : Stmt := top 30
theorem sc_turned : FnScope ["curve"] ["curve"] (defScope s_turned) := ⟨rfl, rfl, rfl, by decide +kernel, rfl, by decide +kernel, by decide +kernel⟩
noncomputable abbrev s_both_ends : Stmt := top 36
theorem sc_both_ends : FnScope ["one", "tops", "bottoms"] ["one"] (defScope s_both_ends) := ⟨rfl, rfl, rfl, by decide +kernel, rfl, by decide +kernel, by decide +kernel⟩
noncomputable abbrev s_box : Stmt := top 37
theorem sc_box : FnScope ["points", "xs", "ys", "low", "high"] ["points"] (defScope s_box) := ⟨rfl, rfl, rfl, by decide +kernel, rfl, by decide +kernel, by decide +kernel⟩
noncomputable abbrev s_show_whole : Stmt := top 93
theorem sc_show_whole : FnScope ["number", "left", "found", "last"] ["number"] (defScope s_show_whole) := ⟨rfl, rfl, rfl, by decide +kernel, rfl, by decide +kernel, by decide +kernel⟩
noncomputable abbrev s_show_share : Stmt := top 94
theorem sc_show_share : FnScope ["one", "top", "bottom"] ["one"] (defScope s_show_share) := ⟨rfl, rfl, rfl, by decide +kernel, rfl, by decide +kernel, by decide +kernel⟩
noncomputable abbrev s_show_point : Stmt := top 95
theorem sc_show_point : FnScope ["one"] ["one"] (defScope s_show_point) := ⟨rfl, rfl, rfl, by decide +kernel, rfl, by decide +kernel, by decide +kernel⟩
noncomputable abbrev s_show_curve : Stmt := top 96
theorem sc_show_curve : FnScope ["curve"] ["curve"] (defScope s_show_curve) := ⟨rfl, rfl, rfl, by decide +kernel, rfl, by decide +kernel, by decide +kernel⟩
noncomputable abbrev s_pieces : Stmt := top 97
theorem sc_pieces : FnScope ["text", "sign"] ["text", "sign"] (defScope s_pieces) := ⟨rfl, rfl, rfl, by decide +kernel, rfl, by decide +kernel, by decide +kernel⟩
noncomputable abbrev s_read_figures : Stmt := top 98
theorem sc_read_figures : FnScope ["text"] ["text"] (defScope s_read_figures) := ⟨rfl, rfl, rfl, by decide +kernel, rfl, by decide +kernel, by decide +kernel⟩
noncomputable abbrev s_read_whole : Stmt := top 99
theorem sc_read_whole : FnScope ["text", "number"] ["text"] (defScope s_read_whole) := ⟨rfl, rfl, rfl, by decide +kernel, rfl, by decide +kernel, by decide +kernel⟩
noncomputable abbrev s_read_share : Stmt := top 100
theorem sc_read_share : FnScope ["text", "found", "top", "bottom"] ["text"] (defScope s_read_share) := ⟨rfl, rfl, rfl, by decide +kernel, rfl, by decide +kernel, by decide +kernel⟩
noncomputable abbrev s_read_point : Stmt := top 101
theorem sc_read_point : FnScope ["text", "found"] ["text"] (defScope s_read_point) := ⟨rfl, rfl, rfl, by decide +kernel, rfl, by decide +kernel, by decide +kernel⟩
noncomputable abbrev s_read_name : Stmt := top 107
theorem sc_read_name : FnScope ["word"] ["word"] (defScope s_read_name) := ⟨rfl, rfl, rfl, by decide +kernel, rfl, by decide +kernel, by decide +kernel⟩
noncomputable abbrev s_read_level : Stmt := top 108
theorem sc_read_level : FnScope ["word"] ["word"] (defScope s_read_level) := ⟨rfl, rfl, rfl, by decide +kernel, rfl, by decide +kernel, by decide +kernel⟩
noncomputable abbrev s_read_word : Stmt := top 109
theorem sc_read_word : FnScope ["kind", "word"] ["kind", "word"] (defScope s_read_word) := ⟨rfl, rfl, rfl, by decide +kernel, rfl, by decide +kernel, by decide +kernel⟩
noncomputable abbrev s_kinds_behind : Stmt := top 110
theorem sc_kinds_behind : FnScope ["first", "many"] ["first", "many"] (defScope s_kinds_behind) := ⟨rfl, rfl, rfl, by decide +kernel, rfl, by decide +kernel, by decide +kernel⟩
noncomputable abbrev s_read_row : Stmt := top 111
theorem sc_read_row : FnScope ["row", "first", "words", "kinds"] ["row"] (defScope s_read_row) := ⟨rfl, rfl, rfl, by decide +kernel, rfl, by decide +kernel, by decide +kernel⟩
noncomputable abbrev s_keep_curve : Stmt := top 112
theorem sc_keep_curve : FnScope ["kept", "things", "name", "seats"] ["kept", "things"] (defScope s_keep_curve) := ⟨rfl, rfl, rfl, by decide +kernel, rfl, by decide +kernel, by decide +kernel⟩
noncomputable abbrev s_tell_curve : Stmt := top 113
theorem sc_tell_curve : FnScope ["kept", "things"] ["kept", "things"] (defScope s_tell_curve) := ⟨rfl, rfl, rfl, by decide +kernel, rfl, by decide +kernel, by decide +kernel⟩
noncomputable abbrev s_tell_names : Stmt := top 114
theorem sc_tell_names : FnScope ["kept", "things"] ["kept", "things"] (defScope s_tell_names) := ⟨rfl, rfl, rfl, by decide +kernel, rfl, by decide +kernel, by decide +kernel⟩
noncomputable abbrev s_tell_point : Stmt := top 115
theorem sc_tell_point : FnScope ["kept", "things", "name", "t"] ["kept", "things"] (defScope s_tell_point) := ⟨rfl, rfl, rfl, by decide +kernel, rfl, by decide +kernel, by decide +kernel⟩
noncomputable abbrev s_turn_curve : Stmt := top 118
theorem sc_turn_curve : FnScope ["kept", "things"] ["kept", "things"] (defScope s_turn_curve) := ⟨rfl, rfl, rfl, by decide +kernel, rfl, by decide +kernel, by decide +kernel⟩
noncomputable abbrev s_tell_box : Stmt := top 126
theorem sc_tell_box : FnScope ["kept", "things"] ["kept", "things"] (defScope s_tell_box) := ⟨rfl, rfl, rfl, by decide +kernel, rfl, by decide +kernel, by decide +kernel⟩
noncomputable abbrev s_Desk___init__ : Stmt := inClass (top 131) 0
theorem sc_Desk___init__ : FnScope ["self"] ["self"] (defScope s_Desk___init__) := ⟨rfl, rfl, rfl, by decide +kernel, rfl, by decide +kernel, by decide +kernel⟩
noncomputable abbrev s_Desk_say : Stmt := inClass (top 131) 1
theorem sc_Desk_say : FnScope ["self", "row", "first", "kinds", "things", "kind", "thing", "deed"] ["self", "row"] (defScope s_Desk_say) := ⟨rfl, rfl, rfl, by decide +kernel, rfl, by decide +kernel, by decide +kernel⟩
noncomputable abbrev s_l_cell_at : Stmt := top 133
theorem sc_l_cell_at : FnScope ["_law_script", "_law_k"] ["_law_script", "_law_k"] (defScope s_l_cell_at) := ⟨rfl, rfl, rfl, by decide +kernel, rfl, by decide +kernel, by decide +kernel⟩
noncomputable abbrev s_l_stream : Stmt := top 134
theorem sc_l_stream : FnScope ["_law_cell", "_law_many", "_law_number", "_law_found", "_law_k"] ["_law_cell", "_law_many"] (defScope s_l_stream) := ⟨rfl, rfl, rfl, by decide +kernel, rfl, by decide +kernel, by decide +kernel⟩
noncomputable abbrev s_l_share : Stmt := top 135
theorem sc_l_share : FnScope ["_law_top", "_law_bottom", "_law_one", "_law_other", "_law_rest"] ["_law_top", "_law_bottom"] (defScope s_l_share) := ⟨rfl, rfl, rfl, by decide +kernel, rfl, by decide +kernel, by decide +kernel⟩
noncomputable abbrev s_l_way : Stmt := top 136
theorem sc_l_way : FnScope ["_law_cell", "_law_way_here", "_law_bottom", "_law_start"] ["_law_cell"] (defScope s_l_way) := ⟨rfl, rfl, rfl, by decide +kernel, rfl, by decide +kernel, by decide +kernel⟩
noncomputable abbrev s_l_place : Stmt := top 137
theorem sc_l_place : FnScope ["_law_cell", "_law_way_here", "_law_bottom", "_law_kind", "_law_start", "_law_by", "_law_row"] ["_law_cell", "_law_way_here"] (defScope s_l_place) := ⟨rfl, rfl, rfl, by decide +kernel, rfl, by decide +kernel, by decide +kernel⟩
noncomputable abbrev s_l_handed : Stmt := top 138
theorem sc_l_handed : FnScope ["_law_places", "_law_bottom"] ["_law_places", "_law_bottom"] (defScope s_l_handed) := ⟨rfl, rfl, rfl, by decide +kernel, rfl, by decide +kernel, by decide +kernel⟩
noncomputable abbrev s_l_seats : Stmt := top 139
theorem sc_l_seats : FnScope ["_law_cell", "_law_many", "_law_way_here"] ["_law_cell", "_law_many", "_law_way_here"] (defScope s_l_seats) := ⟨rfl, rfl, rfl, by decide +kernel, rfl, by decide +kernel, by decide +kernel⟩
noncomputable abbrev s_l_rows : Stmt := top 140
theorem sc_l_rows : FnScope ["_law_seats_here", "_law_t", "_law_found", "_law_row", "_law_longer", "_law_k", "_law_x"] ["_law_seats_here", "_law_t"] (defScope s_l_rows) := ⟨rfl, rfl, rfl, by decide +kernel, rfl, by decide +kernel, by decide +kernel⟩
noncomputable abbrev s_l_power : Stmt := top 141
theorem sc_l_power : FnScope ["_law_number", "_law_many", "_law_found", "_law_k"] ["_law_number", "_law_many"] (defScope s_l_power) := ⟨rfl, rfl, rfl, by decide +kernel, rfl, by decide +kernel, by decide +kernel⟩
noncomputable abbrev s_l_names : Stmt := top 142
theorem sc_l_names : FnScope ["_law_cell", "_law_many", "_law_letters", "_law_row", "_law_size", "_law_at", "_law_word", "_law_found", "_law_k", "_law_name", "_law_j", "_law_place_here"] ["_law_cell", "_law_many"] (defScope s_l_names) := ⟨rfl, rfl, rfl, by decide +kernel, rfl, by decide +kernel, by decide +kernel⟩
noncomputable abbrev s_l_share_text : Stmt := top 143
theorem sc_l_share_text : FnScope ["_law_one"] ["_law_one"] (defScope s_l_share_text) := ⟨rfl, rfl, rfl, by decide +kernel, rfl, by decide +kernel, by decide +kernel⟩
noncomputable abbrev s_l_point_text : Stmt := top 144
theorem sc_l_point_text : FnScope ["_law_place_here"] ["_law_place_here"] (defScope s_l_point_text) := ⟨rfl, rfl, rfl, by decide +kernel, rfl, by decide +kernel, by decide +kernel⟩
noncomputable abbrev s_l_curve_text : Stmt := top 145
theorem sc_l_curve_text : FnScope ["_law_curve"] ["_law_curve"] (defScope s_l_curve_text) := ⟨rfl, rfl, rfl, by decide +kernel, rfl, by decide +kernel, by decide +kernel⟩
noncomputable abbrev s_l_point_due : Stmt := top 146
theorem sc_l_point_due : FnScope ["_law_seats_here", "_law_bottom", "_law_t", "_law_x", "_law_y"] ["_law_seats_here", "_law_bottom", "_law_t"] (defScope s_l_point_due) := ⟨rfl, rfl, rfl, by decide +kernel, rfl, by decide +kernel, by decide +kernel⟩
noncomputable abbrev s_l_box_due : Stmt := top 147
theorem sc_l_box_due : FnScope ["_law_seats_here", "_law_bottom", "_law_widths", "_law_heights", "_law_some"] ["_law_seats_here", "_law_bottom"] (defScope s_l_box_due) := ⟨rfl, rfl, rfl, by decide +kernel, rfl, by decide +kernel, by decide +kernel⟩
noncomputable abbrev s_l_told : Stmt := top 148
theorem sc_l_told : FnScope ["_law_desk", "_law_book", "_law_name", "_law_cell", "_law_row", "_law_way_here", "_law_seats_here"] ["_law_desk", "_law_book", "_law_name", "_law_cell"] (defScope s_l_told) := ⟨rfl, rfl, rfl, by decide +kernel, rfl, by decide +kernel, by decide +kernel⟩
noncomputable abbrev s_l_asked : Stmt := top 149
theorem sc_l_asked : FnScope ["_law_desk", "_law_book", "_law_cell", "_law_names_here", "_law_row", "_law_there", "_law_name", "_law_bottom", "_law_seats_here", "_law_way_here", "_law_t"] ["_law_desk", "_law_book", "_law_cell", "_law_names_here"] (defScope s_l_asked) := ⟨rfl, rfl, rfl, by decide +kernel, rfl, by decide +kernel, by decide +kernel⟩
noncomputable abbrev s_l_by_turns : Stmt := top 150
theorem sc_l_by_turns : FnScope ["_law_desk", "_law_beside", "_law_book", "_law_cell", "_law_others", "_law_k", "_law_name", "_law_one", "_law_some", "_law_bottom", "_law_seats_here"] ["_law_desk", "_law_beside", "_law_book", "_law_cell"] (defScope s_l_by_turns) := ⟨rfl, rfl, rfl, by decide +kernel, rfl, by decide +kernel, by decide +kernel⟩
noncomputable abbrev s_law : Stmt := top 151
theorem sc_law : FnScope ["_law_script", "_law_names_here", "_law_desk", "_law_beside", "_law_book", "_law_k", "_law_cell", "_law_name"] ["_law_script"] (defScope s_law) := ⟨rfl, rfl, rfl, by decide +kernel, rfl, by decide +kernel, by decide +kernel⟩
section
variable {P : Program} {w : World} {K : PySem.W.Frag} {mg : Str → Option Value} {base : Heap}
theorem ok_Desk___init__ {C_Desk : Addr} (T_Desk : ClsK K mg "Desk" C_Desk) (N_Desk_kept : NoAttr K C_Desk "kept") (F : MthAt K C_Desk "__init__" "Desk.__init__" s_Desk___init__ ["self"]) : MthOk P w K mg base CX0 1 C_Desk "__init__" ["self"] (spDInit C_Desk) := by
 refine mth_ok F sc_Desk___init__ (fun vs H Q E h => ?_) (fun f cdv A outer s H vs Q E hr h => ?_)
 · obtain ⟨x, dx, rfl, _⟩ := h; rfl
 obtain ⟨x, dx, rfl, hx, k⟩ := h
 have hu := hr.units
 refine ⟨_, (pss_oneI (show PSi _ _ (sFld K _ _ _) from (ps_fldI (pvI 0) pe_dnewI))), ?_⟩
 walk_at "rd"
 intro d hd
 have v1 := Same.new (o := .dK []) hd
 walk_at "rd"
 refine ⟨x, C_Desk, dx, [], rfl, v1 _ _ hx, T_Desk.cl, N_Desk_kept, by show 0 < 1000; decide, ?_⟩
 exact k d _ v1 hd upd_same
theorem ok_keep_curve (F : FunAt K mg "keep_curve" s_keep_curve ["kept", "things"]) : DefOk P w K mg base CX0 1 "keep_curve" ["kept", "things"] spKeep := by
 refine def_okI F sc_keep_curve (fun vs H Q E h => ?_) (fun f cdv A outer s H vs Q E hr h => ?_)
 · obtain ⟨d, lt, cs, n, ws, ps, rfl, _⟩ := h; rfl
 obtain ⟨d, lt, cs, n, ws, ps, rfl, ⟨kvs, hd, hK, hl40⟩, hc, hlt, hP, h100, k⟩ := h
 have hu := hr.units
 refine ⟨_, (pss_consI (ps_asgI (pvI 1) (pg_starI K rfl (pgs_consI (pg_nameI (i := 2) sc_keep_curve.nd rfl (Or.inl rfl)) (pgs_starI (pg_nameI (i := 3) sc_keep_curve.nd rfl (Or.inl rfl)) pgs_nilI)))) (pss_consI (ps_asgI (pvI 3) (pg_subI (pvI 0) (pvI 2) (set_dict hu))) (pss_oneI (ps_retI pe_strI)))), ?_⟩
 walk_at "rd"
 refine ⟨lt, .str n, ws, rfl, SqL.of hlt, by rw [hP.len]; omega, fun g1 hg1 => ?_⟩
 have v1 := Same.new (o := .lst ws) hg1
 have k1 := upd_same (H := H) (a := g1) (o := .lst ws)
 generalize upd H g1 (.lst ws) = H1 at *
 refine ⟨_, _, rfl, _, _, rfl, rfl, ?_⟩
 have hd1 := v1 _ _ hd
 have hK1 := hK.mono fun v x r => CvV.same r v1
 walk_at "rd"
 refine ⟨d, _, rfl, DPut.k (k := .inr n) hd1 (small_line (by have := hK.length; omega)), ?_⟩
 walk_at "rd"
 exact k _ ((Ex.of_same v1).trans Ex.put) (DictC.put hd1 hK1 hc k1 (hP.same v1))
theorem ok_kinds_behind (F : FunAt K mg "kinds_behind" s_kinds_behind ["first", "many"]) (B : Blt mg) {A_FORMS A_DEEDS F_keep_curve F_tell_curve F_tell_names F_tell_point F_keep_cut F_keep_stretch F_turn_curve F_raise_curve F_lower_curve F_lower_fully F_keep_speed F_move_curve F_tell_same F_tell_hull F_tell_box F_tell_part F_tell_meet F_tell_join : Addr} {t_MOST_SEATS t_FIGURES t_MOST_FIGURES t_PIECE_FIGURES t_PIECE t_LETTERS t_MOST_LETTERS : Tok} (G : Cst K mg w A_FORMS A_DEEDS F_keep_curve F_tell_curve F_tell_names F_tell_point F_keep_cut F_keep_stretch F_turn_curve F_raise_curve F_lower_curve F_lower_fully F_keep_speed F_move_curve F_tell_same F_tell_hull F_tell_box F_tell_part F_tell_meet F_tell_join t_MOST_SEATS t_FIGURES t_MOST_FIGURES t_PIECE_FIGURES t_PIECE t_LETTERS t_MOST_LETTERS) : DefOk P w K mg base CX0 1 "kinds_behind" ["first", "many"] spKinds := by
 refine def_okI F sc_kinds_behind (fun vs H Q E h => ?_) (fun f cdv A outer s H vs Q E hr h => ?_)
 · obtain ⟨first, n, ks, rfl, _⟩ := h; rfl
 obtain ⟨first, n, ks, rfl, hK, hn, k⟩ := h
 have hu := hr.units
 refine ⟨_, (pss_consI (ps_ifI (PW_ptI (pw_andI (pt_cmpRI op_eq (pvI 0) pe_strI (nomark _)) (pw_and1I (pt_chainI op_le op_le pe_intI (pvI 1) (pe_opI op_add (pe_globI (v := .int 12) rfl G.MOST_SEATS ⟨_, rfl⟩) pe_intI) (by with_unfolding_all rfl))))) (pss_oneI (ps_retI (pe_opI op_cat (pe_lstI (pa_consI pe_strI pa_nilI)) (pe_opI op_rep (pe_lstI (pa_consI pe_strI pa_nilI)) (pe_opI op_sub (pvI 1) pe_intI))))) pss_nilI) (pss_consI (ps_ifI (PW_ptI (pw_orI (pt_cmpRI (op_notinD P w K hu) (pvI 0) (pe_globI (v := .ref A_FORMS) rfl G.FORMS rfl) rfl) (pw_or1I (pt_cmpRI op_ne (pe_callBI (call_lenK K) (by rfl) B.len PySem.boot_len (pa_consI (show PEi _ _ (tBM0 K _ _ _) from (pe_bm0I PySem.F.plainAttrs_str PySem.F.slot_str_split PySem.F.type_str_split mt_split0 (pe_ixI (ix_dict P w K hu) (pe_globI (v := .ref A_FORMS) rfl G.FORMS rfl) (pvI 0) (fun _ _ => rfl)))) pa_nilI)) (pvI 1) (nomark _))))) (pss_oneI ps_neverI) pss_nilI) (pss_oneI (ps_retI (show PEi _ _ (tBM0 K _ _ _) from (pe_bm0I PySem.F.plainAttrs_str PySem.F.slot_str_split PySem.F.type_str_split mt_split0 (pe_ixI (ix_dict P w K hu) (pe_globI (v := .ref A_FORMS) rfl G.FORMS rfl) (pvI 0) (fun _ _ => rfl)))))))), ?_⟩
 rcases hK with ⟨rfl, h2, h13, rfl⟩ | ⟨hc, f, ef, ew, el, lf, ls⟩
 · walk_at "rd"
   refine ifT (by simp; omega) ?_
   walk_at "rd"
   refine ifT (by simp; omega) ?_
   walk_at "rd"
   intro g1 hg1
   have v1 := Same.new (o := .lst [.str "new"]) hg1
   have k1 := upd_same (H := H) (a := g1) (o := .lst [.str "new"])
   generalize upd H g1 (.lst [.str "new"]) = H1 at *
   walk_at "rd"
   intro g2 hg2
   have v2 := Same.new (o := .lst [.str "point"]) hg2
   have k2 := upd_same (H := H1) (a := g2) (o := .lst [.str "point"])
   replace k1 := v2 _ _ k1
   generalize upd H1 g2 (.lst [.str "point"]) = H2 at *
   walk_at "rd"
   refine ⟨g2, _, _, rfl, rfl, k2, by omega, by omega, ?_, fun g3 hg3 => ?_⟩
   · show 1 * ((n : Int) - 1).toNat ≤ sizeLine
     exact Nat.le_of_lt (small_line (by omega))
   have e3 : (List.replicate ((n : Int) - 1).toNat [V.str "point"]).flatten = (List.replicate (n - 1) ("point" : Str)).map V.str := by
     have : ((n : Int) - 1).toNat = n - 1 := by omega
     rw [this]
     generalize n - 1 = m
     induction m with
     | zero => rfl
     | succ m ih => rw [List.replicate_succ, List.flatten_cons, ih, List.replicate_succ]; rfl
   rw [e3] at *
   have v3 := Same.new (o := .lst ((List.replicate (n - 1) ("point" : Str)).map V.str)) hg3
   have k3 := upd_same (H := H2) (a := g3) (o := .lst ((List.replicate (n - 1) ("point" : Str)).map V.str))
   replace k1 := v3 _ _ k1
   generalize upd H2 g3 (.lst ((List.replicate (n - 1) ("point" : Str)).map V.str)) = H3 at *
   have v13 := (v1.trans v2).trans v3
   refine ⟨g1, g3, _, _, rfl, rfl, k1, k3, Nat.le_of_lt (small_line (by rw [List.length_map, List.length_replicate]; show 1 + (n - 1) ≤ 100000; omega)), fun g4 hg4 => ?_⟩
   have hn4 : H g4 = none := by
     cases e : H g4 with
     | none => rfl
     | some o => rw [v13 _ _ e] at hg4; cases hg4
   exact k g4 _ (v13.trans (Same.new hg4)) hn4 upd_same
 · walk_at "rd"
   dsimp only
   refine ifF (by simp [hc]) ?_
   walk_at "rd"
   refine ⟨A_FORMS, _, rfl, .inr ⟨formsKV, .inr first, G.dFORMS P, rfl, rfl⟩, _, rfl, ?_⟩
   rw [ef]
   walk_at "rd"
   refine ⟨A_FORMS, _, rfl, .inr ⟨formsKV, .inr first, G.dFORMS P, rfl, ef.symm⟩, ?_⟩
   walk_at "rd"
   refine ⟨by omega, by omega, by rw [ew]; omega, fun g1 hg1 => ?_⟩
   rw [ew]
   have v1 := Same.new (o := .lst (ks.map V.str)) hg1
   have k1 := upd_same (H := H) (a := g1) (o := .lst (ks.map V.str))
   generalize upd H g1 (.lst (ks.map V.str)) = H1 at *
   walk_at "rd"
   refine ifF (by rw [List.length_map, el]; simp) ?_
   walk_at "rd"
   refine ⟨A_FORMS, _, rfl, .inr ⟨formsKV, .inr first, G.dFORMS P, rfl, ef.symm⟩, ?_⟩
   walk_at "rd"
   refine ⟨by omega, by omega, by rw [ew]; omega, fun g2 hg2 => ?_⟩
   rw [ew]
   have hn2 : H g2 = none := by
     cases e : H g2 with
     | none => rfl
     | some o => rw [v1 _ _ e] at hg2; cases hg2
   exact k g2 _ (v1.trans (Same.new hg2)) hn2 upd_same
theorem ok_read_level (F : FunAt K mg "read_level" s_read_level ["word"]) : DefOk P w K mg base CX0 1 "read_level" ["word"] spNever := by
  exact def_okI F sc_read_level (fun vs H Q E h => (show False from h).elim) (fun f cdv A outer s H vs Q E hr h => (show False from h).elim)
theorem ok_read_name (F : FunAt K mg "read_name" s_read_name ["word"]) (B : Blt mg) {A_FORMS A_DEEDS F_keep_curve F_tell_curve F_tell_names F_tell_point F_keep_cut F_keep_stretch F_turn_curve F_raise_curve F_lower_curve F_lower_fully F_keep_speed F_move_curve F_tell_same F_tell_hull F_tell_box F_tell_part F_tell_meet F_tell_join : Addr} {t_MOST_SEATS t_FIGURES t_MOST_FIGURES t_PIECE_FIGURES t_PIECE t_LETTERS t_MOST_LETTERS : Tok} (G : Cst K mg w A_FORMS A_DEEDS F_keep_curve F_tell_curve F_tell_names F_tell_point F_keep_cut F_keep_stretch F_turn_curve F_raise_curve F_lower_curve F_lower_fully F_keep_speed F_move_curve F_tell_same F_tell_hull F_tell_box F_tell_part F_tell_meet F_tell_join t_MOST_SEATS t_FIGURES t_MOST_FIGURES t_PIECE_FIGURES t_PIECE t_LETTERS t_MOST_LETTERS) : DefOk P w K mg base CX0 1 "read_name" ["word"] spName := by
 refine def_okI F sc_read_name (fun vs H Q E h => ?_) (fun f cdv A outer s H vs Q E hr h => ?_)
 · obtain ⟨x, rfl, _⟩ := h; rfl
 obtain ⟨x, rfl, hx, k⟩ := h
 have hu := hr.units
 refine ⟨_, (pss_consI (ps_ifI (PW_ptI (pw_orI (pt_notI (pt_chainI op_le op_le pe_intI (pe_callBI call_len_str (by rfl) B.len PySem.boot_len (pa_consI (pvI 0) pa_nilI)) (pe_globI (v := .int 12) rfl G.MOST_LETTERS ⟨_, rfl⟩) (by with_unfolding_all rfl))) (pw_or1I (pt_notI (pt_valI (pe_callBI (call_allBK K rfl) (by rfl) B.all PyProof.Rows.boot_all (pa_consI (pe_compSI (os := ["sign"]) (caps := []) ["word"] (defScope s_read_name) (pi_strI (pvI 0)) (fun _ _ _ _ _ => (pg_nameI (i := 0) (show List.Nodup (["sign"] : List Str) from by decide +kernel) rfl (Or.inl rfl))) (fun _ _ _ _ _ => (pe_cmpRI op_in_str (pvI 0) (pe_globI (v := .str "abcdefghijklmnopqrstuvwxyz") rfl G.LETTERS ⟨_, rfl⟩) rfl)) (by decide +kernel)) pa_nilI))))))) (pss_oneI ps_neverI) pss_nilI) (pss_oneI (ps_retI (pvI 0)))), ?_⟩
 obtain ⟨h1, h2, h3⟩ := hx
 walk_at "rd"
 refine ⟨Nat.le_of_lt (small_line (by omega)), ?_⟩
 walk_at "rd"
 refine ifT (by simp; omega) ?_
 walk_at "rd"
 refine ifF (by simp; omega) ?_
 walk_at "rd"
 refine comp1 (plain_str _ _) (by show x.length ≤ 100000; omega) (fun i v H => v = .bl true) (fun _ _ _ _ tt h => h) (fun i H2 kk hi s2 hk => ?_) (fun D ys H2 hD s2 hd hl hr => ?_)
 · have hm : x.cps.getD i 0 ∈ cp x := by
     have hi' : i < x.cps.toList.length := by rw [Array.length_toList]; exact hi
     have : x.cps.getD i 0 = x.cps.toList[i]'hi' := by simp [Array.getD, hi]
     rw [this]; exact List.getElem_mem _
   have h4 := h3 _ hm
   walk_at "rd"
   rw [let_dec, decide_eq_true h4]
   exact hk _ _ (L2.Same.refl _) rfl
 rw [bls_true hr] at hd
 walk_at "rd"
 refine ⟨D, _, rfl, SqL.of hd, ?_⟩
 rw [all_rep]
 walk_at "rd"
 exact k _ s2
theorem ok_pieces (F : FunAt K mg "pieces" s_pieces ["text", "sign"]) (B : Blt mg) : DefOk P w K mg base CX0 1 "pieces" ["text", "sign"] spPieces := by
 refine def_okI F sc_pieces (fun vs H Q E h => ?_) (fun f cdv A outer s H vs Q E hr h => ?_)
 · obtain ⟨x, y, rfl, _⟩ := h; rfl
 obtain ⟨x, y, rfl, hy, hx, k⟩ := h
 have hu := hr.units
 refine ⟨_, (pss_consI (ps_ifI (pt_notI (pt_valI (pe_callBI (call_isiK K) (by rfl) B.isinstance PyProof.Rows.boot_isinstance (pa_consI (pvI 0) (pa_consI (pe_bltnI (v := .ty "str") rfl B.str PyProof.Rows.boot_str rfl) pa_nilI))))) (pss_oneI ps_neverI) pss_nilI) (pss_oneI (ps_retI (show PEi _ _ (tBM K _ _ _ _) from (pe_bmI PySem.F.plainAttrs_str PySem.F.slot_str_split PySem.F.type_str_split mt_split (pvI 0) (pa_consI (pvI 1) pa_nilI)))))), ?_⟩
 refine ⟨_, rfl, _, "str", _, _, rfl, TyOf.str _, kit_ss _, ?_⟩
 walk_at "rd"
 exact ⟨hy, hx, k⟩
theorem ok_read_figures (F : FunAt K mg "read_figures" s_read_figures ["text"]) (B : Blt mg) {C_SeatError C_NoText C_NoName : Addr} (X : Exc K mg C_SeatError C_NoText C_NoName) {A_FORMS A_DEEDS F_keep_curve F_tell_curve F_tell_names F_tell_point F_keep_cut F_keep_stretch F_turn_curve F_raise_curve F_lower_curve F_lower_fully F_keep_speed F_move_curve F_tell_same F_tell_hull F_tell_box F_tell_part F_tell_meet F_tell_join : Addr} {t_MOST_SEATS t_FIGURES t_MOST_FIGURES t_PIECE_FIGURES t_PIECE t_LETTERS t_MOST_LETTERS : Tok} (G : Cst K mg w A_FORMS A_DEEDS F_keep_curve F_tell_curve F_tell_names F_tell_point F_keep_cut F_keep_stretch F_turn_curve F_raise_curve F_lower_curve F_lower_fully F_keep_speed F_move_curve F_tell_same F_tell_hull F_tell_box F_tell_part F_tell_meet F_tell_join t_MOST_SEATS t_FIGURES t_MOST_FIGURES t_PIECE_FIGURES t_PIECE t_LETTERS t_MOST_LETTERS) : DefOk P w K mg base (CXx P w) 1 "read_figures" ["text"] (spReadF C_NoText) := by
 refine def_okXI F sc_read_figures (fun vs H Q E h => ?_) (fun f cdv A outer s H vs Q E hr h => ?_)
 · obtain ⟨x, rfl, _⟩ := h; rfl
 obtain ⟨x, rfl, hk⟩ := h
 have hu := hr.units
 refine ⟨_, (pss_consI (ps_ifI (PW_ptI (pw_orI (pt_notI (pt_chainI op_le op_le pe_intI (pe_callBI call_len_str (by rfl) B.len PySem.boot_len (pa_consI (pvI 0) pa_nilI)) (pe_globI (v := .int 100) rfl G.MOST_FIGURES ⟨_, rfl⟩) (by with_unfolding_all rfl))) (pw_or1I (pt_notI (pt_valI (pe_callBI (call_allBK K rfl) (by rfl) B.all PyProof.Rows.boot_all (pa_consI (pe_compSI (os := ["sign"]) (caps := []) ["text"] (defScope s_read_figures) (pi_strI (pvI 0)) (fun _ _ _ _ _ => (pg_nameI (i := 0) (show List.Nodup (["sign"] : List Str) from by decide +kernel) rfl (Or.inl rfl))) (fun _ _ _ _ _ => (pe_cmpRI op_in_str (pvI 0) (pe_globI (v := .str "0123456789") rfl G.FIGURES ⟨_, rfl⟩) rfl)) (by decide +kernel)) pa_nilI))))))) (pss_oneI (ps_raiseI throws_cx X.xNoText (pa_consI pe_strI pa_nilI))) pss_nilI) (pss_consI (ps_ifI (PW_ptI (pw_andI (pt_cmpRI op_eq (pe_ixI ix_str (pvI 0) pe_intI (fun _ _ => rfl)) pe_strI (nomark _)) (pw_and1I (pt_cmpRI op_gt (pe_callBI call_len_str (by rfl) B.len PySem.boot_len (pa_consI (pvI 0) pa_nilI)) pe_intI (nomark _))))) (pss_oneI (ps_raiseI throws_cx X.xNoText (pa_consI pe_strI pa_nilI))) pss_nilI) (pss_oneI (ps_retI (pe_callTyI call_int_text rfl B.int PyProof.Rows.boot_int (pa_consI (pvI 0) pa_nilI)))))), ?_⟩
 rcases hk with ⟨m, rfl, hm, k⟩ | ⟨h1, h2, kE⟩
 · have hc : cp (tN (m : Int)) = dg m := tN_nat m
   have ll : (tN (m : Int)).length = (dg m).length := by rw [← cp_len, hc]
   have l1 := dg_len_pos m
   have l2 := dg_len (k := 100) (by decide) hm
   walk_at "rd"
   refine ⟨Nat.le_of_lt (small_line (by omega)), ?_⟩
   walk_at "rd"
   refine ifT (by simp; omega) ?_
   walk_at "rd"
   refine ifF (by simp; omega) ?_
   walk_at "rd"
   refine comp1 (plain_str _ _) (by show (tN (m : Int)).length ≤ 100000; omega) (fun i v H => v = .bl true) (fun _ _ _ _ tt h => h) (fun i H2 kk hi s2 hk => ?_) (fun D ys H2 hD s2 hd hl hr => ?_)
   · obtain ⟨c1, c2⟩ := dg_at hc hi
     walk_at "rd"
     rw [fig_in c1 c2]
     exact hk _ _ (L2.Same.refl _) rfl
   rw [bls_true hr] at hd
   walk_at "rd"
   refine ⟨D, _, rfl, SqL.of hd, ?_⟩
   rw [all_rep]
   walk_at "rd"
   have hz : (tN (m : Int)).length ≤ sizeLine := Nat.le_of_lt (small_line (by omega))
   have hc' : (tN (m : Int)).cps.toList = dg m := hc
   have hrd := tN_reads (m := m) (by omega)
   by_cases m0 : m = 0
   · have e0 : dg m = [48] := by rw [m0]; exact dg_lt (by decide)
     have a0 : atI (tN (m : Int)).cps.toList 0 = some 48 := by rw [hc', e0]; rfl
     refine ⟨_, _, 48, rfl, rfl, hz, a0, ?_⟩
     rw [e0] at ll
     walk_at "rd"
     refine ⟨hz, ?_⟩
     walk_at "rd"
     refine ifF (by rw [ll]; rfl) ?_
     walk_at "rd"
     exact ⟨_, _, rfl, hrd, by rw [ll]; decide, k H2 s2⟩
   · obtain ⟨c, r, e0, c1, c2⟩ := dg_head m (by omega)
     have a0 : atI (tN (m : Int)).cps.toList 0 = some c := by rw [hc', e0]; exact at0 _ _
     refine ⟨_, _, c, rfl, rfl, hz, a0, ?_⟩
     walk_at "rd"
     refine ite_dec (fun h => ?_) (fun h => ?_)
     · have hs : c = 48 := str_one.mp h
       omega
     walk_at "rd"
     exact ⟨_, _, rfl, hrd, by omega, k H2 s2⟩
 · walk_at "rd"
   refine ⟨Nat.le_of_lt (small_line (by omega)), ?_⟩
   walk_at "rd"
   refine ifT (by simp; omega) ?_
   walk_at "rd"
   refine ifT (by simp; omega) ?_
   walk_at "rd"
   exact kE H (L2.Same.refl _)
theorem ok_read_whole (F : FunAt K mg "read_whole" s_read_whole ["text"]) {C_SeatError C_NoText C_NoName : Addr} (X : Exc K mg C_SeatError C_NoText C_NoName) (D_read_figures : DefOk P w K mg base (CXx P w) 1 "read_figures" ["text"] (spReadF C_NoText)) : DefOk P w K mg base (CXx P w) 2 "read_whole" ["text"] (spReadW C_NoText) := by
 refine def_okXI F sc_read_whole (fun vs H Q E h => ?_) (fun f cdv A outer s H vs Q E hr h => ?_)
 · obtain ⟨x, rfl, _⟩ := h; rfl
 obtain ⟨x, rfl, hk⟩ := h
 have hu := hr.units
 refine ⟨_, (pss_consI (ps_ifI (pt_notI (pt_valI (show PEi _ _ (tBM K _ _ _ _) from (pe_bmI PySem.F.plainAttrs_str PySem.F.slot_str_startswith PySem.F.type_str_startswith mt_starts (pvI 0) (pa_consI pe_strI pa_nilI))))) (pss_oneI (ps_retI (pe_fnI D_read_figures hr passes_cx (pa_consI (pvI 0) pa_nilI)))) pss_nilI) (pss_consI (ps_setI (i := 1) sc_read_whole.nd rfl (Or.inl rfl) (pe_fnI D_read_figures hr passes_cx (pa_consI (pe_sliceI sl_str (pvI 0) (po_someI pe_intI) po_noneI) pa_nilI))) (pss_consI (ps_ifI (pt_cmpRI op_eq (pvI 1) pe_intI (nomark _)) (pss_oneI (ps_raiseI throws_cx X.xNoText (pa_consI pe_strI pa_nilI))) pss_nilI) (pss_oneI (ps_retI (pe_unI un_neg (pvI 1))))))), ?_⟩
 have sw : ∀ i : Int, Txt.startswith (tN i) "-" = decide (i < 0) := starts_neg
 rcases hk with ⟨i, rfl, hi, k⟩ | ⟨m, rfl, h1, h2, kE⟩
 · walk_at "rd"
   rw [sw]
   by_cases hn : i < 0
   · refine ifF (by simp [hn]) ?_
     have l1 := tN_ln (k := 100) (by decide) hi
     obtain ⟨m, hm⟩ := Int.eq_ofNat_of_zero_le (show 0 ≤ -i by omega)
     have hm1 : 0 < m := by omega
     have hm2 : m < 10 ^ 100 := by unfold FgN at hi; omega
     walk_at "rd"
     refine ⟨by omega, ?_⟩
     rw [tail_neg hn, hm]
     walk_at "rd"
     refine .inl ⟨m, rfl, hm2, fun H1 s1 => ?_⟩
     walk_at "rd"
     refine ite_dec (fun h => ?_) (fun h => ?_)
     · have := V.int.inj h; omega
     walk_at "rd"
     have e : -((m : Nat) : Int) = i := by omega
     show Q (.int (-((m : Nat) : Int))) H1
     rw [e]
     exact k H1 s1
   · refine ifT (by simp [hn]) ?_
     obtain ⟨m, rfl⟩ := Int.eq_ofNat_of_zero_le (show 0 ≤ i by omega)
     walk_at "rd"
     exact .inl ⟨m, rfl, by unfold FgN at hi; rw [Int.natAbs_natCast] at hi; exact hi, k⟩
 · walk_at "rd"
   rw [sw]
   refine ifT (by simp) ?_
   have hc : cp (tN (m : Int)) = dg m := tN_nat m
   have ll : (tN (m : Int)).length = (dg m).length := by rw [← cp_len, hc]
   have l1 := dg_len_ge 100 m h1
   have l2 := dg_len (k := 1000) (by decide) h2
   walk_at "rd"
   exact .inr ⟨by omega, by omega, kE⟩
theorem ok_greatest_common (F : FunAt K mg "greatest_common" s_greatest_common ["one", "other"]) (B : Blt mg) : DefOk P w K mg base CX0 1 "greatest_common" ["one", "other"] spGcd := by
 refine def_okI F sc_greatest_common (fun vs H Q E h => ?_) (fun f cdv A outer s H vs Q E hr h => ?_)
 · obtain ⟨a, b, rfl, _⟩ := h; rfl
 obtain ⟨a, b, rfl, k⟩ := h
 have hu := hr.units
 refine ⟨_, (pss_consI (ps_whileI PassesOwn.never (pt_cmpRI op_ne (pvI 1) pe_intI (nomark _)) (pss_oneI (ps_parI (i := 0) (j := 1) rfl sc_greatest_common.nd rfl rfl (by decide) rfl rfl (pa_consI (pvI 1) (pa_consI (pe_opI op_modN (pvI 0) (pvI 1)) pa_nilI)) rfl))) (pss_oneI (ps_retI (pe_callBI call_abs (by rfl) B.abs PyProof.Rows.boot_abs (pa_consI (pvI 0) pa_nilI))))), ?_⟩
 refine while_by (fun σ H' => ∃ x y : Int, σ = [some (.int x), some (.int y)] ∧ H' = H ∧ Int.gcd x y = Int.gcd a b) (fun σ _ => match σ with | [_, some (.int y)] => y.natAbs | _ => 0) ⟨a, b, rfl, rfl, rfl⟩ ?_ ?_
 · rintro σ H' ⟨x, y, rfl, rfl, e⟩
   refine ⟨_, rfl, rfl, _, rfl, ?_⟩
   by_cases hy : y = 0
   · subst hy
     refine iteNS rfl ?_
     refine ⟨_, rfl, _, rfl, ?_⟩
     rw [gcd_zero, e]
     exact k
   · refine ifT (dec_int_ne hy) ?_
     refine ⟨_, rfl, _, rfl, _, rfl, _, _, rfl, rfl, hy, _, _, rfl, ⟨_, _, rfl, rfl, ?_⟩, ?_⟩
     · rw [gcd_step]; exact e
     · exact fmod_lt x y hy
 · rintro σ H' Q Q' hq ⟨v, h1, hs, k1, h2, h3⟩
   exact ⟨v, h1, hs, k1, h2, hq _ _ h3⟩
theorem ok_share (F : FunAt K mg "share" s_share ["top", "bottom"]) (D_greatest_common : DefOk P w K mg base CX0 1 "greatest_common" ["one", "other"] spGcd) : DefOk P w K mg base CX0 2 "share" ["top", "bottom"] spShare := by
 refine def_okI F sc_share (fun vs H Q E h => ?_) (fun f cdv A outer s H vs Q E hr h => ?_)
 · obtain ⟨a, b, rfl, _⟩ := h; rfl
 obtain ⟨t, b, rfl, hb, hz, k⟩ := h
 have hu := hr.units
 refine ⟨_, (pss_consI (ps_ifI (pt_cmpRI op_eq (pvI 1) pe_intI (nomark _)) (pss_oneI ps_neverI) pss_nilI) (pss_consI (ps_setI (i := 2) sc_share.nd rfl (Or.inl rfl) (pe_fnI D_greatest_common hr pass0 (pa_consI (pvI 0) (pa_consI (pvI 1) pa_nilI)))) (pss_consI (ps_ifI (pt_cmpRI op_lt (pvI 1) pe_intI (nomark _)) (pss_oneI (ps_setI (i := 2) sc_share.nd rfl (Or.inl rfl) (pe_unI un_neg (pvI 2)))) pss_nilI) (pss_oneI (ps_retI (pe_tupI (pa_consI (pe_opI op_fdivB (pvI 0) (pvI 2)) (pa_consI (pe_opI op_fdivB (pvI 1) (pvI 2)) pa_nilI)))))))), ?_⟩
 have g0 : (Int.gcd t b : Int) ≠ 0 := gcd_pos' t b hb
 have gz : Sz 9000 (Int.gcd t b : Int) := hz.le (by
   rw [Int.natAbs_natCast]
   exact Nat.le_of_dvd (by omega) (Int.gcd_dvd_natAbs_right t b))
 refine ⟨_, rfl, rfl, _, rfl, ?_⟩
 refine ifF (by simp [hb]) ?_
 refine ⟨_, rfl, _, rfl, t, b, rfl, ?_⟩
 refine ⟨_, rfl, _, _, rfl, rfl, _, rfl, ite_dec (fun hn => ?_) (fun hn => ?_)⟩
 · refine ⟨_, rfl, _, rfl, ?_⟩
   refine ⟨_, rfl, _, rfl, _, _, rfl, rfl, ⟨by omega, gz.neg⟩, _, rfl, _, rfl, _, _, rfl, rfl, ⟨by omega, gz.neg⟩, (by show 2 ≤ sizeLine; decide), fun p hp => ?_⟩
   have e := share_neg t b hn
   refine k _ _ (Same.new hp) ⟨p, rfl, ?_⟩
   rw [upd_same, ← e.1, ← e.2]
 · refine ⟨_, rfl, _, rfl, _, _, rfl, rfl, ⟨g0, gz⟩, _, rfl, _, rfl, _, _, rfl, rfl, ⟨g0, gz⟩, (by show 2 ≤ sizeLine; decide), fun p hp => ?_⟩
   have e := share_pos t b (by omega)
   refine k _ _ (Same.new hp) ⟨p, rfl, ?_⟩
   rw [upd_same, ← e.1, ← e.2]
theorem ok_read_share (F : FunAt K mg "read_share" s_read_share ["text"]) (B : Blt mg) {C_SeatError C_NoText C_NoName : Addr} (X : Exc K mg C_SeatError C_NoText C_NoName) (D_pieces : DefOk P w K mg base CX0 1 "pieces" ["text", "sign"] spPieces) (D_read_figures : DefOk P w K mg base (CXx P w) 1 "read_figures" ["text"] (spReadF C_NoText)) (D_read_whole : DefOk P w K mg base (CXx P w) 2 "read_whole" ["text"] (spReadW C_NoText)) (D_share : DefOk P w K mg base CX0 2 "share" ["top", "bottom"] spShare) : DefOk P w K mg base (CXx P w) 3 "read_share" ["text"] (spReadS K C_NoText) := by
 refine def_okXI F sc_read_share (fun vs H Q E h => ?_) (fun f cdv A outer s H vs Q E hr h => ?_)
 · obtain ⟨x, rfl, _⟩ := h; rfl
 obtain ⟨x, rfl, hk⟩ := h
 have hu := hr.units
 refine ⟨_, (pss_consI (ps_setI (i := 1) sc_read_share.nd rfl (Or.inl rfl) (pe_fnI D_pieces hr pass0 (pa_consI (pvI 0) (pa_consI pe_strI pa_nilI)))) (pss_consI (ps_ifI (pt_cmpRI op_gt (pe_callBI (call_lenK K) (by rfl) B.len PySem.boot_len (pa_consI (pvI 1) pa_nilI)) pe_intI (nomark _)) (pss_oneI (ps_raiseI throws_cx X.xNoText (pa_consI pe_strI pa_nilI))) pss_nilI) (pss_consI (ps_setI (i := 2) sc_read_share.nd rfl (Or.inl rfl) (pe_fnI D_read_whole hr passes_cx (pa_consI (pe_ixI (ix_listK K) (pvI 1) pe_intI (fun _ _ => rfl)) pa_nilI))) (pss_consI (ps_ifI (pt_cmpRI op_eq (pe_callBI (call_lenK K) (by rfl) B.len PySem.boot_len (pa_consI (pvI 1) pa_nilI)) pe_intI (nomark _)) (pss_oneI (ps_retI (pe_tupI (pa_consI (pvI 2) (pa_consI pe_intI pa_nilI))))) pss_nilI) (pss_consI (ps_setI (i := 3) sc_read_share.nd rfl (Or.inl rfl) (pe_fnI D_read_figures hr passes_cx (pa_consI (pe_ixI (ix_listK K) (pvI 1) pe_intI (fun _ _ => rfl)) pa_nilI))) (pss_consI (ps_ifI (PW_ptI (pw_orI (pt_cmpRI op_lt (pvI 3) pe_intI (nomark _)) (pw_or1I (pt_cmpRI (op_neDK K hu) (pe_fnI D_share hr pass0 (pa_consI (pvI 2) (pa_consI (pvI 3) pa_nilI))) (pe_tupI (pa_consI (pvI 2) (pa_consI (pvI 3) pa_nilI))) (nomark _))))) (pss_oneI (ps_raiseI throws_cx X.xNoText (pa_consI pe_strI pa_nilI))) pss_nilI) (pss_oneI (ps_retI (pe_tupI (pa_consI (pvI 2) (pa_consI (pvI 3) pa_nilI))))))))))), ?_⟩
 rcases hk with ⟨q, rfl, hq, k⟩ | ⟨m, rfl, h1, h2, kE⟩
 · have ln := tSh_ln (k := 100) (by decide) hq
   have hdn : FgN 100 (q.den : Int) := by unfold FgN; rw [Int.natAbs_natCast]; exact hq.2
   walk_at "rd"
   refine ⟨by omega, fun l hl => ?_⟩
   rw [split_sl]
   by_cases h1 : q.den = 1
   · rw [if_pos h1]
     have s1 := Same.new (o := .lst ([tN q.num].map V.str)) hl
     have hl1 := upd_same (H := H) (a := l) (o := .lst [.str (tN q.num)])
     walk_at "rd"
     refine .inl ⟨q.num, rfl, hq.1, fun H2 s2 => ?_⟩
     have hl2 := s2 _ _ hl1
     walk_at "rd"
     intro t ht
     refine k _ _ ((s1.trans s2).trans (Same.new ht)) ⟨t, rfl, ?_⟩
     rw [upd_same, h1]; rfl
   · rw [if_neg h1]
     have s1 := Same.new (o := .lst ([tN q.num, tN (q.den : Int)].map V.str)) hl
     have hl1 := upd_same (H := H) (a := l) (o := .lst [.str (tN q.num), .str (tN (q.den : Int))])
     walk_at "rd"
     refine .inl ⟨q.num, rfl, hq.1, fun H2 s2 => ?_⟩
     have hl2 := s2 _ _ hl1
     walk_at "rd"
     refine .inl ⟨q.den, rfl, hq.2, fun H3 s3 => ?_⟩
     have d2 := q.den_pos
     walk_at "rd"
     refine ifF (by simp; omega) ?_
     walk_at "rd"
     refine ⟨q.num, (q.den : Int), rfl, by omega, fg_sz hq.2, fun v H4 s4 hv => ?_⟩
     rw [Rat.num_divInt_den] at hv
     walk_at "rd"
     intro g hg
     have sg := Same.new (o := .tup [.int q.num, .int (q.den : Int)]) hg
     have gv : ShV (upd H4 g (.tup [.int q.num, .int (q.den : Int)])) (.ref g) q := ⟨g, rfl, upd_same⟩
     refine ⟨_, _, (hv.same sg).dn, gv.dn, datSh_ok q 6, datSh_ok q 6, fun b0 hb0 => ?_⟩
     obtain rfl := hb0.mpr rfl
     walk_at "rd"
     intro t ht
     refine k _ _ (((((s1.trans s2).trans s3).trans s4).trans sg).trans (Same.new ht)) ⟨t, rfl, upd_same⟩
 · walk_at "rd"
   have hc : cp (tN (m : Int)) = dg m := tN_nat m
   have ll : (tN (m : Int)).length = (dg m).length := by rw [← cp_len, hc]
   have l2 := dg_len (k := 1000) (by decide) h2
   refine ⟨by omega, fun l hl => ?_⟩
   have es : Txt.split (tN (m : Int)) "/" = [tN (m : Int)] := by
     have := split_sl ((m : Int) : Rat)
     unfold tSh at this
     rw [Rat.den_intCast, if_pos rfl, if_pos rfl, Rat.num_intCast] at this
     exact this
   rw [es]
   have s1 := Same.new (o := .lst ([tN (m : Int)].map V.str)) hl
   have hl1 := upd_same (H := H) (a := l) (o := .lst [.str (tN (m : Int))])
   walk_at "rd"
   exact .inr ⟨m, rfl, h1, h2, fun H2 s2 => kE H2 (s1.trans s2)⟩
theorem ok_read_point (F : FunAt K mg "read_point" s_read_point ["text"]) (B : Blt mg) {C_NoText : Addr} (D_pieces : DefOk P w K mg base CX0 1 "pieces" ["text", "sign"] spPieces) (D_read_share : DefOk P w K mg base (CXx P w) 3 "read_share" ["text"] (spReadS K C_NoText)) : DefOk P w K mg base CX0 4 "read_point" ["text"] spReadP := by
 refine def_okI F sc_read_point (fun vs H Q E h => ?_) (fun f cdv A outer s H vs Q E hr h => ?_)
 · obtain ⟨p, rfl, _⟩ := h; rfl
 obtain ⟨p, rfl, hq, k⟩ := h
 have hu := hr.units
 refine ⟨_, (pss_consI (ps_setI (i := 1) sc_read_point.nd rfl (Or.inl rfl) (pe_fnI D_pieces hr pass0 (pa_consI (pvI 0) (pa_consI pe_strI pa_nilI)))) (pss_consI (ps_ifI (pt_cmpRI op_ne (pe_callBI (call_lenK K) (by rfl) B.len PySem.boot_len (pa_consI (pvI 1) pa_nilI)) pe_intI (nomark _)) (pss_oneI ps_neverI) pss_nilI) (pss_oneI (ps_retI (pe_tupI (pa_consI (pe_fnI D_read_share hr passE0 (pa_consI (pe_ixI (ix_listK K) (pvI 1) pe_intI (fun _ _ => rfl)) pa_nilI)) (pa_consI (pe_fnI D_read_share hr passE0 (pa_consI (pe_ixI (ix_listK K) (pvI 1) pe_intI (fun _ _ => rfl)) pa_nilI)) pa_nilI))))))), ?_⟩
 have ln := tPt_ln (k := 100) (by decide) hq
 walk_at "rd"
 refine ⟨by omega, fun l hl => ?_⟩
 rw [split_cm]
 have s1 := Same.new (o := .lst ([tSh p.1, tSh p.2].map V.str)) hl
 have hl1 := upd_same (H := H) (a := l) (o := .lst [.str (tSh p.1), .str (tSh p.2)])
 walk_at "rd"
 refine .inl ⟨p.1, rfl, hq.1, fun v1 H2 s2 g1 => ?_⟩
 have hl2 := s2 _ _ hl1
 walk_at "rd"
 refine .inl ⟨p.2, rfl, hq.2, fun v2 H3 s3 g2 => ?_⟩
 walk_at "rd"
 intro t ht
 have st := Same.new (o := .tup [v1, v2]) ht
 exact k _ _ (((s1.trans s2).trans s3).trans st) ⟨t, v1, v2, rfl, upd_same, (g1.same s3).same st, g2.same st⟩
theorem ok_read_word (F : FunAt K mg "read_word" s_read_word ["kind", "word"]) {C_NoText : Addr} (D_read_level : DefOk P w K mg base CX0 1 "read_level" ["word"] spNever) (D_read_name : DefOk P w K mg base CX0 1 "read_name" ["word"] spName) (D_read_share : DefOk P w K mg base (CXx P w) 3 "read_share" ["text"] (spReadS K C_NoText)) (D_read_point : DefOk P w K mg base CX0 4 "read_point" ["text"] spReadP) : DefOk P w K mg base CX0 5 "read_word" ["kind", "word"] spWord := by
 refine def_okI F sc_read_word (fun vs H Q E h => ?_) (fun f cdv A outer s H vs Q E hr h => ?_)
 · obtain ⟨k0, d, rfl, _⟩ := h; rfl
 obtain ⟨k0, d, rfl, hk, ho, k⟩ := h
 have hu := hr.units
 refine ⟨_, (pss_consI (ps_ifI (pt_cmpRI op_eq (pvI 0) pe_strI (nomark _)) (pss_oneI (ps_retI (pe_fnI D_read_share hr passE0 (pa_consI (pvI 1) pa_nilI)))) pss_nilI) (pss_consI (ps_ifI (pt_cmpRI op_eq (pvI 0) pe_strI (nomark _)) (pss_oneI (ps_retI (pe_fnI D_read_point hr pass0 (pa_consI (pvI 1) pa_nilI)))) pss_nilI) (pss_consI (ps_ifI (pt_cmpRI op_eq (pvI 0) pe_strI (nomark _)) (pss_oneI (ps_retI (pe_fnI D_read_level hr pass0 (pa_consI (pvI 1) pa_nilI)))) pss_nilI) (pss_oneI (ps_retI (pe_fnI D_read_name hr pass0 (pa_consI (pvI 1) pa_nilI))))))), ?_⟩
 cases d with
 | sh q =>
   obtain rfl : k0 = "share" := hk
   walk_at "rd"
   exact .inl ⟨q, rfl, ho, fun v H' s' hv => k v H' s' hv⟩
 | pt p =>
   obtain rfl : k0 = "point" := hk
   walk_at "rd"
   exact ⟨ho, fun v H' s' hv => k v H' s' hv⟩
 | nm s =>
   rcases (show k0 = "name" ∨ k0 = "new" from hk) with rfl | rfl
   · walk_at "rd"
     exact ⟨ho, fun H' s' => k _ H' s' rfl⟩
   · walk_at "rd"
     exact ⟨ho, fun H' s' => k _ H' s' rfl⟩
theorem ok_read_row (F : FunAt K mg "read_row" s_read_row ["row"]) (B : Blt mg) (D_kinds_behind : DefOk P w K mg base CX0 1 "kinds_behind" ["first", "many"] spKinds) (D_read_word : DefOk P w K mg base CX0 5 "read_word" ["kind", "word"] spWord) : DefOk P w K mg base CX0 6 "read_row" ["row"] spRow := by
 refine def_okI F sc_read_row (fun vs H Q E h => ?_) (fun f cdv A outer s H vs Q E hr h => ?_)
 · obtain ⟨first, ds, ks, rfl, _⟩ := h; rfl
 obtain ⟨first, ds, ks, rfl, hb, hf, hK, h13, hO, k⟩ := h
 have hu := hr.units
 refine ⟨_, (pss_consI (ps_ifI (pt_notI (pt_valI (pe_callBI (call_isiK K) (by rfl) B.isinstance PyProof.Rows.boot_isinstance (pa_consI (pvI 0) (pa_consI (pe_bltnI (v := .ty "str") rfl B.str PyProof.Rows.boot_str rfl) pa_nilI))))) (pss_oneI ps_neverI) pss_nilI) (pss_consI (ps_asgI (show PEi _ _ (tBM K _ _ _ _) from (pe_bmI PySem.F.plainAttrs_str PySem.F.slot_str_split PySem.F.type_str_split mt_split (pvI 0) (pa_consI pe_strI pa_nilI))) (pg_starI K rfl (pgs_consI (pg_nameI (i := 1) sc_read_row.nd rfl (Or.inl rfl)) (pgs_starI (pg_nameI (i := 2) sc_read_row.nd rfl (Or.inl rfl)) pgs_nilI)))) (pss_consI (ps_setI (i := 3) sc_read_row.nd rfl (Or.inl rfl) (pe_fnI D_kinds_behind hr pass0 (pa_consI (pvI 1) (pa_consI (pe_callBI (call_lenK K) (by rfl) B.len PySem.boot_len (pa_consI (pvI 2) pa_nilI)) pa_nilI)))) (pss_oneI (ps_retI (pe_tupI (pa_consI (pvI 1) (pa_consI (pvI 3) (pa_consI (pe_compSI (os := ["kind", "word"]) (caps := []) ["row", "first", "words", "kinds"] (defScope s_read_row) (show PIi _ _ _ (iZip K _) from (pi_zipI rfl B.zip (pa_consI (pvI 3) (pa_consI (pvI 2) pa_nilI)))) (fun _ _ _ _ _ => (pg_tupKI (n := 2) K rfl (pgs_consI (pg_nameI (i := 0) (show List.Nodup (["kind", "word"] : List Str) from by decide +kernel) rfl (Or.inl rfl)) (pgs_consI (pg_nameI (i := 1) (show List.Nodup (["kind", "word"] : List Str) from by decide +kernel) rfl (Or.inl rfl)) pgs_nilI)))) (fun _ _ _ _ _ => (pe_fnI D_read_word hr pass0 (pa_consI (pvI 0) (pa_consI (pvI 1) pa_nilI)))) (by decide +kernel)) pa_nilI))))))))), ?_⟩
 have hne : ∀ t ∈ first :: ds.map Wd.tx, 32 ∉ cp t := fun t ht => by
   rcases List.mem_cons.mp ht with rfl | ht
   · exact hb
   · obtain ⟨d, hd, rfl⟩ := List.mem_map.mp ht
     obtain ⟨i, hi, e⟩ := List.getElem_of_mem hd
     have e1 : ds[i]? = some d := by rw [List.getElem?_eq_getElem hi, e]
     have e2 : ks[i]? = some (ks[i]'(by rw [hO.1]; exact hi)) := List.getElem?_eq_getElem _
     exact Wd.nb (hO.2 i _ d e2 e1).2
 have hln : ∀ t ∈ first :: ds.map Wd.tx, t.length ≤ 1000 := fun t ht => by
   rcases List.mem_cons.mp ht with rfl | ht
   · omega
   · obtain ⟨d, hd, rfl⟩ := List.mem_map.mp ht
     obtain ⟨i, hi, e⟩ := List.getElem_of_mem hd
     have e1 : ds[i]? = some d := by rw [List.getElem?_eq_getElem hi, e]
     have e2 : ks[i]? = some (ks[i]'(by rw [hO.1]; exact hi)) := List.getElem?_eq_getElem _
     exact Nat.le_trans (Wd.ln (hO.2 i _ d e2 e1).2) (by decide)
 have ln : (rowT first ds).length ≤ 50000 := by
   have := join_ln (sep := " ") (ts := first :: ds.map Wd.tx) (B := 1000) hln
   have e : (" " : Str).length = 1 := rfl
   rw [e, List.length_cons, List.length_map] at this
   unfold rowT
   have : (ds.length + 1) * 1000 + (ds.length + 1) * 1 ≤ 50000 := by omega
   omega
 have hsp : Txt.split (rowT first ds) " " = first :: ds.map Wd.tx := split_of (sepS (c := 32) rfl) kBl (by simp) hne rfl
 walk_at "rd"
 refine ⟨_, "str", _, _, rfl, TyOf.str _, kit_ss _, _, rfl, ?_⟩
 walk_at "rd"
 refine ⟨ln, fun g1 hg1 => ?_⟩
 rw [hsp] at *
 have v1 := Same.new (o := .lst ((first :: ds.map Wd.tx).map V.str)) hg1
 have k1 := upd_same (H := H) (a := g1) (o := .lst ((first :: ds.map Wd.tx).map V.str))
 generalize upd H g1 (.lst ((first :: ds.map Wd.tx).map V.str)) = H1 at *
 refine ⟨g1, .str first, (ds.map Wd.tx).map V.str, rfl, SqL.of k1, by rw [List.length_map, List.length_map]; omega, fun g2 hg2 => ?_⟩
 have v2 := Same.new (o := .lst ((ds.map Wd.tx).map V.str)) hg2
 have k2 := upd_same (H := H1) (a := g2) (o := .lst ((ds.map Wd.tx).map V.str))
 generalize upd H1 g2 (.lst ((ds.map Wd.tx).map V.str)) = H2 at *
 refine ⟨_, _, rfl, _, _, rfl, rfl, ?_⟩
 walk_at "rd"
 refine ⟨first, ds.length, ks, by rw [List.length_map, List.length_map], hK, by omega, fun lk H3 s3 hlk0 hlk => ?_⟩
 have k2' := s3 _ _ k2
 walk_at "rd"
 refine ⟨_, _, rfl, ⟨_, SqL.of hlk⟩, ⟨_, SqL.of k2'⟩, comp2 (plain_zip (SqL.of hlk) (SqL.of k2')) (by simp only [List.length_map]; omega) (fun i v H => ∀ d, ds[i]? = some d → d.Is H v) (fun _ _ _ _ tt h d e => (h d e).tup tt) (fun i H4 kk hi s4 hk => ?_) (fun lt us H4 hlt0 s4 hlt hul hr => ?_)⟩
 · simp only [List.length_map] at hi
   have hi1 : i < ds.length := by omega
   have hi2 : i < ks.length := by omega
   have e1 : ds[i]? = some (ds[i]'hi1) := List.getElem?_eq_getElem _
   have e2 : ks[i]? = some (ks[i]'hi2) := List.getElem?_eq_getElem _
   have e3 : (((ks.map V.str)[i]?).getD .non) = .str (ks[i]'hi2) := by rw [List.getElem?_map, e2]; rfl
   have e4 : ((((ds.map Wd.tx).map V.str)[i]?).getD .non) = .str (ds[i]'hi1).tx := by rw [List.getElem?_map, List.getElem?_map, e1]; rfl
   rw [e3, e4]
   obtain ⟨o1, o2⟩ := hO.2 i _ _ e2 e1
   walk_at "rd"
   refine ⟨_, _, rfl, o1, o2, fun v H5 s5 hv => hk v H5 s5 fun d ed => ?_⟩
   rw [e1] at ed; cases ed; exact hv
 simp only [List.length_map] at hul
 walk_at "rd"
 intro gt hgt
 have vt := Same.new (o := .tup [.str first, .ref lk, .ref lt]) hgt
 exact k gt lk lt us _ ((((v1.trans v2).trans s3).trans s4).trans vt) upd_same (vt _ _ (s4 _ _ hlk)) (vt _ _ hlt) ⟨by rw [hul, hO.1]; omega, fun i v d e1 e2 => (hr i v e1 d e2).same vt⟩
theorem ok_common_bottoms (F : FunAt K mg "common_bottoms" s_common_bottoms ["shares"]) (D_greatest_common : DefOk P w K mg base CX0 1 "greatest_common" ["one", "other"] spGcd) : DefOk P w K mg base CX0 2 "common_bottoms" ["shares"] (spCommon K) := by
 refine def_okI F sc_common_bottoms (fun vs H Q E h => ?_) (fun f cdv A outer s H vs Q E hr h => ?_)
 · obtain ⟨a, ws, qs, D, rfl, _⟩ := h; rfl
 obtain ⟨a, ws, qs, D, rfl, hS, hQ, hD, zD, hdv, h40, k⟩ := h
 have hu := hr.units
 refine ⟨_, (pss_consI (ps_setI (i := 1) sc_common_bottoms.nd rfl (Or.inl rfl) (pe_lstI pa_nilI)) (pss_consI (ps_setI (i := 2) sc_common_bottoms.nd rfl (Or.inl rfl) pe_intI) (pss_consI (ps_forI PassesOwn.never rfl (pi_listKI K (pvI 0)) (pg_nameI (i := 3) sc_common_bottoms.nd rfl (Or.inl rfl)) (pss_consI (ps_setI (i := 4) sc_common_bottoms.nd rfl (Or.inl rfl) (pe_opI op_fdivB (pe_ixI (ix_tupK K) (pvI 3) pe_intI (fun _ _ => rfl)) (pe_fnI D_greatest_common hr pass0 (pa_consI (pvI 2) (pa_consI (pe_ixI (ix_tupK K) (pvI 3) pe_intI (fun _ _ => rfl)) pa_nilI))))) (pss_oneI (ps_ifI (pt_cmpRI op_gt (pvI 4) pe_intI (nomark _)) (pss_consI (ps_exprI (show PEi _ _ (tBM K _ _ _ _) from (pe_bmI PySem.F.plainAttrs_list PySem.F.slot_list_append PySem.F.type_list_append mt_append (pvI 1) (pa_consI (pvI 4) pa_nilI)))) (pss_oneI (ps_setI (i := 2) sc_common_bottoms.nd rfl (Or.inl rfl) (pe_opI op_mulA (pvI 2) (pvI 4))))) pss_nilI)))) (pss_oneI (ps_retI (pvI 1)))))), ?_⟩
 walk_at "rd"
 intro l hl
 walk_at "rd"
 refine ⟨⟨ws, by walk_at "mv"⟩, for_list (xs := ws) (fun i σ H' => ∃ (y1 y2 : Option V) (W : Int) (bs : List Int), σ = [some (.ref a), some (.ref l), some (.int W), y1, y2] ∧ W = prodI bs ∧ Same H H' ∧ H' l = some (.lst (bs.map V.int)) ∧ (∀ b ∈ bs, 0 < b ∧ Sz 9000 b) ∧ W ∣ D ∧ (∀ j q, j < i → qs[j]? = some q → (q.den : Int) ∣ W) ∧ bs.length ≤ i)
   ⟨none, none, 1, [], rfl, rfl, Same.new hl, upd_same, (fun _ h => nomatch h), ⟨D, by rw [Int.one_mul]⟩, fun j q h => absurd h (Nat.not_lt_zero _), Nat.le_refl _⟩ ?_ ?_ ?_⟩
 · rintro i σ H' hi ⟨y1, y2, W, bs, rfl, eW, s1, h1, hb, hW, hq, hn⟩
   exact s1.seq hS
 · rintro i x σ H' hx ⟨y1, y2, W, bs, rfl, eW, s1, h1, hb, hW, hq, hn⟩
   have hi : i < ws.length := (List.getElem?_eq_some_iff.mp hx).1
   have hwl := hQ.len
   obtain ⟨q, eq, c, rfl, hc⟩ := (hQ.same s1).atV hx
   have hdq := hdv q (List.mem_of_getElem? eq)
   have hd0 : 0 < (q.den : Int) := by have := q.den_pos; omega
   obtain ⟨g1, g2, g3, g4, g5⟩ := lcm_step hd0 hW hdq
   have zq : Sz 9000 (q.den : Int) := sz_dvd (by omega) hdq zD
   have zg : Sz 9000 (Int.gcd W q.den : Int) := sz_dvd (by omega) g5 zq
   walk_at "rd"
   refine ⟨W, q.den, rfl, ?_⟩
   refine ⟨_, _, rfl, rfl, ⟨by omega, zg⟩, ?_⟩
   walk_at "rd"
   have zW : Sz 9000 W := sz_dvd (by omega) hW zD
   have zm : Sz 9000 ((q.den : Int).fdiv (Int.gcd W q.den)) := quo_sz hd0 g4 g5 zq
   refine ite_dec (fun hm => ?_) (fun hm => ?_)
   · walk_at "rd"
     refine ⟨.inl ⟨rfl, _, SqL.of h1⟩, ?_⟩
     walk_at "rd"
     refine ⟨l, _, _, rfl, rfl, h1, small_line (by rw [List.length_map]; omega), ?_⟩
     walk_at "rd"
     refine ⟨_, _, _, bs ++ [(q.den : Int).fdiv (Int.gcd W q.den)], rfl, by rw [prodI_snoc, eW], fun b o e => ?_, ?_, ?_, g2, ?_, ?_⟩
     · rw [upd_ne (ne_of_none e hl)]; exact s1 b o e
     · rw [upd_same, List.map_append]; rfl
     · intro b hb'
       rcases List.mem_append.mp hb' with h | h
       · exact hb b h
       · rw [List.mem_singleton.mp h]; exact ⟨g3, zm⟩
     · intro j r hj er
       by_cases hji : j = i
       · subst hji
         rw [eq] at er; cases er
         exact g1
       · exact Int.dvd_trans (hq j r (by omega) er) ⟨_, rfl⟩
     · rw [List.length_append]; show bs.length + 1 ≤ i + 1; omega
   · have e1 : (q.den : Int).fdiv (Int.gcd W q.den) = 1 := by omega
     rw [e1, Int.mul_one] at g1
     refine ⟨_, _, _, bs, rfl, eW, s1, h1, hb, hW, ?_, by omega⟩
     intro j r hj er
     by_cases hji : j = i
     · subst hji
       rw [eq] at er; cases er
       exact g1
     · exact hq j r (by omega) er
 · rintro σ H' ⟨y1, y2, W, bs, rfl, eW, s1, h1, hb, hW, hq, hn⟩
   have hwl := hQ.len
   refine ⟨_, rfl, k l bs H' s1 h1 hb (fun q hm => ?_) (eW ▸ hW) (by omega)⟩
   obtain ⟨j, hj, rfl⟩ := List.getElem_of_mem hm
   rw [← eW]
   exact hq j _ (by omega) (List.getElem?_eq_getElem hj)
theorem ok_product (F : FunAt K mg "product" s_product ["numbers"]) : DefOk P w K mg base CX0 1 "product" ["numbers"] (spProduct K) := by
 refine def_okI F sc_product (fun vs H Q E h => ?_) (fun f cdv A outer s H vs Q E hr h => ?_)
 · obtain ⟨a, bs, rfl, _⟩ := h; rfl
 obtain ⟨a, bs, rfl, hS, hb, hn, k⟩ := h
 have hu := hr.units
 refine ⟨_, (pss_consI (ps_setI (i := 1) sc_product.nd rfl (Or.inl rfl) pe_intI) (pss_consI (ps_forI PassesOwn.never rfl (pi_listKI K (pvI 0)) (pg_nameI (i := 2) sc_product.nd rfl (Or.inl rfl)) (pss_oneI (ps_setI (i := 1) sc_product.nd rfl (Or.inl rfl) (pe_opI op_mulA (pvI 1) (pvI 2))))) (pss_oneI (ps_retI (pvI 1))))), ?_⟩
 walk_at "rd"
 refine ⟨⟨_, hS⟩, for_list (xs := bs.map V.int) (fun i σ H' => ∃ (y : Option V) (W : Int), σ = [some (.ref a), some (.int W), y] ∧ W = prodI (bs.take i) ∧ H' = H) ⟨none, 1, rfl, rfl, rfl⟩ ?_ ?_ ?_⟩
 · rintro i σ H' hi ⟨y, W, rfl, eW, rfl⟩
   exact hS
 · rintro i x σ H' hx ⟨y, W, rfl, eW, rfl⟩
   obtain ⟨b, eb, rfl⟩ := ints_at hx
   have zW : Sz (9000 * 100 + 1) W := by
     rw [eW]
     exact (prod_sz fun c hc => hb c (List.mem_of_mem_take hc)).mono (by rw [List.length_take]; omega)
   walk_at "rd"
   refine ⟨mulB zW (hb b (List.mem_of_getElem? eb)).2, _, _, rfl, ?_, rfl⟩
   rw [take_snoc eb, prodI_snoc, eW]
 · rintro σ H' ⟨y, W, rfl, eW, rfl⟩
   refine ⟨_, rfl, ?_⟩
   rw [List.length_map, List.take_length] at eW
   rw [eW]; exact k
theorem ok_axis (F : FunAt K mg "axis" s_axis ["shares"]) (D_common_bottoms : DefOk P w K mg base CX0 2 "common_bottoms" ["shares"] (spCommon K)) (D_product : DefOk P w K mg base CX0 1 "product" ["numbers"] (spProduct K)) : DefOk P w K mg base CX0 3 "axis" ["shares"] (spAxis K) := by
 refine def_okI F sc_axis (fun vs H Q E h => ?_) (fun f cdv A outer s H vs Q E hr h => ?_)
 · obtain ⟨a, ws, qs, D, m, rfl, _⟩ := h; rfl
 obtain ⟨a, ws, qs, D, m, rfl, hS, hQ, hD, zD, hdv, hm, h40, k⟩ := h
 have hu := hr.units
 refine ⟨_, (pss_consI (ps_setI (i := 1) sc_axis.nd rfl (Or.inl rfl) (pe_fnI D_common_bottoms hr pass0 (pa_consI (pvI 0) pa_nilI))) (pss_consI (ps_setI (i := 2) sc_axis.nd rfl (Or.inr rfl) (pe_fnI D_product hr pass0 (pa_consI (pvI 1) pa_nilI))) (pss_oneI (ps_retI (pe_tupI (pa_consI (pe_compSI (os := ["one"]) (caps := [(2, "whole")]) ["shares", "bottoms", "whole"] (defScope s_axis) (pi_listKI K (pvI 0)) (fun _ _ _ _ _ => (pg_nameI (i := 0) (show List.Nodup (["one", "whole"] : List Str) from by decide +kernel) rfl (Or.inl rfl))) (fun _ _ _ _ _ => (pe_opI op_mulA (pe_ixI (ix_tupK K) (pvI 0) pe_intI (fun _ _ => rfl)) (pe_opI op_fdivB (pvI 1) (pe_ixI (ix_tupK K) (pvI 0) pe_intI (fun _ _ => rfl))))) (by decide +kernel)) (pa_consI (pvI 1) pa_nilI))))))), ?_⟩
 walk_at "rd"
 refine ⟨a, ws, qs, D, rfl, hS, hQ, hD, zD, fun q hq => (hdv q hq).1, h40, fun lb bs H1 s1 hlb hb hdb hbD hbl => ?_⟩
 have hW : 0 < prodI bs := prodI_pos fun b hb' => (hb b hb').1
 have zW : Sz 9000 (prodI bs) := sz_dvd (by omega) hbD zD
 have hwl := hQ.len
 walk_at "rd"
 refine ⟨lb, bs, rfl, SqL.of hlb, hb, by omega, ?_⟩
 walk_at "rd"
 refine ⟨⟨_, s1.seq hS⟩, comp1 (plain_list (s1.seq hS)) (by omega) (fun i v _ => ∀ q, qs[i]? = some q → v = .int (q.num * (prodI bs).fdiv q.den)) (fun _ _ _ _ _ h => h) (fun i H2 kk hi s2 hk => ?_) (fun E2 ys H2 hE s2 hE2 hl hr => ?_)⟩
 · have ew : ws[i]? = some ws[i] := List.getElem?_eq_getElem hi
   obtain ⟨q, eq, c, ec, hc⟩ := ((hQ.same s1).same s2).atV ew
   have ef : (ws[i]?).getD V.non = .ref c := by rw [ew]; exact ec
   obtain ⟨dq, bq⟩ := hdv q (List.mem_of_getElem? eq)
   have hd0 : 0 < (q.den : Int) := by have := q.den_pos; omega
   have zq : Sz 9000 (q.den : Int) := sz_dvd (by omega) dq zD
   have dW := hdb q (List.mem_of_getElem? eq)
   have zf : Sz 9000 ((prodI bs).fdiv q.den) := quo_sz hW hd0 dW zW
   rw [ef]
   walk_at "rd"
   refine ⟨⟨by omega, zq⟩, ?_⟩
   refine ⟨_, _, rfl, rfl, mulN bq.num zf (by omega), ?_⟩
   refine hk _ _ (L2.Same.refl _) fun q' e' => ?_
   rw [eq] at e'; cases e'
   rfl
 · walk_at "rd"
   intro p hp
   have ey := ints_of (by omega) hr
   refine k _ (qs.map fun q => q.num * (prodI bs).fdiv q.den) bs _ (by walk_at "sm") ⟨p, E2, lb, rfl, upd_same, ?_, ?_, ?_, hb, by omega, by rw [List.length_map]; omega⟩ (axR_tops hW hdb) hbl
   · rw [← ey]; exact upd_keep hp hE2
   · exact upd_keep hp (s2 _ _ hlb)
   · intro x hx
     obtain ⟨q, hq, rfl⟩ := List.mem_map.mp hx
     obtain ⟨dq, bq⟩ := hdv q hq
     exact (bq.num.mul (quo_sz hW (by have := q.den_pos; omega) (hdb q hq) zW)).mono (by omega)
theorem ok_axes (F : FunAt K mg "axes" s_axes ["points"]) (D_axis : DefOk P w K mg base CX0 3 "axis" ["shares"] (spAxis K)) : DefOk P w K mg base CX0 4 "axes" ["points"] (spAxes K) := by
 refine def_okI F sc_axes (fun vs H Q E h => ?_) (fun f cdv A outer s H vs Q E hr h => ?_)
 · obtain ⟨a, ws, ps, D, m, rfl, _⟩ := h; rfl
 obtain ⟨a, ws, ps, D, m, rfl, hS, hP, hD, zD, hdv, hm, h40, k⟩ := h
 have hu := hr.units
 refine ⟨_, (pss_oneI (ps_retI (pe_tupI (pa_consI (pe_fnI D_axis hr pass0 (pa_consI (pe_compSI (os := ["place"]) (caps := []) ["points"] (defScope s_axes) (pi_listKI K (pvI 0)) (fun _ _ _ _ _ => (pg_nameI (i := 0) (show List.Nodup (["place"] : List Str) from by decide +kernel) rfl (Or.inl rfl))) (fun _ _ _ _ _ => (pe_ixI (ix_tupK K) (pvI 0) pe_intI (fun _ _ => rfl))) (by decide +kernel)) pa_nilI)) (pa_consI (pe_fnI D_axis hr pass0 (pa_consI (pe_compSI (os := ["place"]) (caps := []) ["points"] (defScope s_axes) (pi_listKI K (pvI 0)) (fun _ _ _ _ _ => (pg_nameI (i := 0) (show List.Nodup (["place"] : List Str) from by decide +kernel) rfl (Or.inl rfl))) (fun _ _ _ _ _ => (pe_ixI (ix_tupK K) (pvI 0) pe_intI (fun _ _ => rfl))) (by decide +kernel)) pa_nilI)) pa_nilI))))), ?_⟩
 have hwl := hP.len
 walk_at "rd"
 refine ⟨⟨ws, by walk_at "mv"⟩, comp1 (plain_list (by walk_at "mv" : SqL K _ a ws)) (by omega) (fun i v H => ∀ p, ps[i]? = some p → ShV H v p.1) (fun _ _ _ _ t h p e => (h p e).tup t) (fun i H2 kk hi s2 hk => ?_) (fun E2 ys2 H2 hE2 s2 hE'2 hl2 hr2 => ?_)⟩
 · have ew : ws[i]? = some ws[i] := List.getElem?_eq_getElem hi
   obtain ⟨p, ep, c, vx, vy, ec, hc, hx, hy⟩ := (show PtsV H2 ws ps by walk_at "mv").atV ew
   have ef : (ws[i]?).getD V.non = .ref c := by rw [ew]; exact ec
   rw [ef]
   walk_at "rd"
   refine hk _ _ (L2.Same.refl _) fun p' e' => ?_
   rw [ep] at e'; cases e'
   assumption
 have hq2 : ShL H2 ys2 (ps.map (·.1)) := ShL.map (by omega) hr2
 clear hr2
 refine ⟨E2, ys2, ps.map (·.1), D, m, rfl, SqL.of hE'2, hq2, hD, zD, fun q hq => ?_, hm, by rw [List.length_map]; omega, fun v3 t3 b3 H3 s3 A3 e3 n3 => ?_⟩
 · obtain ⟨p, hp, rfl⟩ := List.mem_map.mp hq
   exact (hdv p hp).1
 rw [List.length_map] at n3
 walk_at "rd"
 refine ⟨⟨ws, by walk_at "mv"⟩, comp1 (plain_list (by walk_at "mv" : SqL K _ a ws)) (by omega) (fun i v H => ∀ p, ps[i]? = some p → ShV H v p.2) (fun _ _ _ _ t h p e => (h p e).tup t) (fun i H4 kk hi s4 hk => ?_) (fun E4 ys4 H4 hE4 s4 hE'4 hl4 hr4 => ?_)⟩
 · have ew : ws[i]? = some ws[i] := List.getElem?_eq_getElem hi
   obtain ⟨p, ep, c, vx, vy, ec, hc, hx, hy⟩ := (show PtsV H4 ws ps by walk_at "mv").atV ew
   have ef : (ws[i]?).getD V.non = .ref c := by rw [ew]; exact ec
   rw [ef]
   walk_at "rd"
   refine hk _ _ (L2.Same.refl _) fun p' e' => ?_
   rw [ep] at e'; cases e'
   assumption
 have hq4 : ShL H4 ys4 (ps.map (·.2)) := ShL.map (by omega) hr4
 clear hr4
 refine ⟨E4, ys4, ps.map (·.2), D, m, rfl, SqL.of hE'4, hq4, hD, zD, fun q hq => ?_, hm, by rw [List.length_map]; omega, fun v5 t5 b5 H5 s5 A5 e5 n5 => ?_⟩
 · obtain ⟨p, hp, rfl⟩ := List.mem_map.mp hq
   exact (hdv p hp).2
 rw [List.length_map] at n5
 walk_at "rd"
 intro c hc
 exact k c v3 v5 t3 b3 t5 b5 _ (by walk_at "sm") upd_same (by walk_at "mv") (by walk_at "mv") e3 e5 n3 n5
theorem ok_both_ends (F : FunAt K mg "both_ends" s_both_ends ["one"]) (B : Blt mg) : DefOk P w K mg base CX0 1 "both_ends" ["one"] spEnds := by
 refine def_okI F sc_both_ends (fun vs H Q E h => ?_) (fun f cdv A outer s H vs Q E hr h => ?_)
 · obtain ⟨x, n, tops, bs, rfl, _⟩ := h; rfl
 obtain ⟨_, n, tops, bs, rfl, ⟨a1, lt, lb, rfl, h1, ht, hb, z1, g1, n1, m1⟩, h0, k⟩ := h
 have hu := hr.units
 refine ⟨_, (pss_consI (ps_asgI (pvI 0) (pg_tupKI (n := 2) K rfl (pgs_consI (pg_nameI (i := 1) sc_both_ends.nd rfl (Or.inl rfl)) (pgs_consI (pg_nameI (i := 2) sc_both_ends.nd rfl (Or.inl rfl)) pgs_nilI)))) (pss_oneI (ps_retI (pe_tupI (pa_consI (pe_lstI (pa_consI (pe_callBI (call_minL rfl) (by rfl) B.min PyProof.Rows.boot_min (pa_consI (pvI 1) pa_nilI)) (pa_consI (pe_callBI (call_maxL rfl) (by rfl) B.max PyProof.Rows.boot_max (pa_consI (pvI 1) pa_nilI)) pa_nilI))) (pa_consI (pvI 2) pa_nilI)))))), ?_⟩
 walk_at "rd"
 refine ⟨a1, _, rfl, SqT.of h1, rfl, _, _, rfl, _, _, rfl, rfl, ?_⟩
 walk_at "rd"
 refine ⟨lt, tops, rfl, SqL.of ht, h0, fun M hM hM2 => ?_⟩
 walk_at "rd"
 refine ⟨lt, tops, rfl, SqL.of ht, h0, fun N hN hN2 => ?_⟩
 walk_at "rd"
 intro l hl
 walk_at "rd"
 intro c hc
 refine k _ M N _ (by walk_at "sm") ⟨c, l, lb, rfl, upd_same, by walk_at "hf", by walk_at "hf", ?_, g1, n1, by show 2 ≤ 1000; decide⟩ hM hN hM2 hN2
 intro x hx
 rcases List.mem_cons.mp hx with rfl | hx
 · exact z1 _ hM
 · rw [List.mem_singleton.mp hx]; exact z1 _ hN
theorem ok_share_over (F : FunAt K mg "share_over" s_share_over ["top", "bottoms"]) (D_greatest_common : DefOk P w K mg base CX0 1 "greatest_common" ["one", "other"] spGcd) : DefOk P w K mg base CX0 2 "share_over" ["top", "bottoms"] (spOverAll K) := by
 refine def_okI F sc_share_over (fun vs H Q E h => ?_) (fun f cdv A outer s H vs Q E hr h => ?_)
 · obtain ⟨top, a, bs, rfl, _⟩ := h; rfl
 obtain ⟨top, a, bs, rfl, hS, hb, hn, k⟩ := h
 have hu := hr.units
 refine ⟨_, (pss_consI (ps_setI (i := 2) sc_share_over.nd rfl (Or.inl rfl) pe_intI) (pss_consI (ps_forI PassesOwn.never rfl (pi_listKI K (pvI 1)) (pg_nameI (i := 3) sc_share_over.nd rfl (Or.inl rfl)) (pss_consI (ps_setI (i := 4) sc_share_over.nd rfl (Or.inl rfl) (pe_fnI D_greatest_common hr pass0 (pa_consI (pvI 0) (pa_consI (pvI 3) pa_nilI)))) (pss_oneI (ps_parI (i := 0) (j := 2) rfl sc_share_over.nd rfl rfl (by decide) rfl rfl (pa_consI (pe_opI op_fdivB (pvI 0) (pvI 4)) (pa_consI (pe_opI op_mulA (pvI 2) (pe_opI op_fdivB (pvI 3) (pvI 4))) pa_nilI)) rfl)))) (pss_oneI (ps_retI (pe_tupI (pa_consI (pvI 0) (pa_consI (pvI 2) pa_nilI))))))), ?_⟩
 walk_at "rd"
 refine ⟨⟨_, hS⟩, for_list (xs := bs.map V.int) (fun i σ H' => ∃ (y1 y2 : Option V) (T B : Int), σ = [some (.int T), some (.ref a), some (.int B), y1, y2] ∧ 0 < B ∧ Int.gcd T B = 1 ∧ T * prodI (bs.take i) = top * B ∧ Sz (9000 * i + 1) B ∧ H' = H) ⟨none, none, top, 1, rfl, by decide, by simp, by simp [prodI], ⟨by decide⟩, rfl⟩ ?_ ?_ ?_⟩
 · rintro i σ H' hi ⟨y1, y2, T, B, rfl, hB, hg, he, hz, rfl⟩
   exact hS
 · rintro i x σ H' hx ⟨y1, y2, T, B, rfl, hB, hg, he, hz, rfl⟩
   obtain ⟨b, eb, rfl⟩ := ints_at hx
   have hi : i < bs.length := (List.getElem?_eq_some_iff.mp eb).1
   obtain ⟨b0, zb⟩ := hb b (List.mem_of_getElem? eb)
   obtain ⟨g1, g2, g3, g4, g5⟩ := over_step b0 hB hg
   have zg : Sz 9000 (Int.gcd T b : Int) := sz_dvd (by omega) g5 zb
   have zq : Sz 9000 (b.fdiv (Int.gcd T b)) := quo_sz b0 g4 g5 zb
   walk_at "rd"
   refine ⟨T, b, rfl, ?_⟩
   walk_at "rd"
   refine ⟨⟨by omega, zg⟩, ?_⟩
   walk_at "rd"
   refine ⟨⟨by omega, zg⟩, ?_⟩
   refine ⟨_, _, rfl, rfl, mulN hz zq (by omega), ?_⟩
   refine ⟨_, _, rfl, _, _, _, _, rfl, g2, g1, ?_, (hz.mul zq).mono (by omega), rfl⟩
   rw [take_snoc eb, prodI_snoc]
   have e1 : T.fdiv (Int.gcd T b) * (prodI (bs.take i) * b) = (T.fdiv (Int.gcd T b) * b) * prodI (bs.take i) := by grind
   rw [e1, g3]
   have e2 : T * b.fdiv (Int.gcd T b) * prodI (bs.take i) = (T * prodI (bs.take i)) * b.fdiv (Int.gcd T b) := by grind
   rw [e2, he]; grind
 · rintro σ H' ⟨y1, y2, T, B, rfl, hB, hg, he, hz, rfl⟩
   rw [List.length_map, List.take_length] at he
   walk_at "rd"
   intro p hp
   have hu := low_unique hB (prodI_pos fun b hb' => (hb b hb').1) hg he
   refine k _ _ (Same.new hp) ⟨p, rfl, ?_⟩
   rw [upd_same, hu.1, hu.2]
theorem ok_points_of (F : FunAt K mg "points_of" s_points_of ["xs", "ys"]) (B : Blt mg) (D_share_over : DefOk P w K mg base CX0 2 "share_over" ["top", "bottoms"] (spOverAll K)) : DefOk P w K mg base CX0 3 "points_of" ["xs", "ys"] spPointsOf := by
 refine def_okI F sc_points_of (fun vs H Q E h => ?_) (fun f cdv A outer s H vs Q E hr h => ?_)
 · obtain ⟨x, y, n, t1, b1, t2, b2, rfl, _⟩ := h; rfl
 obtain ⟨_, _, n, t1, b1, t2, b2, rfl, ⟨a1, lt1, lb1, rfl, h1, ht1, hb1, z1, g1, n1, m1⟩, ⟨a2, lt2, lb2, rfl, h2, ht2, hb2, z2, g2, n2, m2⟩, h12, k⟩ := h
 have hu := hr.units
 refine ⟨_, (pss_oneI (ps_retI (pe_compSI (os := ["x", "y"]) (caps := [(0, "xs"), (1, "ys")]) ["xs", "ys"] (defScope s_points_of) (show PIi _ _ _ (iZip K _) from (pi_zipI rfl B.zip (pa_consI (pe_ixI (ix_tupK K) (pvI 0) pe_intI (fun _ _ => rfl)) (pa_consI (pe_ixI (ix_tupK K) (pvI 1) pe_intI (fun _ _ => rfl)) pa_nilI)))) (fun _ _ _ _ _ => (pg_tupKI (n := 2) K rfl (pgs_consI (pg_nameI (i := 0) (show List.Nodup (["x", "y", "xs", "ys"] : List Str) from by decide +kernel) rfl (Or.inl rfl)) (pgs_consI (pg_nameI (i := 1) (show List.Nodup (["x", "y", "xs", "ys"] : List Str) from by decide +kernel) rfl (Or.inl rfl)) pgs_nilI)))) (fun _ _ _ _ _ => (pe_tupI (pa_consI (pe_fnI D_share_over hr pass0 (pa_consI (pvI 0) (pa_consI (pe_ixI (ix_tupK K) (pvI 2) pe_intI (fun _ _ => rfl)) pa_nilI))) (pa_consI (pe_fnI D_share_over hr pass0 (pa_consI (pvI 1) (pa_consI (pe_ixI (ix_tupK K) (pvI 3) pe_intI (fun _ _ => rfl)) pa_nilI))) pa_nilI)))) (by decide +kernel)))), ?_⟩
 walk_at "rd"
 refine ⟨_, _, rfl, ⟨_, SqL.of ht1⟩, ⟨_, SqL.of ht2⟩, comp2 (plain_zip (SqL.of ht1) (SqL.of ht2)) (by rw [List.length_map, List.length_map]; omega) (fun i v H => ∀ x y, t1[i]? = some x → t2[i]? = some y → PtV H v (Rat.divInt x (prodI b1)) (Rat.divInt y (prodI b2))) (fun _ _ _ _ t h x y e f => (h x y e f).tup t) (fun i H2 kk hi s2 hk => ?_) (fun D us H2 hD s2 hD2 hl hr => ?_)⟩
 · rw [List.length_map, List.length_map] at hi
   have e1 : t1[i]? = some (t1[i]'(by omega)) := List.getElem?_eq_getElem _
   have e2 : t2[i]? = some (t2[i]'(by omega)) := List.getElem?_eq_getElem _
   rw [int_at e1, int_at e2]
   walk_at "rd"
   refine ⟨_, lb1, b1, rfl, SqL.of (by walk_at "hf"), g1, n1, fun v3 H3 s3 w3 => ?_⟩
   walk_at "rd"
   refine ⟨_, lb2, b2, rfl, SqL.of (by walk_at "hf"), g2, n2, fun v4 H4 s4 w4 => ?_⟩
   walk_at "rd"
   intro p hp
   refine hk _ _ (by walk_at "sm") fun x y ex ey => ?_
   rw [e1] at ex; rw [e2] at ey
   cases ex; cases ey
   exact ⟨p, v3, v4, rfl, upd_same, (w3.same s4).same (Same.new hp), w4.same (Same.new hp)⟩
 · rw [List.length_map, List.length_map] at hl
   obtain ⟨ps, q1, q2, q3⟩ := pts_zip (b1 := b1) (b2 := b2) (show us.length = t1.length by omega) h12 hr
   exact k D us ps H2 s2 hD hD2 q1 q2 q3
theorem ok_box (F : FunAt K mg "box" s_box ["points"]) (D_axes : DefOk P w K mg base CX0 4 "axes" ["points"] (spAxes K)) (D_both_ends : DefOk P w K mg base CX0 1 "both_ends" ["one"] spEnds) (D_points_of : DefOk P w K mg base CX0 3 "points_of" ["xs", "ys"] spPointsOf) : DefOk P w K mg base CX0 5 "box" ["points"] (spBox K) := by
 refine def_okI F sc_box (fun vs H Q E h => ?_) (fun f cdv A outer s H vs Q E hr h => ?_)
 · obtain ⟨a, ws, ps, D, m, rfl, _⟩ := h; rfl
 obtain ⟨a, ws, ps, D, m, rfl, hS, hP, hD, zD, hdv, hm, h1, h40, k⟩ := h
 have hu := hr.units
 refine ⟨_, (pss_consI (ps_asgI (pe_fnI D_axes hr pass0 (pa_consI (pvI 0) pa_nilI)) (pg_tupKI (n := 2) K rfl (pgs_consI (pg_nameI (i := 1) sc_box.nd rfl (Or.inl rfl)) (pgs_consI (pg_nameI (i := 2) sc_box.nd rfl (Or.inl rfl)) pgs_nilI)))) (pss_consI (ps_asgI (pe_fnI D_points_of hr pass0 (pa_consI (pe_fnI D_both_ends hr pass0 (pa_consI (pvI 1) pa_nilI)) (pa_consI (pe_fnI D_both_ends hr pass0 (pa_consI (pvI 2) pa_nilI)) pa_nilI))) (pg_lstKI (n := 2) K rfl (pgs_consI (pg_nameI (i := 3) sc_box.nd rfl (Or.inl rfl)) (pgs_consI (pg_nameI (i := 4) sc_box.nd rfl (Or.inl rfl)) pgs_nilI)))) (pss_oneI (ps_retI (pe_opI (op_catTK K) (pvI 3) (pvI 4)))))), ?_⟩
 walk_at "rd"
 refine ⟨a, ws, ps, D, m, rfl, hS, hP, hD, zD, hdv, hm, h40, fun c x y t1 b1 t2 b2 H1 s1 hc A1 A2 e1 e2 n1 n2 => ?_⟩
 refine ⟨c, _, rfl, SqT.of hc, rfl, _, _, rfl, _, _, rfl, rfl, ?_⟩
 have l1 : t1.length = ps.length := by have := congrArg List.length e1; rw [axR_len, List.length_map] at this; exact this
 have l2 : t2.length = ps.length := by have := congrArg List.length e2; rw [axR_len, List.length_map] at this; exact this
 walk_at "rd"
 refine ⟨_, _, t1, b1, rfl, A1, by omega, fun v2 M1 N1 H2 s2 A3 i1 i2 i3 i4 => ?_⟩
 walk_at "rd"
 refine ⟨_, _, t2, b2, rfl, A2.same s2, by omega, fun v3 M2 N2 H3 s3 A4 j1 j2 j3 j4 => ?_⟩
 refine ⟨_, _, _, _, b1, _, b2, rfl, A3.same s3, A4, rfl, fun l us qs H4 s4 hl0 hl hU f1 f2 => ?_⟩
 have hul := hU.len
 have hql : qs.length = 2 := by have := congrArg List.length f1; rw [axR_len, List.length_map] at this; exact this
 obtain ⟨p1, p2, rfl⟩ := len2 hql
 obtain ⟨u1, u2, rfl⟩ := len2 (hul.trans hql)
 obtain ⟨c1, x1, y1, rfl, hc1, wx1, wy1⟩ := hU.get 0 u1 p1 rfl rfl
 obtain ⟨c2, x2, y2, rfl, hc2, wx2, wy2⟩ := hU.get 1 u2 p2 rfl rfl
 refine ⟨l, _, rfl, SqL.of hl, rfl, _, _, rfl, _, _, rfl, rfl, ?_⟩
 have P1 : 0 < prodI b1 := by obtain ⟨_, _, _, _, _, _, _, _, g, _⟩ := A1; exact prodI_pos fun b hb => (g b hb).1
 have P2 : 0 < prodI b2 := by obtain ⟨_, _, _, _, _, _, _, _, g, _⟩ := A2; exact prodI_pos fun b hb => (g b hb).1
 have k1 : p1.1 = Rat.divInt M1 (prodI b1) ∧ p2.1 = Rat.divInt N1 (prodI b1) := by simpa [axR] using f1
 have k2 : p1.2 = Rat.divInt M2 (prodI b2) ∧ p2.2 = Rat.divInt N2 (prodI b2) := by simpa [axR] using f2
 refine ⟨_, rfl, _, rfl, c1, c2, _, _, rfl, rfl, SqT.of hc1, SqT.of hc2, by simp, by show 4 ≤ sizeLine; decide, fun e => absurd e (by simp), fun _ r hr => ?_⟩
 refine k _ _ (by walk_at "sm") ⟨r, x1, y1, x2, y2, _, _, _, _, rfl, upd_same, by walk_at "mv", by walk_at "mv", by walk_at "mv", by walk_at "mv", ?_, ?_, ?_, ?_⟩
 · rw [k1.1, ← e1]; exact least_div P1 i1 i3
 · rw [k2.1, ← e2]; exact least_div P2 j1 j3
 · rw [k1.2, ← e1]; exact great_div P1 i2 i4
 · rw [k2.2, ← e2]; exact great_div P2 j2 j4
theorem ok_show_whole (F : FunAt K mg "show_whole" s_show_whole ["number"]) (B : Blt mg) {A_FORMS A_DEEDS F_keep_curve F_tell_curve F_tell_names F_tell_point F_keep_cut F_keep_stretch F_turn_curve F_raise_curve F_lower_curve F_lower_fully F_keep_speed F_move_curve F_tell_same F_tell_hull F_tell_box F_tell_part F_tell_meet F_tell_join : Addr} {t_MOST_SEATS t_FIGURES t_MOST_FIGURES t_PIECE_FIGURES t_PIECE t_LETTERS t_MOST_LETTERS : Tok} (G : Cst K mg w A_FORMS A_DEEDS F_keep_curve F_tell_curve F_tell_names F_tell_point F_keep_cut F_keep_stretch F_turn_curve F_raise_curve F_lower_curve F_lower_fully F_keep_speed F_move_curve F_tell_same F_tell_hull F_tell_box F_tell_part F_tell_meet F_tell_join t_MOST_SEATS t_FIGURES t_MOST_FIGURES t_PIECE_FIGURES t_PIECE t_LETTERS t_MOST_LETTERS) : DefOk P w K mg base CX0 1 "show_whole" ["number"] spShowN := by
 refine def_okI F sc_show_whole (fun vs H Q E h => ?_) (fun f cdv A outer s H vs Q E hr h => ?_)
 · obtain ⟨n, rfl, _⟩ := h; rfl
 obtain ⟨n, rfl, hn, k⟩ := h
 have hu := hr.units
 refine ⟨_, (pss_consI (ps_parI (i := 1) (j := 2) rfl sc_show_whole.nd rfl rfl (by decide) rfl rfl (pa_consI (pe_callBI call_abs (by rfl) B.abs PyProof.Rows.boot_abs (pa_consI (pvI 0) pa_nilI)) (pa_consI pe_strI pa_nilI)) rfl) (pss_consI (ps_whileI PassesOwn.never (pt_cmpRI op_ge (pvI 1) (pe_globI (v := .int 10000000000000000000000000000000000000000000000000000000000000000) rfl G.PIECE ⟨_, rfl⟩) (nomark _)) (pss_consI (ps_asgI (pe_callBI call_divmodB (by rfl) G.divmod PyProof.Rows.boot_divmod (pa_consI (pvI 1) (pa_consI (pe_globI (v := .int 10000000000000000000000000000000000000000000000000000000000000000) rfl G.PIECE ⟨_, rfl⟩) pa_nilI))) (pg_tupKI (n := 2) K rfl (pgs_consI (pg_nameI (i := 1) sc_show_whole.nd rfl (Or.inl rfl)) (pgs_consI (pg_nameI (i := 3) sc_show_whole.nd rfl (Or.inl rfl)) pgs_nilI)))) (pss_oneI (ps_setI (i := 2) sc_show_whole.nd rfl (Or.inl rfl) (pe_opI op_add_str (show PEi _ _ (tBM K _ _ _ _) from (pe_bmI PySem.F.plainAttrs_str PySem.F.slot_str_zfill PySem.F.type_str_zfill mt_zfill (pe_callTyI call_str_int rfl B.str PyProof.Rows.boot_str (pa_consI (pvI 3) pa_nilI)) (pa_consI (pe_globI (v := .int 64) rfl G.PIECE_FIGURES ⟨_, rfl⟩) pa_nilI))) (pvI 2)))))) (pss_oneI (ps_retI (pe_opI op_add_str (pe_opI op_add_str (pe_ifExpI (pt_cmpRI op_lt (pvI 0) pe_intI (nomark _)) pe_strI pe_strI) (pe_callTyI call_str_int rfl B.str PyProof.Rows.boot_str (pa_consI (pvI 1) pa_nilI))) (pvI 2)))))), ?_⟩
 have pP : (0 : Int) < 10000000000000000000000000000000000000000000000000000000000000000 := by decide
 walk_at "rd"
 refine ⟨_, _, rfl, ?_⟩
 walk_at "rd"
 have l1000 := dg_len (k := 1000) (by decide) hn
 refine while_by (fun σ H' => ∃ (left : Nat) (found : Str) (y : Option V), σ = [some (.int n), some (.int (left : Int)), some (.str found), y] ∧ Same H H' ∧ dg n.natAbs = dg left ++ cp found ∧ (cp found = [] ∨ 0 < left)) (fun σ _ => match σ with | [_, some (.int y), _, _] => y.natAbs | _ => 0) ⟨n.natAbs, "", none, ?_, L2.Same.refl _, ?_, .inl rfl⟩ ?_ ?_
 · have e : (if n < 0 then -n else n) = (n.natAbs : Int) := by split <;> omega
   show [some (V.int n), some (V.int (if n < 0 then -n else n)), some (V.str ""), none] = _
   rw [e]
 · show _ = dg n.natAbs ++ []; simp
 · rintro σ H2 ⟨left, found, y, rfl, s2, hd, hl⟩
   have hfl : found.length ≤ 1000 := by rw [← cp_len]; have := congrArg List.length hd; rw [List.length_append] at this; omega
   refine ⟨_, rfl, _, _, rfl, rfl, _, rfl, ite_dec (fun h0 => ?_) (fun h0 => ?_)⟩
   · walk_at "rd"
     refine ⟨_, _, rfl, ⟨by decide, szP⟩, fun g hg => ?_⟩
     have sg := Same.new (o := .tup [.int ((left : Int) / 10000000000000000000000000000000000000000000000000000000000000000), .int ((left : Int) % 10000000000000000000000000000000000000000000000000000000000000000)]) hg
     have k1 := upd_same (H := H2) (a := g) (o := .tup [.int ((left : Int) / 10000000000000000000000000000000000000000000000000000000000000000), .int ((left : Int) % 10000000000000000000000000000000000000000000000000000000000000000)])
     rw [P64, ← Int.natCast_ediv, ← Int.natCast_emod] at k1 sg ⊢
     have hle : 10 ^ 64 ≤ left := by rw [P64] at h0; exact Int.ofNat_le.mp h0
     have hlt : left % 10 ^ 64 < 10 ^ 64 := Nat.mod_lt _ (by decide)
     have hdv : 0 < left / 10 ^ 64 := Nat.div_pos hle (by decide)
     have hdm := Nat.div_add_mod left (10 ^ 64)
     have hdl : left / 10 ^ 64 < left := Nat.div_lt_self (by omega) (by decide)
     generalize upd H2 g (.tup [.int ((left / 10 ^ 64 : Nat) : Int), .int ((left % 10 ^ 64 : Nat) : Int)]) = H3 at *
     generalize left / 10 ^ 64 = dv at *
     generalize left % 10 ^ 64 = md at *
     refine ⟨g, _, rfl, SqT.of k1, rfl, _, _, rfl, _, _, rfl, rfl, ?_⟩
     walk_at "rd"
     refine ⟨log_small (by rw [Int.natAbs_natCast]; exact Nat.lt_trans hlt (Nat.pow_lt_pow_right (by decide) (by decide))), ?_⟩
     have zc := zf_cp hlt
     have zl : (Txt.zfill (tN (md : Int)) 64).length = 64 := by
       rw [← cp_len, zc, padD_eq 64 md hlt (by decide), List.length_append, List.length_replicate]
       have := dg_len (k := 64) (by decide) hlt
       omega
     refine ⟨rfl, _, _, rfl, rfl, by decide, _, rfl, _, _, rfl, rfl, Nat.le_of_lt (small_line (by show (Txt.zfill (tN (md : Int)) 64).length + found.length ≤ 100000; omega)), ?_⟩
     refine ⟨⟨dv, _, _, rfl, s2.trans sg, ?_, .inr hdv⟩, ?_⟩
     · rw [hd, ← hdm, dg_pow 64 dv md hdv hlt, List.append_assoc]
       show _ = _ ++ cp (Txt.zfill (tN (md : Int)) 64 ++ found)
       rw [cp_app, zc]
     · show ((dv : Int)).natAbs < ((left : Int)).natAbs
       rw [Int.natAbs_natCast, Int.natAbs_natCast]; exact hdl
   · have hlt : left < 10 ^ 64 := by rw [P64] at h0; exact Int.ofNat_lt.mp (Int.not_le.mp h0)
     have hN : cp (tN (left : Int)) = dg left := tN_nat left
     have ltn : (tN (left : Int)).length ≤ 64 := by rw [← cp_len, hN]; exact dg_len (by decide) hlt
     have lg := log_small (i := (left : Int)) (by rw [Int.natAbs_natCast]; exact Nat.lt_trans hlt (Nat.pow_lt_pow_right (by decide) (by decide)))
     walk_at "rd"
     refine ite_dec (fun hneg => ?_) (fun hneg => ?_)
     · refine ⟨_, rfl, _, rfl, lg, _, _, rfl, rfl, Nat.le_of_lt (small_line (by show 1 + (tN (left : Int)).length ≤ 100000; omega)), _, rfl, _, _, rfl, rfl, Nat.le_of_lt (small_line (by rw [len_app]; show 1 + (tN (left : Int)).length + found.length ≤ 100000; omega)), ?_⟩
       have e : ("-" : Str) ++ tN (left : Int) ++ found = tN n := by
         refine cp_ext ?_
         rw [cp_app, cp_app, hN, tN_cp, if_pos hneg, hd]
         rfl
       show Q (.str (("-" : Str) ++ tN (left : Int) ++ found)) H2
       rw [e]
       exact k _ s2
     · refine ⟨_, rfl, _, rfl, lg, _, _, rfl, rfl, Nat.le_of_lt (small_line (by show 0 + (tN (left : Int)).length ≤ 100000; omega)), _, rfl, _, _, rfl, rfl, Nat.le_of_lt (small_line (by rw [len_app]; show 0 + (tN (left : Int)).length + found.length ≤ 100000; omega)), ?_⟩
       have e : ("" : Str) ++ tN (left : Int) ++ found = tN n := by
         refine cp_ext ?_
         rw [cp_app, cp_app, hN, tN_cp, if_neg hneg, hd]
         rfl
       show Q (.str (("" : Str) ++ tN (left : Int) ++ found)) H2
       rw [e]
       exact k _ s2
 · rintro σ H' Q Q' hq ⟨v, h1, i, j, h2, h3, c, h4, h5⟩
   exact ⟨v, h1, i, j, h2, h3, c, h4, hq _ _ h5⟩
theorem ok_show_share (F : FunAt K mg "show_share" s_show_share ["one"]) (D_show_whole : DefOk P w K mg base CX0 1 "show_whole" ["number"] spShowN) : DefOk P w K mg base CX0 2 "show_share" ["one"] spShowS := by
 refine def_okI F sc_show_share (fun vs H Q E h => ?_) (fun f cdv A outer s H vs Q E hr h => ?_)
 · obtain ⟨v, q, rfl, _⟩ := h; rfl
 obtain ⟨_, q, rfl, ⟨a, rfl, ha⟩, hq, k⟩ := h
 have hu := hr.units
 refine ⟨_, (pss_consI (ps_asgI (pvI 0) (pg_tupKI (n := 2) K rfl (pgs_consI (pg_nameI (i := 1) sc_show_share.nd rfl (Or.inl rfl)) (pgs_consI (pg_nameI (i := 2) sc_show_share.nd rfl (Or.inl rfl)) pgs_nilI)))) (pss_oneI (ps_retI (pe_ifExpI (pt_cmpRI op_eq (pvI 2) pe_intI (nomark _)) (pe_fnI D_show_whole hr pass0 (pa_consI (pvI 1) pa_nilI)) (pe_opI op_add_str (pe_opI op_add_str (pe_fnI D_show_whole hr pass0 (pa_consI (pvI 1) pa_nilI)) pe_strI) (pe_fnI D_show_whole hr pass0 (pa_consI (pvI 2) pa_nilI))))))), ?_⟩
 have l1 := tN_ln (k := 1000) (by decide) (show FgN 1000 q.num from hq.1)
 have hdn : FgN 1000 (q.den : Int) := by unfold FgN; rw [Int.natAbs_natCast]; exact hq.2
 have l2 := tN_ln (k := 1000) (by decide) hdn
 walk_at "rd"
 refine ⟨a, _, rfl, SqT.of ha, rfl, _, _, rfl, _, _, rfl, rfl, ?_⟩
 walk_at "rd"
 refine ite_dec (fun h => ?_) (fun h => ?_)
 · have hd1 : q.den = 1 := by exact_mod_cast V.int.inj h
   walk_at "rd"
   refine ⟨hq.1, fun H1 s1 => ?_⟩
   have e : tN q.num = tSh q := (if_pos hd1).symm
   rw [e]
   exact k H1 s1
 · have hd1 : q.den ≠ 1 := fun e => h (by rw [e]; rfl)
   walk_at "rd"
   refine ⟨hq.1, fun H1 s1 => ?_⟩
   refine ⟨_, _, rfl, rfl, Nat.le_of_lt (small_line (by show (tN q.num).length + 1 ≤ 100000; omega)), ?_⟩
   walk_at "rd"
   refine ⟨hdn, fun H2 s2 => ?_⟩
   refine ⟨_, _, rfl, rfl, Nat.le_of_lt (small_line (by rw [len_app]; show (tN q.num).length + 1 + (tN (q.den : Int)).length ≤ 100000; omega)), ?_⟩
   have e : tN q.num ++ "/" ++ tN (q.den : Int) = tSh q := (if_neg hd1).symm
   rw [e]
   exact k H2 (s1.trans s2)
theorem ok_tell_box (F : FunAt K mg "tell_box" s_tell_box ["kept", "things"]) (D_box : DefOk P w K mg base CX0 5 "box" ["points"] (spBox K)) (D_show_share : DefOk P w K mg base CX0 2 "show_share" ["one"] spShowS) : DefOk P w K mg base CX0 6 "tell_box" ["kept", "things"] spTBox := by
 refine def_okI F sc_tell_box (fun vs H Q E h => ?_) (fun f cdv A outer s H vs Q E hr h => ?_)
 · obtain ⟨d, lt, cs, n, ps, D, m, rfl, _⟩ := h; rfl
 obtain ⟨d, lt, cs, n, ps, D, m, rfl, ⟨kvs, hd, hK, hl40⟩, hlt, e, hF, hf, k⟩ := h
 have hu := hr.units
 refine ⟨_, (pss_oneI (ps_retI (show PEi _ _ (tBM K _ _ _ _) from (pe_bmI PySem.F.plainAttrs_str PySem.F.slot_str_join PySem.F.type_str_join (mt_joinK K) pe_strI (pa_consI (pe_compSI (os := ["side"]) (caps := []) ["kept", "things"] (defScope s_tell_box) (pi_tupKI K (pe_fnI D_box hr pass0 (pa_consI (pe_ixI (ix_dict P w K hu) (pvI 0) (pe_ixI (ix_listK K) (pvI 1) pe_intI (fun _ _ => rfl)) (fun _ _ => rfl)) pa_nilI))) (fun _ _ _ _ _ => (pg_nameI (i := 0) (show List.Nodup (["side"] : List Str) from by decide +kernel) rfl (Or.inl rfl))) (fun _ _ _ _ _ => (pe_fnI D_show_share hr pass0 (pa_consI (pvI 0) pa_nilI))) (by decide +kernel)) pa_nilI))))), ?_⟩
 obtain ⟨v, e2, l, ws, rfl, hl, hP⟩ := hK.there e
 walk_at "rd"
 refine ⟨d, _, rfl, .inl (by rw [← e2]; exact DGet.k (k := .inr n) hd), ?_⟩
 refine ⟨l, ws, ps, D, m, rfl, SqL.of hl, hP, hF.pos, hF.sz, hF.dv, hF.m, hF.l1, Nat.le_trans hF.l2 (by decide), fun v H1 s1 hB => ?_⟩
 obtain ⟨a, v1, v2, v3, v4, q1, q2, q3, q4, rfl, h0, b1, b2, b3, b4, r1, r2, r3, r4⟩ := hB
 have fx : ∀ q ∈ ps.map (·.1), Fg 1000 q := fun q hq => by obtain ⟨p, hp, rfl⟩ := List.mem_map.mp hq; exact (hf p hp).1
 have fy : ∀ q ∈ ps.map (·.2), Fg 1000 q := fun q hq => by obtain ⟨p, hp, rfl⟩ := List.mem_map.mp hq; exact (hf p hp).2
 have g1 := fx _ r1.1
 have g2 := fy _ r2.1
 have g3 := fx _ r3.1
 have g4 := fy _ r4.1
 walk_at "rd"
 refine ⟨⟨_, SqT.of h0⟩, comp1 (plain_tup (SqT.of h0)) (by simp) (fun i v H => v = .str (([tSh q1, tSh q2, tSh q3, tSh q4][i]?).getD "")) (fun _ _ _ _ tt h => h) (fun i H2 kk hi s2 hk => ?_) (fun D ys H2 hD s2 hd hl hr => ?_)⟩
 · have hi4 : i < 4 := hi
   have : i = 0 ∨ i = 1 ∨ i = 2 ∨ i = 3 := by omega
   rcases this with rfl | rfl | rfl | rfl
   · walk_at "rd"
     exact ⟨v1, q1, rfl, b1.same s2, g1, fun H3 s3 => hk _ _ s3 rfl⟩
   · walk_at "rd"
     exact ⟨v2, q2, rfl, b2.same s2, g2, fun H3 s3 => hk _ _ s3 rfl⟩
   · walk_at "rd"
     exact ⟨v3, q3, rfl, b3.same s2, g3, fun H3 s3 => hk _ _ s3 rfl⟩
   · walk_at "rd"
     exact ⟨v4, q4, rfl, b4.same s2, g4, fun H3 s3 => hk _ _ s3 rfl⟩
 have ey : ys = [tSh q1, tSh q2, tSh q3, tSh q4].map V.str := by
   refine List.ext_getElem? fun i => ?_
   by_cases hi : i < 4
   · have e1 : ys[i]? = some (ys[i]'(by rw [hl]; exact hi)) := List.getElem?_eq_getElem _
     rw [e1, hr i _ e1]
     have : i = 0 ∨ i = 1 ∨ i = 2 ∨ i = 3 := by omega
     rcases this with rfl | rfl | rfl | rfl <;> rfl
   · rw [List.getElem?_eq_none (by rw [hl]; show 4 ≤ i; omega), List.getElem?_eq_none (by simp; omega)]
 rw [ey] at hd
 walk_at "rd"
 have lq : ∀ {q : Rat}, Fg 1000 q → (tSh q).length ≤ 3000 := fun h => Nat.le_trans (tSh_ln (k := 1000) (by decide) h) (by decide)
 refine ⟨_, D, [tSh q1, tSh q2, tSh q3, tSh q4], rfl, rfl, SqL.of hd, join_ok (B := 3000) (fun t ht => ?_) (by show 4 * 3000 + 4 * 1 ≤ _; decide), ?_⟩
 · simp only [List.mem_cons, List.not_mem_nil, or_false] at ht
   rcases ht with rfl | rfl | rfl | rfl
   · exact lq g1
   · exact lq g2
   · exact lq g3
   · exact lq g4
 rw [txt_join]
 exact k q1 q2 q3 q4 _ (s1.trans s2) r1 r2 r3 r4
theorem ok_show_point (F : FunAt K mg "show_point" s_show_point ["one"]) (D_show_share : DefOk P w K mg base CX0 2 "show_share" ["one"] spShowS) : DefOk P w K mg base CX0 3 "show_point" ["one"] spShowP := by
 refine def_okI F sc_show_point (fun vs H Q E h => ?_) (fun f cdv A outer s H vs Q E hr h => ?_)
 · obtain ⟨v, x, y, rfl, _⟩ := h; rfl
 obtain ⟨_, x, y, rfl, ⟨a, vx, vy, rfl, ha, hx, hy⟩, hq, k⟩ := h
 have hu := hr.units
 refine ⟨_, (pss_oneI (ps_retI (pe_opI op_add_str (pe_opI op_add_str (pe_fnI D_show_share hr pass0 (pa_consI (pe_ixI (ix_tupK K) (pvI 0) pe_intI (fun _ _ => rfl)) pa_nilI)) pe_strI) (pe_fnI D_show_share hr pass0 (pa_consI (pe_ixI (ix_tupK K) (pvI 0) pe_intI (fun _ _ => rfl)) pa_nilI))))), ?_⟩
 have l1 := tSh_ln (k := 1000) (by decide) hq.1
 have l2 := tSh_ln (k := 1000) (by decide) hq.2
 walk_at "rd"
 refine ⟨vx, x, rfl, hx, hq.1, fun H1 s1 => ?_⟩
 have ha1 := s1 _ _ ha
 walk_at "rd"
 refine ⟨Nat.le_of_lt (small_line (by show (tSh x).length + 1 ≤ 100000; dsimp only at l1; omega)), ?_⟩
 walk_at "rd"
 refine ⟨vy, y, rfl, hy.same s1, hq.2, fun H2 s2 => ?_⟩
 refine ⟨_, _, rfl, rfl, Nat.le_of_lt (small_line (by rw [len_app]; show (tSh x).length + 1 + (tSh y).length ≤ 100000; dsimp only at l1 l2; omega)), ?_⟩
 exact k H2 (s1.trans s2)
theorem ok_show_curve (F : FunAt K mg "show_curve" s_show_curve ["curve"]) (D_show_point : DefOk P w K mg base CX0 3 "show_point" ["one"] spShowP) : DefOk P w K mg base CX0 4 "show_curve" ["curve"] spShowC := by
 refine def_okI F sc_show_curve (fun vs H Q E h => ?_) (fun f cdv A outer s H vs Q E hr h => ?_)
 · obtain ⟨a, ws, ps, rfl, _⟩ := h; rfl
 obtain ⟨a, ws, ps, rfl, ha, hP, hq, hn, k⟩ := h
 have hu := hr.units
 refine ⟨_, (pss_oneI (ps_retI (show PEi _ _ (tBM K _ _ _ _) from (pe_bmI PySem.F.plainAttrs_str PySem.F.slot_str_join PySem.F.type_str_join (mt_joinK K) pe_strI (pa_consI (pe_compSI (os := ["seat"]) (caps := []) ["curve"] (defScope s_show_curve) (pi_listKI K (pvI 0)) (fun _ _ _ _ _ => (pg_nameI (i := 0) (show List.Nodup (["seat"] : List Str) from by decide +kernel) rfl (Or.inl rfl))) (fun _ _ _ _ _ => (pe_fnI D_show_point hr pass0 (pa_consI (pvI 0) pa_nilI))) (by decide +kernel)) pa_nilI))))), ?_⟩
 have hwl := hP.len
 refine ⟨rfl, ?_⟩
 walk_at "rd"
 refine ⟨⟨_, SqL.of ha⟩, comp1 (plain_list (SqL.of ha)) (by omega) (fun i v H => ∀ p, ps[i]? = some p → v = .str (tPt p)) (fun _ _ _ _ tt h => h) (fun i H2 kk hi s2 hk => ?_) (fun D ys H2 hD s2 hd hl hr => ?_)⟩
 · have ep : ps[i]? = some (ps[i]'(by omega)) := List.getElem?_eq_getElem _
   obtain ⟨v, ev, gv⟩ := hP.at ep
   rw [ev]
   walk_at "rd"
   refine ⟨v, _, _, rfl, gv.same s2, hq _ (List.mem_of_getElem? ep), fun H3 s3 => ?_⟩
   refine hk _ _ s3 fun p e => ?_
   rw [ep] at e; cases e
   rfl
 have ey : ys = (ps.map tPt).map V.str := strs_eq (by omega) hr
 rw [ey] at hd
 walk_at "rd"
 refine ⟨_, D, ps.map tPt, rfl, rfl, SqL.of hd, join_ok (B := 4007) (fun t ht => by obtain ⟨p, hp, rfl⟩ := List.mem_map.mp ht; exact tPt_ln (by decide) (hq p hp)) ?_, ?_⟩
 · rw [List.length_map]
   have e : (" " : Str).length = 1 := rfl
   rw [e]; omega
 rw [txt_join]
 exact k H2 s2
theorem ok_tell_curve (F : FunAt K mg "tell_curve" s_tell_curve ["kept", "things"]) (D_show_curve : DefOk P w K mg base CX0 4 "show_curve" ["curve"] spShowC) : DefOk P w K mg base CX0 5 "tell_curve" ["kept", "things"] spTellC := by
 refine def_okI F sc_tell_curve (fun vs H Q E h => ?_) (fun f cdv A outer s H vs Q E hr h => ?_)
 · obtain ⟨d, lt, cs, n, ps, rfl, _⟩ := h; rfl
 obtain ⟨d, lt, cs, n, ps, rfl, ⟨kvs, hd, hK, hl40⟩, hlt, e, hf, h100, k⟩ := h
 have hu := hr.units
 refine ⟨_, (pss_oneI (ps_retI (pe_fnI D_show_curve hr pass0 (pa_consI (pe_ixI (ix_dict P w K hu) (pvI 0) (pe_ixI (ix_listK K) (pvI 1) pe_intI (fun _ _ => rfl)) (fun _ _ => rfl)) pa_nilI)))), ?_⟩
 obtain ⟨v, e2, l, ws, rfl, hl, hP⟩ := hK.there e
 walk_at "rd"
 refine ⟨d, _, rfl, .inl (by rw [← e2]; exact DGet.k (k := .inr n) hd), ?_⟩
 refine ⟨l, ws, ps, rfl, hl, hP, hf, h100, fun H1 s1 => k H1 s1⟩
theorem ok_tell_names (F : FunAt K mg "tell_names" s_tell_names ["kept", "things"]) (B : Blt mg) : DefOk P w K mg base CX0 1 "tell_names" ["kept", "things"] spNames := by
 refine def_okI F sc_tell_names (fun vs H Q E h => ?_) (fun f cdv A outer s H vs Q E hr h => ?_)
 · obtain ⟨d, lt, cs, rfl, _⟩ := h; rfl
 obtain ⟨d, lt, cs, rfl, ⟨kvs, hd, hK, hl40⟩, hk⟩ := h
 have hu := hr.units
 refine ⟨_, (pss_oneI (ps_retI (pe_ifExpI (pt_dictI (pvI 0)) (show PEi _ _ (tBM K _ _ _ _) from (pe_bmI PySem.F.plainAttrs_str PySem.F.slot_str_join PySem.F.type_str_join (mt_joinK K) pe_strI (pa_consI (pe_callBI call_sortD (by rfl) B.sorted PyProof.Rows.boot_sorted (pa_consI (pvI 0) pa_nilI)) pa_nilI))) pe_strI))), ?_⟩
 walk_at "rd"
 refine ⟨d, kvs, rfl, .inl hd, ?_⟩
 rcases hk with ⟨rfl, k⟩ | ⟨hne, h12, k⟩
 · cases hK
   walk_at "rd"
   exact k _ (L2.Same.refl _)
 have hke : kvs.isEmpty = false := by
   cases hK with
   | nil => exact absurd rfl hne
   | cons _ _ => rfl
 rw [hke]
 walk_at "rd"
 refine ⟨d, kvs, cs.map (·.1), rfl, .inl hd, hK.keys, by have := hK.length; omega, fun l ss' hl0 hp hs => ?_⟩
 have v1 := Same.new (o := .lst (ss'.map V.str)) hl0
 have k1 := upd_same (H := H) (a := l) (o := .lst (ss'.map V.str))
 generalize upd H l (.lst (ss'.map V.str)) = H1 at *
 have hl12 : ∀ t ∈ ss', t.length ≤ 1000 := fun t ht => by
   have := hp.mem_iff.mp ht
   obtain ⟨c, hc, rfl⟩ := List.mem_map.mp this
   exact Nat.le_trans (h12 c hc) (by decide)
 have hsl : ss'.length ≤ 40 := by rw [hp.length_eq, List.length_map]; exact hl40
 walk_at "rd"
 refine ⟨_, l, ss', rfl, rfl, SqL.of k1, join_ok (B := 1000) hl12 ?_, ?_⟩
 · have e : (" " : Str).length = 1 := rfl
   rw [e]; omega
 rw [txt_join]
 exact k ss' _ v1 hp hs
theorem ok_narrowed (F : FunAt K mg "narrowed" s_narrowed ["one", "t"]) (B : Blt mg) : DefOk P w K mg base CX0 1 "narrowed" ["one", "t"] spNarrowed := by
 refine def_okI F sc_narrowed (fun vs H Q E h => ?_) (fun f cdv A outer s H vs Q E hr h => ?_)
 · obtain ⟨x, z, n, tops, bs, t, a, rfl, _⟩ := h; rfl
 obtain ⟨_, _, n, tops, bs, t, ba, rfl, ⟨a1, lt, lb, rfl, h1, ht, hb, z1, g1, n1, m1⟩, ⟨c, rfl, hc⟩, bt, ha, hn, hbl, k⟩ := h
 have hu := hr.units
 refine ⟨_, (pss_consI (ps_asgI (pvI 0) (pg_tupKI (n := 2) K rfl (pgs_consI (pg_nameI (i := 2) sc_narrowed.nd rfl (Or.inl rfl)) (pgs_consI (pg_nameI (i := 3) sc_narrowed.nd rfl (Or.inl rfl)) pgs_nilI)))) (pss_consI (ps_asgI (pe_tupI (pa_consI (pe_opI op_sub (pe_ixI (ix_tupK K) (pvI 1) pe_intI (fun _ _ => rfl)) (pe_ixI (ix_tupK K) (pvI 1) pe_intI (fun _ _ => rfl))) (pa_consI (pe_ixI (ix_tupK K) (pvI 1) pe_intI (fun _ _ => rfl)) pa_nilI))) (pg_tupKI (n := 2) K rfl (pgs_consI (pg_nameI (i := 4) sc_narrowed.nd rfl (Or.inr rfl)) (pgs_consI (pg_nameI (i := 5) sc_narrowed.nd rfl (Or.inr rfl)) pgs_nilI)))) (pss_oneI (ps_retI (pe_tupI (pa_consI (pe_compSI (os := ["top", "beside"]) (caps := [(4, "near"), (5, "far")]) ["one", "t", "tops", "bottoms", "near", "far"] (defScope s_narrowed) (show PIi _ _ _ (iZip K _) from (pi_zipI rfl B.zip (pa_consI (pvI 2) (pa_consI (pe_sliceI (sl_listK K) (pvI 2) (po_someI pe_intI) po_noneI) pa_nilI)))) (fun _ _ _ _ _ => (pg_tupKI (n := 2) K rfl (pgs_consI (pg_nameI (i := 0) (show List.Nodup (["top", "beside", "near", "far"] : List Str) from by decide +kernel) rfl (Or.inl rfl)) (pgs_consI (pg_nameI (i := 1) (show List.Nodup (["top", "beside", "near", "far"] : List Str) from by decide +kernel) rfl (Or.inl rfl)) pgs_nilI)))) (fun _ _ _ _ _ => (pe_opI op_add (pe_opI op_mulA (pvI 2) (pvI 0)) (pe_opI op_mulA (pvI 3) (pvI 1)))) (by decide +kernel)) (pa_consI (pe_opI op_cat (pvI 3) (pe_lstI (pa_consI (pe_ixI (ix_tupK K) (pvI 1) pe_intI (fun _ _ => rfl)) pa_nilI))) pa_nilI))))))), ?_⟩
 walk_at "rd"
 refine ⟨a1, _, rfl, SqT.of h1, rfl, _, _, rfl, _, _, rfl, rfl, ?_⟩
 walk_at "rd"
 intro p hp
 refine ⟨p, _, rfl, SqT.of upd_same, rfl, _, _, rfl, _, _, rfl, rfl, ?_⟩
 walk_at "rd"
 refine ⟨lt, _, rfl, SqL.of (by walk_at "hf"), fun q hq => ?_⟩
 rw [cut_tail]
 have hlt : (upd (upd H p (.tup [.int ((t.den : Int) - t.num), .int t.num])) q (.lst ((tops.drop 1).map V.int))) lt = some (.lst (tops.map V.int)) := by walk_at "hf"
 walk_at "rd"
 refine ⟨_, _, rfl, ⟨_, SqL.of hlt⟩, ⟨_, SqL.of upd_same⟩, comp2 (plain_zip (SqL.of hlt) (SqL.of upd_same)) (by rw [List.length_map, List.length_map, List.length_drop]; omega) (fun i v _ => ∀ x y, tops[i]? = some x → tops[i + 1]? = some y → v = .int (((t.den : Int) - t.num) * x + t.num * y)) (fun _ _ _ _ _ h => h) (fun i H2 kk hi s2 hk => ?_) (fun D us H2 hD s2 hD2 hl hr => ?_)⟩
 · rw [List.length_map, List.length_map, List.length_drop] at hi
   have e1 : tops[i]? = some (tops[i]'(by omega)) := List.getElem?_eq_getElem _
   have e2 : tops[i + 1]? = some (tops[i + 1]'(by omega)) := List.getElem?_eq_getElem _
   have e3 : (tops.drop 1)[i]? = some (tops[i + 1]'(by omega)) := by rw [List.getElem?_drop, Nat.add_comm 1 i]; exact e2
   rw [int_at e1, int_at e3]
   have y1 := z1 _ (List.mem_of_getElem? e1)
   have y2 := z1 _ (List.mem_of_getElem? e2)
   refine ⟨_, rfl, _, rfl, _, _, rfl, rfl, mulN (bt.den.sub bt.num) y1 (by omega), _, rfl, _, rfl, _, _, rfl, rfl, mulN bt.num y2 (by omega), _, _, rfl, rfl, ?_⟩
   refine hk _ _ (L2.Same.refl _) fun x y ex ey => ?_
   rw [e1] at ex; rw [e2] at ey
   cases ex; cases ey
   rfl
 · rw [List.length_map, List.length_map] at hl
   have ey := nx_ints (t := t) hl hr
   walk_at "rd"
   intro q2 hq2
   refine ⟨lb, q2, _, _, rfl, rfl, by walk_at "hf", upd_same, small_line (by rw [List.length_map]; show bs.length + 1 ≤ 100000; omega) |> Nat.le_of_lt, fun q3 hq3 => ?_⟩
   walk_at "rd"
   intro q4 hq4
   refine k _ _ (by walk_at "sm") ⟨q4, D, q3, rfl, upd_same, ?_, ?_, sz_nxT bt z1, ?_, ?_, ?_⟩
   · rw [← ey]; walk_at "hf"
   · rw [List.map_append]; exact upd_keep hq4 upd_same
   · intro b hb'
     rcases List.mem_append.mp hb' with h | h
     · exact g1 b h
     · rw [List.mem_singleton.mp h]
       exact ⟨by have := t.den_pos; omega, bt.den.mono ha⟩
   · rw [List.length_append]; show bs.length + 1 ≤ 100; omega
   · rw [nxT_len]; omega
theorem ok_polar (F : FunAt K mg "polar" s_polar ["curve", "shares"]) (D_axes : DefOk P w K mg base CX0 4 "axes" ["points"] (spAxes K)) (D_points_of : DefOk P w K mg base CX0 3 "points_of" ["xs", "ys"] spPointsOf) (D_narrowed : DefOk P w K mg base CX0 1 "narrowed" ["one", "t"] spNarrowed) : DefOk P w K mg base CX0 5 "polar" ["curve", "shares"] (spPolar K) := by
 refine def_okI F sc_polar (fun vs H Q E h => ?_) (fun f cdv A outer s H vs Q E hr h => ?_)
 · obtain ⟨a, b, ws, zs, ps, ts, D, m, ta, rfl, _⟩ := h; rfl
 obtain ⟨a, b, ws, zs, ps, ts, D, m, ta, rfl, hS, hP, hZ, hT, bts, hta, fine, hpt, k⟩ := h
 have hu := hr.units
 refine ⟨_, (pss_consI (ps_asgI (pe_fnI D_axes hr pass0 (pa_consI (pvI 0) pa_nilI)) (pg_tupKI (n := 2) K rfl (pgs_consI (pg_nameI (i := 2) sc_polar.nd rfl (Or.inl rfl)) (pgs_consI (pg_nameI (i := 3) sc_polar.nd rfl (Or.inl rfl)) pgs_nilI)))) (pss_consI (ps_forI PassesOwn.never rfl (pi_listKI K (pvI 1)) (pg_nameI (i := 4) sc_polar.nd rfl (Or.inl rfl)) (pss_oneI (ps_parI (i := 2) (j := 3) rfl sc_polar.nd rfl rfl (by decide) rfl rfl (pa_consI (pe_fnI D_narrowed hr pass0 (pa_consI (pvI 2) (pa_consI (pvI 4) pa_nilI))) (pa_consI (pe_fnI D_narrowed hr pass0 (pa_consI (pvI 3) (pa_consI (pvI 4) pa_nilI))) pa_nilI)) rfl))) (pss_oneI (ps_retI (pe_ixI (ix_listK K) (pe_fnI D_points_of hr pass0 (pa_consI (pvI 2) (pa_consI (pvI 3) pa_nilI))) pe_intI (fun _ _ => rfl)))))), ?_⟩
 have hwl := hP.len
 have htl := hT.len
 have f1 := fine.l1
 have f2 := fine.l2
 have f3 := fine.m
 walk_at "rd"
 refine ⟨a, ws, ps, D, m, rfl, hS, hP, fine.pos, fine.sz, fine.dv, fine.m, by omega, fun c x1 y1 t1 b1 t2 b2 H1 s1 hc A1 A2 e1 e2 n1 n2 => ?_⟩
 refine ⟨c, _, rfl, SqT.of hc, rfl, _, _, rfl, _, _, rfl, rfl, ?_⟩
 walk_at "rd"
 refine ⟨⟨zs, s1.seq hZ⟩, for_list (xs := zs) (fun i σ H' => ∃ (xv yv : V) (y : Option V) (n : Nat) (t1 b1 t2 b2 : List Int), σ = [some (.ref a), some (.ref b), some xv, some yv, y] ∧ Same H H' ∧ AxV H' xv n t1 b1 ∧ AxV H' yv n t2 b2 ∧ axR t1 b1 = (rowsBy (ts.take i) ps).map (·.1) ∧ axR t2 b2 = (rowsBy (ts.take i) ps).map (·.2) ∧ n ≤ 18000 + i * 9002 ∧ b1.length ≤ 12 + i ∧ b2.length ≤ 12 + i)
   ⟨x1, y1, none, m + 9000, t1, b1, t2, b2, rfl, s1, A1, A2, e1, e2, by omega, by omega, by omega⟩ ?_ ?_ ?_⟩
 · rintro i σ H' hi ⟨xv, yv, y, n, t1, b1, t2, b2, rfl, s2, B1, B2, e1, e2, hn, m1, m2⟩
   exact s2.seq hZ
 · rintro i x σ H' hx ⟨xv, yv, y, n, t1, b1, t2, b2, rfl, s2, B1, B2, e1, e2, hn, m1, m2⟩
   obtain ⟨t, et, wt⟩ := (hT.same s2).atV hx
   have bt := bts t (List.mem_of_getElem? et)
   have hi : i < ts.length := (List.getElem?_eq_some_iff.mp et).1
   have hmul : i * 9002 ≤ 12 * 9002 := Nat.mul_le_mul_right _ (by omega)
   refine ⟨_, rfl, _, rfl, xv, x, n, t1, b1, t, ta, rfl, B1, wt, bt, hta, by omega, by omega, fun v3 H3 s3 A3 => ?_⟩
   refine ⟨_, rfl, _, rfl, yv, x, n, t2, b2, t, ta, rfl, B2.same s3, wt.same s3, bt, hta, by omega, by omega, fun v4 H4 s4 A4 => ?_⟩
   have p1 : ∀ b ∈ b1, 0 < b := by obtain ⟨_, _, _, _, _, _, _, _, q, _⟩ := B1; exact fun b hb => (q b hb).1
   have p2 : ∀ b ∈ b2, 0 < b := by obtain ⟨_, _, _, _, _, _, _, _, q, _⟩ := B2; exact fun b hb => (q b hb).1
   refine ⟨_, _, rfl, _, _, _, n + ta + 2, _, _, _, _, rfl, (s2.trans s3).trans s4, A3.same s4, A4, ?_, ?_, by omega, by rw [List.length_append]; show b1.length + 1 ≤ _; omega, by rw [List.length_append]; show b2.length + 1 ≤ _; omega⟩
   · rw [axR_nx t t1 b1 p1, e1, take_snoc et, rowsBy_snoc, nxP_fst]
   · rw [axR_nx t t2 b2 p2, e2, take_snoc et, rowsBy_snoc, nxP_snd]
 · rintro σ H' ⟨xv, yv, y, n, t1, b1, t2, b2, rfl, s2, B1, B2, e1, e2, hn, m1, m2⟩
   rw [htl, List.take_length] at e1 e2
   have l12 : t1.length = t2.length := by
     have := congrArg List.length e1
     have := congrArg List.length e2
     simp only [axR_len, List.length_map] at *
     omega
   refine ⟨_, rfl, _, rfl, _, _, n, _, _, _, _, rfl, B1, B2, l12, fun lp us qs H5 s5 hlp0 hlp hU q1 q2 => ?_⟩
   have eq : qs = rowsBy ts ps := pairs_eq q1 q2 e1.symm e2.symm
   rw [polP_get ts ps hpt] at eq
   subst eq
   obtain ⟨v, ev, pv⟩ := hU.at (i := 0) (p := polP ts ps) rfl
   exact ⟨lp, _, _, _, rfl, rfl, SqL.of hlp, atI_nat' (j := 0) rfl ev, k v H5 (s2.trans s5) pv⟩
theorem ok_point (F : FunAt K mg "point" s_point ["curve", "t"]) (B : Blt mg) (D_polar : DefOk P w K mg base CX0 5 "polar" ["curve", "shares"] (spPolar K)) : DefOk P w K mg base CX0 6 "point" ["curve", "t"] (spPoint K) := by
 refine def_okI F sc_point (fun vs H Q E h => ?_) (fun f cdv A outer s H vs Q E hr h => ?_)
 · obtain ⟨a, z, ws, ps, t, D, m, ta, rfl, _⟩ := h; rfl
 obtain ⟨a, z, ws, ps, t, D, m, ta, rfl, hS, hP, hz, ht, hta, fine, k⟩ := h
 have hu := hr.units
 refine ⟨_, (pss_oneI (ps_retI (pe_fnI D_polar hr pass0 (pa_consI (pvI 0) (pa_consI (pe_opI op_rep (pe_lstI (pa_consI (pvI 1) pa_nilI)) (pe_opI op_sub (pe_callBI (call_lenK K) (by rfl) B.len PySem.boot_len (pa_consI (pvI 0) pa_nilI)) pe_intI)) pa_nilI))))), ?_⟩
 have hwl := hP.len
 have l1 := fine.l1
 have l2 := fine.l2
 walk_at "rd"
 intro g hg
 have hS1 : SqL K (upd H g (.lst [z])) a ws := by walk_at "mv"
 refine ⟨_, rfl, a, ws, rfl, .inl hS1, ?_⟩
 walk_at "rd"
 refine ⟨g, _, [z], rfl, rfl, upd_same, by omega, by omega, ?_, fun g2 hg2 => ?_⟩
 · exact Nat.le_of_lt (small_line (by simp; omega))
 refine ⟨a, g2, ws, _, ps, List.replicate (ps.length - 1) t, D, m, ta, rfl, by walk_at "mv", by walk_at "mv", SqL.of upd_same, rep_flat (by omega) (by walk_at "mv"), fun q hq => by rw [(List.mem_replicate.mp hq).2]; exact ht, hta, fine, by rw [List.length_replicate]; omega, fun v H' s w => k v H' (by walk_at "sm") ?_⟩
 rw [pt_pol] at w
 exact w
theorem ok_tell_point (F : FunAt K mg "tell_point" s_tell_point ["kept", "things"]) (D_show_point : DefOk P w K mg base CX0 3 "show_point" ["one"] spShowP) (D_point : DefOk P w K mg base CX0 6 "point" ["curve", "t"] (spPoint K)) : DefOk P w K mg base CX0 7 "tell_point" ["kept", "things"] spTPoint := by
 refine def_okI F sc_tell_point (fun vs H Q E h => ?_) (fun f cdv A outer s H vs Q E hr h => ?_)
 · obtain ⟨d, lt, cs, n, ps, z, t, D, m, ta, rfl, _⟩ := h; rfl
 obtain ⟨d, lt, cs, n, ps, z, t, D, m, ta, rfl, ⟨kvs, hd, hK, hl40⟩, hlt, hz, e, hb, h9, hF, hg, k⟩ := h
 have hu := hr.units
 refine ⟨_, (pss_consI (ps_asgI (pvI 1) (pg_lstKI (n := 2) K rfl (pgs_consI (pg_nameI (i := 2) sc_tell_point.nd rfl (Or.inl rfl)) (pgs_consI (pg_nameI (i := 3) sc_tell_point.nd rfl (Or.inl rfl)) pgs_nilI)))) (pss_oneI (ps_retI (pe_fnI D_show_point hr pass0 (pa_consI (pe_fnI D_point hr pass0 (pa_consI (pe_ixI (ix_dict P w K hu) (pvI 0) (pvI 2) (fun _ _ => rfl)) (pa_consI (pvI 3) pa_nilI))) pa_nilI))))), ?_⟩
 obtain ⟨v, e2, l, ws, rfl, hl, hP⟩ := hK.there e
 walk_at "rd"
 refine ⟨lt, _, rfl, SqL.of hlt, rfl, _, _, rfl, _, _, rfl, rfl, ?_⟩
 walk_at "rd"
 refine ⟨d, _, rfl, .inl (by rw [← e2]; exact DGet.k (k := .inr n) hd), ?_⟩
 walk_at "rd"
 refine ⟨l, z, ws, ps, t, D, m, ta, rfl, SqL.of hl, hP, hz, hb, h9, hF, fun v H1 s1 hv => ?_⟩
 walk_at "rd"
 refine ⟨v, _, _, rfl, hv, hg, fun H2 s2 => k H2 (s1.trans s2)⟩
theorem ok_turned (F : FunAt K mg "turned" s_turned ["curve"]) (B : Blt mg) : DefOk P w K mg base CX0 1 "turned" ["curve"] (spTurned K) := by
 refine def_okI F sc_turned (fun vs H Q E h => ?_) (fun f cdv A outer s H vs Q E hr h => ?_)
 · obtain ⟨a, ws, rfl, _⟩ := h; rfl
 obtain ⟨a, ws, rfl, hS, k⟩ := h
 have hu := hr.units
 refine ⟨_, (pss_oneI (ps_retI (show PEi _ _ (tRevL K _) from (pe_listrevI rfl B.list rfl B.reversed (pa_consI (pvI 0) pa_nilI))))), ?_⟩
 walk_at "rd"
 exact ⟨a, ws, rfl, hS, fun l hl => k l hl⟩
theorem ok_turn_curve (F : FunAt K mg "turn_curve" s_turn_curve ["kept", "things"]) (D_turned : DefOk P w K mg base CX0 1 "turned" ["curve"] (spTurned K)) : DefOk P w K mg base CX0 2 "turn_curve" ["kept", "things"] spTurnC := by
 refine def_okI F sc_turn_curve (fun vs H Q E h => ?_) (fun f cdv A outer s H vs Q E hr h => ?_)
 · obtain ⟨d, lt, cs, n, ps, rfl, _⟩ := h; rfl
 obtain ⟨d, lt, cs, n, ps, rfl, ⟨kvs, hd, hK, hl40⟩, hc, hlt, e, k⟩ := h
 have hu := hr.units
 refine ⟨_, (pss_consI (ps_asgI (pe_fnI D_turned hr pass0 (pa_consI (pe_ixI (ix_dict P w K hu) (pvI 0) (pe_ixI (ix_listK K) (pvI 1) pe_intI (fun _ _ => rfl)) (fun _ _ => rfl)) pa_nilI)) (pg_subI (pvI 0) (pe_ixI (ix_listK K) (pvI 1) pe_intI (fun _ _ => rfl)) (set_dict hu))) (pss_oneI (ps_retI pe_strI))), ?_⟩
 obtain ⟨v, e2, l, ws, rfl, hl, hP⟩ := hK.there e
 walk_at "rd"
 refine ⟨d, _, rfl, .inl (by rw [← e2]; exact DGet.k (k := .inr n) hd), ?_⟩
 refine ⟨l, ws, rfl, SqL.of hl, fun g1 hg1 => ?_⟩
 have v1 := Same.new (o := .lst ws.reverse) hg1
 have k1 := upd_same (H := H) (a := g1) (o := .lst ws.reverse)
 generalize upd H g1 (.lst ws.reverse) = H1 at *
 have hd1 := v1 _ _ hd
 have hK1 := hK.mono fun v x r => CvV.same r v1
 have hlt1 := v1 _ _ hlt
 walk_at "rd"
 refine ⟨d, _, rfl, DPut.k (k := .inr n) hd1 (small_line (by have := hK.length; omega)), ?_⟩
 walk_at "rd"
 exact k _ ((Ex.of_same v1).trans Ex.put) (DictC.put hd1 hK1 hc k1 (hP.rev.same v1))
theorem ok_Desk_say {C_Desk : Addr} (T_Desk : ClsK K mg "Desk" C_Desk) (N_Desk_kept : NoAttr K C_Desk "kept") (F : MthAt K C_Desk "say" "Desk.say" s_Desk_say ["self", "row"]) (B : Blt mg) {A_FORMS A_DEEDS F_keep_curve F_tell_curve F_tell_names F_tell_point F_keep_cut F_keep_stretch F_turn_curve F_raise_curve F_lower_curve F_lower_fully F_keep_speed F_move_curve F_tell_same F_tell_hull F_tell_box F_tell_part F_tell_meet F_tell_join : Addr} {t_MOST_SEATS t_FIGURES t_MOST_FIGURES t_PIECE_FIGURES t_PIECE t_LETTERS t_MOST_LETTERS : Tok} (G : Cst K mg w A_FORMS A_DEEDS F_keep_curve F_tell_curve F_tell_names F_tell_point F_keep_cut F_keep_stretch F_turn_curve F_raise_curve F_lower_curve F_lower_fully F_keep_speed F_move_curve F_tell_same F_tell_hull F_tell_box F_tell_part F_tell_meet F_tell_join t_MOST_SEATS t_FIGURES t_MOST_FIGURES t_PIECE_FIGURES t_PIECE t_LETTERS t_MOST_LETTERS) (D_keep_curve : DefOk P w K mg base CX0 1 "keep_curve" ["kept", "things"] spKeep) (D_read_row : DefOk P w K mg base CX0 6 "read_row" ["row"] spRow) (D_tell_box : DefOk P w K mg base CX0 6 "tell_box" ["kept", "things"] spTBox) (D_tell_curve : DefOk P w K mg base CX0 5 "tell_curve" ["kept", "things"] spTellC) (D_tell_names : DefOk P w K mg base CX0 1 "tell_names" ["kept", "things"] spNames) (D_tell_point : DefOk P w K mg base CX0 7 "tell_point" ["kept", "things"] spTPoint) (D_turn_curve : DefOk P w K mg base CX0 2 "turn_curve" ["kept", "things"] spTurnC) : MthOk P w K mg base CX0 8 C_Desk "say" ["self", "row"] (spSay C_Desk) := by
 refine mth_ok F sc_Desk_say (fun vs H Q E h => ?_) (fun f cdv A outer s H vs Q E hr h => ?_)
 · obtain ⟨x, d, row, cs, rfl, _⟩ := h; rfl
 obtain ⟨x, d, row, cs, rfl, hA, hS⟩ := h
 have hu := hr.units
 refine ⟨_, (pss_consI (ps_asgI (pe_fnI D_read_row hr pass0 (pa_consI (pvI 1) pa_nilI)) (pg_tupKI (n := 3) K rfl (pgs_consI (pg_nameI (i := 2) sc_Desk_say.nd rfl (Or.inl rfl)) (pgs_consI (pg_nameI (i := 3) sc_Desk_say.nd rfl (Or.inl rfl)) (pgs_consI (pg_nameI (i := 4) sc_Desk_say.nd rfl (Or.inl rfl)) pgs_nilI))))) (pss_consI (ps_forI PassesOwn.never rfl (show PIi _ _ _ (iZip K _) from (pi_zipI rfl B.zip (pa_consI (pvI 3) (pa_consI (pvI 4) pa_nilI)))) (pg_tupKI (n := 2) K rfl (pgs_consI (pg_nameI (i := 5) sc_Desk_say.nd rfl (Or.inl rfl)) (pgs_consI (pg_nameI (i := 6) sc_Desk_say.nd rfl (Or.inl rfl)) pgs_nilI))) (pss_oneI (ps_ifI (PW_ptI (pw_andI (pt_cmpRI op_eq (pvI 5) pe_strI (nomark _)) (pw_and1I (pt_cmpRI (op_notinD P w K hu) (pvI 6) (show PEi _ _ (tFld K _ _) from (pe_fldI (pvI 0))) rfl)))) (pss_oneI ps_neverI) pss_nilI))) (pss_consI (ps_setI (i := 7) sc_Desk_say.nd rfl (Or.inl rfl) (pe_ixI (ix_dict P w K hu) (pe_globI (v := .ref A_DEEDS) rfl G.DEEDS rfl) (pvI 2) (fun _ _ => rfl))) (pss_oneI (ps_retI (show PEi _ _ (tFv P w K mg base CX0 _ _ E0 _) from (pe_fvI (pvI 7) hr pass0 (pa_consI (show PEi _ _ (tFld K _ _) from (pe_fldI (pvI 0))) (pa_consI (pvI 4) pa_nilI))))))))), ?_⟩
 obtain ⟨⟨dx, hx⟩, hD⟩ := id hA
 obtain ⟨first, ds, ks, sp, U⟩ := hS.use (E := E0) hD
 obtain ⟨rfl, u1, u2, u3, u4, u5, u6, u7, u8⟩ := U
 obtain ⟨kvs, hd, hK, hl40⟩ := id hD
 walk_at "rd"
 refine ⟨first, ds, ks, rfl, u1, u2, u3, u4, u5, fun t lk lt us H1 s1 ht hlk hlt hW => ?_⟩
 replace hx := s1 _ _ hx
 replace hd := s1 _ _ hd
 replace hK := hK.mono fun v x r => CvV.same r s1
 walk_at "rd"
 refine ⟨t, _, rfl, SqT.of ht, rfl, _, _, rfl, _, _, rfl, _, _, rfl, rfl, ?_⟩
 walk_at "rd"
 refine ⟨lk, lt, rfl, ⟨_, SqL.of hlk⟩, ⟨_, SqL.of hlt⟩, for_plain2 (plain_zip (SqL.of hlk) (SqL.of hlt)) (fun i σ H' => ∃ (y5 y6 : Option V), σ = [some (.ref x), some (.str (rowT first ds)), some (.str first), some (.ref lk), some (.ref lt), y5, y6, none] ∧ Same H1 H') ⟨none, none, rfl, L2.Same.refl _⟩ (fun i σ H' h => by obtain ⟨_, _, _, s⟩ := h; exact s) ?_ ?_⟩
 · rintro i g σ H2 H3 hi ⟨y5, y6, rfl, s2⟩ s3 hg
   have hi' : i < min (ks.map V.str).length us.length := hi
   rw [List.length_map] at hi'
   have hi1 : i < ks.length := by omega
   have hi2 : i < us.length := by omega
   have e2 : ks[i]? = some (ks[i]'hi1) := List.getElem?_eq_getElem _
   have e1 : ds[i]? = some (ds[i]'(by rw [← u5.1]; exact hi1)) := List.getElem?_eq_getElem _
   have e3 : us[i]? = some (us[i]'hi2) := List.getElem?_eq_getElem _
   have e4 : ((ks.map V.str)[i]?).getD .non = .str (ks[i]'hi1) := by rw [List.getElem?_map, e2]; rfl
   have e5 : (us[i]?).getD .non = us[i]'hi2 := by rw [e3]; rfl
   rw [e4, e5] at hg
   have hw := hW.2 i _ _ e3 e1
   have s23 := s2.trans s3
   generalize ks[i]'hi1 = kk at *
   generalize us[i]'hi2 = vv at *
   generalize ds[i]'_ = dd at *
   refine ⟨g, _, rfl, hg, rfl, _, _, rfl, _, _, rfl, rfl, ?_⟩
   walk_at "rd"
   dsimp only
   by_cases hk : kk = "name"
   · subst hk
     obtain ⟨nn, cc, rfl, hcc⟩ := u6 i _ e2 e1
     obtain rfl : vv = .str nn := hw
     obtain ⟨v9, ev9, _⟩ := hK.there hcc
     walk_at "rd"
     refine ⟨x, C_Desk, dx, _, _, rfl, s23 _ _ hx, T_Desk.cl, N_Desk_kept, kept_get d, ?_⟩
     refine ⟨d, _, rfl, .inl (DGet.k (k := .inr nn) (s23 _ _ hd)), _, rfl, ?_⟩
     rw [ev9]
     dsimp only
     refine ifF rfl ?_
     exact ⟨_, _, rfl, s23⟩
   · refine ifF (by simp [hk]) ?_
     refine ifF rfl ?_
     exact ⟨_, _, rfl, s23⟩
 rintro σ H2 ⟨y5, y6, rfl, s2⟩
 obtain ⟨f9, k9, ef9, DB, hk9⟩ : ∃ f k, valV ([(.inr "curve", .ref F_keep_curve), (.inr "tell", .ref F_tell_curve), (.inr "names", .ref F_tell_names), (.inr "point", .ref F_tell_point), (.inr "cut", .ref F_keep_cut), (.inr "stretch", .ref F_keep_stretch), (.inr "turn", .ref F_turn_curve), (.inr "raise", .ref F_raise_curve), (.inr "lower", .ref F_lower_curve), (.inr "least", .ref F_lower_fully), (.inr "speed", .ref F_keep_speed), (.inr "move", .ref F_move_curve), (.inr "same", .ref F_tell_same), (.inr "hull", .ref F_tell_hull), (.inr "box", .ref F_tell_box), (.inr "part", .ref F_tell_part), (.inr "meet", .ref F_tell_meet), (.inr "join", .ref F_tell_join)] : List (Key × V)) (.inr first) = some (.ref f) ∧ DefBy P w K mg base CX0 k f sp ∧ k ≤ 7 := by
   cases u7 with
   | curve => exact ⟨F_keep_curve, _, rfl, ⟨_, _, D_keep_curve, G.gkeep_curve⟩, by decide⟩
   | tell => exact ⟨F_tell_curve, _, rfl, ⟨_, _, D_tell_curve, G.gtell_curve⟩, by decide⟩
   | names => exact ⟨F_tell_names, _, rfl, ⟨_, _, D_tell_names, G.gtell_names⟩, by decide⟩
   | point => exact ⟨F_tell_point, _, rfl, ⟨_, _, D_tell_point, G.gtell_point⟩, by decide⟩
   | box => exact ⟨F_tell_box, _, rfl, ⟨_, _, D_tell_box, G.gtell_box⟩, by decide⟩
   | turn => exact ⟨F_turn_curve, _, rfl, ⟨_, _, D_turn_curve, G.gturn_curve⟩, by decide⟩
 walk_at "rd"
 refine ⟨A_DEEDS, _, rfl, .inr ⟨_, .inr first, G.dDEEDS P, rfl, ef9.symm⟩, ?_⟩
 walk_at "rd"
 refine ⟨f9, sp, k9, rfl, DB, hk9, ?_⟩
 walk_at "rd"
 refine ⟨x, C_Desk, dx, _, _, rfl, s2 _ _ hx, T_Desk.cl, N_Desk_kept, kept_get d, ?_⟩
 walk_at "rd"
 exact u8 _ lt us (s1.trans s2) (s2 _ _ hlt) ⟨hW.1, fun i v w e1 e2 => (hW.2 i v w e1 e2).same s2⟩
theorem ok_l_share (F : FunAt K mg "_law_share" s_l_share ["_law_top", "_law_bottom"]) (B : Blt mg) : DefOk P w K mg base CX0 1 "_law_share" ["_law_top", "_law_bottom"] spLShare := by
 refine def_okI F sc_l_share (fun vs H Q E h => ?_) (fun f cdv A outer s H vs Q E hr h => ?_)
 · obtain ⟨a, b, rfl, _⟩ := h; rfl
 obtain ⟨t, b, rfl, hb, hz, k⟩ := h
 have hu := hr.units
 refine ⟨_, (pss_consI (ps_setI (i := 2) sc_l_share.nd rfl (Or.inl rfl) (pe_callBI call_abs (by rfl) B.abs PyProof.Rows.boot_abs (pa_consI (pvI 0) pa_nilI))) (pss_consI (ps_setI (i := 3) sc_l_share.nd rfl (Or.inl rfl) (pvI 1)) (pss_consI (ps_whileI PassesOwn.never (pt_cmpRI op_gt (pvI 3) pe_intI (nomark _)) (pss_consI (ps_setI (i := 4) sc_l_share.nd rfl (Or.inl rfl) (pe_opI op_mod (pvI 2) (pvI 3))) (pss_consI (ps_setI (i := 2) sc_l_share.nd rfl (Or.inl rfl) (pvI 3)) (pss_oneI (ps_setI (i := 3) sc_l_share.nd rfl (Or.inl rfl) (pvI 4)))))) (pss_oneI (ps_retI (pe_tupI (pa_consI (pe_opI op_fdivB (pvI 0) (pvI 2)) (pa_consI (pe_opI op_fdivB (pvI 1) (pvI 2)) pa_nilI)))))))), ?_⟩
 have g0 : (Int.gcd t b : Int) ≠ 0 := gcd_pos' t b (by omega)
 have gz : Sz 9000 (Int.gcd t b : Int) := hz.le (by
   rw [Int.natAbs_natCast]
   exact Nat.le_of_dvd (by omega) (Int.gcd_dvd_natAbs_right t b))
 walk_at "rd"
 refine while_by (fun σ H' => ∃ (x y : Int) (z : Option V), σ = [some (.int t), some (.int b), some (.int x), some (.int y), z] ∧ H' = H ∧ 0 ≤ x ∧ 0 ≤ y ∧ Int.gcd x y = Int.gcd t b) (fun σ _ => match σ with | [_, _, _, some (.int y), _] => y.natAbs | _ => 0) ⟨_, b, none, rfl, rfl, by split <;> omega, by omega, gcd_abs t b⟩ ?_ ?_
 · rintro σ H' ⟨x, y, z, rfl, rfl, hx, hy, e⟩
   refine ⟨_, rfl, _, _, rfl, rfl, _, rfl, ite_dec (fun h0 => ?_) (fun h0 => ?_)⟩
   · refine ⟨_, rfl, _, rfl, _, _, rfl, rfl, h0, ?_⟩
     walk_at "rd"
     refine ⟨⟨_, _, _, rfl, rfl, hy, Int.emod_nonneg x (by omega), ?_⟩, ?_⟩
     · rw [emod_gcd x y h0]; exact e
     · show (x % y).natAbs < y.natAbs
       have := Int.emod_lt_of_pos x h0
       have := Int.emod_nonneg x (b := y) (by omega)
       omega
   · have h0' : y = 0 := by omega
     subst h0'
     have hg := low_gcd hx e
     subst hg
     refine ⟨_, rfl, _, rfl, _, _, rfl, rfl, ⟨g0, gz⟩, _, rfl, _, rfl, _, _, rfl, rfl, ⟨g0, gz⟩, (by show 2 ≤ sizeLine; decide), fun p hp => ?_⟩
     have e := share_pos t b hb
     refine k _ _ (Same.new hp) ⟨p, rfl, ?_⟩
     rw [upd_same, ← e.1, ← e.2]
 · rintro σ H' Q Q' hq ⟨v, h1, i, j, h2, h3, c, h4, h5⟩
   exact ⟨v, h1, i, j, h2, h3, c, h4, hq _ _ h5⟩
theorem ok_l_share_text (F : FunAt K mg "_law_share_text" s_l_share_text ["_law_one"]) (B : Blt mg) : DefOk P w K mg base CX0 1 "_law_share_text" ["_law_one"] spLTxS := by
 refine def_okI F sc_l_share_text (fun vs H Q E h => ?_) (fun f cdv A outer s H vs Q E hr h => ?_)
 · obtain ⟨v, q, rfl, _⟩ := h; rfl
 obtain ⟨_, q, rfl, ⟨a, rfl, ha⟩, hq, k⟩ := h
 have hu := hr.units
 refine ⟨_, (pss_consI (ps_ifI (pt_cmpRI op_eq (pe_ixI (ix_tupK K) (pvI 0) pe_intI (fun _ _ => rfl)) pe_intI (nomark _)) (pss_oneI (ps_retI (pe_callTyI call_str_int rfl B.str PyProof.Rows.boot_str (pa_consI (pe_ixI (ix_tupK K) (pvI 0) pe_intI (fun _ _ => rfl)) pa_nilI)))) pss_nilI) (pss_oneI (ps_retI (pe_opI op_add_str (pe_opI op_add_str (pe_callTyI call_str_int rfl B.str PyProof.Rows.boot_str (pa_consI (pe_ixI (ix_tupK K) (pvI 0) pe_intI (fun _ _ => rfl)) pa_nilI)) pe_strI) (pe_callTyI call_str_int rfl B.str PyProof.Rows.boot_str (pa_consI (pe_ixI (ix_tupK K) (pvI 0) pe_intI (fun _ _ => rfl)) pa_nilI)))))), ?_⟩
 have l1 := tN_ln (k := 300) (by decide) (show FgN 300 q.num from hq.1)
 have hdn : FgN 300 (q.den : Int) := by unfold FgN; rw [Int.natAbs_natCast]; exact hq.2
 have l2 := tN_ln (k := 300) (by decide) hdn
 have g1 := log_small (i := q.num) hq.1
 have g2 := log_small (i := (q.den : Int)) hdn
 walk_at "rd"
 refine ite_dec (fun h => ?_) (fun h => ?_)
 · have hd1 : q.den = 1 := by exact_mod_cast V.int.inj h
   walk_at "rd"
   refine ⟨g1, ?_⟩
   have e : tN q.num = tSh q := (if_pos hd1).symm
   show Q (.str (tN q.num)) H
   rw [e]
   exact k
 · have hd1 : q.den ≠ 1 := fun e => h (by rw [e]; rfl)
   walk_at "rd"
   refine ⟨g1, ?_⟩
   refine ⟨_, _, rfl, rfl, Nat.le_of_lt (small_line (by show (tN q.num).length + 1 ≤ 100000; omega)), ?_⟩
   walk_at "rd"
   refine ⟨g2, ?_⟩
   refine ⟨_, _, rfl, rfl, Nat.le_of_lt (small_line (by rw [len_app]; show (tN q.num).length + 1 + (tN (q.den : Int)).length ≤ 100000; omega)), ?_⟩
   have e : tN q.num ++ "/" ++ tN (q.den : Int) = tSh q := (if_neg hd1).symm
   show Q (.str (tN q.num ++ "/" ++ tN (q.den : Int))) H
   rw [e]
   exact k
theorem ok_l_box_due (F : FunAt K mg "_law_box_due" s_l_box_due ["_law_seats_here", "_law_bottom"]) (B : Blt mg) (D_l_share : DefOk P w K mg base CX0 1 "_law_share" ["_law_top", "_law_bottom"] spLShare) (D_l_share_text : DefOk P w K mg base CX0 1 "_law_share_text" ["_law_one"] spLTxS) : DefOk P w K mg base CX0 2 "_law_box_due" ["_law_seats_here", "_law_bottom"] (spBxDue K) := by
 refine def_okI F sc_l_box_due (fun vs H Q E h => ?_) (fun f cdv A outer s H vs Q E hr h => ?_)
 · obtain ⟨a, ws, pl, B, rfl, _⟩ := h; rfl
 obtain ⟨a, ws, pl, Bt, rfl, hS, hP, B1, B2, h1, h1000, hfg, k⟩ := h
 have hu := hr.units
 refine ⟨_, (pss_consI (ps_compSI (i := 2) (os := ["_law_x", "_law_y"]) (caps := []) ["_law_seats_here", "_law_bottom", "_law_widths", "_law_heights", "_law_some"] (defScope s_l_box_due) sc_l_box_due.nd rfl rfl (pi_listKI K (pvI 0)) (fun _ _ _ _ _ => (pg_tupKI (n := 2) K rfl (pgs_consI (pg_nameI (i := 0) (show List.Nodup (["_law_x", "_law_y"] : List Str) from by decide +kernel) rfl (Or.inl rfl)) (pgs_consI (pg_nameI (i := 1) (show List.Nodup (["_law_x", "_law_y"] : List Str) from by decide +kernel) rfl (Or.inl rfl)) pgs_nilI)))) (fun _ _ _ _ _ => (pvI 0)) (by decide +kernel)) (pss_consI (ps_compSI (i := 3) (os := ["_law_x", "_law_y"]) (caps := []) ["_law_seats_here", "_law_bottom", "_law_widths", "_law_heights", "_law_some"] (defScope s_l_box_due) sc_l_box_due.nd rfl rfl (pi_listKI K (pvI 0)) (fun _ _ _ _ _ => (pg_tupKI (n := 2) K rfl (pgs_consI (pg_nameI (i := 0) (show List.Nodup (["_law_x", "_law_y"] : List Str) from by decide +kernel) rfl (Or.inl rfl)) (pgs_consI (pg_nameI (i := 1) (show List.Nodup (["_law_x", "_law_y"] : List Str) from by decide +kernel) rfl (Or.inl rfl)) pgs_nilI)))) (fun _ _ _ _ _ => (pvI 1)) (by decide +kernel)) (pss_consI (ps_setI (i := 4) sc_l_box_due.nd rfl (Or.inl rfl) (pe_lstI (pa_consI (pe_callBI (call_minL rfl) (by rfl) B.min PyProof.Rows.boot_min (pa_consI (pvI 2) pa_nilI)) (pa_consI (pe_callBI (call_minL rfl) (by rfl) B.min PyProof.Rows.boot_min (pa_consI (pvI 3) pa_nilI)) (pa_consI (pe_callBI (call_maxL rfl) (by rfl) B.max PyProof.Rows.boot_max (pa_consI (pvI 2) pa_nilI)) (pa_consI (pe_callBI (call_maxL rfl) (by rfl) B.max PyProof.Rows.boot_max (pa_consI (pvI 3) pa_nilI)) pa_nilI)))))) (pss_oneI (ps_retI (show PEi _ _ (tBM K _ _ _ _) from (pe_bmI PySem.F.plainAttrs_str PySem.F.slot_str_join PySem.F.type_str_join (mt_joinK K) pe_strI (pa_consI (pe_compSI (os := ["_law_one"]) (caps := [(1, "_law_bottom")]) ["_law_seats_here", "_law_bottom", "_law_widths", "_law_heights", "_law_some"] (defScope s_l_box_due) (pi_listKI K (pvI 4)) (fun _ _ _ _ _ => (pg_nameI (i := 0) (show List.Nodup (["_law_one", "_law_bottom"] : List Str) from by decide +kernel) rfl (Or.inl rfl))) (fun _ _ _ _ _ => (pe_fnI D_l_share_text hr pass0 (pa_consI (pe_fnI D_l_share hr pass0 (pa_consI (pvI 0) (pa_consI (pvI 1) pa_nilI))) pa_nilI))) (by decide +kernel)) pa_nilI)))))))), ?_⟩
 have hwl := hP.len
 have zB : Sz 9000 Bt := (show Sz 40 Bt from ⟨by show _ < 2 ^ 40; omega⟩).mono (by decide)
 walk_at "rd"
 refine ⟨⟨_, SqL.of hS⟩, comp2 (plain_pls (SqL.of hS) hP) (by omega) (fun i v _ => ∀ p, pl[i]? = some p → v = .int p.1) (fun _ _ _ _ _ h => h) (fun i H2 kk hi s2 hk => ?_) (fun E2 ys2 H2 hE2 s2 hE'2 hl2 hr2 => ?_)⟩
 · refine ⟨_, rfl, hk _ _ (L2.Same.refl _) fun p e => by rw [e]; rfl⟩
 have ey2 := ints_of (by omega) hr2
 subst ey2
 clear hr2
 have hS2 := s2 _ _ hS
 have hP2 := hP.same s2
 walk_at "rd"
 refine ⟨⟨_, SqL.of hS2⟩, comp2 (plain_pls (SqL.of hS2) hP2) (by omega) (fun i v _ => ∀ p, pl[i]? = some p → v = .int p.2) (fun _ _ _ _ _ h => h) (fun i H4 kk hi s4 hk => ?_) (fun E4 ys4 H4 hE4 s4 hE'4 hl4 hr4 => ?_)⟩
 · refine ⟨_, rfl, hk _ _ (L2.Same.refl _) fun p e => by rw [e]; rfl⟩
 have ey4 := ints_of (by omega) hr4
 subst ey4
 clear hr4
 have g2 : H4 E2 = some (.lst ((pl.map (·.1)).map V.int)) := s4 _ _ hE'2
 walk_at "rd"
 refine ⟨E2, pl.map (·.1), rfl, SqL.of g2, by rw [List.length_map]; omega, fun M1 i1 i2 => ?_⟩
 walk_at "rd"
 refine ⟨E4, pl.map (·.2), rfl, SqL.of hE'4, by rw [List.length_map]; omega, fun M2 i3 i4 => ?_⟩
 walk_at "rd"
 refine ⟨E2, pl.map (·.1), rfl, SqL.of g2, by rw [List.length_map]; omega, fun N1 j1 j2 => ?_⟩
 walk_at "rd"
 refine ⟨E4, pl.map (·.2), rfl, SqL.of hE'4, by rw [List.length_map]; omega, fun N2 j3 j4 => ?_⟩
 walk_at "rd"
 intro l hl
 have v5 := Same.new (o := .lst [.int M1, .int M2, .int N1, .int N2]) hl
 have k5 := upd_same (H := H4) (a := l) (o := .lst [.int M1, .int M2, .int N1, .int N2])
 generalize upd H4 l (.lst [.int M1, .int M2, .int N1, .int N2]) = H5 at *
 have P0 : 0 < Bt := by omega
 have r1 := least_div P0 i1 i2
 have r2 := least_div P0 i3 i4
 have r3 := great_div P0 j1 j2
 have r4 := great_div P0 j3 j4
 rw [← ptsOf_fst] at r1 r3
 rw [← ptsOf_snd] at r2 r4
 have fx : ∀ q ∈ (ptsOf Bt pl).map (·.1), Fg 300 q := fun q hq => by obtain ⟨p, hp, rfl⟩ := List.mem_map.mp hq; exact (hfg p hp).1
 have fy : ∀ q ∈ (ptsOf Bt pl).map (·.2), Fg 300 q := fun q hq => by obtain ⟨p, hp, rfl⟩ := List.mem_map.mp hq; exact (hfg p hp).2
 have f1 := fx _ r1.1
 have f2 := fy _ r2.1
 have f3 := fx _ r3.1
 have f4 := fy _ r4.1
 walk_at "rd"
 refine ⟨⟨_, SqL.of k5⟩, comp1 (plain_list (SqL.of k5)) (by simp) (fun i v H => v = .str (([tSh (Rat.divInt M1 Bt), tSh (Rat.divInt M2 Bt), tSh (Rat.divInt N1 Bt), tSh (Rat.divInt N2 Bt)][i]?).getD "")) (fun _ _ _ _ tt h => h) (fun i H6 kk hi s6 hk => ?_) (fun D ys H6 hD s6 hd hl6 hr => ?_)⟩
 · have hi4 : i < 4 := hi
   have : i = 0 ∨ i = 1 ∨ i = 2 ∨ i = 3 := by omega
   rcases this with rfl | rfl | rfl | rfl
   · walk_at "rd"
     refine ⟨_, _, rfl, P0, zB, fun v H7 s7 w7 => ⟨v, _, rfl, w7, f1, hk _ _ s7 rfl⟩⟩
   · walk_at "rd"
     refine ⟨_, _, rfl, P0, zB, fun v H7 s7 w7 => ⟨v, _, rfl, w7, f2, hk _ _ s7 rfl⟩⟩
   · walk_at "rd"
     refine ⟨_, _, rfl, P0, zB, fun v H7 s7 w7 => ⟨v, _, rfl, w7, f3, hk _ _ s7 rfl⟩⟩
   · walk_at "rd"
     refine ⟨_, _, rfl, P0, zB, fun v H7 s7 w7 => ⟨v, _, rfl, w7, f4, hk _ _ s7 rfl⟩⟩
 have ey : ys = [tSh (Rat.divInt M1 Bt), tSh (Rat.divInt M2 Bt), tSh (Rat.divInt N1 Bt), tSh (Rat.divInt N2 Bt)].map V.str := by
   refine List.ext_getElem? fun i => ?_
   by_cases hi : i < 4
   · have e1 : ys[i]? = some (ys[i]'(by rw [hl6]; exact hi)) := List.getElem?_eq_getElem _
     rw [e1, hr i _ e1]
     have : i = 0 ∨ i = 1 ∨ i = 2 ∨ i = 3 := by omega
     rcases this with rfl | rfl | rfl | rfl <;> rfl
   · rw [List.getElem?_eq_none (by rw [hl6]; show 4 ≤ i; omega), List.getElem?_eq_none (by simp; omega)]
 rw [ey] at hd
 walk_at "rd"
 have lq : ∀ {q : Rat}, Fg 300 q → (tSh q).length ≤ 1000 := fun h => Nat.le_trans (tSh_ln (k := 300) (by decide) h) (by decide)
 refine ⟨_, D, [tSh (Rat.divInt M1 Bt), tSh (Rat.divInt M2 Bt), tSh (Rat.divInt N1 Bt), tSh (Rat.divInt N2 Bt)], rfl, rfl, SqL.of hd, join_ok (B := 1000) (fun t ht => ?_) (by show 4 * 1000 + 4 * 1 ≤ _; decide), ?_⟩
 · simp only [List.mem_cons, List.not_mem_nil, or_false] at ht
   rcases ht with rfl | rfl | rfl | rfl
   · exact lq f1
   · exact lq f2
   · exact lq f3
   · exact lq f4
 rw [txt_join]
 exact k _ _ _ _ _ (((s2.trans s4).trans v5).trans s6) r1 r2 r3 r4
theorem ok_l_point_text (F : FunAt K mg "_law_point_text" s_l_point_text ["_law_place_here"]) (D_l_share_text : DefOk P w K mg base CX0 1 "_law_share_text" ["_law_one"] spLTxS) : DefOk P w K mg base CX0 2 "_law_point_text" ["_law_place_here"] spLTxP := by
 refine def_okI F sc_l_point_text (fun vs H Q E h => ?_) (fun f cdv A outer s H vs Q E hr h => ?_)
 · obtain ⟨v, x, y, rfl, _⟩ := h; rfl
 obtain ⟨_, x, y, rfl, ⟨a, vx, vy, rfl, ha, hx, hy⟩, hq, k⟩ := h
 have hu := hr.units
 refine ⟨_, (pss_oneI (ps_retI (pe_opI op_add_str (pe_opI op_add_str (pe_fnI D_l_share_text hr pass0 (pa_consI (pe_ixI (ix_tupK K) (pvI 0) pe_intI (fun _ _ => rfl)) pa_nilI)) pe_strI) (pe_fnI D_l_share_text hr pass0 (pa_consI (pe_ixI (ix_tupK K) (pvI 0) pe_intI (fun _ _ => rfl)) pa_nilI))))), ?_⟩
 have l1 := tSh_ln (k := 300) (by decide) hq.1
 have l2 := tSh_ln (k := 300) (by decide) hq.2
 dsimp only at l1 l2
 walk_at "rd"
 refine ⟨vx, x, rfl, hx, hq.1, ?_⟩
 walk_at "rd"
 refine ⟨Nat.le_of_lt (small_line (by show (tSh x).length + 1 ≤ 100000; omega)), ?_⟩
 walk_at "rd"
 refine ⟨vy, y, rfl, hy, hq.2, ?_⟩
 refine ⟨_, _, rfl, rfl, Nat.le_of_lt (small_line (by rw [len_app]; show (tSh x).length + 1 + (tSh y).length ≤ 100000; omega)), ?_⟩
 exact k
theorem ok_l_curve_text (F : FunAt K mg "_law_curve_text" s_l_curve_text ["_law_curve"]) (D_l_point_text : DefOk P w K mg base CX0 2 "_law_point_text" ["_law_place_here"] spLTxP) : DefOk P w K mg base CX0 3 "_law_curve_text" ["_law_curve"] (spLTxC K) := by
 refine def_okI F sc_l_curve_text (fun vs H Q E h => ?_) (fun f cdv A outer s H vs Q E hr h => ?_)
 · obtain ⟨a, ws, ps, rfl, _⟩ := h; rfl
 obtain ⟨a, ws, ps, rfl, ha, hP, hq, hn, k⟩ := h
 have hu := hr.units
 refine ⟨_, (pss_oneI (ps_retI (show PEi _ _ (tBM K _ _ _ _) from (pe_bmI PySem.F.plainAttrs_str PySem.F.slot_str_join PySem.F.type_str_join (mt_joinK K) pe_strI (pa_consI (pe_compSI (os := ["_law_place_here"]) (caps := []) ["_law_curve"] (defScope s_l_curve_text) (pi_listKI K (pvI 0)) (fun _ _ _ _ _ => (pg_nameI (i := 0) (show List.Nodup (["_law_place_here"] : List Str) from by decide +kernel) rfl (Or.inl rfl))) (fun _ _ _ _ _ => (pe_fnI D_l_point_text hr pass0 (pa_consI (pvI 0) pa_nilI))) (by decide +kernel)) pa_nilI))))), ?_⟩
 have hwl := hP.len
 walk_at "rd"
 refine ⟨⟨_, SqL.of ha⟩, comp1 (plain_list (SqL.of ha)) (by omega) (fun i v H => ∀ p, ps[i]? = some p → v = .str (tPt p)) (fun _ _ _ _ tt h => h) (fun i H2 kk hi s2 hk => ?_) (fun D ys H2 hD s2 hd hl hr => ?_)⟩
 · have hi' : i < ps.length := by omega
   have ep : ps[i]? = some (ps[i]'hi') := List.getElem?_eq_getElem _
   obtain ⟨v, ev, gv⟩ := hP.at ep
   have hp := hq _ (List.mem_of_getElem? ep)
   generalize ps[i]'hi' = p at *
   rw [show (ws[i]?).getD .non = v by rw [ev]; rfl]
   walk_at "rd"
   refine ⟨v, _, _, rfl, gv.same s2, hp, ?_⟩
   refine hk _ _ (L2.Same.refl _) fun p' e => ?_
   rw [ep] at e; cases e
   rfl
 have ey : ys = (ps.map tPt).map V.str := strs_eq (by omega) hr
 rw [ey] at hd
 walk_at "rd"
 refine ⟨_, D, ps.map tPt, rfl, rfl, SqL.of hd, join_ok (B := 1207) (fun t ht => by obtain ⟨p, hp, rfl⟩ := List.mem_map.mp ht; exact tPt_ln (by decide) (hq p hp)) ?_, ?_⟩
 · rw [List.length_map]
   have e : (" " : Str).length = 1 := rfl
   rw [e]; omega
 rw [txt_join]
 exact k H2 s2
theorem ok_l_handed (F : FunAt K mg "_law_handed" s_l_handed ["_law_places", "_law_bottom"]) (D_l_share : DefOk P w K mg base CX0 1 "_law_share" ["_law_top", "_law_bottom"] spLShare) : DefOk P w K mg base CX0 2 "_law_handed" ["_law_places", "_law_bottom"] (spHanded K) := by
 refine def_okI F sc_l_handed (fun vs H Q E h => ?_) (fun f cdv A outer s H vs Q E hr h => ?_)
 · obtain ⟨a, ws, pl, B, rfl, _⟩ := h; rfl
 obtain ⟨a, ws, pl, B, rfl, hS, hP, B1, zB, h1000, k⟩ := h
 have hu := hr.units
 refine ⟨_, (pss_oneI (ps_retI (pe_compSI (os := ["_law_x", "_law_y"]) (caps := [(1, "_law_bottom")]) ["_law_places", "_law_bottom"] (defScope s_l_handed) (pi_listKI K (pvI 0)) (fun _ _ _ _ _ => (pg_tupKI (n := 2) K rfl (pgs_consI (pg_nameI (i := 0) (show List.Nodup (["_law_x", "_law_y", "_law_bottom"] : List Str) from by decide +kernel) rfl (Or.inl rfl)) (pgs_consI (pg_nameI (i := 1) (show List.Nodup (["_law_x", "_law_y", "_law_bottom"] : List Str) from by decide +kernel) rfl (Or.inl rfl)) pgs_nilI)))) (fun _ _ _ _ _ => (pe_tupI (pa_consI (pe_fnI D_l_share hr pass0 (pa_consI (pvI 0) (pa_consI (pvI 2) pa_nilI))) (pa_consI (pe_fnI D_l_share hr pass0 (pa_consI (pvI 1) (pa_consI (pvI 2) pa_nilI))) pa_nilI)))) (by decide +kernel)))), ?_⟩
 walk_at "rd"
 refine ⟨⟨_, hS⟩, comp2 (plain_pls hS hP) (by omega) (fun i v H => PtV H v (Rat.divInt ((pl[i]?).getD (0, 0)).1 B) (Rat.divInt ((pl[i]?).getD (0, 0)).2 B)) (fun _ _ _ _ t h => h.tup t) (fun i H2 kk hi s2 hk => ?_) (fun E us H2 hE s2 hE2 hl hr => ?_)⟩
 · walk_at "rd"
   refine ⟨_, _, rfl, by omega, zB, fun v3 H3 s3 w3 => ?_⟩
   walk_at "rd"
   refine ⟨_, _, rfl, by omega, zB, fun v4 H4 s4 w4 => ?_⟩
   walk_at "rd"
   intro p hp
   exact hk _ _ (by walk_at "sm") ⟨p, v3, v4, rfl, upd_same, by walk_at "mv", by walk_at "mv"⟩
 · refine k E us H2 s2 hE hE2 ⟨by rw [hl]; unfold ptsOf; rw [List.length_map], fun i v p e1 e2 => ?_⟩
   unfold ptsOf at e2
   rw [List.getElem?_map] at e2
   have := hr i v e1
   cases e3 : pl[i]? with
   | none => rw [e3] at e2; cases e2
   | some q => rw [e3] at e2 this; cases e2; exact this
theorem ok_l_power (F : FunAt K mg "_law_power" s_l_power ["_law_number", "_law_many"]) (B : Blt mg) : DefOk P w K mg base CX0 1 "_law_power" ["_law_number", "_law_many"] spPow := by
 refine def_okI F sc_l_power (fun vs H Q E h => ?_) (fun f cdv A outer s H vs Q E hr h => ?_)
 · obtain ⟨x, n, rfl, _⟩ := h; rfl
 obtain ⟨x, n, rfl, hn, zx, k⟩ := h
 have hu := hr.units
 refine ⟨_, (pss_consI (ps_setI (i := 2) sc_l_power.nd rfl (Or.inl rfl) pe_intI) (pss_consI (ps_forI PassesOwn.never rfl (pi_range1I rfl B.range (pa_consI (pvI 1) pa_nilI)) (pg_nameI (i := 3) sc_l_power.nd rfl (Or.inl rfl)) (pss_oneI (ps_setI (i := 2) sc_l_power.nd rfl (Or.inl rfl) (pe_opI op_mulA (pvI 2) (pvI 0))))) (pss_oneI (ps_retI (pvI 2))))), ?_⟩
 walk_at "rd"
 refine ⟨by omega, by omega, for_range (fun i σ H' => ∃ (y : Option V), σ = [some (.int x), some (.int (n : Int)), some (.int (x ^ i)), y] ∧ H' = H) ⟨none, by rw [Int.pow_zero]; rfl, rfl⟩ ?_ ?_⟩
 · rintro i σ H1 hi ⟨y, rfl, rfl⟩
   have hi' : i ≤ 12 := by omega
   have zz : Sz 4000 (x ^ i) := pw_sz zx hi'
   walk_at "rd"
   exact ⟨_, by rw [Int.pow_succ]; rfl, rfl⟩
 rintro σ H1 ⟨y, rfl, rfl⟩
 rw [Int.toNat_natCast]
 walk_at "rd"
 exact k
theorem ok_l_rows (F : FunAt K mg "_law_rows" s_l_rows ["_law_seats_here", "_law_t"]) (B : Blt mg) : DefOk P w K mg base CX0 1 "_law_rows" ["_law_seats_here", "_law_t"] (spIRows K) := by
 refine def_okI F sc_l_rows (fun vs H Q E h => ?_) (fun f cdv A outer s H vs Q E hr h => ?_)
 · obtain ⟨a, z, ws, c, t, rfl, _⟩ := h; rfl
 obtain ⟨a, _, ws, c, t, rfl, ha, hP, ⟨az, rfl, haz⟩, bt, zc, h1, h12, k⟩ := h
 have hu := hr.units
 refine ⟨_, (pss_consI (ps_setI (i := 2) sc_l_rows.nd rfl (Or.inl rfl) (pe_lstI (pa_consI (pvI 0) pa_nilI))) (pss_consI (ps_whileI PassesOwn.never (pt_cmpRI op_gt (pe_callBI (call_lenK K) (by rfl) B.len PySem.boot_len (pa_consI (pe_ixI (ix_listK K) (pvI 2) (pe_unI un_neg pe_intI) (fun _ _ => rfl)) pa_nilI)) pe_intI (nomark _)) (pss_consI (ps_setI (i := 3) sc_l_rows.nd rfl (Or.inl rfl) (pe_ixI (ix_listK K) (pvI 2) (pe_unI un_neg pe_intI) (fun _ _ => rfl))) (pss_consI (ps_setI (i := 4) sc_l_rows.nd rfl (Or.inl rfl) (pe_lstI pa_nilI)) (pss_consI (ps_forI PassesOwn.never rfl (pi_range1I rfl B.range (pa_consI (pe_opI op_sub (pe_callBI (call_lenK K) (by rfl) B.len PySem.boot_len (pa_consI (pvI 3) pa_nilI)) pe_intI) pa_nilI)) (pg_nameI (i := 5) sc_l_rows.nd rfl (Or.inl rfl)) (pss_consI (ps_setI (i := 6) sc_l_rows.nd rfl (Or.inl rfl) (pe_opI op_add (pe_opI op_mulA (pe_opI op_sub (pe_ixI (ix_tupK K) (pvI 1) pe_intI (fun _ _ => rfl)) (pe_ixI (ix_tupK K) (pvI 1) pe_intI (fun _ _ => rfl))) (pe_ixI (ix_tupK K) (pe_ixI (ix_listK K) (pvI 3) (pvI 5) (fun _ _ => rfl)) pe_intI (fun _ _ => rfl))) (pe_opI op_mulA (pe_ixI (ix_tupK K) (pvI 1) pe_intI (fun _ _ => rfl)) (pe_ixI (ix_tupK K) (pe_ixI (ix_listK K) (pvI 3) (pe_opI op_add (pvI 5) pe_intI) (fun _ _ => rfl)) pe_intI (fun _ _ => rfl))))) (pss_oneI (ps_exprI (show PEi _ _ (tBM K _ _ _ _) from (pe_bmI PySem.F.plainAttrs_list PySem.F.slot_list_append PySem.F.type_list_append mt_append (pvI 4) (pa_consI (pe_tupI (pa_consI (pvI 6) (pa_consI (pe_opI op_add (pe_opI op_mulA (pe_opI op_sub (pe_ixI (ix_tupK K) (pvI 1) pe_intI (fun _ _ => rfl)) (pe_ixI (ix_tupK K) (pvI 1) pe_intI (fun _ _ => rfl))) (pe_ixI (ix_tupK K) (pe_ixI (ix_listK K) (pvI 3) (pvI 5) (fun _ _ => rfl)) pe_intI (fun _ _ => rfl))) (pe_opI op_mulA (pe_ixI (ix_tupK K) (pvI 1) pe_intI (fun _ _ => rfl)) (pe_ixI (ix_tupK K) (pe_ixI (ix_listK K) (pvI 3) (pe_opI op_add (pvI 5) pe_intI) (fun _ _ => rfl)) pe_intI (fun _ _ => rfl)))) pa_nilI))) pa_nilI))))))) (pss_oneI (ps_exprI (show PEi _ _ (tBM K _ _ _ _) from (pe_bmI PySem.F.plainAttrs_list PySem.F.slot_list_append PySem.F.type_list_append mt_append (pvI 2) (pa_consI (pvI 4) pa_nilI))))))))) (pss_oneI (ps_retI (pvI 2))))), ?_⟩
 walk_at "rd"
 intro l hl
 have nal : a ≠ l := ne_of_none ha hl
 have s0 := Same.new (o := .lst [V.ref a]) hl
 refine while_byH (fun σ H' => ∃ (ls : List V) (r : Nat) (y3 y4 y5 y6 : Option V), σ = [some (.ref a), some (.ref az), some (.ref l), y3, y4, y5, y6] ∧ Same H H' ∧ H' l = some (.lst ls) ∧ CsV H' (some l) ls ((List.range r).map (rwI t c)) ∧ 1 ≤ r ∧ r ≤ c.length) muF ⟨[.ref a], 1, none, none, none, none, rfl, s0, upd_same, CsV.one (fun e => nal (Option.some.inj e)) (s0 _ _ ha) (hP.same s0), by decide, h1⟩ ?_ ?_
 · rintro D' Z hZ hR' σ H1 ⟨ls, r, y3, y4, y5, y6, rfl, s1, hl1, hC1, r1, rc⟩ N hN
   have hll := hC1.len
   rw [List.length_map, List.length_range] at hll
   have er : ((List.range r).map (rwI t c))[r - 1]? = some (rwI t c (r - 1)) := by rw [List.getElem?_map, List.getElem?_range (by omega)]; rfl
   obtain ⟨lb, ub, eb, hb, hPb⟩ := hC1.at er
   have hubl := hPb.len
   rw [rwI_len] at hubl
   have mu0 : muF [some (.ref a), some (.ref az), some (.ref l), y3, y4, y5, y6] H1 = 20 - ls.length := muF_eq hl1
   have hat : atI ls (-1) = some (.ref lb) := atI_last' _ _ (by rw [hll]; exact eb) (by omega)
   walk_at "rd"
   refine ite_dec (fun hc => ?_) (fun hc => ?_)
   · walk_at "rd"
     intro m hm
     have hm1 : H1 m = none := hm
     have s2 := Same.new (o := .lst []) hm
     have nml : m ≠ l := fun e => by rw [e, hl1] at hm; cases hm
     have zr := rwI_sz bt zc (r - 1)
     have b1 : 110 + (r - 1) * (120 + 2) ≤ 1500 := by
       have := Nat.mul_le_mul_right 122 (show r - 1 ≤ 11 by omega)
       omega
     walk_at "rd"
     refine ⟨by omega, by omega, for_rangeH (fun i σ H' => ∃ (y5 y6 : Option V) (vs : List V), σ = [some (.ref a), some (.ref az), some (.ref l), some (.ref lb), some (.ref m), y5, y6] ∧ Same H1 H' ∧ H' m = some (.lst vs) ∧ PlsV H' vs ((rwI t c r).take i)) ⟨y5, y6, [], rfl, s2, upd_same, ⟨rfl, fun i v p e => nomatch (show (none : Option V) = some v from e)⟩⟩ ?_ ?_⟩
     · rintro D2 N2 hN2 hR2 i σ H2 hi ⟨y5, y6, vs, rfl, s3, hm3, hP3⟩
       have hi' : i + 1 < (rwI t c (r - 1)).length := by rw [rwI_len]; omega
       have e0 : (rwI t c (r - 1))[i]? = some ((rwI t c (r - 1))[i]'(by omega)) := List.getElem?_eq_getElem _
       have e1 : (rwI t c (r - 1))[i + 1]? = some ((rwI t c (r - 1))[i + 1]'hi') := List.getElem?_eq_getElem _
       obtain ⟨p0, w0, g0⟩ := (hPb.same s3).at e0
       obtain ⟨p1, w1, g1⟩ := (hPb.same s3).at e1
       have z0 := zr _ (List.mem_of_getElem? e0)
       have z1 := zr _ (List.mem_of_getElem? e1)
       have ets := rw_take e0 e1
       rw [show r - 1 + 1 = r by omega] at ets
       generalize (rwI t c (r - 1))[i]'(by omega) = q0 at *
       generalize (rwI t c (r - 1))[i + 1]'hi' = q1 at *
       have haz2 := s3 _ _ (s1 _ _ haz)
       have hb2 := s3 _ _ hb
       have a1 : Sz 1500 q0.1 := z0.1.mono b1
       have a2 : Sz 1500 q0.2 := z0.2.mono b1
       have a3 : Sz 1500 q1.1 := z1.1.mono b1
       have a4 : Sz 1500 q1.2 := z1.2.mono b1
       have x0 : atI ub (0 + (i : Int)) = some (.ref p0) := atI_nat' (j := i) (by omega) w0
       have x1 : atI ub (0 + (i : Int) + 1) = some (.ref p1) := atI_nat' (j := i + 1) (by omega) w1
       refine seqH (fun N3 hN3 => ?_)
       walk_at "rd"
       refine hN3 _ _ ?_
       walk_at "rd"
       refine ⟨.inl ⟨rfl, _, SqL.of hm3⟩, ?_⟩
       walk_at "rd"
       intro g hg
       refine ⟨m, vs, _, rfl, rfl, upd_keep hg hm3, small_line (by have := hP3.len; rw [List.length_take, rwI_len] at this; omega), ?_⟩
       refine hN2 _ _ _ ⟨_, _, _, rfl, same_upd hm1 (s3.trans (Same.new hg)), upd_same, ?_⟩
       rw [ets]
       refine PlsV.tup ?_ (Tup.lst (upd_keep hg hm3))
       exact (hP3.same (Same.new hg)).snoc ⟨g, rfl, upd_same⟩
     rintro σ H2 ⟨y5, y6, vs, rfl, s3, hm3, hP3⟩
     have hfull : (rwI t c r).take ((ub.length : Int) - 1).toNat = rwI t c r := by rw [List.take_of_length_le]; rw [rwI_len]; omega
     rw [hfull] at hP3
     have hl3 := s3 _ _ hl1
     refine ⟨_, rfl, .inl ⟨rfl, _, SqL.of hl3⟩, ?_⟩
     walk_at "rd"
     refine ⟨l, ls, _, rfl, rfl, hl3, small_line (by omega), ?_⟩
     have t4 : Tup H2 (upd H2 l (.lst (ls ++ [.ref m]))) := Tup.lst hl3
     refine hN _ _ ⟨⟨_, r + 1, _, _, _, _, rfl, same_upd hl (s1.trans s3), upd_same, ?_, by omega, by omega⟩, ?_⟩
     · rw [range_snoc]
       exact ((hC1.same s3).upd hl3).snoc (fun e => nml (Option.some.inj e)) (by rw [upd_ne nml]; exact hm3) (hP3.tup t4)
     · rw [mu0]
       show muF (_ :: _ :: some (.ref l) :: _) _ < _
       rw [muF_eq upd_same, List.length_append, hll]
       show 20 - (r + 1) < 20 - r
       omega
   · have erc : r = c.length := by omega
     subst erc
     refine hZ _ _ ?_
     walk_at "rd"
     exact k l ls H1 s1 hl hl1 hC1.drop
 · rintro σ H1 Q1 Q2 hq ⟨v, h1, i, h2, p, ys, xx, yy, h3, h4, h5, h6, p2, ys2, h7, h8, u, h9, i1, j1, h10, h11, h13⟩
   exact ⟨v, h1, i, h2, p, ys, xx, yy, h3, h4, h5, h6, p2, ys2, h7, h8, u, h9, i1, j1, h10, h11, hq _ _ h13⟩
theorem ok_l_point_due (F : FunAt K mg "_law_point_due" s_l_point_due ["_law_seats_here", "_law_bottom", "_law_t"]) (B : Blt mg) (D_l_share : DefOk P w K mg base CX0 1 "_law_share" ["_law_top", "_law_bottom"] spLShare) (D_l_point_text : DefOk P w K mg base CX0 2 "_law_point_text" ["_law_place_here"] spLTxP) (D_l_power : DefOk P w K mg base CX0 1 "_law_power" ["_law_number", "_law_many"] spPow) (D_l_rows : DefOk P w K mg base CX0 1 "_law_rows" ["_law_seats_here", "_law_t"] (spIRows K)) : DefOk P w K mg base CX0 3 "_law_point_due" ["_law_seats_here", "_law_bottom", "_law_t"] (spPtDue K) := by
 refine def_okI F sc_l_point_due (fun vs H Q E h => ?_) (fun f cdv A outer s H vs Q E hr h => ?_)
 · obtain ⟨a, ws, pl, B, z, t, rfl, _⟩ := h; rfl
 obtain ⟨lj, uj, cj, Bo, _, tl, rfl, hj, hPj, zj, n1, n6, b1, b2, ⟨az, rfl, haz⟩, bt, hfg, k⟩ := h
 have hu := hr.units
 refine ⟨_, (pss_consI (ps_asgI (pe_ixI (ix_listK K) (pe_ixI (ix_listK K) (pe_fnI D_l_rows hr pass0 (pa_consI (pvI 0) (pa_consI (pvI 2) pa_nilI))) (pe_unI un_neg pe_intI) (fun _ _ => rfl)) pe_intI (fun _ _ => rfl)) (pg_tupKI (n := 2) K rfl (pgs_consI (pg_nameI (i := 3) sc_l_point_due.nd rfl (Or.inl rfl)) (pgs_consI (pg_nameI (i := 4) sc_l_point_due.nd rfl (Or.inl rfl)) pgs_nilI)))) (pss_consI (ps_setI (i := 1) sc_l_point_due.nd rfl (Or.inl rfl) (pe_opI op_mulA (pvI 1) (pe_fnI D_l_power hr pass0 (pa_consI (pe_ixI (ix_tupK K) (pvI 2) pe_intI (fun _ _ => rfl)) (pa_consI (pe_opI op_sub (pe_callBI (call_lenK K) (by rfl) B.len PySem.boot_len (pa_consI (pvI 0) pa_nilI)) pe_intI) pa_nilI))))) (pss_oneI (ps_retI (pe_fnI D_l_point_text hr pass0 (pa_consI (pe_tupI (pa_consI (pe_fnI D_l_share hr pass0 (pa_consI (pvI 3) (pa_consI (pvI 1) pa_nilI))) (pa_consI (pe_fnI D_l_share hr pass0 (pa_consI (pvI 4) (pa_consI (pvI 1) pa_nilI))) pa_nilI))) pa_nilI)))))), ?_⟩
 have hd := den_posI tl
 have nj : 1 ≤ cj.length ∧ cj.length ≤ 10 := ⟨n1, by omega⟩
 walk_at "rd"
 refine ⟨lj, .ref az, uj, cj, tl, rfl, hj, hPj, ⟨az, rfl, haz⟩, bt.mono (by decide), zj, nj.1, by omega, fun l ls H2 s2 hl0 hl hCs => ?_⟩
 have hll := hCs.len
 rw [List.length_map, List.length_range] at hll
 have er : ((List.range cj.length).map (rwI tl cj))[cj.length - 1]? = some (rwI tl cj (cj.length - 1)) := by rw [List.getElem?_map, List.getElem?_range (by omega)]; rfl
 obtain ⟨lb, ub, eb, hb, hPb⟩ := hCs.at er
 have e0 : (rwI tl cj (cj.length - 1))[0]? = some ((rwI tl cj (cj.length - 1))[0]'(by rw [rwI_len]; omega)) := List.getElem?_eq_getElem _
 obtain ⟨p0, w0, g0⟩ := hPb.at e0
 have hpt := last_row (B := Bo) (by omega) nj.1 e0
 generalize (rwI tl cj (cj.length - 1))[0]'(by rw [rwI_len]; omega) = q0 at *
 have hat : atI ls (-1) = some (.ref lb) := atI_last' _ _ (by rw [hll]; exact eb) (by omega)
 walk_at "rd"
 refine ⟨lb, _, _, _, rfl, rfl, SqL.of hb, atI_nat' (j := 0) rfl w0, ?_⟩
 refine ⟨p0, _, rfl, SqT.of g0, rfl, _, _, rfl, _, _, rfl, rfl, ?_⟩
 have haz2 := s2 _ _ haz
 have hj2 := s2 _ _ hj
 have hul := hPj.len
 walk_at "rd"
 refine ⟨(tl.den : Int), cj.length - 1, by show [V.int (tl.den : Int), V.int ((uj.length : Int) - 1)] = _; rw [show ((uj.length : Int) - 1) = ((cj.length - 1 : Nat) : Int) by omega], by omega, bt.den.mono (by decide), ?_⟩
 have zb : Sz 40 Bo := ⟨by show _ < 2 ^ 40; omega⟩
 have zp : Sz 2000 ((tl.den : Int) ^ (cj.length - 1)) := (sz_pow bt.den (cj.length - 1)).mono (by have := Nat.mul_le_mul_right 101 (show cj.length - 1 ≤ 9 by omega); omega)
 have pp : 0 < (tl.den : Int) ^ (cj.length - 1) := pow_pos' hd _
 have ppb : 0 < Bo * (tl.den : Int) ^ (cj.length - 1) := Int.mul_pos (by omega) pp
 walk_at "rd"
 refine ⟨_, _, rfl, ppb, (zb.mul zp).mono (by decide), fun v1 H3 s3 hv1 => ?_⟩
 walk_at "rd"
 refine ⟨_, _, rfl, ppb, (zb.mul zp).mono (by decide), fun v2 H4 s4 hv2 => ?_⟩
 walk_at "rd"
 intro c hcc
 have vc := Same.new (o := .tup [v1, v2]) hcc
 walk_at "rd"
 rw [← hpt] at hfg k
 refine ⟨.ref c, _, _, rfl, ⟨c, v1, v2, rfl, upd_same, (hv1.same s4).same vc, hv2.same vc⟩, hfg, ?_⟩
 exact k _ (((s2.trans s3).trans s4).trans vc)
theorem ok_l_stream (F : FunAt K mg "_law_stream" s_l_stream ["_law_cell", "_law_many"]) (B : Blt mg) : DefOk P w K mg base CX0 1 "_law_stream" ["_law_cell", "_law_many"] spStreamC := by
 refine def_okI F sc_l_stream (fun vs H Q E h => ?_) (fun f cdv A outer s H vs Q E hr h => ?_)
 · obtain ⟨c, n, rfl, _⟩ := h; rfl
 obtain ⟨c, n, rfl, hn, k⟩ := h
 have hu := hr.units
 refine ⟨_, (pss_consI (ps_setI (i := 2) sc_l_stream.nd rfl (Or.inl rfl) (pe_opI op_add pe_intI (pe_opI op_mod (pvI 0) pe_intI))) (pss_consI (ps_setI (i := 3) sc_l_stream.nd rfl (Or.inl rfl) (pe_lstI pa_nilI)) (pss_consI (ps_forI PassesOwn.never rfl (pi_range1I rfl B.range (pa_consI (pe_opI op_add (pvI 1) pe_intI) pa_nilI)) (pg_nameI (i := 4) sc_l_stream.nd rfl (Or.inl rfl)) (pss_consI (ps_setI (i := 2) sc_l_stream.nd rfl (Or.inl rfl) (pe_opI op_mod (pe_opI op_mulA (pvI 2) pe_intI) pe_intI)) (pss_oneI (ps_exprI (show PEi _ _ (tBM K _ _ _ _) from (pe_bmI PySem.F.plainAttrs_list PySem.F.slot_list_append PySem.F.type_list_append mt_append (pvI 3) (pa_consI (pvI 2) pa_nilI))))))) (pss_oneI (ps_retI (pe_sliceI (sl_listK K) (pvI 3) (po_someI pe_intI) po_noneI)))))), ?_⟩
 walk_at "rd"
 intro l hl
 walk_at "rd"
 refine ⟨by omega, by omega, for_range (fun i σ H' => ∃ (x : Int) (xs : List Int) (y : Option V), σ = [some (.int c), some (.int (n : Int)), some (.int x), some (.ref l), y] ∧ Same H H' ∧ H' l = some (.lst (xs.map V.int)) ∧ xs.length = i ∧ ∀ z ∈ xs, 0 ≤ z ∧ z ≤ 2147483647) ⟨_, [], none, rfl, Same.new hl, upd_same, rfl, fun _ h => nomatch h⟩ ?_ ?_⟩
 · rintro i σ H2 hi ⟨x, xs, y, rfl, s2, h2, hlen, hx⟩
   walk_at "rd"
   refine ⟨.inl ⟨rfl, _, SqL.of h2⟩, ?_⟩
   walk_at "rd"
   refine ⟨l, _, _, rfl, rfl, h2, ?_, ?_⟩
   · rw [List.length_map, hlen]; exact small_line (by omega)
   · refine ⟨_, xs ++ [x * 48271 % 2147483647], _, rfl, fun b o e => ?_, ?_, ?_, ?_⟩
     · rw [upd_ne (ne_of_none e hl)]; exact s2 b o e
     · rw [upd_same, List.map_append]; rfl
     · rw [List.length_append, hlen]; rfl
     · intro z hz
       rcases List.mem_append.mp hz with hz | hz
       · exact hx z hz
       · cases List.mem_singleton.mp hz
         have := Int.emod_nonneg (x * 48271) (b := 2147483647) (by decide)
         have := Int.emod_lt_of_pos (x * 48271) (b := 2147483647) (by decide)
         omega
 · rintro σ H2 ⟨x, xs, y, rfl, s2, h2, hlen, hx⟩
   refine ⟨_, rfl, 2, rfl, l, _, rfl, SqL.of h2, fun q hq => ?_⟩
   rw [cut_fromI V.int xs 2 2 rfl (by omega)]
   exact k q (xs.drop 2) _ (s2.trans (Same.new hq)) (s2.free hq) upd_same (by rw [List.length_drop, hlen]; omega) fun z hz => hx z (List.mem_of_mem_drop hz)
theorem ok_l_place (F : FunAt K mg "_law_place" s_l_place ["_law_cell", "_law_way_here"]) (D_l_stream : DefOk P w K mg base CX0 1 "_law_stream" ["_law_cell", "_law_many"] spStreamC) : DefOk P w K mg base CX0 2 "_law_place" ["_law_cell", "_law_way_here"] spPlace := by
 refine def_okI F sc_l_place (fun vs H Q E h => ?_) (fun f cdv A outer s H vs Q E hr h => ?_)
 · obtain ⟨c, w, B, kd, rfl, _⟩ := h; rfl
 obtain ⟨c, _, B, kd, rfl, ⟨a, s, b, sx, sy, bx, by_, rfl, ha, hs, hb, B1, B2, z1, z2, z3, z4⟩, k⟩ := h
 have hu := hr.units
 refine ⟨_, (pss_consI (ps_asgI (pvI 1) (pg_tupKI (n := 4) K rfl (pgs_consI (pg_nameI (i := 2) sc_l_place.nd rfl (Or.inl rfl)) (pgs_consI (pg_nameI (i := 3) sc_l_place.nd rfl (Or.inl rfl)) (pgs_consI (pg_nameI (i := 4) sc_l_place.nd rfl (Or.inl rfl)) (pgs_consI (pg_nameI (i := 5) sc_l_place.nd rfl (Or.inl rfl)) pgs_nilI)))))) (pss_consI (ps_setI (i := 6) sc_l_place.nd rfl (Or.inl rfl) (pe_fnI D_l_stream hr pass0 (pa_consI (pvI 0) (pa_consI pe_intI pa_nilI)))) (pss_consI (ps_ifI (pt_cmpRI op_eq (pvI 3) pe_intI (nomark _)) (pss_oneI (ps_retI (pe_tupI (pa_consI (pe_opI op_sub (pe_opI op_mod (pvI 0) (pe_opI op_pow pe_intI pe_intI)) (pe_opI op_mulA pe_intI (pe_opI op_pow pe_intI pe_intI))) (pa_consI (pe_opI op_sub (pe_opI op_mod (pe_opI op_mulA (pvI 0) (pe_ixI (ix_listK K) (pvI 6) pe_intI (fun _ _ => rfl))) (pe_opI op_pow pe_intI pe_intI)) (pe_opI op_mulA pe_intI (pe_opI op_pow pe_intI pe_intI))) pa_nilI))))) pss_nilI) (pss_consI (ps_ifI (pt_cmpRI op_eq (pvI 3) pe_intI (nomark _)) (pss_oneI (ps_retI (pe_tupI (pa_consI (pe_opI op_add (pe_ixI (ix_tupK K) (pvI 4) pe_intI (fun _ _ => rfl)) (pe_opI op_mulA (pe_ixI (ix_tupK K) (pvI 5) pe_intI (fun _ _ => rfl)) (pe_opI op_mod (pe_ixI (ix_listK K) (pvI 6) pe_intI (fun _ _ => rfl)) pe_intI))) (pa_consI (pe_opI op_add (pe_ixI (ix_tupK K) (pvI 4) pe_intI (fun _ _ => rfl)) (pe_opI op_mulA (pe_ixI (ix_tupK K) (pvI 5) pe_intI (fun _ _ => rfl)) (pe_opI op_mod (pe_ixI (ix_listK K) (pvI 6) pe_intI (fun _ _ => rfl)) pe_intI))) pa_nilI))))) pss_nilI) (pss_consI (ps_ifI (pt_cmpRI op_eq (pvI 3) pe_intI (nomark _)) (pss_oneI (ps_retI (pe_tupI (pa_consI (pe_opI op_add (pe_ixI (ix_tupK K) (pvI 4) pe_intI (fun _ _ => rfl)) (pe_opI op_mulA (pe_opI op_mod (pe_ixI (ix_listK K) (pvI 6) pe_intI (fun _ _ => rfl)) pe_intI) (pe_ixI (ix_tupK K) (pvI 5) pe_intI (fun _ _ => rfl)))) (pa_consI (pe_ixI (ix_tupK K) (pvI 4) pe_intI (fun _ _ => rfl)) pa_nilI))))) pss_nilI) (pss_consI (ps_ifI (pt_cmpRI op_eq (pvI 3) pe_intI (nomark _)) (pss_oneI (ps_retI (pe_tupI (pa_consI (pe_opI op_add (pe_opI op_mulA (pe_ixI (ix_tupK K) (pvI 4) pe_intI (fun _ _ => rfl)) (pe_opI op_pow pe_intI pe_intI)) (pe_opI op_mod (pe_ixI (ix_listK K) (pvI 6) pe_intI (fun _ _ => rfl)) pe_intI)) (pa_consI (pe_opI op_add (pe_opI op_mulA (pe_ixI (ix_tupK K) (pvI 4) pe_intI (fun _ _ => rfl)) (pe_opI op_pow pe_intI pe_intI)) (pe_opI op_mod (pe_ixI (ix_listK K) (pvI 6) pe_intI (fun _ _ => rfl)) pe_intI)) pa_nilI))))) pss_nilI) (pss_consI (ps_ifI (pt_cmpRI op_gt (pvI 0) pe_intI (nomark _)) (pss_oneI (ps_retI (pe_tupI (pa_consI (pe_opI op_sub (pe_opI op_mod (pvI 0) pe_intI) pe_intI) (pa_consI (pe_opI op_sub (pe_opI op_mod (pe_opI op_fdiv (pvI 0) pe_intI) pe_intI) pe_intI) pa_nilI))))) pss_nilI) (pss_oneI (ps_retI (pe_tupI (pa_consI (pe_opI op_sub (pe_opI op_mod (pe_ixI (ix_listK K) (pvI 6) pe_intI (fun _ _ => rfl)) pe_intI) pe_intI) (pa_consI (pe_opI op_sub (pe_opI op_mod (pe_ixI (ix_listK K) (pvI 6) pe_intI (fun _ _ => rfl)) pe_intI) pe_intI) pa_nilI)))))))))))), ?_⟩
 walk_at "rd"
 refine ⟨a, _, rfl, SqT.of ha, rfl, _, _, rfl, _, _, rfl, _, _, rfl, _, _, rfl, rfl, ?_⟩
 walk_at "rd"
 refine ⟨c, 4, rfl, by decide, fun lx xs H1 s1 hx0 hx hxl hnn => ?_⟩
 have nn : ∀ j : Nat, 0 ≤ xs.getD j 0 := fun j => getD_nn (fun x h => (hnn x h).1) j
 have n0 := nn 0
 have n1 := nn 1
 have m0 : xs.getD 0 0 ≤ 2147483647 := by
   have e : xs[0]? = some (xs[0]'(by omega)) := List.getElem?_eq_getElem _
   rw [List.getD_eq_getElem?_getD, e]; exact (hnn _ (List.getElem_mem _)).2
 have m0' : xs.getD (Int.toNat 0) 0 ≤ 2147483647 := m0
 have n0' : 0 ≤ xs.getD (Int.toNat 0) 0 := n0
 have n1' : 0 ≤ xs.getD (Int.toNat 1) 0 := n1
 have hx1 : SqL K H1 lx (xs.map V.int) := SqL.of hx
 walk_at "rd"
 refine ifB (fun _ => ?_) (fun _ => ?_)
 · walk_at "rd"
   intro g hg
   rw [p29, p30] at *
   have a1 := Int.emod_nonneg c (b := 1000000000000000000000000000000) (by decide)
   have a2 := Int.emod_lt_of_pos c (b := 1000000000000000000000000000000) (by decide)
   have a3 := Int.emod_nonneg (c * xs.getD (Int.toNat 0) 0) (b := 1000000000000000000000000000000) (by decide)
   have a4 := Int.emod_lt_of_pos (c * xs.getD (Int.toNat 0) 0) (b := 1000000000000000000000000000000) (by decide)
   exact k _ _ _ _ (by walk_at "sm") ⟨g, rfl, upd_same⟩ (sz_of (b := 1000000000000000000000000000000) (by omega) (by decide)) (sz_of (b := 1000000000000000000000000000000) (by omega) (by decide))
 have hs1 := s1 _ _ hs
 have hb1 := s1 _ _ hb
 have f9 : ∀ (u v : Int), u.natAbs ≤ 3 → 0 ≤ v → v < 9 → (u * v).natAbs ≤ 27 := fun u v h1 h2 h3 => by
   rw [Int.natAbs_mul]
   exact Nat.le_trans (Nat.mul_le_mul h1 (show v.natAbs ≤ 9 by omega)) (by decide)
 walk_at "rd"
 refine ifB (fun _ => ?_) (fun _ => ?_)
 · walk_at "rd"
   intro g hg
   have q1 := f9 bx (xs.getD (Int.toNat 0) 0 % 9) z3 (by omega) (by omega)
   have q2 := f9 by_ (xs.getD (Int.toNat 0) 0 % 9) z4 (by omega) (by omega)
   exact k _ _ _ _ (by walk_at "sm") ⟨g, rfl, upd_same⟩ (sz_of (b := 1000000000000000000000000000000) (by omega) (by decide)) (sz_of (b := 1000000000000000000000000000000) (by omega) (by decide))
 walk_at "rd"
 refine ifB (fun _ => ?_) (fun _ => ?_)
 · walk_at "rd"
   intro g hg
   have q1 := f9 bx (xs.getD (Int.toNat 0) 0 % 2) z3 (by omega) (by omega)
   rw [Int.mul_comm] at q1
   exact k _ _ _ _ (by walk_at "sm") ⟨g, rfl, upd_same⟩ (sz_of (b := 1000000000000000000000000000000) (by omega) (by decide)) (sz_of (b := 1000000000000000000000000000000) (by omega) (by decide))
 walk_at "rd"
 refine ifB (fun _ => ?_) (fun _ => ?_)
 · walk_at "rd"
   intro g hg
   rw [p25] at *
   exact k _ _ _ _ (by walk_at "sm") ⟨g, rfl, upd_same⟩ (sz_of (b := 1000000000000000000000000000000) (by omega) (by decide)) (sz_of (b := 1000000000000000000000000000000) (by omega) (by decide))
 walk_at "rd"
 refine ite_dec (fun _ => ?_) (fun _ => ?_)
 · walk_at "rd"
   intro g hg
   exact k _ _ _ _ (by walk_at "sm") ⟨g, rfl, upd_same⟩ (sz_of (b := 1000000000000000000000000000000) (by omega) (by decide)) (sz_of (b := 1000000000000000000000000000000) (by omega) (by decide))
 walk_at "rd"
 intro g hg
 exact k _ _ _ _ (by walk_at "sm") ⟨g, rfl, upd_same⟩ (sz_of (b := 1000000000000000000000000000000) (by omega) (by decide)) (sz_of (b := 1000000000000000000000000000000) (by omega) (by decide))
theorem ok_l_seats (F : FunAt K mg "_law_seats" s_l_seats ["_law_cell", "_law_many", "_law_way_here"]) (D_l_stream : DefOk P w K mg base CX0 1 "_law_stream" ["_law_cell", "_law_many"] spStreamC) (D_l_place : DefOk P w K mg base CX0 2 "_law_place" ["_law_cell", "_law_way_here"] spPlace) : DefOk P w K mg base CX0 3 "_law_seats" ["_law_cell", "_law_many", "_law_way_here"] (spPSeats K) := by
 refine def_okI F sc_l_seats (fun vs H Q E h => ?_) (fun f cdv A outer s H vs Q E hr h => ?_)
 · obtain ⟨c, m, w, B, kd, rfl, _⟩ := h; rfl
 obtain ⟨c, m, w, B, kd, rfl, hm, hW, k⟩ := h
 have hu := hr.units
 refine ⟨_, (pss_oneI (ps_retI (pe_compSI (os := ["_law_one"]) (caps := [(2, "_law_way_here"), (0, "_law_cell")]) ["_law_cell", "_law_many", "_law_way_here"] (defScope s_l_seats) (pi_listKI K (pe_fnI D_l_stream hr pass0 (pa_consI (pvI 0) (pa_consI (pvI 1) pa_nilI)))) (fun _ _ _ _ _ => (pg_nameI (i := 0) (show List.Nodup (["_law_one", "_law_way_here", "_law_cell"] : List Str) from by decide +kernel) rfl (Or.inl rfl))) (fun _ _ _ _ _ => (pe_fnI D_l_place hr pass0 (pa_consI (pe_opI op_add (pe_opI op_mulA (pvI 0) (pvI 0)) (pvI 2)) (pa_consI (pvI 1) pa_nilI)))) (by decide +kernel)))), ?_⟩
 walk_at "rd"
 refine ⟨c, m, rfl, by omega, fun ls xs H1 s1 hls hx hxl hxx => ?_⟩
 walk_at "rd"
 refine ⟨⟨_, SqL.of hx⟩, comp1 (plain_list (SqL.of hx)) (by rw [List.length_map]; omega) (fun i v H => ∃ x y : Int, RwV H v x y ∧ Sz 110 x ∧ Sz 110 y) (fun _ _ _ _ t h => by obtain ⟨x, y, h1, h2⟩ := h; exact ⟨x, y, h1.tup t, h2⟩) (fun i H2 kk hi s2 hk => ?_) (fun D us H2 hD s2 hd hul hr => ?_)⟩
 · rw [List.length_map] at hi
   have e1 : xs[i]? = some (xs[i]'hi) := List.getElem?_eq_getElem _
   have b1 := hxx _ (List.mem_of_getElem? e1)
   rw [int_at e1]
   walk_at "rd"
   refine ⟨_, w, B, kd, rfl, (hW.same s1).same s2, fun v x y H3 s3 hv zx zy => ?_⟩
   exact hk v H3 s3 ⟨x, y, hv, zx, zy⟩
 obtain ⟨pl, hP, hZ⟩ := pls_exist hr
 rw [List.length_map, hxl] at hul
 exact k D us pl H2 (s1.trans s2) (s1.free hD) hd hP (by rw [← hP.len, hul]) hZ
theorem ok_l_way (F : FunAt K mg "_law_way" s_l_way ["_law_cell"]) (D_l_stream : DefOk P w K mg base CX0 1 "_law_stream" ["_law_cell", "_law_many"] spStreamC) : DefOk P w K mg base CX0 2 "_law_way" ["_law_cell"] spWay := by
 refine def_okI F sc_l_way (fun vs H Q E h => ?_) (fun f cdv A outer s H vs Q E hr h => ?_)
 · obtain ⟨c, rfl, _⟩ := h; rfl
 obtain ⟨c, rfl, k⟩ := h
 have hu := hr.units
 refine ⟨_, (pss_consI (ps_setI (i := 1) sc_l_way.nd rfl (Or.inl rfl) (pe_fnI D_l_stream hr pass0 (pa_consI (pvI 0) (pa_consI pe_intI pa_nilI)))) (pss_consI (ps_setI (i := 2) sc_l_way.nd rfl (Or.inl rfl) (pe_ixI (ix_listK K) (pe_lstI (pa_consI pe_intI (pa_consI pe_intI (pa_consI pe_intI (pa_consI pe_intI (pa_consI pe_intI (pa_consI pe_intI (pa_consI pe_intI (pa_consI (pe_opI op_add (pe_opI op_pow pe_intI pe_intI) pe_intI) pa_nilI))))))))) (pe_opI op_mod (pe_ixI (ix_listK K) (pvI 1) pe_intI (fun _ _ => rfl)) pe_intI) (fun _ _ => rfl))) (pss_consI (ps_setI (i := 3) sc_l_way.nd rfl (Or.inl rfl) (pe_tupI (pa_consI (pe_opI op_sub (pe_opI op_mod (pe_ixI (ix_listK K) (pvI 1) pe_intI (fun _ _ => rfl)) pe_intI) pe_intI) (pa_consI (pe_opI op_sub (pe_opI op_mod (pe_ixI (ix_listK K) (pvI 1) pe_intI (fun _ _ => rfl)) pe_intI) pe_intI) pa_nilI)))) (pss_oneI (ps_retI (pe_tupI (pa_consI (pvI 2) (pa_consI (pe_opI op_mod (pe_ixI (ix_listK K) (pvI 1) pe_intI (fun _ _ => rfl)) pe_intI) (pa_consI (pvI 3) (pa_consI (pe_tupI (pa_consI (pe_opI op_sub (pe_opI op_mod (pe_ixI (ix_listK K) (pvI 1) pe_intI (fun _ _ => rfl)) pe_intI) pe_intI) (pa_consI (pe_opI op_sub (pe_opI op_mod (pe_ixI (ix_listK K) (pvI 1) pe_intI (fun _ _ => rfl)) pe_intI) pe_intI) pa_nilI))) pa_nilI)))))))))), ?_⟩
 walk_at "rd"
 refine ⟨c, 6, rfl, by decide, fun lx xs H1 s1 hx0 hx hxl hnn => ?_⟩
 have nn : ∀ j : Nat, 0 ≤ xs.getD j 0 := fun j => getD_nn (fun x h => (hnn x h).1) j
 have n0 := nn 0
 have n1 := nn 1
 have n2 := nn 2
 have n3 := nn 3
 have n4 := nn 4
 have n5 := nn 5
 have hx1 : SqL K H1 lx (xs.map V.int) := SqL.of hx
 walk_at "rd"
 intro lb hlb
 walk_at "rd"
 obtain ⟨B, hB, B1, B2⟩ := tab [1, 1, 2, 3, 6, 12, 8, (10 : Int) ^ (9 : Int).toNat + 7] 1 1000000007 (xs.getD (Int.toNat 0) 0 % 8) (by rw [p9]; decide) (by omega) (by show _ < (8 : Int); omega)
 refine ⟨_, _, _, _, rfl, rfl, SqL.of upd_same, hB, ?_⟩
 walk_at "rd"
 intro ls hls
 walk_at "rd"
 intro lz hlz
 walk_at "rd"
 intro la hla
 exact k _ B _ _ (by walk_at "sm") ⟨la, ls, lz, _, _, _, _, rfl, upd_same, by walk_at "hf", by walk_at "hf", by omega, by omega, by omega, by omega, by omega, by omega⟩
theorem ok_l_told {C_Desk : Addr} (T_Desk : ClsK K mg "Desk" C_Desk) (N_Desk_kept : NoAttr K C_Desk "kept") (F : FunAt K mg "_law_told" s_l_told ["_law_desk", "_law_book", "_law_name", "_law_cell"]) (D_Desk_say : MthOk P w K mg base CX0 8 C_Desk "say" ["self", "row"] (spSay C_Desk)) (D_l_curve_text : DefOk P w K mg base CX0 3 "_law_curve_text" ["_law_curve"] (spLTxC K)) (D_l_handed : DefOk P w K mg base CX0 2 "_law_handed" ["_law_places", "_law_bottom"] (spHanded K)) (D_l_stream : DefOk P w K mg base CX0 1 "_law_stream" ["_law_cell", "_law_many"] spStreamC) (D_l_seats : DefOk P w K mg base CX0 3 "_law_seats" ["_law_cell", "_law_many", "_law_way_here"] (spPSeats K)) (D_l_way : DefOk P w K mg base CX0 2 "_law_way" ["_law_cell"] spWay) : DefOk P w K mg base CX0 9 "_law_told" ["_law_desk", "_law_book", "_law_name", "_law_cell"] (spTold C_Desk) := by
 refine def_okI F sc_l_told (fun vs H Q E h => ?_) (fun f cdv A outer s H vs Q E hr h => ?_)
 · obtain ⟨x, d, b, n, c, bs, rfl, _⟩ := h; rfl
 obtain ⟨x, d, b, n, c, bs, rfl, hA, hW, hne, hn, h39, k⟩ := h
 have hu := hr.units
 refine ⟨_, (pss_consI (ps_setI (i := 4) sc_l_told.nd rfl (Or.inl rfl) (pe_fnI D_l_stream hr pass0 (pa_consI (pvI 3) (pa_consI pe_intI pa_nilI)))) (pss_consI (ps_setI (i := 5) sc_l_told.nd rfl (Or.inl rfl) (pe_fnI D_l_way hr pass0 (pa_consI (pe_opI op_add (pe_ixI (ix_listK K) (pvI 4) pe_intI (fun _ _ => rfl)) (pvI 3)) pa_nilI))) (pss_consI (ps_setI (i := 6) sc_l_told.nd rfl (Or.inl rfl) (pe_fnI D_l_seats hr pass0 (pa_consI (pe_ixI (ix_listK K) (pvI 4) pe_intI (fun _ _ => rfl)) (pa_consI (pe_opI op_add pe_intI (pe_opI op_mod (pe_ixI (ix_listK K) (pvI 4) pe_intI (fun _ _ => rfl)) pe_intI)) (pa_consI (pvI 5) pa_nilI))))) (pss_consI (ps_asgI (pe_tupI (pa_consI (pe_ixI (ix_tupK K) (pvI 5) pe_intI (fun _ _ => rfl)) (pa_consI (pvI 6) pa_nilI))) (pg_subI (pvI 1) (pvI 2) (set_dict hu))) (pss_oneI (ps_retI (pe_cmpRI op_eq (pe_mthI T_Desk D_Desk_say (pvI 0) hr pass0 (pa_consI (pe_opI op_add_str (pe_opI op_add_str (pe_opI op_add_str pe_strI (pvI 2)) pe_strI) (pe_fnI D_l_curve_text hr pass0 (pa_consI (pe_fnI D_l_handed hr pass0 (pa_consI (pvI 6) (pa_consI (pe_ixI (ix_tupK K) (pvI 5) pe_intI (fun _ _ => rfl)) pa_nilI))) pa_nilI))) pa_nilI)) pe_strI (nomark _)))))))), ?_⟩
 walk_at "rd"
 refine ⟨c, 3, rfl, by decide, fun lr xs H1 s1 hlr0 hlr hxl hx0 => ?_⟩
 walk_at "rd"
 intro vw B kd H2 s2 hw
 replace hlr := s2 _ _ hlr
 have b0 := Int.emod_nonneg (xs.getD (Int.toNat 2) 0) (b := 6) (by decide)
 have b1 := Int.emod_lt_of_pos (xs.getD (Int.toNat 2) 0) (b := 6) (by decide)
 walk_at "rd"
 refine ⟨_, (1 + xs.getD (Int.toNat 2) 0 % 6).toNat, vw, B, kd, by rw [Int.toNat_of_nonneg (by omega)], by omega, hw, fun l us pl H3 s3 hl0 hl hP hpl hsz => ?_⟩
 replace hw := hw.same s3
 obtain ⟨aw, sw, bw, sx, sy, bx, by_, rfl, haw, _, _, B1, B2, _⟩ := hw
 have s13 := (s1.trans s2).trans s3
 replace hA := hA.same s13
 obtain ⟨kvs, hb, hK, h40⟩ := hW.same s13
 walk_at "rd"
 intro gt hgt
 have v4 := Same.new (o := .tup [.int B, .ref l]) hgt
 have k4 := upd_same (H := H3) (a := gt) (o := .tup [.int B, .ref l])
 replace hA := hA.same v4
 replace hb := v4 _ _ hb
 replace hK := hK.mono fun v x r => BkV.same r v4
 replace hl := v4 _ _ hl
 replace hP := hP.same v4
 replace haw := v4 _ _ haw
 generalize upd H3 gt (.tup [.int B, .ref l]) = H4 at *
 have hGd : Gd (B, pl) := ⟨B1, B2, by show 1 ≤ pl.length; omega, by show pl.length ≤ 6; omega, hsz⟩
 walk_at "rd"
 refine ⟨b, _, rfl, DPut.k (k := .inr n) hb (small_line (by have := hK.length; omega)), ?_⟩
 have hW5 := DictW.put (n := n) (bk := (B, pl)) hb hK (by omega) k4 hl hP
 have e5 : Ex b H4 (upd H4 b (.dK (putK kvs (.inr n) (.ref gt)))) := Ex.put
 have hA5 := hA.ex e5 hb hne
 have hl5 := e5.lst hb hl
 have hP5 := hP.tup (e5.tup hb)
 have haw5 := e5.tup hb _ _ haw
 have e45 : Ex2 d b H (upd H4 b (.dK (putK kvs (.inr n) (.ref gt)))) := (Ex2.of_same (s13.trans v4)).trans (Ex2.of_r e5)
 generalize upd H4 b (.dK (putK kvs (.inr n) (.ref gt))) = H5 at *
 clear hb hK hl hP haw k4 v4 e5 hA hW
 obtain ⟨⟨dx, hx⟩, _⟩ := id hA5
 have ln1 : ("curve " ++ n).length ≤ 18 := by rw [len_app]; have := hn.2.1; show 6 + n.length ≤ 18; omega
 have ln2 : ("curve " ++ n ++ " ").length ≤ 19 := by rw [len_app]; show _ + 1 ≤ 19; omega
 have zB : Sz 9000 B := hGd.zB.mono (by decide)
 walk_at "rd"
 refine ⟨x, dx, _, rfl, hx, kept_no d (by decide +kernel), ?_⟩
 walk_at "rd"
 refine ⟨Nat.le_of_lt (small_line (by show 6 + n.length ≤ 100000; have := hn.2.1; omega)), ?_⟩
 walk_at "rd"
 refine ⟨Nat.le_of_lt (small_line (by show ("curve " ++ n).length + 1 ≤ 100000; omega)), ?_⟩
 walk_at "rd"
 refine ⟨l, us, pl, B, rfl, SqL.of hl5, hP5, B1, zB, by omega, fun l6 us6 H6 s6 hl60 hl6 hP6 => ?_⟩
 walk_at "rd"
 have fg := hGd.fg
 have hpl' : (ptsOf B pl).length = pl.length := ptsOf_len _ _
 refine ⟨l6, us6, ptsOf B pl, rfl, hl6, hP6, fun p hp => fgP_mono (fg p hp) (by decide), by omega, fun H7 s7 => ?_⟩
 have s67 := s6.trans s7
 have lt7 : (tCv (ptsOf B pl)).length ≤ 4896 := Nat.le_trans (tCv_ln (k := 100) (by decide) fg) (by rw [hpl']; show _ * 408 ≤ 12 * 408; exact Nat.mul_le_mul_right _ (by omega))
 refine ⟨_, _, rfl, rfl, Nat.le_of_lt (small_line (by show ("curve " ++ n ++ " ").length + (tCv (ptsOf B pl)).length ≤ 100000; omega)), ?_⟩
 replace hA5 := hA5.same s67
 have hD7 := hA5.2
 walk_at "rd"
 have er : ("curve " ++ n ++ " " ++ tCv (ptsOf B pl) : Str) = rowT "curve" (.nm n :: (ptsOf B pl).map .pt) := row_curve (by omega)
 refine ⟨x, d, _, cvs bs, rfl, hA5, ?_⟩
 change Say H7 d (cvs bs) _ ("curve " ++ n ++ " " ++ tCv (ptsOf B pl) : Str)
 rw [er]
 refine .curve n (ptsOf B pl) hn (by omega) (by omega) fg (by rw [cvs_len]; omega) fun H8 e8 hC8 => ?_
 walk_at "rd"
 rw [decide_eq_true rfl]
 obtain ⟨kvd, hkd, _⟩ := hD7
 have hA8 := hA5.own e8 hC8
 rw [show putA (cvs bs) n (ptsOf B pl) = cvs (putA bs n (B, pl)) from (putA_cvs bs n (B, pl)).symm] at hA8
 exact k (B, pl) H8 ((e45.trans (Ex2.of_same s67)).trans (Ex2.of_l e8)) hA8 ((hW5.same s67).ex e8 hkd (Ne.symm hne)) hGd
theorem ok_l_asked {C_Desk : Addr} (T_Desk : ClsK K mg "Desk" C_Desk) (N_Desk_kept : NoAttr K C_Desk "kept") (F : FunAt K mg "_law_asked" s_l_asked ["_law_desk", "_law_book", "_law_cell", "_law_names_here"]) (B : Blt mg) (D_Desk_say : MthOk P w K mg base CX0 8 C_Desk "say" ["self", "row"] (spSay C_Desk)) (D_l_share : DefOk P w K mg base CX0 1 "_law_share" ["_law_top", "_law_bottom"] spLShare) (D_l_share_text : DefOk P w K mg base CX0 1 "_law_share_text" ["_law_one"] spLTxS) (D_l_box_due : DefOk P w K mg base CX0 2 "_law_box_due" ["_law_seats_here", "_law_bottom"] (spBxDue K)) (D_l_curve_text : DefOk P w K mg base CX0 3 "_law_curve_text" ["_law_curve"] (spLTxC K)) (D_l_handed : DefOk P w K mg base CX0 2 "_law_handed" ["_law_places", "_law_bottom"] (spHanded K)) (D_l_point_due : DefOk P w K mg base CX0 3 "_law_point_due" ["_law_seats_here", "_law_bottom", "_law_t"] (spPtDue K)) (D_l_stream : DefOk P w K mg base CX0 1 "_law_stream" ["_law_cell", "_law_many"] spStreamC) (D_l_told : DefOk P w K mg base CX0 9 "_law_told" ["_law_desk", "_law_book", "_law_name", "_law_cell"] (spTold C_Desk)) : DefOk P w K mg base CX0 10 "_law_asked" ["_law_desk", "_law_book", "_law_cell", "_law_names_here"] (spAsked C_Desk) := by
 refine def_okI F sc_l_asked (fun vs H Q E h => ?_) (fun f cdv A outer s H vs Q E hr h => ?_)
 · obtain ⟨x, d, b, ln, c, bs, ss, rfl, _⟩ := h; rfl
 obtain ⟨x, d, b, ln, c, bs, ss, rfl, hA, hW, hne, hG, hbs, h39, hln, hss, h1, h12, k⟩ := h
 have hu := hr.units
 refine ⟨_, (pss_consI (ps_setI (i := 4) sc_l_asked.nd rfl (Or.inl rfl) (pe_fnI D_l_stream hr pass0 (pa_consI (pvI 2) (pa_consI pe_intI pa_nilI)))) (pss_consI (ps_setI (i := 5) sc_l_asked.nd rfl (Or.inl rfl) (pe_callBI call_sortD (by rfl) B.sorted PyProof.Rows.boot_sorted (pa_consI (pvI 1) pa_nilI))) (pss_consI (ps_setI (i := 6) sc_l_asked.nd rfl (Or.inl rfl) (pe_ixI (ix_listK K) (pvI 5) (pe_opI op_mod (pe_ixI (ix_listK K) (pvI 4) pe_intI (fun _ _ => rfl)) (pe_callBI (call_lenK K) (by rfl) B.len PySem.boot_len (pa_consI (pvI 5) pa_nilI))) (fun _ _ => rfl))) (pss_consI (ps_asgI (pe_ixI (ix_dict P w K hu) (pvI 1) (pvI 6) (fun _ _ => rfl)) (pg_tupKI (n := 2) K rfl (pgs_consI (pg_nameI (i := 7) sc_l_asked.nd rfl (Or.inl rfl)) (pgs_consI (pg_nameI (i := 8) sc_l_asked.nd rfl (Or.inl rfl)) pgs_nilI)))) (pss_consI (ps_setI (i := 9) sc_l_asked.nd rfl (Or.inl rfl) (pe_opI op_mod (pe_ixI (ix_listK K) (pvI 4) pe_intI (fun _ _ => rfl)) pe_intI)) (pss_consI (ps_ifI (pt_cmpRI op_eq (pvI 9) pe_intI (nomark _)) (pss_oneI (ps_retI (pe_fnI D_l_told hr pass0 (pa_consI (pvI 0) (pa_consI (pvI 1) (pa_consI (pe_ixI (ix_listK K) (pvI 3) (pe_opI op_mod (pe_ixI (ix_listK K) (pvI 4) pe_intI (fun _ _ => rfl)) (pe_callBI (call_lenK K) (by rfl) B.len PySem.boot_len (pa_consI (pvI 3) pa_nilI))) (fun _ _ => rfl)) (pa_consI (pe_opI op_add (pe_ixI (ix_listK K) (pvI 4) pe_intI (fun _ _ => rfl)) (pvI 2)) pa_nilI))))))) pss_nilI) (pss_consI (ps_ifI (pt_cmpRI op_eq (pvI 9) pe_intI (nomark _)) (pss_oneI (ps_retI (pe_cmpRI op_eq (pe_mthI T_Desk D_Desk_say (pvI 0) hr pass0 (pa_consI (pe_opI op_add_str pe_strI (pvI 6)) pa_nilI)) (pe_fnI D_l_curve_text hr pass0 (pa_consI (pe_fnI D_l_handed hr pass0 (pa_consI (pvI 8) (pa_consI (pvI 7) pa_nilI))) pa_nilI)) (nomark _)))) pss_nilI) (pss_consI (ps_ifI (pt_cmpRI op_eq (pvI 9) pe_intI (nomark _)) (pss_oneI (ps_retI (pe_cmpRI op_eq (pe_mthI T_Desk D_Desk_say (pvI 0) hr pass0 (pa_consI pe_strI pa_nilI)) (show PEi _ _ (tBM K _ _ _ _) from (pe_bmI PySem.F.plainAttrs_str PySem.F.slot_str_join PySem.F.type_str_join (mt_joinK K) pe_strI (pa_consI (pvI 5) pa_nilI))) (nomark _)))) pss_nilI) (pss_consI (ps_ifI (pt_cmpRI op_eq (pvI 9) pe_intI (nomark _)) (pss_consI (ps_setI (i := 10) sc_l_asked.nd rfl (Or.inl rfl) (pe_fnI D_l_share hr pass0 (pa_consI (pe_ixI (ix_listK K) (pe_lstI (pa_consI (pe_opI op_sub (pe_opI op_mod (pe_ixI (ix_listK K) (pvI 4) pe_intI (fun _ _ => rfl)) pe_intI) pe_intI) (pa_consI (pe_opI op_mod (pvI 2) (pe_opI op_pow pe_intI pe_intI)) pa_nilI))) (pe_opI op_mod (pe_ixI (ix_listK K) (pvI 4) pe_intI (fun _ _ => rfl)) pe_intI) (fun _ _ => rfl)) (pa_consI (pe_opI op_add pe_intI (pe_opI op_mod (pe_ixI (ix_listK K) (pvI 4) pe_intI (fun _ _ => rfl)) pe_intI)) pa_nilI)))) (pss_oneI (ps_retI (pe_cmpRI op_eq (pe_mthI T_Desk D_Desk_say (pvI 0) hr pass0 (pa_consI (pe_opI op_add_str (pe_opI op_add_str (pe_opI op_add_str pe_strI (pvI 6)) pe_strI) (pe_fnI D_l_share_text hr pass0 (pa_consI (pvI 10) pa_nilI))) pa_nilI)) (pe_fnI D_l_point_due hr pass0 (pa_consI (pvI 8) (pa_consI (pvI 7) (pa_consI (pvI 10) pa_nilI)))) (nomark _))))) pss_nilI) (pss_consI (ps_ifI (pt_cmpRI op_eq (pvI 9) pe_intI (nomark _)) (pss_oneI (ps_retI (pe_cmpRI op_eq (pe_mthI T_Desk D_Desk_say (pvI 0) hr pass0 (pa_consI (pe_opI op_add_str pe_strI (pvI 6)) pa_nilI)) (pe_fnI D_l_box_due hr pass0 (pa_consI (pvI 8) (pa_consI (pvI 7) pa_nilI))) (nomark _)))) pss_nilI) (pss_consI (ps_asgI (pe_tupI (pa_consI (pvI 7) (pa_consI (pe_backwardI K (pvI 8) (po_someI (pe_unI un_neg pe_intI))) pa_nilI))) (pg_subI (pvI 1) (pvI 6) (set_dict hu))) (pss_oneI (ps_retI (pe_cmpRI op_eq (pe_mthI T_Desk D_Desk_say (pvI 0) hr pass0 (pa_consI (pe_opI op_add_str pe_strI (pvI 6)) pa_nilI)) pe_strI (nomark _))))))))))))))), ?_⟩
 walk_at "rd"
 refine ⟨c, 6, rfl, by decide, fun lr xs H1 s1 hlr0 hlr hxl hx0 => ?_⟩
 replace hA := hA.same s1
 replace hW := hW.same s1
 replace hln := s1 _ _ hln
 obtain ⟨kvs, hb, hK, h40⟩ := id hW
 walk_at "rd"
 refine ⟨b, kvs, bs.map (·.1), rfl, .inl hb, hK.keys, by have := hK.length; omega, fun lt ts hlt0 hpm hso => ?_⟩
 have v2 := Same.new (o := .lst (ts.map V.str)) hlt0
 have k2 := upd_same (H := H1) (a := lt) (o := .lst (ts.map V.str))
 have s2 := s1.trans v2
 replace hA := hA.same v2
 replace hW := hW.same v2
 replace hln := v2 _ _ hln
 replace hlr := v2 _ _ hlr
 replace hb := v2 _ _ hb
 replace hK := hK.mono fun v x r => BkV.same r v2
 generalize upd H1 lt (.lst (ts.map V.str)) = H2 at *
 have htl : ts.length = bs.length := by rw [hpm.length_eq, List.length_map]
 have hbl : 1 ≤ bs.length := by cases bs with | nil => exact absurd rfl hbs | cons _ _ => simp
 walk_at "rd"
 refine ⟨by show (0 : Int) < ((ts.map V.str).length : Int); rw [List.length_map]; omega, ?_⟩
 have r0 := Int.emod_nonneg (xs.getD (Int.toNat 0) 0) (b := ((ts.map V.str).length : Int)) (by rw [List.length_map]; omega)
 have r1 := Int.emod_lt_of_pos (xs.getD (Int.toNat 0) 0) (b := ((ts.map V.str).length : Int)) (by rw [List.length_map]; omega)
 generalize hri : xs.getD (Int.toNat 0) 0 % ((ts.map V.str).length : Int) = ri at *
 rw [List.length_map] at r1
 have en : ts[ri.toNat]? = some (ts[ri.toNat]'(by omega)) := List.getElem?_eq_getElem _
 generalize ts[ri.toNat]'(by omega) = nn at *
 dsimp only
 rw [hri]
 refine ⟨lt, _, _, _, rfl, rfl, SqL.of k2, atI_nat' (j := ri.toNat) (by omega) (by rw [List.getElem?_map, en]; rfl), ?_⟩
 have hmm : nn ∈ bs.map (·.1) := hpm.mem_iff.mp (List.mem_of_getElem? en)
 obtain ⟨bk, ebk⟩ := mem_getA hmm
 obtain ⟨hnn, hgd⟩ := hG _ (getA_mem ebk)
 have ecv : getA (cvs bs) nn = some (ptsOf bk.1 bk.2) := by rw [getA_cvs, ebk]; rfl
 obtain ⟨vv, ev, gt, l, ws, rfl, hgt, hl, hP⟩ := hK.there ebk
 obtain ⟨⟨dx, hx⟩, hD⟩ := id hA
 obtain ⟨Bt, pl⟩ := bk
 have zB : Sz 9000 Bt := hgd.zB.mono (by decide)
 have b1 : 1 ≤ Bt := hgd.b1
 have b2 : Bt ≤ 1000000007 := hgd.b2
 have n1 : 1 ≤ pl.length := hgd.n1
 have n6 : pl.length ≤ 6 := hgd.n6
 have fg := hgd.fg
 have hpl' : (ptsOf Bt pl).length = pl.length := ptsOf_len _ _
 have lnn : nn.length ≤ 12 := hnn.2.1
 walk_at "rd"
 refine ⟨b, _, rfl, .inl (by rw [← ev]; exact DGet.k (k := .inr nn) hb), ?_⟩
 refine ⟨gt, _, rfl, SqT.of hgt, rfl, _, _, rfl, _, _, rfl, rfl, ?_⟩
 walk_at "rd"
 dsimp only
 refine ite2 (fun _ => ?_) (fun _ => ?_)
 · walk_at "rd"
   refine ⟨by show (0 : Int) < ((ss.map V.str).length : Int); rw [List.length_map]; omega, ?_⟩
   have u0 := Int.emod_nonneg (xs.getD (Int.toNat 2) 0) (b := ((ss.map V.str).length : Int)) (by rw [List.length_map]; omega)
   have u1 := Int.emod_lt_of_pos (xs.getD (Int.toNat 2) 0) (b := ((ss.map V.str).length : Int)) (by rw [List.length_map]; omega)
   generalize hui : xs.getD (Int.toNat 2) 0 % ((ss.map V.str).length : Int) = ui at *
   rw [List.length_map] at u1
   have em : ss[ui.toNat]? = some (ss[ui.toNat]'(by omega)) := List.getElem?_eq_getElem _
   generalize ss[ui.toNat]'(by omega) = mm at *
   have hm := hss mm (List.mem_of_getElem? em)
   dsimp only
   rw [hui]
   refine ⟨ln, _, _, _, rfl, rfl, SqL.of hln, atI_nat' (j := ui.toNat) (by omega) (by rw [List.getElem?_map, em]; rfl), ?_⟩
   walk_at "rd"
   refine ⟨x, d, b, mm, _, bs, rfl, hA, hW, hne, hm, h39, fun bk' H3 e3 hA3 hW3 hg3 => ?_⟩
   exact k (putA bs mm bk') H3 ((Ex2.of_same s2).trans e3) hA3 hW3 (hG.put hm hg3) (putA_ne _ _ _) (length_putA _ _ _)
 walk_at "rd"
 dsimp only
 refine ite2 (fun _ => ?_) (fun _ => ?_)
 · walk_at "rd"
   refine ⟨x, dx, _, rfl, hx, kept_no d (by decide +kernel), ?_⟩
   walk_at "rd"
   refine ⟨Nat.le_of_lt (small_line (by show 5 + nn.length ≤ 100000; omega)), ?_⟩
   walk_at "rd"
   refine ⟨x, d, _, cvs bs, rfl, hA, ?_⟩
   change Say H2 d (cvs bs) _ ("tell " ++ nn : Str)
   rw [row_tell]
   refine .tell nn (ptsOf Bt pl) hnn ecv (fun p hp => fgP_mono (fg p hp) (by decide)) (by omega) fun H3 s3 => ?_
   walk_at "rd"
   refine ⟨l, ws, pl, Bt, rfl, SqL.of (s3 _ _ hl), hP.same s3, b1, zB, by omega, fun l6 us6 H6 s6 hl60 hl6 hP6 => ?_⟩
   walk_at "rd"
   refine ⟨l6, us6, ptsOf Bt pl, rfl, hl6, hP6, fun p hp => fgP_mono (fg p hp) (by decide), by omega, fun H7 s7 => ?_⟩
   have s37 := (s3.trans s6).trans s7
   walk_at "rd"
   rw [decide_eq_true rfl]
   exact k bs H7 (Ex2.of_same (s2.trans s37)) (hA.same s37) (hW.same s37) hG hbs (by omega)
 walk_at "rd"
 dsimp only
 refine ite2 (fun _ => ?_) (fun _ => ?_)
 · walk_at "rd"
   refine ⟨x, dx, _, rfl, hx, kept_no d (by decide +kernel), ?_⟩
   walk_at "rd"
   refine ⟨x, d, _, cvs bs, rfl, hA, ?_⟩
   change Say H2 d (cvs bs) _ ("names" : Str)
   rw [row_names]
   refine .names (fun e => hbs (by have := cvs_len bs; rw [e] at this; exact List.length_eq_zero_iff.mp this.symm)) (fun c hc => ?_) fun ss' H3 s3 p3 o3 => ?_
   · unfold cvs at hc
     obtain ⟨c', hc', rfl⟩ := List.mem_map.mp hc
     exact (hG c' hc').1.2.1
   rw [cvs_keys] at p3
   have e3 : ss' = ts := sorted_one (p3.trans hpm.symm) o3 hso
   subst e3
   walk_at "rd"
   refine ⟨_, lt, ss', rfl, rfl, SqL.of (s3 _ _ k2), join_ok (B := 12) (fun t ht => ?_) ?_, ?_⟩
   · have := hpm.mem_iff.mp ht
     obtain ⟨c', hc', rfl⟩ := List.mem_map.mp this
     exact (hG c' hc').1.2.1
   · have e : (" " : Str).length = 1 := rfl
     rw [e]; omega
   rw [txt_join]
   walk_at "rd"
   rw [decide_eq_true rfl]
   exact k bs H3 (Ex2.of_same (s2.trans s3)) (hA.same s3) (hW.same s3) hG hbs (by omega)
 walk_at "rd"
 dsimp only
 refine ite2 (fun _ => ?_) (fun _ => ?_)
 · walk_at "rd"
   intro g3 hg3
   have c0 := Int.emod_nonneg c (b := 10 ^ Int.toNat 30) (by decide +kernel)
   have c1 := Int.emod_lt_of_pos c (b := 10 ^ Int.toNat 30) (by decide +kernel)
   have a0 := Int.emod_nonneg (xs.getD (Int.toNat 2) 0) (b := 9) (by decide)
   have a1 := Int.emod_lt_of_pos (xs.getD (Int.toNat 2) 0) (b := 9) (by decide)
   have p30 : (10 : Int) ^ Int.toNat 30 = 1000000000000000000000000000000 := by decide +kernel
   rw [p30] at c0 c1 ⊢
   have v3 := Same.new (o := .lst [.int (xs.getD (Int.toNat 2) 0 % 9 - 3), .int (c % 1000000000000000000000000000000)]) hg3
   have k3 := upd_same (H := H2) (a := g3) (o := .lst [.int (xs.getD (Int.toNat 2) 0 % 9 - 3), .int (c % 1000000000000000000000000000000)])
   dsimp only
   replace hlr := v3 _ _ hlr
   replace hx := v3 _ _ hx
   replace hA := hA.same v3
   replace hW := hW.same v3
   replace hl := v3 _ _ hl
   replace hP := hP.same v3
   generalize upd H2 g3 (.lst [.int (xs.getD (Int.toNat 2) 0 % 9 - 3), .int (c % 1000000000000000000000000000000)]) = H3 at *
   obtain ⟨tp, etp, ztp⟩ : ∃ tp : Int, atI [V.int (xs.getD (Int.toNat 2) 0 % 9 - 3), .int (c % 1000000000000000000000000000000)] (xs.getD (Int.toNat 4) 0 % 2) = some (.int tp) ∧ Sz 100 tp := by
     have d0 := Int.emod_nonneg (xs.getD (Int.toNat 4) 0) (b := 2) (by decide)
     have d1 := Int.emod_lt_of_pos (xs.getD (Int.toNat 4) 0) (b := 2) (by decide)
     generalize xs.getD (Int.toNat 4) 0 % 2 = mm at *
     have : mm = 0 ∨ mm = 1 := by omega
     rcases this with rfl | rfl
     · exact ⟨_, rfl, ⟨by show _ < 2 ^ 100; omega⟩⟩
     · exact ⟨_, rfl, ⟨by show _ < 2 ^ 100; omega⟩⟩
   have e0 := Int.emod_nonneg (xs.getD (Int.toNat 3) 0) (b := 12) (by decide)
   have e1 := Int.emod_lt_of_pos (xs.getD (Int.toNat 3) 0) (b := 12) (by decide)
   walk_at "rd"
   have zb : Sz 10 (1 + xs.getD (Int.toNat 3) 0 % 12) := ⟨by show _ < 2 ^ 10; omega⟩
   refine ⟨_, _, rfl, by show (0 : Int) < 1 + xs.getD (Int.toNat 3) 0 % 12; omega, zb.mono (by decide), fun vt H4 s4 gt4 => ?_⟩
   have bt : Bd 101 (Rat.divInt tp (1 + xs.getD (Int.toNat 3) 0 % 12)) := (Bd.of ztp zb (by omega)).mono (by decide)
   generalize Rat.divInt tp (1 + xs.getD (Int.toNat 3) 0 % 12) = tt at *
   have ft : Fg 100 tt := fg_bd (bt.mono (by decide))
   have ltt := tSh_ln (k := 100) (by decide) ft
   replace hx := s4 _ _ hx
   replace hA := hA.same s4
   replace hW := hW.same s4
   replace hl := s4 _ _ hl
   replace hP := hP.same s4
   have ln1 : ("point " ++ nn).length ≤ 18 := by rw [len_app]; show 6 + nn.length ≤ 18; omega
   have ln2 : ("point " ++ nn ++ " ").length ≤ 19 := by rw [len_app]; show _ + 1 ≤ 19; omega
   walk_at "rd"
   refine ⟨x, dx, _, rfl, hx, kept_no d (by decide +kernel), ?_⟩
   walk_at "rd"
   refine ⟨Nat.le_of_lt (small_line (by show 6 + nn.length ≤ 100000; omega)), ?_⟩
   walk_at "rd"
   refine ⟨Nat.le_of_lt (small_line (by show ("point " ++ nn).length + 1 ≤ 100000; omega)), ?_⟩
   walk_at "rd"
   refine ⟨vt, tt, rfl, gt4, fg_mono ft (by decide), ?_⟩
   refine ⟨_, _, rfl, rfl, Nat.le_of_lt (small_line (by show ("point " ++ nn ++ " ").length + (tSh tt).length ≤ 100000; omega)), ?_⟩
   walk_at "rd"
   refine ⟨x, d, _, cvs bs, rfl, hA, ?_⟩
   change Say H4 d (cvs bs) _ ("point " ++ nn ++ " " ++ tSh tt : Str)
   rw [row_point]
   have hgp := hgd.pt bt
   refine .point nn (ptsOf Bt pl) tt Bt _ 101 hnn ft ecv bt (by decide) hgd.fine (fgP_mono hgp (by decide)) fun H5 s5 => ?_
   walk_at "rd"
   refine ⟨l, ws, pl, Bt, vt, tt, rfl, s5 _ _ hl, hP.same s5, hgd.sz, n1, n6, b1, b2, gt4.same s5, bt, hgp, fun H6 s6 => ?_⟩
   have s36 := ((v3.trans s4).trans s5).trans s6
   have s56 := s5.trans s6
   walk_at "rd"
   rw [decide_eq_true rfl]
   exact k bs H6 (Ex2.of_same (s2.trans s36)) (hA.same s56) (hW.same s56) hG hbs (by omega)
 walk_at "rd"
 dsimp only
 refine ite2 (fun _ => ?_) (fun _ => ?_)
 · walk_at "rd"
   refine ⟨x, dx, _, rfl, hx, kept_no d (by decide +kernel), ?_⟩
   walk_at "rd"
   refine ⟨Nat.le_of_lt (small_line (by show 4 + nn.length ≤ 100000; omega)), ?_⟩
   walk_at "rd"
   refine ⟨x, d, _, cvs bs, rfl, hA, ?_⟩
   change Say H2 d (cvs bs) _ ("box " ++ nn : Str)
   rw [row_box]
   refine .box nn (ptsOf Bt pl) Bt _ hnn ecv hgd.fine (fun p hp => fgP_mono (fg p hp) (by decide)) fun q1 q2 q3 q4 H3 s3 m1 m2 m3 m4 => ?_
   walk_at "rd"
   refine ⟨l, ws, pl, Bt, rfl, s3 _ _ hl, hP.same s3, b1, b2, n1, by omega, fun p hp => fgP_mono (fg p hp) (by decide), fun p1 p2 p3 p4 H4 s4 o1 o2 o3 o4 => ?_⟩
   obtain rfl := LeastQ.one m1 o1
   obtain rfl := LeastQ.one m2 o2
   obtain rfl := GreatQ.one m3 o3
   obtain rfl := GreatQ.one m4 o4
   have s34 := s3.trans s4
   walk_at "rd"
   rw [decide_eq_true rfl]
   exact k bs H4 (Ex2.of_same (s2.trans s34)) (hA.same s34) (hW.same s34) hG hbs (by omega)
 walk_at "rd"
 refine ⟨l, ws, rfl, SqL.of hl, fun l3 hl30 => ?_⟩
 have v3 := Same.new (o := .lst ws.reverse) hl30
 have k3 := upd_same (H := H2) (a := l3) (o := .lst ws.reverse)
 generalize upd H2 l3 (.lst ws.reverse) = H3 at *
 walk_at "rd"
 intro g4 hg4
 have v4 := Same.new (o := .tup [.int Bt, .ref l3]) hg4
 have k4 := upd_same (H := H3) (a := g4) (o := .tup [.int Bt, .ref l3])
 have s34 := v3.trans v4
 replace k3 := v4 _ _ k3
 replace hA := hA.same s34
 replace hb := s34 _ _ hb
 replace hK := hK.mono fun v x r => BkV.same r s34
 replace hP := (hP.rev).same s34
 generalize upd H3 g4 (.tup [.int Bt, .ref l3]) = H4 at *
 walk_at "rd"
 refine ⟨b, _, rfl, DPut.k (k := .inr nn) hb (small_line (by have := hK.length; omega)), ?_⟩
 have hW5 := DictW.put (n := nn) (bk := (Bt, pl.reverse)) hb hK (by omega) k4 k3 hP
 have e5 : Ex b H4 (upd H4 b (.dK (putK kvs (.inr nn) (.ref g4)))) := Ex.put
 have hA5 := hA.ex e5 hb hne
 have e45 : Ex2 d b H (upd H4 b (.dK (putK kvs (.inr nn) (.ref g4)))) := (Ex2.of_same (s2.trans s34)).trans (Ex2.of_r e5)
 generalize upd H4 b (.dK (putK kvs (.inr nn) (.ref g4))) = H5 at *
 obtain ⟨⟨dx5, hx5⟩, hD5⟩ := id hA5
 walk_at "rd"
 refine ⟨x, dx5, _, rfl, hx5, kept_no d (by decide +kernel), ?_⟩
 walk_at "rd"
 refine ⟨Nat.le_of_lt (small_line (by show 5 + nn.length ≤ 100000; omega)), ?_⟩
 walk_at "rd"
 refine ⟨x, d, _, cvs bs, rfl, hA5, ?_⟩
 change Say H5 d (cvs bs) _ ("turn " ++ nn : Str)
 rw [row_turn]
 refine .turn nn (ptsOf Bt pl) hnn ecv (by rw [cvs_len]; omega) fun H6 e6 hC6 => ?_
 walk_at "rd"
 rw [decide_eq_true rfl]
 obtain ⟨kvd, hkd, _⟩ := hD5
 have hA6 := hA5.own e6 hC6
 have erev : (ptsOf Bt pl).reverse = ptsOf Bt pl.reverse := by unfold ptsOf; rw [List.map_reverse]
 rw [erev, show putA (cvs bs) nn (ptsOf Bt pl.reverse) = cvs (putA bs nn (Bt, pl.reverse)) from (putA_cvs bs nn (Bt, pl.reverse)).symm] at hA6
 have hgd' : Gd (Bt, pl.reverse) := ⟨b1, b2, by show 1 ≤ pl.reverse.length; rw [List.length_reverse]; exact n1, by show pl.reverse.length ≤ 6; rw [List.length_reverse]; exact n6, fun p hp => hgd.sz p (List.mem_reverse.mp hp)⟩
 exact k _ H6 (e45.trans (Ex2.of_l e6)) hA6 (hW5.ex e6 hkd (Ne.symm hne)) (hG.put hnn hgd') (putA_ne _ _ _) (length_putA _ _ _)
theorem ok_l_by_turns {C_Desk : Addr} (T_Desk : ClsK K mg "Desk" C_Desk) (N_Desk_kept : NoAttr K C_Desk "kept") (F : FunAt K mg "_law_by_turns" s_l_by_turns ["_law_desk", "_law_beside", "_law_book", "_law_cell"]) (B : Blt mg) (D_Desk_say : MthOk P w K mg base CX0 8 C_Desk "say" ["self", "row"] (spSay C_Desk)) (D_l_box_due : DefOk P w K mg base CX0 2 "_law_box_due" ["_law_seats_here", "_law_bottom"] (spBxDue K)) (D_l_curve_text : DefOk P w K mg base CX0 3 "_law_curve_text" ["_law_curve"] (spLTxC K)) (D_l_handed : DefOk P w K mg base CX0 2 "_law_handed" ["_law_places", "_law_bottom"] (spHanded K)) (D_l_told : DefOk P w K mg base CX0 9 "_law_told" ["_law_desk", "_law_book", "_law_name", "_law_cell"] (spTold C_Desk)) : DefOk P w K mg base CX0 10 "_law_by_turns" ["_law_desk", "_law_beside", "_law_book", "_law_cell"] (spTurns C_Desk) := by
 refine def_okI F sc_l_by_turns (fun vs H Q E h => ?_) (fun f cdv A outer s H vs Q E hr h => ?_)
 · obtain ⟨x, d, x2, d2, b, c, bs, rfl, _⟩ := h; rfl
 obtain ⟨x, d, x2, d2, b, c, bs, rfl, hA, hA2, hB, hne, hne2, hG, h38, k⟩ := h
 have hu := hr.units
 refine ⟨_, (pss_consI (ps_setI (i := 4) sc_l_by_turns.nd rfl (Or.inl rfl) pe_dnewI) (pss_consI (ps_forI PassesOwn.never rfl (pi_enumI rfl B.enumerate (pa_consI (pe_callBI call_sortD (by rfl) B.sorted PyProof.Rows.boot_sorted (pa_consI (pvI 2) pa_nilI)) pa_nilI)) (pg_tupKI (n := 2) K rfl (pgs_consI (pg_nameI (i := 5) sc_l_by_turns.nd rfl (Or.inl rfl)) (pgs_consI (pg_nameI (i := 6) sc_l_by_turns.nd rfl (Or.inl rfl)) pgs_nilI))) (pss_oneI (ps_ifI (pt_notI (pt_valI (pe_fnI D_l_told hr pass0 (pa_consI (pvI 1) (pa_consI (pvI 4) (pa_consI (pvI 6) (pa_consI (pe_opI op_add (pe_opI op_add (pvI 3) (pe_opI op_mulA pe_intI (pvI 5))) pe_intI) pa_nilI))))))) (pss_oneI (ps_retI pe_blI)) pss_nilI))) (pss_consI (ps_forI PassesOwn.never rfl (pi_listKI K (pe_callBI call_sortD (by rfl) B.sorted PyProof.Rows.boot_sorted (pa_consI (pvI 2) pa_nilI))) (pg_nameI (i := 6) sc_l_by_turns.nd rfl (Or.inl rfl)) (pss_oneI (ps_forI PassesOwn.never rfl (pi_listKI K (pe_lstI (pa_consI (pe_tupI (pa_consI (pvI 0) (pa_consI (pvI 2) pa_nilI))) (pa_consI (pe_tupI (pa_consI (pvI 1) (pa_consI (pvI 4) pa_nilI))) (pa_consI (pe_tupI (pa_consI (pvI 0) (pa_consI (pvI 2) pa_nilI))) pa_nilI))))) (pg_tupKI (n := 2) K rfl (pgs_consI (pg_nameI (i := 7) sc_l_by_turns.nd rfl (Or.inl rfl)) (pgs_consI (pg_nameI (i := 8) sc_l_by_turns.nd rfl (Or.inl rfl)) pgs_nilI))) (pss_consI (ps_asgI (pe_ixI (ix_dict P w K hu) (pvI 8) (pvI 6) (fun _ _ => rfl)) (pg_tupKI (n := 2) K rfl (pgs_consI (pg_nameI (i := 9) sc_l_by_turns.nd rfl (Or.inl rfl)) (pgs_consI (pg_nameI (i := 10) sc_l_by_turns.nd rfl (Or.inl rfl)) pgs_nilI)))) (pss_consI (ps_ifI (pt_cmpRI op_ne (pe_mthI T_Desk D_Desk_say (pvI 7) hr pass0 (pa_consI (pe_opI op_add_str pe_strI (pvI 6)) pa_nilI)) (pe_fnI D_l_curve_text hr pass0 (pa_consI (pe_fnI D_l_handed hr pass0 (pa_consI (pvI 10) (pa_consI (pvI 9) pa_nilI))) pa_nilI)) (nomark _)) (pss_oneI (ps_retI pe_blI)) pss_nilI) (pss_oneI (ps_ifI (pt_cmpRI op_ne (pe_mthI T_Desk D_Desk_say (pvI 7) hr pass0 (pa_consI (pe_opI op_add_str pe_strI (pvI 6)) pa_nilI)) (pe_fnI D_l_box_due hr pass0 (pa_consI (pvI 10) (pa_consI (pvI 9) pa_nilI))) (nomark _)) (pss_oneI (ps_retI pe_blI)) pss_nilI))))))) (pss_oneI (ps_retI pe_blI))))), ?_⟩
 walk_at "rd"
 intro o ho
 have od2 : d2 ≠ o := by obtain ⟨_, kd, hd, _⟩ := hA2; exact ne_of_none hd ho
 have od : d ≠ o := by obtain ⟨_, kd, hd, _⟩ := hA; exact ne_of_none hd ho
 have ob : b ≠ o := by
   obtain ⟨kd, hd, _⟩ := hB
   rcases hd with hd | ⟨_, hd⟩
   · exact ne_of_none hd ho
   · exact ne_of_none hd ho
 have v1 := Same.new (o := .dK []) ho
 have k1 := upd_same (H := H) (a := o) (o := .dK [])
 replace hA := hA.same v1
 replace hA2 := hA2.same v1
 replace hB := hB.same v1
 generalize upd H o (.dK []) = H1 at *
 obtain ⟨kvs, hR, hK, h40⟩ := id hB
 walk_at "rd"
 refine ⟨b, kvs, bs.map (·.1), rfl, hR, hK.keys, by have := hK.length; omega, fun ls ss hls0 hpm hso => ?_⟩
 have v2 := Same.new (o := .lst (ss.map V.str)) hls0
 have k2 := upd_same (H := H1) (a := ls) (o := .lst (ss.map V.str))
 replace hA := hA.same v2
 replace hA2 := hA2.same v2
 replace hB := hB.same v2
 replace k1 := v2 _ _ k1
 generalize upd H1 ls (.lst (ss.map V.str)) = H2 at *
 have hnm : ∀ s ∈ bs.map (·.1), Nm s := fun s hs => by obtain ⟨c', hc', rfl⟩ := List.mem_map.mp hs; exact (hG c' hc').1
 have hsl : ss.length = bs.length := by rw [hpm.length_eq, List.length_map]
 clear hR hK v1 v2 ho
 walk_at "rd"
 refine ⟨⟨_, SqL.of k2⟩, for_enum (xs := ss.map V.str) (fun i σ H' => ∃ (y5 y6 : Option V) (os : List (Str × Bk)), σ = [some (.ref x), some (.ref x2), some (.ref b), some (.int c), some (.ref o), y5, y6, none, none, none, none] ∧ H' ls = some (.lst (ss.map V.str)) ∧ DeskAt C_Desk H' x d (cvs bs) ∧ DeskAt C_Desk H' x2 d2 (cvs os) ∧ DictB H' b bs ∧ DictW H' o os ∧ Good os ∧ os.length ≤ i ∧ ∀ (j : Nat) (s : Str), j < i → ss[j]? = some s → ∃ bk, getA os s = some bk) ⟨none, none, [], rfl, k2, hA, hA2, hB, ⟨[], k1, .nil, by decide⟩, (show Good [] from fun c h => nomatch h), Nat.le_refl _, fun j s h => by omega⟩ (fun i σ H' _ h => by obtain ⟨_, _, _, _, h, _⟩ := h; exact SqL.of h) ?_ ?_⟩
 · rintro i T xx σ H3 ex ⟨y5, y6, os, rfl, hls, hA3, hB3, hC3, hD3, hG3, hl3, hin⟩ hT
   rw [List.getElem?_map] at ex
   obtain ⟨s, es, rfl⟩ := Option.map_eq_some_iff.mp ex
   have him : i < ss.length := by
     rcases Nat.lt_or_ge i ss.length with h | h
     · exact h
     · rw [List.getElem?_eq_none h] at es; cases es
   have hs := hnm s (hpm.mem_iff.mp (List.mem_of_getElem? es))
   have v4 := Same.new (o := .tup [.int (i : Int), .str s]) hT
   have k4 := upd_same (H := H3) (a := T) (o := .tup [.int (i : Int), .str s])
   replace hls := v4 _ _ hls
   replace hA3 := hA3.same v4
   replace hB3 := hB3.same v4
   replace hC3 := hC3.same v4
   replace hD3 := hD3.same v4
   generalize upd H3 T (.tup [.int (i : Int), .str s]) = H4 at *
   refine ⟨T, _, rfl, SqT.of k4, rfl, _, _, rfl, _, _, rfl, rfl, ?_⟩
   obtain ⟨kd2, hkd2⟩ := hB3.2.at
   obtain ⟨ko, hko⟩ := hD3.at
   walk_at "rd"
   refine ⟨x2, d2, o, s, _, os, rfl, hB3, hD3, od2, hs, by omega, fun bk H5 e5 hA5 hW5 hg5 => ?_⟩
   walk_at "rd"
   refine ⟨_, _, putA os s bk, rfl, e5.lst hkd2 hko hls, hA3.ex2 e5 hkd2 hko hne od, hA5, hC3.ex2 e5 hkd2 hko (Ne.symm hne2) ob, hW5, hG3.put hs hg5, by have := length_putA os s bk; omega, fun j s' hj es' => ?_⟩
   rw [getA_put]
   by_cases e : s' = s
   · exact ⟨bk, if_pos e⟩
   · rw [if_neg e]
     rcases Nat.lt_or_ge j i with h | h
     · exact hin j s' h es'
     · have : j = i := by omega
       rw [this, es] at es'; cases es'; exact absurd rfl e
 rintro σ H3 ⟨y5, y6, os, rfl, hls, hA3, hA4, hB3, hW3, hG3, hl3, hin⟩
 have hall : ∀ s ∈ bs.map (·.1), ∃ bk, getA os s = some bk := fun s hs => by
   obtain ⟨j, hj, ej⟩ := List.getElem_of_mem (hpm.mem_iff.mpr hs)
   exact hin j s (by rw [List.length_map]; exact hj) (by rw [List.getElem?_eq_getElem hj, ej])
 have hB4 := hW3.r
 clear hin hls hl3 hW3 hA hA2 hB k1 k2
 obtain ⟨kvs, hR, hK, h40⟩ := id hB3
 walk_at "rd"
 refine ⟨b, kvs, bs.map (·.1), rfl, hR, hK.keys, by have := hK.length; omega, fun l4 ts hl40 hpm4 hso4 => ?_⟩
 have v4 := Same.new (o := .lst (ts.map V.str)) hl40
 have k4 := upd_same (H := H3) (a := l4) (o := .lst (ts.map V.str))
 replace hA3 := hA3.same v4
 replace hA4 := hA4.same v4
 replace hB3 := hB3.same v4
 replace hB4 := hB4.same v4
 generalize upd H3 l4 (.lst (ts.map V.str)) = H4 at *
 clear hR hK v4
 walk_at "rd"
 refine ⟨⟨_, SqL.of k4⟩, for_list (xs := ts.map V.str) (fun i σ H' => ∃ (y6 y7 y8 y9 y10 : Option V), σ = [some (.ref x), some (.ref x2), some (.ref b), some (.int c), some (.ref o), y5, y6, y7, y8, y9, y10] ∧ Same H4 H') ⟨_, _, _, _, _, rfl, L2.Same.refl _⟩ (fun i σ H' _ h => by obtain ⟨_, _, _, _, _, _, s⟩ := h; exact SqL.of (s _ _ k4)) ?_ ?_⟩
 rotate_left
 · rintro σ H5 ⟨y6, y7, y8, y9, y10, rfl, s5⟩
   walk_at "rd"
   exact k H5
 rintro i xx σ H5 ex ⟨y6, y7, y8, y9, y10, rfl, s5⟩
 rw [List.getElem?_map] at ex
 obtain ⟨nn, es, rfl⟩ := Option.map_eq_some_iff.mp ex
 have hmem := hpm4.mem_iff.mp (List.mem_of_getElem? es)
 have hnn := hnm nn hmem
 have lnn : nn.length ≤ 12 := hnn.2.1
 obtain ⟨bk1, eb1⟩ := mem_getA hmem
 obtain ⟨bk2, eb2⟩ := hall nn hmem
 have g1 := (hG _ (getA_mem eb1)).2
 have g2 := (hG3 _ (getA_mem eb2)).2
 walk_at "rd"
 intro t1 ht1
 have w1 := Same.new (o := .tup [.ref x, .ref b]) ht1
 have q1 := upd_same (H := H5) (a := t1) (o := .tup [.ref x, .ref b])
 generalize upd H5 t1 (.tup [.ref x, .ref b]) = H6 at *
 walk_at "rd"
 intro t2 ht2
 have w2 := Same.new (o := .tup [.ref x2, .ref o]) ht2
 have q2 := upd_same (H := H6) (a := t2) (o := .tup [.ref x2, .ref o])
 replace q1 := w2 _ _ q1
 generalize upd H6 t2 (.tup [.ref x2, .ref o]) = H7 at *
 walk_at "rd"
 intro t3 ht3
 have w3 := Same.new (o := .tup [.ref x, .ref b]) ht3
 have q3 := upd_same (H := H7) (a := t3) (o := .tup [.ref x, .ref b])
 replace q1 := w3 _ _ q1
 replace q2 := w3 _ _ q2
 generalize upd H7 t3 (.tup [.ref x, .ref b]) = H8 at *
 walk_at "rd"
 intro tl htl
 have w4 := Same.new (o := .lst [.ref t1, .ref t2, .ref t3]) htl
 have q4 := upd_same (H := H8) (a := tl) (o := .lst [.ref t1, .ref t2, .ref t3])
 replace q1 := w4 _ _ q1
 replace q2 := w4 _ _ q2
 replace q3 := w4 _ _ q3
 generalize upd H8 tl (.lst [.ref t1, .ref t2, .ref t3]) = H9 at *
 have s59 : Same H4 H9 := (((s5.trans w1).trans w2).trans w3).trans w4
 have hA9 := hA3.same s59
 have hA9' := hA4.same s59
 have hB9 := hB3.same s59
 have hB9' := hB4.same s59
 clear w1 w2 w3 w4 ht1 ht2 ht3 htl
 walk_at "rd"
 refine ⟨⟨_, SqL.of q4⟩, for_list (xs := [.ref t1, .ref t2, .ref t3]) (fun i σ H' => ∃ (y7 y8 y9 y10 : Option V), σ = [some (.ref x), some (.ref x2), some (.ref b), some (.int c), some (.ref o), y5, some (.str nn), y7, y8, y9, y10] ∧ Same H9 H') ⟨_, _, _, _, rfl, L2.Same.refl _⟩ (fun i σ H' _ h => by obtain ⟨_, _, _, _, _, s⟩ := h; exact SqL.of (s _ _ q4)) ?_ ?_⟩
 rotate_left
 · rintro σ HA ⟨y7, y8, y9, y10, rfl, sA⟩
   exact ⟨_, _, _, _, _, rfl, s59.trans sA⟩
 rintro i2 vv σ HA ev ⟨y7, y8, y9, y10, rfl, sA⟩
 obtain ⟨tt, xx, dd, oo, zs, bk, rfl, hq, hAx, hBx, ebk, hgd⟩ : ∃ tt xx dd oo zs bk, vv = .ref tt ∧ H9 tt = some (.tup [.ref xx, .ref oo]) ∧ DeskAt C_Desk H9 xx dd (cvs zs) ∧ DictB H9 oo zs ∧ getA zs nn = some bk ∧ Gd bk := by
   match i2 with
   | 0 => cases ev; exact ⟨t1, x, d, b, bs, bk1, rfl, q1, hA9, hB9, eb1, g1⟩
   | 1 => cases ev; exact ⟨t2, x2, d2, o, os, bk2, rfl, q2, hA9', hB9', eb2, g2⟩
   | 2 => cases ev; exact ⟨t3, x, d, b, bs, bk1, rfl, q3, hA9, hB9, eb1, g1⟩
   | i + 3 => simp at ev
 clear hA9 hA9' hB9 hB9' q1 q2 q3 q4 ev eb1 eb2 g1 g2
 replace hq := sA _ _ hq
 replace hAx := hAx.same sA
 replace hBx := hBx.same sA
 have ecv : getA (cvs zs) nn = some (ptsOf bk.1 bk.2) := by rw [getA_cvs, ebk]; rfl
 obtain ⟨kz, hRz, hKz, _⟩ := id hBx
 obtain ⟨vz, evz, gt, l, ws, rfl, hgt, hl, hP⟩ := hKz.there ebk
 obtain ⟨⟨dx, hx⟩, hD⟩ := id hAx
 obtain ⟨Bt, pl⟩ := bk
 have zB : Sz 9000 Bt := hgd.zB.mono (by decide)
 have b1 : 1 ≤ Bt := hgd.b1
 have b2 : Bt ≤ 1000000007 := hgd.b2
 have n1 : 1 ≤ pl.length := hgd.n1
 have n6 : pl.length ≤ 6 := hgd.n6
 have fg := hgd.fg
 have hpl' : (ptsOf Bt pl).length = pl.length := ptsOf_len _ _
 refine ⟨tt, _, rfl, SqT.of hq, rfl, _, _, rfl, _, _, rfl, rfl, ?_⟩
 walk_at "rd"
 refine ⟨oo, _, rfl, .inl (.inl ⟨kz, .inr nn, hRz, rfl, evz.symm⟩), ?_⟩
 refine ⟨gt, _, rfl, SqT.of hgt, rfl, _, _, rfl, _, _, rfl, rfl, ?_⟩
 walk_at "rd"
 refine ⟨xx, dx, _, rfl, hx, kept_no dd (by decide +kernel), ?_⟩
 walk_at "rd"
 refine ⟨Nat.le_of_lt (small_line (by show 5 + nn.length ≤ 100000; omega)), ?_⟩
 walk_at "rd"
 refine ⟨xx, dd, _, cvs zs, rfl, hAx, ?_⟩
 change Say HA dd (cvs zs) _ ("tell " ++ nn : Str)
 rw [row_tell]
 refine .tell nn (ptsOf Bt pl) hnn ecv (fun p hp => fgP_mono (fg p hp) (by decide)) (by omega) fun HB sB => ?_
 walk_at "rd"
 refine ⟨l, ws, pl, Bt, rfl, SqL.of (sB _ _ hl), hP.same sB, b1, zB, by omega, fun l6 us6 HC sC hl60 hl6 hP6 => ?_⟩
 walk_at "rd"
 refine ⟨l6, us6, ptsOf Bt pl, rfl, hl6, hP6, fun p hp => fgP_mono (fg p hp) (by decide), by omega, fun HE sE => ?_⟩
 have sBE := (sB.trans sC).trans sE
 replace hx := sBE _ _ hx
 replace hAx := hAx.same sBE
 replace hl := sBE _ _ hl
 replace hP := hP.same sBE
 refine ⟨rfl, _, rfl, ifF (by simp) ?_⟩
 walk_at "rd"
 refine ⟨xx, dx, _, rfl, hx, kept_no dd (by decide +kernel), ?_⟩
 walk_at "rd"
 refine ⟨Nat.le_of_lt (small_line (by show 4 + nn.length ≤ 100000; omega)), ?_⟩
 walk_at "rd"
 refine ⟨xx, dd, _, cvs zs, rfl, hAx, ?_⟩
 change Say HE dd (cvs zs) _ ("box " ++ nn : Str)
 rw [row_box]
 refine .box nn (ptsOf Bt pl) Bt _ hnn ecv hgd.fine (fun p hp => fgP_mono (fg p hp) (by decide)) fun q1 q2 q3 q4 HF sF m1 m2 m3 m4 => ?_
 walk_at "rd"
 refine ⟨l, ws, pl, Bt, rfl, sF _ _ hl, hP.same sF, b1, b2, n1, by omega, fun p hp => fgP_mono (fg p hp) (by decide), fun p1 p2 p3 p4 HG sG o1 o2 o3 o4 => ?_⟩
 obtain rfl := LeastQ.one m1 o1
 obtain rfl := LeastQ.one m2 o2
 obtain rfl := GreatQ.one m3 o3
 obtain rfl := GreatQ.one m4 o4
 refine ⟨rfl, _, rfl, ifF (by simp) ?_⟩
 exact ⟨_, _, _, _, rfl, (sA.trans sBE).trans (sF.trans sG)⟩
theorem ok_l_cell_at (F : FunAt K mg "_law_cell_at" s_l_cell_at ["_law_script", "_law_k"]) (B : Blt mg) : DefOk P w K mg base CX0 1 "_law_cell_at" ["_law_script", "_law_k"] (spCell K) := by
 refine def_okI F sc_l_cell_at (fun vs H Q E h => ?_) (fun f cdv A outer s H vs Q E hr h => ?_)
 · obtain ⟨a, ns, i, rfl, _⟩ := h; rfl
 obtain ⟨a, ns, i, rfl, hS, h0, k⟩ := h
 have hu := hr.units
 refine ⟨_, (pss_consI (ps_ifI (pt_cmpRI op_lt (pvI 1) (pe_callBI (call_lenK K) (by rfl) B.len PySem.boot_len (pa_consI (pvI 0) pa_nilI)) (nomark _)) (pss_oneI (ps_retI (pe_ixI (ix_listK K) (pvI 0) (pvI 1) (fun _ _ => rfl)))) pss_nilI) (pss_oneI (ps_retI pe_intI))), ?_⟩
 refine ⟨_, rfl, _, rfl, a, _, rfl, .inl hS, _, _, rfl, rfl, _, rfl, ite_dec (fun hn => ?_) (fun hn => ?_)⟩
 · rw [List.length_map] at hn
   refine ⟨_, rfl, _, rfl, a, _, _, _, rfl, rfl, hS, at_mapZ ns i h0 hn, ?_⟩
   exact k _
 · exact k 0
theorem ok_l_names (F : FunAt K mg "_law_names" s_l_names ["_law_cell", "_law_many"]) (B : Blt mg) (D_l_stream : DefOk P w K mg base CX0 1 "_law_stream" ["_law_cell", "_law_many"] spStreamC) : DefOk P w K mg base CX0 2 "_law_names" ["_law_cell", "_law_many"] spLNames := by
 refine def_okI F sc_l_names (fun vs H Q E h => ?_) (fun f cdv A outer s H vs Q E hr h => ?_)
 · obtain ⟨c, m, rfl, _⟩ := h; rfl
 obtain ⟨c, m, rfl, m1, m12, k⟩ := h
 have hu := hr.units
 refine ⟨_, (pss_consI (ps_setI (i := 2) sc_l_names.nd rfl (Or.inr rfl) pe_strI) (pss_consI (ps_setI (i := 3) sc_l_names.nd rfl (Or.inr rfl) (pe_fnI D_l_stream hr pass0 (pa_consI (pvI 0) (pa_consI pe_intI pa_nilI)))) (pss_consI (ps_setI (i := 4) sc_l_names.nd rfl (Or.inl rfl) (pe_opI op_add pe_intI (pe_opI op_mod (pe_ixI (ix_listK K) (pvI 3) pe_intI (fun _ _ => rfl)) pe_intI))) (pss_consI (ps_setI (i := 5) sc_l_names.nd rfl (Or.inl rfl) (pe_opI op_mod (pe_ixI (ix_listK K) (pvI 3) pe_intI (fun _ _ => rfl)) (pvI 4))) (pss_consI (ps_ifI (pt_cmpRI op_eq (pe_opI op_mod (pe_ixI (ix_listK K) (pvI 3) pe_intI (fun _ _ => rfl)) pe_intI) pe_intI (nomark _)) (pss_consI (ps_setI (i := 6) sc_l_names.nd rfl (Or.inr rfl) (show PEi _ _ (tBM K _ _ _ _) from (pe_bmI PySem.F.plainAttrs_str PySem.F.slot_str_join PySem.F.type_str_join (mt_joinK K) pe_strI (pa_consI (pe_compSI (os := ["_law_j"]) (caps := [(2, "_law_letters"), (3, "_law_row")]) ["_law_cell", "_law_many", "_law_letters", "_law_row", "_law_size", "_law_at", "_law_word", "_law_found", "_law_k", "_law_name", "_law_j", "_law_place_here"] (defScope s_l_names) (pi_range1I rfl B.range (pa_consI pe_intI pa_nilI)) (fun _ _ _ _ _ => (pg_nameI (i := 0) (show List.Nodup (["_law_j", "_law_letters", "_law_row"] : List Str) from by decide +kernel) rfl (Or.inl rfl))) (fun _ _ _ _ _ => (pe_ixI ix_str (pvI 1) (pe_opI op_mod (pe_ixI (ix_listK K) (pvI 2) (pe_opI op_add pe_intI (pvI 0)) (fun _ _ => rfl)) pe_intI) (fun _ _ => rfl))) (by decide +kernel)) pa_nilI)))) (pss_oneI (ps_retI (pe_compSI (os := ["_law_k"]) (caps := [(6, "_law_word"), (3, "_law_row"), (1, "_law_many")]) ["_law_cell", "_law_many", "_law_letters", "_law_row", "_law_size", "_law_at", "_law_word", "_law_found", "_law_k", "_law_name", "_law_j", "_law_place_here"] (defScope s_l_names) (pi_range1I rfl B.range (pa_consI (pvI 1) pa_nilI)) (fun _ _ _ _ _ => (pg_nameI (i := 0) (show List.Nodup (["_law_k", "_law_word", "_law_row", "_law_many"] : List Str) from by decide +kernel) rfl (Or.inl rfl))) (fun _ _ _ _ _ => (pe_sliceI sl_str (pvI 1) po_noneI (po_someI (pe_opI op_add (pe_opI op_add (pvI 0) pe_intI) (pe_opI op_mod (pe_ixI (ix_listK K) (pvI 2) pe_intI (fun _ _ => rfl)) (pe_opI op_sub pe_intI (pvI 3))))))) (by decide +kernel))))) pss_nilI) (pss_consI (ps_setI (i := 7) sc_l_names.nd rfl (Or.inl rfl) (pe_lstI pa_nilI)) (pss_consI (ps_forI PassesOwn.never rfl (pi_range1I rfl B.range (pa_consI (pvI 1) pa_nilI)) (pg_nameI (i := 8) sc_l_names.nd rfl (Or.inl rfl)) (pss_consI (ps_setI (i := 9) sc_l_names.nd rfl (Or.inl rfl) pe_strI) (pss_consI (ps_forI PassesOwn.never rfl (pi_range1I rfl B.range (pa_consI (pvI 4) pa_nilI)) (pg_nameI (i := 10) sc_l_names.nd rfl (Or.inl rfl)) (pss_consI (ps_setI (i := 11) sc_l_names.nd rfl (Or.inl rfl) (pe_ixI (ix_listK K) (pvI 3) (pe_opI op_add pe_intI (pvI 10)) (fun _ _ => rfl))) (pss_consI (ps_ifI (pt_cmpRI op_eq (pvI 10) (pvI 5) (nomark _)) (pss_oneI (ps_setI (i := 11) sc_l_names.nd rfl (Or.inl rfl) (pe_opI op_add (pvI 11) (pvI 8)))) pss_nilI) (pss_oneI (ps_setI (i := 9) sc_l_names.nd rfl (Or.inl rfl) (pe_opI op_add_str (pvI 9) (pe_ixI ix_str (pvI 2) (pe_opI op_mod (pvI 11) pe_intI) (fun _ _ => rfl)))))))) (pss_oneI (ps_exprI (show PEi _ _ (tBM K _ _ _ _) from (pe_bmI PySem.F.plainAttrs_list PySem.F.slot_list_append PySem.F.type_list_append mt_append (pvI 7) (pa_consI (pvI 9) pa_nilI)))))))) (pss_oneI (ps_retI (pvI 7)))))))))), ?_⟩
 walk_at "rd"
 refine ⟨c, 15, rfl, by decide, fun lr xs H1 s1 hlr0 hlr hxl hx0 => ?_⟩
 have b0 := Int.emod_nonneg (xs.getD (Int.toNat 0) 0) (b := 12) (by decide)
 have b1 := Int.emod_lt_of_pos (xs.getD (Int.toNat 0) 0) (b := 12) (by decide)
 walk_at "rd"
 refine ⟨by show (0 : Int) < 1 + xs.getD (Int.toNat 0) 0 % 12; omega, ?_⟩
 walk_at "rd"
 dsimp only
 have ltr : ∀ (j : Int), 0 ≤ j → j < 26 → ∃ c, atI ("abcdefghijklmnopqrstuvwxyz" : Str).cps.toList j = some c ∧ 97 ≤ c ∧ c ≤ 122 := fun j => let_at
 have lsz : ("abcdefghijklmnopqrstuvwxyz" : Str).length ≤ sizeLine := Nat.le_of_lt (small_line (by decide))
 refine ite2 (fun _ => ?_) (fun _ => ?_)
 · walk_at "rd"
   refine comp1 (plain_range _ _ _) (by decide) (fun i v H => ∃ c, v = .str ⟨#[c]⟩ ∧ 97 ≤ c ∧ c ≤ 122) (fun _ _ _ _ tt h => h) (fun i H2 kk hi s2 hk => ?_) (fun D ys H2 hD s2 hd hl hr => ?_)
   · have hi12 : i < 12 := hi
     have hlr2 := s2 _ _ hlr
     walk_at "rd"
     obtain ⟨cc, ec, hc⟩ := ltr (xs.getD (2 + (0 + (i : Int))).toNat 0 % 26) (Int.emod_nonneg _ (by decide)) (Int.emod_lt_of_pos _ (by decide))
     refine ⟨_, _, cc, rfl, rfl, lsz, ec, ?_⟩
     exact hk _ _ (L2.Same.refl _) ⟨cc, rfl, hc⟩
   have hl12 : ys.length = 12 := hl
   obtain ⟨ts, ey, ht⟩ : ∃ ts : List Str, ys = ts.map V.str ∧ ∀ t ∈ ts, ∃ c, t = ⟨#[c]⟩ ∧ 97 ≤ c ∧ c ≤ 122 := ones_of hr
   subst ey
   rw [List.length_map] at hl12
   obtain ⟨j1, j2⟩ := ones_join ht
   have hlr2 := s2 _ _ hlr
   walk_at "rd"
   refine ⟨_, D, ts, rfl, rfl, SqL.of hd, join_ok (B := 1) (fun t h => by obtain ⟨c, rfl, _⟩ := ht t h; exact Nat.le_refl _) ?_, ?_⟩
   · have e : ("" : Str).length = 0 := rfl
     rw [e, hl12]; decide
   rw [txt_join]
   generalize Str.join "" ts = word at *
   have d0 : (0 : Int) < 13 - (m : Int) := by omega
   have r0 := Int.emod_nonneg (xs.getD (Int.toNat 0) 0) (b := 13 - (m : Int)) (by omega)
   have r1 := Int.emod_lt_of_pos (xs.getD (Int.toNat 0) 0) (b := 13 - (m : Int)) (by omega)
   walk_at "rd"
   refine ⟨by omega, by omega, ?_⟩
   refine comp1 (plain_range _ _ _) (by show (m : Int).toNat ≤ 100000; omega) (fun i v H => ∃ s, v = .str s ∧ Nm s) (fun _ _ _ _ tt h => h) (fun i H3 kk hi s3 hk => ?_) (fun D3 ys3 H3 hD3 s3 hd3 hl3 hr3 => ?_)
   · have hi12 : i < m := by simpa using hi
     have hlr3 := s3 _ _ hlr2
     walk_at "rd"
     refine ⟨d0, ?_⟩
     walk_at "rd"
     refine ⟨by omega, ?_⟩
     refine hk _ _ (L2.Same.refl _) ⟨_, rfl, nm_slice j2 ?_ ?_ ?_⟩
     · show 1 ≤ 0 + (i : Int) + 1 + xs.getD (Int.toNat 0) 0 % (13 - (m : Int)); omega
     · show 0 + (i : Int) + 1 + xs.getD (Int.toNat 0) 0 % (13 - (m : Int)) ≤ _; omega
     · show 0 + (i : Int) + 1 + xs.getD (Int.toNat 0) 0 % (13 - (m : Int)) ≤ _; omega
   obtain ⟨ss, rfl, hss⟩ := nms_of hr3
   have s12 := s1.trans s2
   exact k D3 ss H3 (s12.trans s3) (s12.free hD3) hd3 (by rw [List.length_map] at hl3; rw [hl3]; show (m : Int).toNat = m; omega) hss
 · walk_at "rd"
   intro lf hlf
   have v2 := Same.new (o := .lst []) hlf
   have k2 := upd_same (H := H1) (a := lf) (o := .lst [])
   have hlr1 := hlr
   generalize hgs : 1 + xs.getD (Int.toNat 0) 0 % 12 = sz at *
   generalize hga : xs.getD (Int.toNat 1) 0 % sz = at0 at *
   have z1 : 1 ≤ sz := by omega
   have z12 : sz ≤ 12 := by omega
   walk_at "rd"
   refine ⟨by omega, by omega, for_range (fun i σ H' => ∃ (y8 y9 y10 y11 : Option V) (ss : List Str), σ = [some (.int c), some (.int (m : Int)), some (.str "abcdefghijklmnopqrstuvwxyz"), some (.ref lr), some (.int sz), some (.int at0), none, some (.ref lf), y8, y9, y10, y11] ∧ Same H1 H' ∧ H' lf = some (.lst (ss.map V.str)) ∧ ss.length = i ∧ ∀ s ∈ ss, Nm s) ⟨none, none, none, none, [], rfl, v2, k2, rfl, fun s h => nomatch h⟩ ?_ ?_⟩
   · rintro i σ H2 hi ⟨y8, y9, y10, y11, ss, rfl, s2, hf2, hl2, hss⟩
     have him : i < m := by have : i < (m : Int).toNat := hi; omega
     have hlr2 := s2 _ _ hlr1
     walk_at "rd"
     refine ⟨by omega, by omega, for_range (fun j σ H' => ∃ (y10 y11 : Option V) (s : Str), σ = [some (.int c), some (.int (m : Int)), some (.str "abcdefghijklmnopqrstuvwxyz"), some (.ref lr), some (.int sz), some (.int at0), none, some (.ref lf), some (.int (0 + (i : Int))), some (.str s), y10, y11] ∧ H' = H2 ∧ s.length = j ∧ Lt s) ⟨_, _, "", rfl, rfl, rfl, lt_empty⟩ ?_ ?_⟩
     · rintro j σ H3 hj ⟨y10, y11, s, rfl, rfl, hs1, hs2⟩
       have hj12 : j < 12 := by have : j < sz.toNat := hj; omega
       walk_at "rd"
       dsimp only
       refine ite2 (fun _ => ?_) (fun _ => ?_)
       · walk_at "rd"
         obtain ⟨cc, ec, hc⟩ := ltr ((xs.getD (2 + (0 + (j : Int))).toNat 0 + (0 + (i : Int))) % 26) (Int.emod_nonneg _ (by decide)) (Int.emod_lt_of_pos _ (by decide))
         refine ⟨_, _, cc, rfl, rfl, lsz, ec, ?_⟩
         refine ⟨_, _, rfl, rfl, Nat.le_of_lt (small_line (by show s.length + 1 ≤ 100000; omega)), ?_⟩
         exact ⟨_, _, _, rfl, rfl, by rw [len_snoc, hs1], lt_snoc hs2 hc⟩
       · walk_at "rd"
         obtain ⟨cc, ec, hc⟩ := ltr (xs.getD (2 + (0 + (j : Int))).toNat 0 % 26) (Int.emod_nonneg _ (by decide)) (Int.emod_lt_of_pos _ (by decide))
         refine ⟨_, _, cc, rfl, rfl, lsz, ec, ?_⟩
         refine ⟨_, _, rfl, rfl, Nat.le_of_lt (small_line (by show s.length + 1 ≤ 100000; omega)), ?_⟩
         exact ⟨_, _, _, rfl, rfl, by rw [len_snoc, hs1], lt_snoc hs2 hc⟩
     · rintro σ H3 ⟨y10, y11, s, rfl, rfl, hs1, hs2⟩
       walk_at "rd"
       refine ⟨.inl ⟨rfl, _, SqL.of hf2⟩, ?_⟩
       walk_at "rd"
       refine ⟨lf, _, _, rfl, rfl, hf2, ?_, ?_⟩
       · rw [List.length_map, hl2]; exact small_line (by omega)
       · refine ⟨_, _, _, _, ss ++ [s], rfl, fun b o e => ?_, ?_, ?_, ?_⟩
         · rw [upd_ne (ne_of_none e hlf)]; exact s2 b o e
         · rw [upd_same, List.map_append]; rfl
         · rw [List.length_append, hl2]; rfl
         · intro z hz
           rcases List.mem_append.mp hz with hz | hz
           · exact hss z hz
           · cases List.mem_singleton.mp hz
             exact ⟨by omega, by omega, hs2⟩
   · rintro σ H2 ⟨y8, y9, y10, y11, ss, rfl, s2, hf2, hl2, hss⟩
     walk_at "rd"
     exact k lf ss H2 (s1.trans s2) (s1.free hlf) hf2 (by rw [hl2]; show (m : Int).toNat = m; omega) hss
theorem ok_law {C_Desk : Addr} (T_Desk : ClsK K mg "Desk" C_Desk) (N_Desk_kept : NoAttr K C_Desk "kept") (F : FunAt K mg "law" s_law ["_law_script"]) (B : Blt mg) (D_Desk___init__ : MthOk P w K mg base CX0 1 C_Desk "__init__" ["self"] (spDInit C_Desk)) (D_Desk_say : MthOk P w K mg base CX0 8 C_Desk "say" ["self", "row"] (spSay C_Desk)) (D_l_curve_text : DefOk P w K mg base CX0 3 "_law_curve_text" ["_law_curve"] (spLTxC K)) (D_l_handed : DefOk P w K mg base CX0 2 "_law_handed" ["_law_places", "_law_bottom"] (spHanded K)) (D_l_told : DefOk P w K mg base CX0 9 "_law_told" ["_law_desk", "_law_book", "_law_name", "_law_cell"] (spTold C_Desk)) (D_l_asked : DefOk P w K mg base CX0 10 "_law_asked" ["_law_desk", "_law_book", "_law_cell", "_law_names_here"] (spAsked C_Desk)) (D_l_by_turns : DefOk P w K mg base CX0 10 "_law_by_turns" ["_law_desk", "_law_beside", "_law_book", "_law_cell"] (spTurns C_Desk)) (D_l_cell_at : DefOk P w K mg base CX0 1 "_law_cell_at" ["_law_script", "_law_k"] (spCell K)) (D_l_names : DefOk P w K mg base CX0 2 "_law_names" ["_law_cell", "_law_many"] spLNames) : DefOk P w K mg base CX0 11 "law" ["_law_script"] (spLaw K) := by
 refine def_okI F sc_law (fun vs H Q E h => ?_) (fun f cdv A outer s H vs Q E hr h => ?_)
 · obtain ⟨a, ns, rfl, _⟩ := h; rfl
 obtain ⟨a, ns, rfl, hS, hlen, k⟩ := h
 have hu := hr.units
 refine ⟨_, (pss_consI (ps_setI (i := 1) sc_law.nd rfl (Or.inl rfl) (pe_fnI D_l_names hr pass0 (pa_consI (pe_fnI D_l_cell_at hr pass0 (pa_consI (pvI 0) (pa_consI pe_intI pa_nilI))) (pa_consI pe_intI pa_nilI)))) (pss_consI (ps_setI (i := 2) sc_law.nd rfl (Or.inl rfl) (pe_mk0I T_Desk D_Desk___init__ hr pass0)) (pss_consI (ps_setI (i := 3) sc_law.nd rfl (Or.inl rfl) (pe_mk0I T_Desk D_Desk___init__ hr pass0)) (pss_consI (ps_setI (i := 4) sc_law.nd rfl (Or.inl rfl) pe_dnewI) (pss_consI (ps_ifI (pt_cmpRI op_ne (pe_mthI T_Desk D_Desk_say (pvI 2) hr pass0 (pa_consI pe_strI pa_nilI)) pe_strI (nomark _)) (pss_oneI (ps_retI pe_blI)) pss_nilI) (pss_consI (ps_forI PassesOwn.never rfl (pi_range1I rfl B.range (pa_consI pe_intI pa_nilI)) (pg_nameI (i := 5) sc_law.nd rfl (Or.inl rfl)) (pss_oneI (ps_ifI (pt_notI (pt_valI (pe_fnI D_l_told hr pass0 (pa_consI (pvI 2) (pa_consI (pvI 4) (pa_consI (pe_ixI (ix_listK K) (pvI 1) (pvI 5) (fun _ _ => rfl)) (pa_consI (pe_opI op_add (pe_fnI D_l_cell_at hr pass0 (pa_consI (pvI 0) (pa_consI (pe_opI op_add pe_intI (pvI 5)) pa_nilI))) (pe_opI op_mulA pe_intI (pvI 5))) pa_nilI))))))) (pss_oneI (ps_retI pe_blI)) pss_nilI))) (pss_consI (ps_forI PassesOwn.never rfl (pi_listKI K (pe_opI op_cat (pe_sliceI (sl_listK K) (pvI 0) (po_someI pe_intI) (po_someI pe_intI)) (pe_lstI (pa_consI (pe_opI op_add (pe_fnI D_l_cell_at hr pass0 (pa_consI (pvI 0) (pa_consI pe_intI pa_nilI))) pe_intI) (pa_consI (pe_opI op_add (pe_fnI D_l_cell_at hr pass0 (pa_consI (pvI 0) (pa_consI pe_intI pa_nilI))) pe_intI) pa_nilI))))) (pg_nameI (i := 6) sc_law.nd rfl (Or.inl rfl)) (pss_oneI (ps_ifI (pt_notI (pt_valI (pe_fnI D_l_asked hr pass0 (pa_consI (pvI 2) (pa_consI (pvI 4) (pa_consI (pvI 6) (pa_consI (pvI 1) pa_nilI))))))) (pss_oneI (ps_retI pe_blI)) pss_nilI))) (pss_consI (ps_forI PassesOwn.never rfl (pi_dictI (pvI 4)) (pg_nameI (i := 7) sc_law.nd rfl (Or.inl rfl)) (pss_oneI (ps_ifI (pt_cmpRI op_ne (pe_mthI T_Desk D_Desk_say (pvI 2) hr pass0 (pa_consI (pe_opI op_add_str pe_strI (pvI 7)) pa_nilI)) (pe_fnI D_l_curve_text hr pass0 (pa_consI (pe_fnI D_l_handed hr pass0 (pa_consI (pe_ixI (ix_tupK K) (pe_ixI (ix_dict P w K hu) (pvI 4) (pvI 7) (fun _ _ => rfl)) pe_intI (fun _ _ => rfl)) (pa_consI (pe_ixI (ix_tupK K) (pe_ixI (ix_dict P w K hu) (pvI 4) (pvI 7) (fun _ _ => rfl)) pe_intI (fun _ _ => rfl)) pa_nilI))) pa_nilI)) (nomark _)) (pss_oneI (ps_retI pe_blI)) pss_nilI))) (pss_consI (ps_ifI (PW_ptI (pw_orI (pt_cmpRI op_ne (pe_mthI T_Desk D_Desk_say (pvI 2) hr pass0 (pa_consI pe_strI pa_nilI)) (show PEi _ _ (tBM K _ _ _ _) from (pe_bmI PySem.F.plainAttrs_str PySem.F.slot_str_join PySem.F.type_str_join (mt_joinK K) pe_strI (pa_consI (pe_callBI call_sortD (by rfl) B.sorted PyProof.Rows.boot_sorted (pa_consI (pvI 4) pa_nilI)) pa_nilI))) (nomark _)) (pw_or1I (pt_cmpRI op_ne (pe_mthI T_Desk D_Desk_say (pvI 3) hr pass0 (pa_consI pe_strI pa_nilI)) pe_strI (nomark _))))) (pss_oneI (ps_retI pe_blI)) pss_nilI) (pss_oneI (ps_retI (pe_fnI D_l_by_turns hr pass0 (pa_consI (pvI 2) (pa_consI (pvI 3) (pa_consI (pvI 4) (pa_consI (pe_fnI D_l_cell_at hr pass0 (pa_consI (pvI 0) (pa_consI pe_intI pa_nilI))) pa_nilI)))))))))))))))), ?_⟩
 walk_at "rd"
 refine ⟨a, ns, 0, rfl, hS, by decide, fun z0 => ?_⟩
 walk_at "rd"
 refine ⟨z0, 6, rfl, by decide, by decide, fun ln ss H1 s1 hln0 hln hsl hss => ?_⟩
 have hS1 : SqL K H1 a (ns.map V.int) := SqL.same' hS s1
 clear s1 hln0
 intro x1 dx1 hx1 hdx1 ne1
 have v1 := same_ins (C := C_Desk) hx1 hdx1
 have hx1' : (upd (upd H1 dx1 (.own x1)) x1 (.ins C_Desk dx1 [])) x1 = some (.ins C_Desk dx1 []) := upd_same
 generalize upd (upd H1 dx1 (.own x1)) x1 (.ins C_Desk dx1 []) = H2 at *
 refine ⟨x1, dx1, rfl, hx1', fun d1 H3 si1 hd10 hd1 => ⟨rfl, ?_⟩⟩
 have hA1 := DeskAt.made hx1' hd10 hd1
 have sx1 : Same H1 (upd H3 x1 (.ins C_Desk dx1 (keptF d1))) := same_upd hx1 (v1.trans si1)
 have hd1n : H1 d1 = none := v1.free hd10
 generalize upd H3 x1 (.ins C_Desk dx1 (keptF d1)) = H4 at *
 clear v1 hx1' si1 hd10 hd1 hx1 hdx1 ne1
 replace hln := sx1 _ _ hln
 replace hS1 : SqL K H4 a (ns.map V.int) := SqL.same' hS1 sx1
 intro x2 dx2 hx2 hdx2 ne2
 have v2 := same_ins (C := C_Desk) hx2 hdx2
 have hx2' : (upd (upd H4 dx2 (.own x2)) x2 (.ins C_Desk dx2 [])) x2 = some (.ins C_Desk dx2 []) := upd_same
 generalize upd (upd H4 dx2 (.own x2)) x2 (.ins C_Desk dx2 []) = H5 at *
 refine ⟨x2, dx2, rfl, hx2', fun d2 H6 si2 hd20 hd2 => ⟨rfl, ?_⟩⟩
 have hA2 := DeskAt.made hx2' hd20 hd2
 have sx2 : Same H4 (upd H6 x2 (.ins C_Desk dx2 (keptF d2))) := same_upd hx2 (v2.trans si2)
 have hd2n : H4 d2 = none := v2.free hd20
 generalize upd H6 x2 (.ins C_Desk dx2 (keptF d2)) = H7 at *
 clear v2 hx2' si2 hd20 hd2 hx2 hdx2 ne2
 replace hln := sx2 _ _ hln
 replace hS1 : SqL K H7 a (ns.map V.int) := SqL.same' hS1 sx2
 have hne : d1 ≠ d2 := by obtain ⟨_, _, h, _⟩ := hA1; exact ne_of_none h hd2n
 replace hA1 := hA1.same sx2
 clear sx1 sx2 hd1n hd2n
 walk_at "rd"
 intro b hb0
 have v8 := Same.new (o := .dK []) hb0
 have k8 := upd_same (H := H7) (a := b) (o := .dK [])
 have n1b : d1 ≠ b := by obtain ⟨_, _, h, _⟩ := hA1; exact ne_of_none h hb0
 have n2b : d2 ≠ b := by obtain ⟨_, _, h, _⟩ := hA2; exact ne_of_none h hb0
 replace hA1 := hA1.same v8
 replace hA2 := hA2.same v8
 replace hln := v8 _ _ hln
 replace hS1 := SqL.same' hS1 v8
 generalize upd H7 b (.dK []) = H8 at *
 clear v8 hb0
 obtain ⟨⟨dx, hx⟩, _⟩ := id hA1
 walk_at "rd"
 refine ⟨x1, dx, _, rfl, hx, kept_no d1 (by decide +kernel), ?_⟩
 walk_at "rd"
 refine ⟨x1, d1, _, [], rfl, hA1, ?_⟩
 change Say H8 d1 [] _ ("names" : Str)
 rw [row_names]
 refine .none rfl fun H9 s9 => ?_
 replace hA1 := hA1.same s9
 replace hA2 := hA2.same s9
 replace hln := s9 _ _ hln
 replace hS1 := SqL.same' hS1 s9
 have hW : DictW H9 b [] := ⟨[], s9 _ _ k8, .nil, by decide⟩
 clear k8 s9 hx
 refine ⟨rfl, _, rfl, ifF (by simp) ?_⟩
 walk_at "rd"
 refine for_range (fun i σ H' => ∃ (y5 : Option V) (bs : List (Str × Bk)), σ = [some (.ref a), some (.ref ln), some (.ref x1), some (.ref x2), some (.ref b), y5, none, none] ∧ SqL K H' a (ns.map V.int) ∧ H' ln = some (.lst (ss.map V.str)) ∧ DeskAt C_Desk H' x1 d1 (cvs bs) ∧ DeskAt C_Desk H' x2 d2 [] ∧ DictW H' b bs ∧ Good bs ∧ bs.length ≤ i ∧ (1 ≤ i → bs ≠ [])) ⟨none, [], rfl, hS1, hln, hA1, hA2, hW, (show Good [] from fun c h => nomatch h), Nat.le_refl _, fun h => absurd h (by decide)⟩ ?_ ?_
 · rintro i σ HA hi ⟨y5, bs, rfl, hSA, hlA, h1A, h2A, hWA, hGA, hbl, _⟩
   have hi3 : i < 3 := hi
   have em : ss[i]? = some (ss[i]'(by omega)) := List.getElem?_eq_getElem _
   have hm := hss _ (List.mem_of_getElem? em)
   generalize ss[i]'(by omega) = mm at *
   obtain ⟨k1, hk1⟩ := h1A.2.at
   obtain ⟨k2, hk2⟩ := hWA.at
   walk_at "rd"
   refine ⟨ln, _, _, _, rfl, rfl, SqL.of hlA, atI_nat' (j := i) (by omega) (by rw [List.getElem?_map, em]; rfl), ?_⟩
   walk_at "rd"
   refine ⟨a, ns, _, rfl, hSA, by omega, fun zc => ?_⟩
   walk_at "rd"
   refine ⟨x1, d1, b, mm, _, bs, rfl, h1A, hWA, n1b, hm, by omega, fun bk HB eB hAB hWB hgB => ?_⟩
   walk_at "rd"
   exact ⟨_, putA bs mm bk, rfl, SqL.ex2 hSA eB hk1 hk2, eB.lst hk1 hk2 hlA, hAB, h2A.ex2 eB hk1 hk2 (Ne.symm hne) n2b, hWB, hGA.put hm hgB, by have := length_putA bs mm bk; omega, fun _ => putA_ne _ _ _⟩
 rintro σ HA ⟨y5, bs, rfl, hSA, hlA, h1A, h2A, hWA, hGA, hbl, hnb⟩
 replace hnb := hnb (by decide)
 have hbl3 : bs.length ≤ 3 := hbl
 clear hS1 hln hA1 hA2 hW hbl
 walk_at "rd"
 refine ⟨a, _, rfl, hSA, fun g1 hg1 => ?_⟩
 obtain ⟨ms, ems, hms⟩ := cut_thirty ns
 rw [ems]
 have u1 := Same.new (o := .lst (ms.map V.int)) hg1
 have q1 := upd_same (H := HA) (a := g1) (o := .lst (ms.map V.int))
 replace hSA := SqL.same' hSA u1
 replace hlA := u1 _ _ hlA
 replace h1A := h1A.same u1
 replace h2A := h2A.same u1
 replace hWA := hWA.same u1
 generalize upd HA g1 (.lst (ms.map V.int)) = HB at *
 walk_at "rd"
 refine ⟨a, ns, 4, rfl, hSA, by decide, fun z4 => ?_⟩
 walk_at "rd"
 refine ⟨a, ns, 5, rfl, hSA, by decide, fun z5 => ?_⟩
 walk_at "rd"
 intro g2 hg2
 have u2 := Same.new (o := .lst [.int (z4 + 7), .int (z5 + 11)]) hg2
 have q2 := upd_same (H := HB) (a := g2) (o := .lst [.int (z4 + 7), .int (z5 + 11)])
 replace q1 := u2 _ _ q1
 replace hSA := SqL.same' hSA u2
 replace hlA := u2 _ _ hlA
 replace h1A := h1A.same u2
 replace h2A := h2A.same u2
 replace hWA := hWA.same u2
 generalize upd HB g2 (.lst [.int (z4 + 7), .int (z5 + 11)]) = HC at *
 refine ⟨g1, g2, _, _, rfl, rfl, q1, q2, Nat.le_of_lt (small_line (by rw [List.length_map]; show ms.length + 2 ≤ 100000; omega)), fun g3 hg3 => ?_⟩
 have e3 : ms.map V.int ++ [V.int (z4 + 7), .int (z5 + 11)] = (ms ++ [z4 + 7, z5 + 11]).map V.int := by rw [List.map_append]; rfl
 rw [e3] at *
 have u3 := Same.new (o := .lst ((ms ++ [z4 + 7, z5 + 11]).map V.int)) hg3
 have q3 := upd_same (H := HC) (a := g3) (o := .lst ((ms ++ [z4 + 7, z5 + 11]).map V.int))
 have hzl : (ms ++ [z4 + 7, z5 + 11]).length ≤ 32 := by rw [List.length_append]; show ms.length + 2 ≤ 32; omega
 replace hSA := SqL.same' hSA u3
 replace hlA := u3 _ _ hlA
 replace h1A := h1A.same u3
 replace h2A := h2A.same u3
 replace hWA := hWA.same u3
 generalize upd HC g3 (.lst ((ms ++ [z4 + 7, z5 + 11]).map V.int)) = HD at *
 generalize ms ++ [z4 + 7, z5 + 11] = zs at *
 clear u1 u2 u3 q1 q2 e3 ems hms hg1 hg2 hg3
 walk_at "rd"
 refine ⟨⟨_, SqL.of q3⟩, for_list (xs := zs.map V.int) (fun i σ H' => ∃ (y6 : Option V) (bs : List (Str × Bk)), σ = [some (.ref a), some (.ref ln), some (.ref x1), some (.ref x2), some (.ref b), y5, y6, none] ∧ H' g3 = some (.lst (zs.map V.int)) ∧ SqL K H' a (ns.map V.int) ∧ H' ln = some (.lst (ss.map V.str)) ∧ DeskAt C_Desk H' x1 d1 (cvs bs) ∧ DeskAt C_Desk H' x2 d2 [] ∧ DictW H' b bs ∧ Good bs ∧ bs.length ≤ 3 + i ∧ bs ≠ []) ⟨none, bs, rfl, q3, hSA, hlA, h1A, h2A, hWA, hGA, hbl3, hnb⟩ (fun i σ H' _ h => by obtain ⟨_, _, _, h, _⟩ := h; exact SqL.of h) ?_ ?_⟩
 · rintro i vv σ HE ev ⟨y6, bs, rfl, q3, hSA, hlA, h1A, h2A, hWA, hGA, hbl, hnb⟩
   have hi32 : i < 32 := by
     rcases Nat.lt_or_ge i zs.length with h | h
     · omega
     · rw [List.getElem?_eq_none (by rw [List.length_map]; exact h)] at ev; cases ev
   rw [List.getElem?_map] at ev
   obtain ⟨zc, _, rfl⟩ := Option.map_eq_some_iff.mp ev
   obtain ⟨k1, hk1⟩ := h1A.2.at
   obtain ⟨k2, hk2⟩ := hWA.at
   walk_at "rd"
   refine ⟨x1, d1, b, ln, _, bs, ss, rfl, h1A, hWA, n1b, hGA, hnb, by omega, hlA, hss, by omega, by omega, fun bs' HF eF hAF hWF hgF hnF hlF => ?_⟩
   walk_at "rd"
   exact ⟨_, bs', rfl, eF.lst hk1 hk2 q3, SqL.ex2 hSA eF hk1 hk2, eF.lst hk1 hk2 hlA, hAF, h2A.ex2 eF hk1 hk2 (Ne.symm hne) n2b, hWF, hgF, by omega, hnF⟩
 clear hSA hlA h1A h2A hWA hGA hbl3 hnb q3
 rintro σ HE ⟨y6, bs, rfl, _, hSA, hlA, h1A, h2A, hWA, hGA, hbl, hnb⟩
 have hbl : bs.length ≤ 35 := by rw [List.length_map] at hbl; omega
 walk_at "rd"
 obtain ⟨kvs, hb, hK, h40⟩ := id hWA
 refine ⟨b, kvs, bs.map (·.1), rfl, hb, hK.keys, fun ob => ?_⟩
 obtain ⟨k1, hk1⟩ := h1A.2.at
 have eF : Ex b HE (upd HE b (.frz ob (.dK kvs))) := Ex.put
 have hfz : (upd HE b (.frz ob (.dK kvs))) b = some (.frz ob (.dK kvs)) := upd_same
 have hSF := SqL.ex2 (d := d1) (b := b) hSA (Ex2.of_r eF) hk1 hb
 have h1F := h1A.ex eF hb n1b
 have h2F := h2A.ex eF hb n2b
 have hBF : DictB (upd HE b (.frz ob (.dK kvs))) b bs := ⟨kvs, .inr ⟨ob, hfz⟩, hK.mono fun v x r => BkV.ex r eF hb, h40⟩
 generalize upd HE b (.frz ob (.dK kvs)) = HF at *
 clear hSA hlA h1A h2A hWA hK eF hk1 hb
 refine for_plain1 (plain_dict hfz) (fun i σ H' => ∃ (y7 : Option V), σ = [some (.ref a), some (.ref ln), some (.ref x1), some (.ref x2), some (.ref b), y5, y6, y7] ∧ Same HF H') ⟨none, rfl, L2.Same.refl _⟩ (fun i σ H' h => by obtain ⟨_, _, s⟩ := h; exact s) ?_ ?_
 · rintro i σ HG hi ⟨y7, rfl, sG⟩
   have hi' : i < (bs.map (·.1)).length := hi
   have en : (bs.map (·.1))[i]? = some ((bs.map (·.1))[i]'hi') := List.getElem?_eq_getElem _
   have eg : (bs.map (·.1)).getD i ("" : Str) = (bs.map (·.1))[i]'hi' := by rw [List.getD_eq_getElem?_getD, en]; rfl
   rw [eg]
   have hmem := List.mem_of_getElem? en
   generalize (bs.map (·.1))[i]'hi' = nn at *
   obtain ⟨bk, ebk⟩ := mem_getA hmem
   obtain ⟨hnn, hgd⟩ := hGA _ (getA_mem ebk)
   have lnn : nn.length ≤ 12 := hnn.2.1
   have ecv : getA (cvs bs) nn = some (ptsOf bk.1 bk.2) := by rw [getA_cvs, ebk]; rfl
   have hAG := h1F.same sG
   have hBG := hBF.same sG
   obtain ⟨kz, hRz, hKz, _⟩ := id hBG
   obtain ⟨vz, evz, gt, l, ws, rfl, hgt, hl, hP⟩ := hKz.there ebk
   obtain ⟨⟨dx, hx⟩, hD⟩ := id hAG
   obtain ⟨Bt, pl⟩ := bk
   have zB : Sz 9000 Bt := hgd.zB.mono (by decide)
   have b1 : 1 ≤ Bt := hgd.b1
   have n6 : pl.length ≤ 6 := hgd.n6
   have fg := hgd.fg
   have hpl' : (ptsOf Bt pl).length = pl.length := ptsOf_len _ _
   walk_at "rd"
   refine ⟨x1, dx, _, rfl, hx, kept_no d1 (by decide +kernel), ?_⟩
   walk_at "rd"
   refine ⟨Nat.le_of_lt (small_line (by show 5 + nn.length ≤ 100000; omega)), ?_⟩
   walk_at "rd"
   refine ⟨x1, d1, _, cvs bs, rfl, hAG, ?_⟩
   change Say HG d1 (cvs bs) _ ("tell " ++ nn : Str)
   rw [row_tell]
   refine .tell nn (ptsOf Bt pl) hnn ecv (fun p hp => fgP_mono (fg p hp) (by decide)) (by omega) fun HH sH => ?_
   obtain ⟨kz, hRz, hKz, _⟩ := hBG.same sH
   obtain ⟨vz, evz, gt, l, ws, rfl, hgt, hl, hP⟩ := hKz.there ebk
   walk_at "rd"
   refine ⟨b, _, rfl, .inl (.inl ⟨kz, .inr nn, hRz, rfl, evz.symm⟩), ?_⟩
   walk_at "rd"
   refine ⟨b, _, rfl, .inl (.inl ⟨kz, .inr nn, hRz, rfl, evz.symm⟩), ?_⟩
   walk_at "rd"
   refine ⟨l, ws, pl, Bt, rfl, SqL.of hl, hP, b1, zB, by omega, fun l6 us6 HI sI hl60 hl6 hP6 => ?_⟩
   walk_at "rd"
   refine ⟨l6, us6, ptsOf Bt pl, rfl, hl6, hP6, fun p hp => fgP_mono (fg p hp) (by decide), by omega, fun HJ sJ => ?_⟩
   refine ⟨rfl, _, rfl, ifF (by simp) ?_⟩
   exact ⟨_, rfl, ((sG.trans sH).trans sI).trans sJ⟩
 rintro σ HG ⟨y7, rfl, sG⟩
 replace h1F := h1F.same sG
 replace h2F := h2F.same sG
 replace hBF := hBF.same sG
 replace hSF := SqL.same' hSF sG
 clear sG hfz
 obtain ⟨⟨dx, hx⟩, _⟩ := id h1F
 walk_at "rd"
 refine ⟨x1, dx, _, rfl, hx, kept_no d1 (by decide +kernel), ?_⟩
 walk_at "rd"
 refine ⟨x1, d1, _, cvs bs, rfl, h1F, ?_⟩
 refine .names (fun e => hnb (by have := cvs_len bs; rw [e] at this; exact List.length_eq_zero_iff.mp this.symm)) (fun c hc => ?_) fun ss' HH sH p3 o3 => ?_
 · unfold cvs at hc
   obtain ⟨c', hc', rfl⟩ := List.mem_map.mp hc
   exact (hGA c' hc').1.2.1
 rw [cvs_keys] at p3
 replace h1F := h1F.same sH
 replace h2F := h2F.same sH
 replace hBF := hBF.same sH
 replace hSF := SqL.same' hSF sH
 obtain ⟨kz, hRz, hKz, _⟩ := id hBF
 walk_at "rd"
 refine ⟨b, kz, bs.map (·.1), rfl, hRz, hKz.keys, by have := hKz.length; omega, fun lt ts hlt0 hpm hso => ?_⟩
 have e3 : ss' = ts := sorted_one (p3.trans hpm.symm) o3 hso
 subst e3
 have u4 := Same.new (o := .lst (ss'.map V.str)) hlt0
 have q4 := upd_same (H := HH) (a := lt) (o := .lst (ss'.map V.str))
 replace h1F := h1F.same u4
 replace h2F := h2F.same u4
 replace hBF := hBF.same u4
 replace hSF := SqL.same' hSF u4
 generalize upd HH lt (.lst (ss'.map V.str)) = HI at *
 clear u4 hlt0 hRz hKz sH hx
 have hsl : ss'.length ≤ 40 := by rw [hpm.length_eq, List.length_map]; omega
 walk_at "rd"
 refine ⟨_, lt, ss', rfl, rfl, SqL.of q4, join_ok (B := 12) (fun t ht => ?_) ?_, ?_⟩
 · have := hpm.mem_iff.mp ht
   obtain ⟨c', hc', rfl⟩ := List.mem_map.mp this
   exact (hGA c' hc').1.2.1
 · have e : (" " : Str).length = 1 := rfl
   rw [e]; omega
 rw [txt_join]
 obtain ⟨⟨dx2, hx2⟩, _⟩ := id h2F
 refine ⟨rfl, _, rfl, ifF (by simp) ?_⟩
 walk_at "rd"
 refine ⟨x2, dx2, _, rfl, hx2, kept_no d2 (by decide +kernel), ?_⟩
 walk_at "rd"
 refine ⟨x2, d2, _, [], rfl, h2F, ?_⟩
 refine .none rfl fun HJ sJ => ?_
 replace h1F := h1F.same sJ
 replace h2F := h2F.same sJ
 replace hBF := hBF.same sJ
 replace hSF := SqL.same' hSF sJ
 refine ⟨rfl, _, rfl, ifF (by simp) ?_⟩
 walk_at "rd"
 refine ⟨a, ns, 5, rfl, hSF, by decide, fun z5 => ?_⟩
 walk_at "rd"
 refine ⟨x1, d1, x2, d2, b, _, bs, rfl, h1F, h2F, hBF, hne, n2b, hGA, by omega, fun HK => ?_⟩
 exact k _
end
theorem all_mk {w : World} {K : PySem.W.Frag} {h : Heap} {mg : Str → Option Value} {fa : Addr} (KX : K.In h) (GN : h.Ns mainGlobals mg) (hfa : mg "law" = some (.ref fa))
    {f0 : Addr} {od0 an0 : Option Addr} {sl0 : Array (Option Value)} {oc0 kV0 dc0 pm0 cd0 ct0 : Value}
    {f1 : Addr} {od1 an1 : Option Addr} {sl1 : Array (Option Value)} {oc1 kV1 dc1 pm1 cd1 ct1 : Value}
    {f2 : Addr} {od2 an2 : Option Addr} {sl2 : Array (Option Value)} {oc2 kV2 dc2 pm2 cd2 ct2 : Value}
    {f3 : Addr} {od3 an3 : Option Addr} {sl3 : Array (Option Value)} {oc3 kV3 dc3 pm3 cd3 ct3 : Value}
    {f4 : Addr} {od4 an4 : Option Addr} {sl4 : Array (Option Value)} {oc4 kV4 dc4 pm4 cd4 ct4 : Value}
    {f5 : Addr} {od5 an5 : Option Addr} {sl5 : Array (Option Value)} {oc5 kV5 dc5 pm5 cd5 ct5 : Value}
    {f6 : Addr} {od6 an6 : Option Addr} {sl6 : Array (Option Value)} {oc6 kV6 dc6 pm6 cd6 ct6 : Value}
    {f7 : Addr} {od7 an7 : Option Addr} {sl7 : Array (Option Value)} {oc7 kV7 dc7 pm7 cd7 ct7 : Value}
    {f8 : Addr} {od8 an8 : Option Addr} {sl8 : Array (Option Value)} {oc8 kV8 dc8 pm8 cd8 ct8 : Value}
    {f9 : Addr} {od9 an9 : Option Addr} {sl9 : Array (Option Value)} {oc9 kV9 dc9 pm9 cd9 ct9 : Value}
    {f10 : Addr} {od10 an10 : Option Addr} {sl10 : Array (Option Value)} {oc10 kV10 dc10 pm10 cd10 ct10 : Value}
    {f11 : Addr} {od11 an11 : Option Addr} {sl11 : Array (Option Value)} {oc11 kV11 dc11 pm11 cd11 ct11 : Value}
    {f12 : Addr} {od12 an12 : Option Addr} {sl12 : Array (Option Value)} {oc12 kV12 dc12 pm12 cd12 ct12 : Value}
    {f13 : Addr} {od13 an13 : Option Addr} {sl13 : Array (Option Value)} {oc13 kV13 dc13 pm13 cd13 ct13 : Value}
    {f14 : Addr} {od14 an14 : Option Addr} {sl14 : Array (Option Value)} {oc14 kV14 dc14 pm14 cd14 ct14 : Value}
    {f15 : Addr} {od15 an15 : Option Addr} {sl15 : Array (Option Value)} {oc15 kV15 dc15 pm15 cd15 ct15 : Value}
    {f16 : Addr} {od16 an16 : Option Addr} {sl16 : Array (Option Value)} {oc16 kV16 dc16 pm16 cd16 ct16 : Value}
    {f17 : Addr} {od17 an17 : Option Addr} {sl17 : Array (Option Value)} {oc17 kV17 dc17 pm17 cd17 ct17 : Value}
    {f18 : Addr} {od18 an18 : Option Addr} {sl18 : Array (Option Value)} {oc18 kV18 dc18 pm18 cd18 ct18 : Value}
    {f19 : Addr} {od19 an19 : Option Addr} {sl19 : Array (Option Value)} {oc19 kV19 dc19 pm19 cd19 ct19 : Value}
    {f20 : Addr} {od20 an20 : Option Addr} {sl20 : Array (Option Value)} {oc20 kV20 dc20 pm20 cd20 ct20 : Value}
    {f21 : Addr} {od21 an21 : Option Addr} {sl21 : Array (Option Value)} {oc21 kV21 dc21 pm21 cd21 ct21 : Value}
    {f22 : Addr} {od22 an22 : Option Addr} {sl22 : Array (Option Value)} {oc22 kV22 dc22 pm22 cd22 ct22 : Value}
    {f23 : Addr} {od23 an23 : Option Addr} {sl23 : Array (Option Value)} {oc23 kV23 dc23 pm23 cd23 ct23 : Value}
    {f24 : Addr} {od24 an24 : Option Addr} {sl24 : Array (Option Value)} {oc24 kV24 dc24 pm24 cd24 ct24 : Value}
    {f25 : Addr} {od25 an25 : Option Addr} {sl25 : Array (Option Value)} {oc25 kV25 dc25 pm25 cd25 ct25 : Value}
    {f26 : Addr} {od26 an26 : Option Addr} {sl26 : Array (Option Value)} {oc26 kV26 dc26 pm26 cd26 ct26 : Value}
    {f27 : Addr} {od27 an27 : Option Addr} {sl27 : Array (Option Value)} {oc27 kV27 dc27 pm27 cd27 ct27 : Value}
    {f28 : Addr} {od28 an28 : Option Addr} {sl28 : Array (Option Value)} {oc28 kV28 dc28 pm28 cd28 ct28 : Value}
    {f29 : Addr} {od29 an29 : Option Addr} {sl29 : Array (Option Value)} {oc29 kV29 dc29 pm29 cd29 ct29 : Value}
    {f30 : Addr} {od30 an30 : Option Addr} {sl30 : Array (Option Value)} {oc30 kV30 dc30 pm30 cd30 ct30 : Value}
    {f31 : Addr} {od31 an31 : Option Addr} {sl31 : Array (Option Value)} {oc31 kV31 dc31 pm31 cd31 ct31 : Value}
    {f32 : Addr} {od32 an32 : Option Addr} {sl32 : Array (Option Value)} {oc32 kV32 dc32 pm32 cd32 ct32 : Value}
    {f33 : Addr} {od33 an33 : Option Addr} {sl33 : Array (Option Value)} {oc33 kV33 dc33 pm33 cd33 ct33 : Value}
    {f34 : Addr} {od34 an34 : Option Addr} {sl34 : Array (Option Value)} {oc34 kV34 dc34 pm34 cd34 ct34 : Value}
    {f35 : Addr} {od35 an35 : Option Addr} {sl35 : Array (Option Value)} {oc35 kV35 dc35 pm35 cd35 ct35 : Value}
    {f36 : Addr} {od36 an36 : Option Addr} {sl36 : Array (Option Value)} {oc36 kV36 dc36 pm36 cd36 ct36 : Value}
    {f37 : Addr} {od37 an37 : Option Addr} {sl37 : Array (Option Value)} {oc37 kV37 dc37 pm37 cd37 ct37 : Value}
    {f38 : Addr} {od38 an38 : Option Addr} {sl38 : Array (Option Value)} {oc38 kV38 dc38 pm38 cd38 ct38 : Value}
    {f39 : Addr} {od39 an39 : Option Addr} {sl39 : Array (Option Value)} {oc39 kV39 dc39 pm39 cd39 ct39 : Value}
    {f40 : Addr} {od40 an40 : Option Addr} {sl40 : Array (Option Value)} {oc40 kV40 dc40 pm40 cd40 ct40 : Value}
    {f41 : Addr} {od41 an41 : Option Addr} {sl41 : Array (Option Value)} {oc41 kV41 dc41 pm41 cd41 ct41 : Value}
    {f42 : Addr} {od42 an42 : Option Addr} {sl42 : Array (Option Value)} {oc42 kV42 dc42 pm42 cd42 ct42 : Value}
    {f43 : Addr} {od43 an43 : Option Addr} {sl43 : Array (Option Value)} {oc43 kV43 dc43 pm43 cd43 ct43 : Value}
    {f44 : Addr} {od44 an44 : Option Addr} {sl44 : Array (Option Value)} {oc44 kV44 dc44 pm44 cd44 ct44 : Value}
    {f45 : Addr} {od45 an45 : Option Addr} {sl45 : Array (Option Value)} {oc45 kV45 dc45 pm45 cd45 ct45 : Value}
    {f46 : Addr} {od46 an46 : Option Addr} {sl46 : Array (Option Value)} {oc46 kV46 dc46 pm46 cd46 ct46 : Value}
    {f47 : Addr} {od47 an47 : Option Addr} {sl47 : Array (Option Value)} {oc47 kV47 dc47 pm47 cd47 ct47 : Value}
    {f48 : Addr} {od48 an48 : Option Addr} {sl48 : Array (Option Value)} {oc48 kV48 dc48 pm48 cd48 ct48 : Value}
    {f49 : Addr} {od49 an49 : Option Addr} {sl49 : Array (Option Value)} {oc49 kV49 dc49 pm49 cd49 ct49 : Value}
    {f50 : Addr} {od50 an50 : Option Addr} {sl50 : Array (Option Value)} {oc50 kV50 dc50 pm50 cd50 ct50 : Value}
    {f51 : Addr} {od51 an51 : Option Addr} {sl51 : Array (Option Value)} {oc51 kV51 dc51 pm51 cd51 ct51 : Value}
    {f52 : Addr} {od52 an52 : Option Addr} {sl52 : Array (Option Value)} {oc52 kV52 dc52 pm52 cd52 ct52 : Value}
    {f53 : Addr} {od53 an53 : Option Addr} {sl53 : Array (Option Value)} {oc53 kV53 dc53 pm53 cd53 ct53 : Value}
    {f54 : Addr} {od54 an54 : Option Addr} {sl54 : Array (Option Value)} {oc54 kV54 dc54 pm54 cd54 ct54 : Value}
    {C_Desk : Addr} (aC_Desk : PySem.W.nsIn K mainGlobals "Desk" = some (some (.ref C_Desk))) (pg_Desk : PySem.W.plainGet K C_Desk Str.empty = true) (hd_Desk : PySem.W.hasDictIn K C_Desk = true) (po_Desk : PySem.W.plainOver K C_Desk = true) (sa_Desk : PySem.W.findIn K (.ref C_Desk) "__setattr__" = some (some (.builtin "object.__setattr__"))) (mk_Desk : PySem.W.makesIn K C_Desk = true) (kc_Desk : PySem.W.keepIn K (.ref C_Desk) = true)
    (nA_Desk_kept : PySem.W.findIn K (.ref C_Desk) "kept" = some none)
    (a0 : PySem.W.findIn K (.ref C_Desk) "__init__" = some (some (.ref f0))) (i0 : PySem.W.isFn K (.ref f0) = true) (l0 : K.lookup f0 = some ⟨oc0, od0, .func (PySem.W.fnOf "__init__" "Desk.__init__" (defArgs s_Desk___init__) (defBody s_Desk___init__) (defScope s_Desk___init__) .none kV0 dc0 pm0 an0 cd0 ct0), sl0⟩) (c0 : PySem.W.codeIn K cd0 "Desk.__init__" = true) (k0 : PySem.W.keepIn K (.ref f0) = true)
    (a1 : PySem.W.nsIn K mainGlobals "keep_curve" = some (some (.ref f1))) (l1 : K.lookup f1 = some ⟨oc1, od1, .func (PySem.W.fnOf "keep_curve" "keep_curve" (defArgs s_keep_curve) (defBody s_keep_curve) (defScope s_keep_curve) .none kV1 dc1 pm1 an1 cd1 ct1), sl1⟩) (c1 : PySem.W.codeIn K cd1 "keep_curve" = true) (k1 : PySem.W.keepIn K (.ref f1) = true)
    (a2 : PySem.W.nsIn K mainGlobals "kinds_behind" = some (some (.ref f2))) (l2 : K.lookup f2 = some ⟨oc2, od2, .func (PySem.W.fnOf "kinds_behind" "kinds_behind" (defArgs s_kinds_behind) (defBody s_kinds_behind) (defScope s_kinds_behind) .none kV2 dc2 pm2 an2 cd2 ct2), sl2⟩) (c2 : PySem.W.codeIn K cd2 "kinds_behind" = true) (k2 : PySem.W.keepIn K (.ref f2) = true)
    (a3 : PySem.W.nsIn K mainGlobals "read_level" = some (some (.ref f3))) (l3 : K.lookup f3 = some ⟨oc3, od3, .func (PySem.W.fnOf "read_level" "read_level" (defArgs s_read_level) (defBody s_read_level) (defScope s_read_level) .none kV3 dc3 pm3 an3 cd3 ct3), sl3⟩) (c3 : PySem.W.codeIn K cd3 "read_level" = true) (k3 : PySem.W.keepIn K (.ref f3) = true)
    (a4 : PySem.W.nsIn K mainGlobals "read_name" = some (some (.ref f4))) (l4 : K.lookup f4 = some ⟨oc4, od4, .func (PySem.W.fnOf "read_name" "read_name" (defArgs s_read_name) (defBody s_read_name) (defScope s_read_name) .none kV4 dc4 pm4 an4 cd4 ct4), sl4⟩) (c4 : PySem.W.codeIn K cd4 "read_name" = true) (k4 : PySem.W.keepIn K (.ref f4) = true)
    (a5 : PySem.W.nsIn K mainGlobals "pieces" = some (some (.ref f5))) (l5 : K.lookup f5 = some ⟨oc5, od5, .func (PySem.W.fnOf "pieces" "pieces" (defArgs s_pieces) (defBody s_pieces) (defScope s_pieces) .none kV5 dc5 pm5 an5 cd5 ct5), sl5⟩) (c5 : PySem.W.codeIn K cd5 "pieces" = true) (k5 : PySem.W.keepIn K (.ref f5) = true)
    (a6 : PySem.W.nsIn K mainGlobals "read_figures" = some (some (.ref f6))) (l6 : K.lookup f6 = some ⟨oc6, od6, .func (PySem.W.fnOf "read_figures" "read_figures" (defArgs s_read_figures) (defBody s_read_figures) (defScope s_read_figures) .none kV6 dc6 pm6 an6 cd6 ct6), sl6⟩) (c6 : PySem.W.codeIn K cd6 "read_figures" = true) (k6 : PySem.W.keepIn K (.ref f6) = true)
    (a7 : PySem.W.nsIn K mainGlobals "read_whole" = some (some (.ref f7))) (l7 : K.lookup f7 = some ⟨oc7, od7, .func (PySem.W.fnOf "read_whole" "read_whole" (defArgs s_read_whole) (defBody s_read_whole) (defScope s_read_whole) .none kV7 dc7 pm7 an7 cd7 ct7), sl7⟩) (c7 : PySem.W.codeIn K cd7 "read_whole" = true) (k7 : PySem.W.keepIn K (.ref f7) = true)
    (a8 : PySem.W.nsIn K mainGlobals "greatest_common" = some (some (.ref f8))) (l8 : K.lookup f8 = some ⟨oc8, od8, .func (PySem.W.fnOf "greatest_common" "greatest_common" (defArgs s_greatest_common) (defBody s_greatest_common) (defScope s_greatest_common) .none kV8 dc8 pm8 an8 cd8 ct8), sl8⟩) (c8 : PySem.W.codeIn K cd8 "greatest_common" = true) (k8 : PySem.W.keepIn K (.ref f8) = true)
    (a9 : PySem.W.nsIn K mainGlobals "share" = some (some (.ref f9))) (l9 : K.lookup f9 = some ⟨oc9, od9, .func (PySem.W.fnOf "share" "share" (defArgs s_share) (defBody s_share) (defScope s_share) .none kV9 dc9 pm9 an9 cd9 ct9), sl9⟩) (c9 : PySem.W.codeIn K cd9 "share" = true) (k9 : PySem.W.keepIn K (.ref f9) = true)
    (a10 : PySem.W.nsIn K mainGlobals "read_share" = some (some (.ref f10))) (l10 : K.lookup f10 = some ⟨oc10, od10, .func (PySem.W.fnOf "read_share" "read_share" (defArgs s_read_share) (defBody s_read_share) (defScope s_read_share) .none kV10 dc10 pm10 an10 cd10 ct10), sl10⟩) (c10 : PySem.W.codeIn K cd10 "read_share" = true) (k10 : PySem.W.keepIn K (.ref f10) = true)
    (a11 : PySem.W.nsIn K mainGlobals "read_point" = some (some (.ref f11))) (l11 : K.lookup f11 = some ⟨oc11, od11, .func (PySem.W.fnOf "read_point" "read_point" (defArgs s_read_point) (defBody s_read_point) (defScope s_read_point) .none kV11 dc11 pm11 an11 cd11 ct11), sl11⟩) (c11 : PySem.W.codeIn K cd11 "read_point" = true) (k11 : PySem.W.keepIn K (.ref f11) = true)
    (a12 : PySem.W.nsIn K mainGlobals "read_word" = some (some (.ref f12))) (l12 : K.lookup f12 = some ⟨oc12, od12, .func (PySem.W.fnOf "read_word" "read_word" (defArgs s_read_word) (defBody s_read_word) (defScope s_read_word) .none kV12 dc12 pm12 an12 cd12 ct12), sl12⟩) (c12 : PySem.W.codeIn K cd12 "read_word" = true) (k12 : PySem.W.keepIn K (.ref f12) = true)
    (a13 : PySem.W.nsIn K mainGlobals "read_row" = some (some (.ref f13))) (l13 : K.lookup f13 = some ⟨oc13, od13, .func (PySem.W.fnOf "read_row" "read_row" (defArgs s_read_row) (defBody s_read_row) (defScope s_read_row) .none kV13 dc13 pm13 an13 cd13 ct13), sl13⟩) (c13 : PySem.W.codeIn K cd13 "read_row" = true) (k13 : PySem.W.keepIn K (.ref f13) = true)
    (a14 : PySem.W.nsIn K mainGlobals "common_bottoms" = some (some (.ref f14))) (l14 : K.lookup f14 = some ⟨oc14, od14, .func (PySem.W.fnOf "common_bottoms" "common_bottoms" (defArgs s_common_bottoms) (defBody s_common_bottoms) (defScope s_common_bottoms) .none kV14 dc14 pm14 an14 cd14 ct14), sl14⟩) (c14 : PySem.W.codeIn K cd14 "common_bottoms" = true) (k14 : PySem.W.keepIn K (.ref f14) = true)
    (a15 : PySem.W.nsIn K mainGlobals "product" = some (some (.ref f15))) (l15 : K.lookup f15 = some ⟨oc15, od15, .func (PySem.W.fnOf "product" "product" (defArgs s_product) (defBody s_product) (defScope s_product) .none kV15 dc15 pm15 an15 cd15 ct15), sl15⟩) (c15 : PySem.W.codeIn K cd15 "product" = true) (k15 : PySem.W.keepIn K (.ref f15) = true)
    (a16 : PySem.W.nsIn K mainGlobals "axis" = some (some (.ref f16))) (l16 : K.lookup f16 = some ⟨oc16, od16, .func (PySem.W.fnOf "axis" "axis" (defArgs s_axis) (defBody s_axis) (defScope s_axis) .none kV16 dc16 pm16 an16 cd16 ct16), sl16⟩) (c16 : PySem.W.codeIn K cd16 "axis" = true) (k16 : PySem.W.keepIn K (.ref f16) = true)
    (a17 : PySem.W.nsIn K mainGlobals "axes" = some (some (.ref f17))) (l17 : K.lookup f17 = some ⟨oc17, od17, .func (PySem.W.fnOf "axes" "axes" (defArgs s_axes) (defBody s_axes) (defScope s_axes) .none kV17 dc17 pm17 an17 cd17 ct17), sl17⟩) (c17 : PySem.W.codeIn K cd17 "axes" = true) (k17 : PySem.W.keepIn K (.ref f17) = true)
    (a18 : PySem.W.nsIn K mainGlobals "both_ends" = some (some (.ref f18))) (l18 : K.lookup f18 = some ⟨oc18, od18, .func (PySem.W.fnOf "both_ends" "both_ends" (defArgs s_both_ends) (defBody s_both_ends) (defScope s_both_ends) .none kV18 dc18 pm18 an18 cd18 ct18), sl18⟩) (c18 : PySem.W.codeIn K cd18 "both_ends" = true) (k18 : PySem.W.keepIn K (.ref f18) = true)
    (a19 : PySem.W.nsIn K mainGlobals "share_over" = some (some (.ref f19))) (l19 : K.lookup f19 = some ⟨oc19, od19, .func (PySem.W.fnOf "share_over" "share_over" (defArgs s_share_over) (defBody s_share_over) (defScope s_share_over) .none kV19 dc19 pm19 an19 cd19 ct19), sl19⟩) (c19 : PySem.W.codeIn K cd19 "share_over" = true) (k19 : PySem.W.keepIn K (.ref f19) = true)
    (a20 : PySem.W.nsIn K mainGlobals "points_of" = some (some (.ref f20))) (l20 : K.lookup f20 = some ⟨oc20, od20, .func (PySem.W.fnOf "points_of" "points_of" (defArgs s_points_of) (defBody s_points_of) (defScope s_points_of) .none kV20 dc20 pm20 an20 cd20 ct20), sl20⟩) (c20 : PySem.W.codeIn K cd20 "points_of" = true) (k20 : PySem.W.keepIn K (.ref f20) = true)
    (a21 : PySem.W.nsIn K mainGlobals "box" = some (some (.ref f21))) (l21 : K.lookup f21 = some ⟨oc21, od21, .func (PySem.W.fnOf "box" "box" (defArgs s_box) (defBody s_box) (defScope s_box) .none kV21 dc21 pm21 an21 cd21 ct21), sl21⟩) (c21 : PySem.W.codeIn K cd21 "box" = true) (k21 : PySem.W.keepIn K (.ref f21) = true)
    (a22 : PySem.W.nsIn K mainGlobals "show_whole" = some (some (.ref f22))) (l22 : K.lookup f22 = some ⟨oc22, od22, .func (PySem.W.fnOf "show_whole" "show_whole" (defArgs s_show_whole) (defBody s_show_whole) (defScope s_show_whole) .none kV22 dc22 pm22 an22 cd22 ct22), sl22⟩) (c22 : PySem.W.codeIn K cd22 "show_whole" = true) (k22 : PySem.W.keepIn K (.ref f22) = true)
    (a23 : PySem.W.nsIn K mainGlobals "show_share" = some (some (.ref f23))) (l23 : K.lookup f23 = some ⟨oc23, od23, .func (PySem.W.fnOf "show_share" "show_share" (defArgs s_show_share) (defBody s_show_share) (defScope s_show_share) .none kV23 dc23 pm23 an23 cd23 ct23), sl23⟩) (c23 : PySem.W.codeIn K cd23 "show_share" = true) (k23 : PySem.W.keepIn K (.ref f23) = true)
    (a24 : PySem.W.nsIn K mainGlobals "tell_box" = some (some (.ref f24))) (l24 : K.lookup f24 = some ⟨oc24, od24, .func (PySem.W.fnOf "tell_box" "tell_box" (defArgs s_tell_box) (defBody s_tell_box) (defScope s_tell_box) .none kV24 dc24 pm24 an24 cd24 ct24), sl24⟩) (c24 : PySem.W.codeIn K cd24 "tell_box" = true) (k24 : PySem.W.keepIn K (.ref f24) = true)
    (a25 : PySem.W.nsIn K mainGlobals "show_point" = some (some (.ref f25))) (l25 : K.lookup f25 = some ⟨oc25, od25, .func (PySem.W.fnOf "show_point" "show_point" (defArgs s_show_point) (defBody s_show_point) (defScope s_show_point) .none kV25 dc25 pm25 an25 cd25 ct25), sl25⟩) (c25 : PySem.W.codeIn K cd25 "show_point" = true) (k25 : PySem.W.keepIn K (.ref f25) = true)
    (a26 : PySem.W.nsIn K mainGlobals "show_curve" = some (some (.ref f26))) (l26 : K.lookup f26 = some ⟨oc26, od26, .func (PySem.W.fnOf "show_curve" "show_curve" (defArgs s_show_curve) (defBody s_show_curve) (defScope s_show_curve) .none kV26 dc26 pm26 an26 cd26 ct26), sl26⟩) (c26 : PySem.W.codeIn K cd26 "show_curve" = true) (k26 : PySem.W.keepIn K (.ref f26) = true)
    (a27 : PySem.W.nsIn K mainGlobals "tell_curve" = some (some (.ref f27))) (l27 : K.lookup f27 = some ⟨oc27, od27, .func (PySem.W.fnOf "tell_curve" "tell_curve" (defArgs s_tell_curve) (defBody s_tell_curve) (defScope s_tell_curve) .none kV27 dc27 pm27 an27 cd27 ct27), sl27⟩) (c27 : PySem.W.codeIn K cd27 "tell_curve" = true) (k27 : PySem.W.keepIn K (.ref f27) = true)
    (a28 : PySem.W.nsIn K mainGlobals "tell_names" = some (some (.ref f28))) (l28 : K.lookup f28 = some ⟨oc28, od28, .func (PySem.W.fnOf "tell_names" "tell_names" (defArgs s_tell_names) (defBody s_tell_names) (defScope s_tell_names) .none kV28 dc28 pm28 an28 cd28 ct28), sl28⟩) (c28 : PySem.W.codeIn K cd28 "tell_names" = true) (k28 : PySem.W.keepIn K (.ref f28) = true)
    (a29 : PySem.W.nsIn K mainGlobals "narrowed" = some (some (.ref f29))) (l29 : K.lookup f29 = some ⟨oc29, od29, .func (PySem.W.fnOf "narrowed" "narrowed" (defArgs s_narrowed) (defBody s_narrowed) (defScope s_narrowed) .none kV29 dc29 pm29 an29 cd29 ct29), sl29⟩) (c29 : PySem.W.codeIn K cd29 "narrowed" = true) (k29 : PySem.W.keepIn K (.ref f29) = true)
    (a30 : PySem.W.nsIn K mainGlobals "polar" = some (some (.ref f30))) (l30 : K.lookup f30 = some ⟨oc30, od30, .func (PySem.W.fnOf "polar" "polar" (defArgs s_polar) (defBody s_polar) (defScope s_polar) .none kV30 dc30 pm30 an30 cd30 ct30), sl30⟩) (c30 : PySem.W.codeIn K cd30 "polar" = true) (k30 : PySem.W.keepIn K (.ref f30) = true)
    (a31 : PySem.W.nsIn K mainGlobals "point" = some (some (.ref f31))) (l31 : K.lookup f31 = some ⟨oc31, od31, .func (PySem.W.fnOf "point" "point" (defArgs s_point) (defBody s_point) (defScope s_point) .none kV31 dc31 pm31 an31 cd31 ct31), sl31⟩) (c31 : PySem.W.codeIn K cd31 "point" = true) (k31 : PySem.W.keepIn K (.ref f31) = true)
    (a32 : PySem.W.nsIn K mainGlobals "tell_point" = some (some (.ref f32))) (l32 : K.lookup f32 = some ⟨oc32, od32, .func (PySem.W.fnOf "tell_point" "tell_point" (defArgs s_tell_point) (defBody s_tell_point) (defScope s_tell_point) .none kV32 dc32 pm32 an32 cd32 ct32), sl32⟩) (c32 : PySem.W.codeIn K cd32 "tell_point" = true) (k32 : PySem.W.keepIn K (.ref f32) = true)
    (a33 : PySem.W.nsIn K mainGlobals "turned" = some (some (.ref f33))) (l33 : K.lookup f33 = some ⟨oc33, od33, .func (PySem.W.fnOf "turned" "turned" (defArgs s_turned) (defBody s_turned) (defScope s_turned) .none kV33 dc33 pm33 an33 cd33 ct33), sl33⟩) (c33 : PySem.W.codeIn K cd33 "turned" = true) (k33 : PySem.W.keepIn K (.ref f33) = true)
    (a34 : PySem.W.nsIn K mainGlobals "turn_curve" = some (some (.ref f34))) (l34 : K.lookup f34 = some ⟨oc34, od34, .func (PySem.W.fnOf "turn_curve" "turn_curve" (defArgs s_turn_curve) (defBody s_turn_curve) (defScope s_turn_curve) .none kV34 dc34 pm34 an34 cd34 ct34), sl34⟩) (c34 : PySem.W.codeIn K cd34 "turn_curve" = true) (k34 : PySem.W.keepIn K (.ref f34) = true)
    (a35 : PySem.W.findIn K (.ref C_Desk) "say" = some (some (.ref f35))) (i35 : PySem.W.isFn K (.ref f35) = true) (l35 : K.lookup f35 = some ⟨oc35, od35, .func (PySem.W.fnOf "say" "Desk.say" (defArgs s_Desk_say) (defBody s_Desk_say) (defScope s_Desk_say) .none kV35 dc35 pm35 an35 cd35 ct35), sl35⟩) (c35 : PySem.W.codeIn K cd35 "Desk.say" = true) (k35 : PySem.W.keepIn K (.ref f35) = true)
    (a36 : PySem.W.nsIn K mainGlobals "_law_share" = some (some (.ref f36))) (l36 : K.lookup f36 = some ⟨oc36, od36, .func (PySem.W.fnOf "_law_share" "_law_share" (defArgs s_l_share) (defBody s_l_share) (defScope s_l_share) .none kV36 dc36 pm36 an36 cd36 ct36), sl36⟩) (c36 : PySem.W.codeIn K cd36 "_law_share" = true) (k36 : PySem.W.keepIn K (.ref f36) = true)
    (a37 : PySem.W.nsIn K mainGlobals "_law_share_text" = some (some (.ref f37))) (l37 : K.lookup f37 = some ⟨oc37, od37, .func (PySem.W.fnOf "_law_share_text" "_law_share_text" (defArgs s_l_share_text) (defBody s_l_share_text) (defScope s_l_share_text) .none kV37 dc37 pm37 an37 cd37 ct37), sl37⟩) (c37 : PySem.W.codeIn K cd37 "_law_share_text" = true) (k37 : PySem.W.keepIn K (.ref f37) = true)
    (a38 : PySem.W.nsIn K mainGlobals "_law_box_due" = some (some (.ref f38))) (l38 : K.lookup f38 = some ⟨oc38, od38, .func (PySem.W.fnOf "_law_box_due" "_law_box_due" (defArgs s_l_box_due) (defBody s_l_box_due) (defScope s_l_box_due) .none kV38 dc38 pm38 an38 cd38 ct38), sl38⟩) (c38 : PySem.W.codeIn K cd38 "_law_box_due" = true) (k38 : PySem.W.keepIn K (.ref f38) = true)
    (a39 : PySem.W.nsIn K mainGlobals "_law_point_text" = some (some (.ref f39))) (l39 : K.lookup f39 = some ⟨oc39, od39, .func (PySem.W.fnOf "_law_point_text" "_law_point_text" (defArgs s_l_point_text) (defBody s_l_point_text) (defScope s_l_point_text) .none kV39 dc39 pm39 an39 cd39 ct39), sl39⟩) (c39 : PySem.W.codeIn K cd39 "_law_point_text" = true) (k39 : PySem.W.keepIn K (.ref f39) = true)
    (a40 : PySem.W.nsIn K mainGlobals "_law_curve_text" = some (some (.ref f40))) (l40 : K.lookup f40 = some ⟨oc40, od40, .func (PySem.W.fnOf "_law_curve_text" "_law_curve_text" (defArgs s_l_curve_text) (defBody s_l_curve_text) (defScope s_l_curve_text) .none kV40 dc40 pm40 an40 cd40 ct40), sl40⟩) (c40 : PySem.W.codeIn K cd40 "_law_curve_text" = true) (k40 : PySem.W.keepIn K (.ref f40) = true)
    (a41 : PySem.W.nsIn K mainGlobals "_law_handed" = some (some (.ref f41))) (l41 : K.lookup f41 = some ⟨oc41, od41, .func (PySem.W.fnOf "_law_handed" "_law_handed" (defArgs s_l_handed) (defBody s_l_handed) (defScope s_l_handed) .none kV41 dc41 pm41 an41 cd41 ct41), sl41⟩) (c41 : PySem.W.codeIn K cd41 "_law_handed" = true) (k41 : PySem.W.keepIn K (.ref f41) = true)
    (a42 : PySem.W.nsIn K mainGlobals "_law_power" = some (some (.ref f42))) (l42 : K.lookup f42 = some ⟨oc42, od42, .func (PySem.W.fnOf "_law_power" "_law_power" (defArgs s_l_power) (defBody s_l_power) (defScope s_l_power) .none kV42 dc42 pm42 an42 cd42 ct42), sl42⟩) (c42 : PySem.W.codeIn K cd42 "_law_power" = true) (k42 : PySem.W.keepIn K (.ref f42) = true)
    (a43 : PySem.W.nsIn K mainGlobals "_law_rows" = some (some (.ref f43))) (l43 : K.lookup f43 = some ⟨oc43, od43, .func (PySem.W.fnOf "_law_rows" "_law_rows" (defArgs s_l_rows) (defBody s_l_rows) (defScope s_l_rows) .none kV43 dc43 pm43 an43 cd43 ct43), sl43⟩) (c43 : PySem.W.codeIn K cd43 "_law_rows" = true) (k43 : PySem.W.keepIn K (.ref f43) = true)
    (a44 : PySem.W.nsIn K mainGlobals "_law_point_due" = some (some (.ref f44))) (l44 : K.lookup f44 = some ⟨oc44, od44, .func (PySem.W.fnOf "_law_point_due" "_law_point_due" (defArgs s_l_point_due) (defBody s_l_point_due) (defScope s_l_point_due) .none kV44 dc44 pm44 an44 cd44 ct44), sl44⟩) (c44 : PySem.W.codeIn K cd44 "_law_point_due" = true) (k44 : PySem.W.keepIn K (.ref f44) = true)
    (a45 : PySem.W.nsIn K mainGlobals "_law_stream" = some (some (.ref f45))) (l45 : K.lookup f45 = some ⟨oc45, od45, .func (PySem.W.fnOf "_law_stream" "_law_stream" (defArgs s_l_stream) (defBody s_l_stream) (defScope s_l_stream) .none kV45 dc45 pm45 an45 cd45 ct45), sl45⟩) (c45 : PySem.W.codeIn K cd45 "_law_stream" = true) (k45 : PySem.W.keepIn K (.ref f45) = true)
    (a46 : PySem.W.nsIn K mainGlobals "_law_place" = some (some (.ref f46))) (l46 : K.lookup f46 = some ⟨oc46, od46, .func (PySem.W.fnOf "_law_place" "_law_place" (defArgs s_l_place) (defBody s_l_place) (defScope s_l_place) .none kV46 dc46 pm46 an46 cd46 ct46), sl46⟩) (c46 : PySem.W.codeIn K cd46 "_law_place" = true) (k46 : PySem.W.keepIn K (.ref f46) = true)
    (a47 : PySem.W.nsIn K mainGlobals "_law_seats" = some (some (.ref f47))) (l47 : K.lookup f47 = some ⟨oc47, od47, .func (PySem.W.fnOf "_law_seats" "_law_seats" (defArgs s_l_seats) (defBody s_l_seats) (defScope s_l_seats) .none kV47 dc47 pm47 an47 cd47 ct47), sl47⟩) (c47 : PySem.W.codeIn K cd47 "_law_seats" = true) (k47 : PySem.W.keepIn K (.ref f47) = true)
    (a48 : PySem.W.nsIn K mainGlobals "_law_way" = some (some (.ref f48))) (l48 : K.lookup f48 = some ⟨oc48, od48, .func (PySem.W.fnOf "_law_way" "_law_way" (defArgs s_l_way) (defBody s_l_way) (defScope s_l_way) .none kV48 dc48 pm48 an48 cd48 ct48), sl48⟩) (c48 : PySem.W.codeIn K cd48 "_law_way" = true) (k48 : PySem.W.keepIn K (.ref f48) = true)
    (a49 : PySem.W.nsIn K mainGlobals "_law_told" = some (some (.ref f49))) (l49 : K.lookup f49 = some ⟨oc49, od49, .func (PySem.W.fnOf "_law_told" "_law_told" (defArgs s_l_told) (defBody s_l_told) (defScope s_l_told) .none kV49 dc49 pm49 an49 cd49 ct49), sl49⟩) (c49 : PySem.W.codeIn K cd49 "_law_told" = true) (k49 : PySem.W.keepIn K (.ref f49) = true)
    (a50 : PySem.W.nsIn K mainGlobals "_law_asked" = some (some (.ref f50))) (l50 : K.lookup f50 = some ⟨oc50, od50, .func (PySem.W.fnOf "_law_asked" "_law_asked" (defArgs s_l_asked) (defBody s_l_asked) (defScope s_l_asked) .none kV50 dc50 pm50 an50 cd50 ct50), sl50⟩) (c50 : PySem.W.codeIn K cd50 "_law_asked" = true) (k50 : PySem.W.keepIn K (.ref f50) = true)
    (a51 : PySem.W.nsIn K mainGlobals "_law_by_turns" = some (some (.ref f51))) (l51 : K.lookup f51 = some ⟨oc51, od51, .func (PySem.W.fnOf "_law_by_turns" "_law_by_turns" (defArgs s_l_by_turns) (defBody s_l_by_turns) (defScope s_l_by_turns) .none kV51 dc51 pm51 an51 cd51 ct51), sl51⟩) (c51 : PySem.W.codeIn K cd51 "_law_by_turns" = true) (k51 : PySem.W.keepIn K (.ref f51) = true)
    (a52 : PySem.W.nsIn K mainGlobals "_law_cell_at" = some (some (.ref f52))) (l52 : K.lookup f52 = some ⟨oc52, od52, .func (PySem.W.fnOf "_law_cell_at" "_law_cell_at" (defArgs s_l_cell_at) (defBody s_l_cell_at) (defScope s_l_cell_at) .none kV52 dc52 pm52 an52 cd52 ct52), sl52⟩) (c52 : PySem.W.codeIn K cd52 "_law_cell_at" = true) (k52 : PySem.W.keepIn K (.ref f52) = true)
    (a53 : PySem.W.nsIn K mainGlobals "_law_names" = some (some (.ref f53))) (l53 : K.lookup f53 = some ⟨oc53, od53, .func (PySem.W.fnOf "_law_names" "_law_names" (defArgs s_l_names) (defBody s_l_names) (defScope s_l_names) .none kV53 dc53 pm53 an53 cd53 ct53), sl53⟩) (c53 : PySem.W.codeIn K cd53 "_law_names" = true) (k53 : PySem.W.keepIn K (.ref f53) = true)
    (a54 : PySem.W.nsIn K mainGlobals "law" = some (some (.ref f54))) (l54 : K.lookup f54 = some ⟨oc54, od54, .func (PySem.W.fnOf "law" "law" (defArgs s_law) (defBody s_law) (defScope s_law) .none kV54 dc54 pm54 an54 cd54 ct54), sl54⟩) (c54 : PySem.W.codeIn K cd54 "law" = true) (k54 : PySem.W.keepIn K (.ref f54) = true)
    (z_len : PySem.W.nsIn K mainGlobals "len" = some none)
    (z_abs : PySem.W.nsIn K mainGlobals "abs" = some none)
    (z_range : PySem.W.nsIn K mainGlobals "range" = some none)
    (z_max : PySem.W.nsIn K mainGlobals "max" = some none)
    (z_min : PySem.W.nsIn K mainGlobals "min" = some none)
    (z_any : PySem.W.nsIn K mainGlobals "any" = some none)
    (z_all : PySem.W.nsIn K mainGlobals "all" = some none)
    (z_sum : PySem.W.nsIn K mainGlobals "sum" = some none)
    (z_isinstance : PySem.W.nsIn K mainGlobals "isinstance" = some none)
    (z_int : PySem.W.nsIn K mainGlobals "int" = some none)
    (z_bool : PySem.W.nsIn K mainGlobals "bool" = some none)
    (z_tuple : PySem.W.nsIn K mainGlobals "tuple" = some none)
    (z_list : PySem.W.nsIn K mainGlobals "list" = some none)
    (z_str : PySem.W.nsIn K mainGlobals "str" = some none)
    (z_ValueError : PySem.W.nsIn K mainGlobals "ValueError" = some none)
    (z_zip : PySem.W.nsIn K mainGlobals "zip" = some none)
    (z_reversed : PySem.W.nsIn K mainGlobals "reversed" = some none)
    (z_enumerate : PySem.W.nsIn K mainGlobals "enumerate" = some none)
    (z_sorted : PySem.W.nsIn K mainGlobals "sorted" = some none)
    (z_dict : PySem.W.nsIn K mainGlobals "dict" = some none)
    {C_SeatError C_NoText C_NoName : Addr}
    (a_SeatError : PySem.W.nsIn K mainGlobals "SeatError" = some (some (.ref C_SeatError)))
    (a_NoText : PySem.W.nsIn K mainGlobals "NoText" = some (some (.ref C_NoText)))
    (a_NoName : PySem.W.nsIn K mainGlobals "NoName" = some (some (.ref C_NoName)))
    {nm_NoText q_NoText : Str} {N_NoText : Addr} {bs_NoText bm_NoText : List Value} {hd_NoText : Bool} {sn_NoText : List Str} {sub_NoText : List Value} {ab_NoText : Bool} {col_NoText : Option Bool} {dd_NoText : Option Addr} {k0_NoText k1_NoText k2_NoText k3_NoText k5_NoText : Option Value}
    (l_NoText : K.lookup C_NoText = some (excClassObj nm_NoText q_NoText C_NoText N_NoText bs_NoText bm_NoText hd_NoText sn_NoText sub_NoText ab_NoText col_NoText dd_NoText k0_NoText k1_NoText k2_NoText k3_NoText k5_NoText "ValueError.__new__"))
    (n_NoText : PySem.W.nsOkIn K N_NoText = true) (i_NoText : PySem.W.nsIn K N_NoText "__init__" = some none) (t_NoText : PySem.W.tailIn K mroV bm_NoText = true)
    (m_NoText : PySem.W.exmOne K (.ref C_NoText) (.ref C_SeatError) = some true) (v_NoText : PySem.W.kitOne K (.ref C_NoText) (.type "ValueError") = some true)
    {nm_NoName q_NoName : Str} {N_NoName : Addr} {bs_NoName bm_NoName : List Value} {hd_NoName : Bool} {sn_NoName : List Str} {sub_NoName : List Value} {ab_NoName : Bool} {col_NoName : Option Bool} {dd_NoName : Option Addr} {k0_NoName k1_NoName k2_NoName k3_NoName k5_NoName : Option Value}
    (l_NoName : K.lookup C_NoName = some (excClassObj nm_NoName q_NoName C_NoName N_NoName bs_NoName bm_NoName hd_NoName sn_NoName sub_NoName ab_NoName col_NoName dd_NoName k0_NoName k1_NoName k2_NoName k3_NoName k5_NoName "ValueError.__new__"))
    (n_NoName : PySem.W.nsOkIn K N_NoName = true) (i_NoName : PySem.W.nsIn K N_NoName "__init__" = some none) (t_NoName : PySem.W.tailIn K mroV bm_NoName = true)
    (m_NoName : PySem.W.exmOne K (.ref C_NoName) (.ref C_SeatError) = some true) (v_NoName : PySem.W.kitOne K (.ref C_NoName) (.type "ValueError") = some true)
    {t_MOST_SEATS : Tok} (a_MOST_SEATS : PySem.W.nsIn K mainGlobals "MOST_SEATS" = some (some (.int 12 t_MOST_SEATS)))
    {t_FIGURES : Tok} (a_FIGURES : PySem.W.nsIn K mainGlobals "FIGURES" = some (some (.str "0123456789" t_FIGURES)))
    {t_MOST_FIGURES : Tok} (a_MOST_FIGURES : PySem.W.nsIn K mainGlobals "MOST_FIGURES" = some (some (.int 100 t_MOST_FIGURES)))
    {t_PIECE_FIGURES : Tok} (a_PIECE_FIGURES : PySem.W.nsIn K mainGlobals "PIECE_FIGURES" = some (some (.int 64 t_PIECE_FIGURES)))
    {t_PIECE : Tok} (a_PIECE : PySem.W.nsIn K mainGlobals "PIECE" = some (some (.int 10000000000000000000000000000000000000000000000000000000000000000 t_PIECE)))
    (a_divmod : PySem.W.nsIn K mainGlobals "divmod" = some none)
    {t_LETTERS : Tok} (a_LETTERS : PySem.W.nsIn K mainGlobals "LETTERS" = some (some (.str "abcdefghijklmnopqrstuvwxyz" t_LETTERS)))
    {t_MOST_LETTERS : Tok} (a_MOST_LETTERS : PySem.W.nsIn K mainGlobals "MOST_LETTERS" = some (some (.int 12 t_MOST_LETTERS)))
    {A_FORMS : Addr} {es_FORMS : Array DictEntry} {ep_FORMS : Nat}
    (a_FORMS : PySem.W.nsIn K mainGlobals "FORMS" = some (some (.ref A_FORMS)))
    (lA_FORMS : K.lookup A_FORMS = some ⟨.type "dict", none, .dict es_FORMS ep_FORMS, #[]⟩)
    (n_b_FORMS : (A_FORMS == sysModules) = false)
    (q_FORMS : EntsOk w es_FORMS formsKV)
    {A_DEEDS : Addr} {es_DEEDS : Array DictEntry} {ep_DEEDS : Nat} {F_keep_curve F_tell_curve F_tell_names F_tell_point F_keep_cut F_keep_stretch F_turn_curve F_raise_curve F_lower_curve F_lower_fully F_keep_speed F_move_curve F_tell_same F_tell_hull F_tell_box F_tell_part F_tell_meet F_tell_join : Addr}
    (a_DEEDS : PySem.W.nsIn K mainGlobals "DEEDS" = some (some (.ref A_DEEDS)))
    (lA_DEEDS : K.lookup A_DEEDS = some ⟨.type "dict", none, .dict es_DEEDS ep_DEEDS, #[]⟩)
    (n_b_DEEDS : (A_DEEDS == sysModules) = false)
    (q_DEEDS : EntsOk w es_DEEDS [(.inr "curve", .ref F_keep_curve), (.inr "tell", .ref F_tell_curve), (.inr "names", .ref F_tell_names), (.inr "point", .ref F_tell_point), (.inr "cut", .ref F_keep_cut), (.inr "stretch", .ref F_keep_stretch), (.inr "turn", .ref F_turn_curve), (.inr "raise", .ref F_raise_curve), (.inr "lower", .ref F_lower_curve), (.inr "least", .ref F_lower_fully), (.inr "speed", .ref F_keep_speed), (.inr "move", .ref F_move_curve), (.inr "same", .ref F_tell_same), (.inr "hull", .ref F_tell_hull), (.inr "box", .ref F_tell_box), (.inr "part", .ref F_tell_part), (.inr "meet", .ref F_tell_meet), (.inr "join", .ref F_tell_join)])
    (ag_keep_curve : PySem.W.nsIn K mainGlobals "keep_curve" = some (some (.ref F_keep_curve)))
    (ag_tell_curve : PySem.W.nsIn K mainGlobals "tell_curve" = some (some (.ref F_tell_curve)))
    (ag_tell_names : PySem.W.nsIn K mainGlobals "tell_names" = some (some (.ref F_tell_names)))
    (ag_tell_point : PySem.W.nsIn K mainGlobals "tell_point" = some (some (.ref F_tell_point)))
    (ag_turn_curve : PySem.W.nsIn K mainGlobals "turn_curve" = some (some (.ref F_turn_curve)))
    (ag_tell_box : PySem.W.nsIn K mainGlobals "tell_box" = some (some (.ref F_tell_box)))
    : ∃ fd : FuncData, (∀ (s : Shared) (v : Value), BindsTo s fd ⟨[v], []⟩ [("_law_script", v)]) ∧ ∀ (P : Program) (base : Heap), K.In base → base.Ns mainGlobals mg → FnOk P w K mg base CX0 11 fa fd ["_law_script"] ((spLaw K)) := by
  have e := hfa.symm.trans (PySem.W.mg_of KX GN a54)
  cases e
  have B : Blt mg := ⟨PySem.W.mg_none_of KX GN z_len, PySem.W.mg_none_of KX GN z_abs, PySem.W.mg_none_of KX GN z_range, PySem.W.mg_none_of KX GN z_max, PySem.W.mg_none_of KX GN z_min, PySem.W.mg_none_of KX GN z_any, PySem.W.mg_none_of KX GN z_all, PySem.W.mg_none_of KX GN z_sum, PySem.W.mg_none_of KX GN z_isinstance, PySem.W.mg_none_of KX GN z_int, PySem.W.mg_none_of KX GN z_bool, PySem.W.mg_none_of KX GN z_tuple, PySem.W.mg_none_of KX GN z_list, PySem.W.mg_none_of KX GN z_str, PySem.W.mg_none_of KX GN z_ValueError, PySem.W.mg_none_of KX GN z_zip, PySem.W.mg_none_of KX GN z_reversed, PySem.W.mg_none_of KX GN z_enumerate, PySem.W.mg_none_of KX GN z_sorted, PySem.W.mg_none_of KX GN z_dict⟩
  have X : Exc K mg C_SeatError C_NoText C_NoName := ⟨PySem.W.mg_of KX GN a_SeatError, PySem.W.mg_of KX GN a_NoText, PySem.W.mg_of KX GN a_NoName, ⟨PySem.W.mg_of KX GN a_NoText, _, _, _, _, _, _, _, _, _, _, _, _, _, _, _, _, l_NoText, n_NoText, i_NoText, t_NoText⟩, m_NoText, v_NoText, ⟨PySem.W.mg_of KX GN a_NoName, _, _, _, _, _, _, _, _, _, _, _, _, _, _, _, _, l_NoName, n_NoName, i_NoName, t_NoName⟩, m_NoName, v_NoName⟩
  have G : Cst K mg w A_FORMS A_DEEDS F_keep_curve F_tell_curve F_tell_names F_tell_point F_keep_cut F_keep_stretch F_turn_curve F_raise_curve F_lower_curve F_lower_fully F_keep_speed F_move_curve F_tell_same F_tell_hull F_tell_box F_tell_part F_tell_meet F_tell_join t_MOST_SEATS t_FIGURES t_MOST_FIGURES t_PIECE_FIGURES t_PIECE t_LETTERS t_MOST_LETTERS := ⟨PySem.W.mg_of KX GN a_MOST_SEATS, PySem.W.mg_of KX GN a_FIGURES, PySem.W.mg_of KX GN a_MOST_FIGURES, PySem.W.mg_of KX GN a_PIECE_FIGURES, PySem.W.mg_of KX GN a_PIECE, PySem.W.mg_none_of KX GN a_divmod, PySem.W.mg_of KX GN a_LETTERS, PySem.W.mg_of KX GN a_MOST_LETTERS, PySem.W.mg_of KX GN a_FORMS, fun P => dkn_of (P := P) lA_FORMS q_FORMS (show ([.inr "tell", .inr "names", .inr "point", .inr "cut", .inr "stretch", .inr "turn", .inr "raise", .inr "lower", .inr "least", .inr "speed", .inr "move", .inr "same", .inr "hull", .inr "box", .inr "part", .inr "meet", .inr "join"] : List Key).Nodup from by decide) n_b_FORMS, PySem.W.mg_of KX GN a_DEEDS, fun P => dkn_of (P := P) lA_DEEDS q_DEEDS (show ([.inr "curve", .inr "tell", .inr "names", .inr "point", .inr "cut", .inr "stretch", .inr "turn", .inr "raise", .inr "lower", .inr "least", .inr "speed", .inr "move", .inr "same", .inr "hull", .inr "box", .inr "part", .inr "meet", .inr "join"] : List Key).Nodup from by decide) n_b_DEEDS, PySem.W.mg_of KX GN ag_keep_curve, PySem.W.mg_of KX GN ag_tell_curve, PySem.W.mg_of KX GN ag_tell_names, PySem.W.mg_of KX GN ag_tell_point, PySem.W.mg_of KX GN ag_turn_curve, PySem.W.mg_of KX GN ag_tell_box⟩
  have T_Desk : ClsK K mg "Desk" C_Desk := ⟨⟨pg_Desk, hd_Desk, po_Desk, sa_Desk⟩, mk_Desk, kc_Desk, PySem.W.mg_of KX GN aC_Desk⟩
  have F0 : MthAt K C_Desk "__init__" "Desk.__init__" s_Desk___init__ ["self"] := MthAt.mk' a0 i0 l0 c0 k0 fun _ _ _ _ _ _ us hl => uln1 (fun _ => rfl) us hl
  have F1 : FunAt K mg "keep_curve" s_keep_curve ["kept", "things"] := FunAt.mk' (PySem.W.mg_of KX GN a1) l1 c1 k1 fun _ _ _ _ _ _ us hl => uln2 (fun _ _ => rfl) us hl
  have F2 : FunAt K mg "kinds_behind" s_kinds_behind ["first", "many"] := FunAt.mk' (PySem.W.mg_of KX GN a2) l2 c2 k2 fun _ _ _ _ _ _ us hl => uln2 (fun _ _ => rfl) us hl
  have F3 : FunAt K mg "read_level" s_read_level ["word"] := FunAt.mk' (PySem.W.mg_of KX GN a3) l3 c3 k3 fun _ _ _ _ _ _ us hl => uln1 (fun _ => rfl) us hl
  have F4 : FunAt K mg "read_name" s_read_name ["word"] := FunAt.mk' (PySem.W.mg_of KX GN a4) l4 c4 k4 fun _ _ _ _ _ _ us hl => uln1 (fun _ => rfl) us hl
  have F5 : FunAt K mg "pieces" s_pieces ["text", "sign"] := FunAt.mk' (PySem.W.mg_of KX GN a5) l5 c5 k5 fun _ _ _ _ _ _ us hl => uln2 (fun _ _ => rfl) us hl
  have F6 : FunAt K mg "read_figures" s_read_figures ["text"] := FunAt.mk' (PySem.W.mg_of KX GN a6) l6 c6 k6 fun _ _ _ _ _ _ us hl => uln1 (fun _ => rfl) us hl
  have F7 : FunAt K mg "read_whole" s_read_whole ["text"] := FunAt.mk' (PySem.W.mg_of KX GN a7) l7 c7 k7 fun _ _ _ _ _ _ us hl => uln1 (fun _ => rfl) us hl
  have F8 : FunAt K mg "greatest_common" s_greatest_common ["one", "other"] := FunAt.mk' (PySem.W.mg_of KX GN a8) l8 c8 k8 fun _ _ _ _ _ _ us hl => uln2 (fun _ _ => rfl) us hl
  have F9 : FunAt K mg "share" s_share ["top", "bottom"] := FunAt.mk' (PySem.W.mg_of KX GN a9) l9 c9 k9 fun _ _ _ _ _ _ us hl => uln2 (fun _ _ => rfl) us hl
  have F10 : FunAt K mg "read_share" s_read_share ["text"] := FunAt.mk' (PySem.W.mg_of KX GN a10) l10 c10 k10 fun _ _ _ _ _ _ us hl => uln1 (fun _ => rfl) us hl
  have F11 : FunAt K mg "read_point" s_read_point ["text"] := FunAt.mk' (PySem.W.mg_of KX GN a11) l11 c11 k11 fun _ _ _ _ _ _ us hl => uln1 (fun _ => rfl) us hl
  have F12 : FunAt K mg "read_word" s_read_word ["kind", "word"] := FunAt.mk' (PySem.W.mg_of KX GN a12) l12 c12 k12 fun _ _ _ _ _ _ us hl => uln2 (fun _ _ => rfl) us hl
  have F13 : FunAt K mg "read_row" s_read_row ["row"] := FunAt.mk' (PySem.W.mg_of KX GN a13) l13 c13 k13 fun _ _ _ _ _ _ us hl => uln1 (fun _ => rfl) us hl
  have F14 : FunAt K mg "common_bottoms" s_common_bottoms ["shares"] := FunAt.mk' (PySem.W.mg_of KX GN a14) l14 c14 k14 fun _ _ _ _ _ _ us hl => uln1 (fun _ => rfl) us hl
  have F15 : FunAt K mg "product" s_product ["numbers"] := FunAt.mk' (PySem.W.mg_of KX GN a15) l15 c15 k15 fun _ _ _ _ _ _ us hl => uln1 (fun _ => rfl) us hl
  have F16 : FunAt K mg "axis" s_axis ["shares"] := FunAt.mk' (PySem.W.mg_of KX GN a16) l16 c16 k16 fun _ _ _ _ _ _ us hl => uln1 (fun _ => rfl) us hl
  have F17 : FunAt K mg "axes" s_axes ["points"] := FunAt.mk' (PySem.W.mg_of KX GN a17) l17 c17 k17 fun _ _ _ _ _ _ us hl => uln1 (fun _ => rfl) us hl
  have F18 : FunAt K mg "both_ends" s_both_ends ["one"] := FunAt.mk' (PySem.W.mg_of KX GN a18) l18 c18 k18 fun _ _ _ _ _ _ us hl => uln1 (fun _ => rfl) us hl
  have F19 : FunAt K mg "share_over" s_share_over ["top", "bottoms"] := FunAt.mk' (PySem.W.mg_of KX GN a19) l19 c19 k19 fun _ _ _ _ _ _ us hl => uln2 (fun _ _ => rfl) us hl
  have F20 : FunAt K mg "points_of" s_points_of ["xs", "ys"] := FunAt.mk' (PySem.W.mg_of KX GN a20) l20 c20 k20 fun _ _ _ _ _ _ us hl => uln2 (fun _ _ => rfl) us hl
  have F21 : FunAt K mg "box" s_box ["points"] := FunAt.mk' (PySem.W.mg_of KX GN a21) l21 c21 k21 fun _ _ _ _ _ _ us hl => uln1 (fun _ => rfl) us hl
  have F22 : FunAt K mg "show_whole" s_show_whole ["number"] := FunAt.mk' (PySem.W.mg_of KX GN a22) l22 c22 k22 fun _ _ _ _ _ _ us hl => uln1 (fun _ => rfl) us hl
  have F23 : FunAt K mg "show_share" s_show_share ["one"] := FunAt.mk' (PySem.W.mg_of KX GN a23) l23 c23 k23 fun _ _ _ _ _ _ us hl => uln1 (fun _ => rfl) us hl
  have F24 : FunAt K mg "tell_box" s_tell_box ["kept", "things"] := FunAt.mk' (PySem.W.mg_of KX GN a24) l24 c24 k24 fun _ _ _ _ _ _ us hl => uln2 (fun _ _ => rfl) us hl
  have F25 : FunAt K mg "show_point" s_show_point ["one"] := FunAt.mk' (PySem.W.mg_of KX GN a25) l25 c25 k25 fun _ _ _ _ _ _ us hl => uln1 (fun _ => rfl) us hl
  have F26 : FunAt K mg "show_curve" s_show_curve ["curve"] := FunAt.mk' (PySem.W.mg_of KX GN a26) l26 c26 k26 fun _ _ _ _ _ _ us hl => uln1 (fun _ => rfl) us hl
  have F27 : FunAt K mg "tell_curve" s_tell_curve ["kept", "things"] := FunAt.mk' (PySem.W.mg_of KX GN a27) l27 c27 k27 fun _ _ _ _ _ _ us hl => uln2 (fun _ _ => rfl) us hl
  have F28 : FunAt K mg "tell_names" s_tell_names ["kept", "things"] := FunAt.mk' (PySem.W.mg_of KX GN a28) l28 c28 k28 fun _ _ _ _ _ _ us hl => uln2 (fun _ _ => rfl) us hl
  have F29 : FunAt K mg "narrowed" s_narrowed ["one", "t"] := FunAt.mk' (PySem.W.mg_of KX GN a29) l29 c29 k29 fun _ _ _ _ _ _ us hl => uln2 (fun _ _ => rfl) us hl
  have F30 : FunAt K mg "polar" s_polar ["curve", "shares"] := FunAt.mk' (PySem.W.mg_of KX GN a30) l30 c30 k30 fun _ _ _ _ _ _ us hl => uln2 (fun _ _ => rfl) us hl
  have F31 : FunAt K mg "point" s_point ["curve", "t"] := FunAt.mk' (PySem.W.mg_of KX GN a31) l31 c31 k31 fun _ _ _ _ _ _ us hl => uln2 (fun _ _ => rfl) us hl
  have F32 : FunAt K mg "tell_point" s_tell_point ["kept", "things"] := FunAt.mk' (PySem.W.mg_of KX GN a32) l32 c32 k32 fun _ _ _ _ _ _ us hl => uln2 (fun _ _ => rfl) us hl
  have F33 : FunAt K mg "turned" s_turned ["curve"] := FunAt.mk' (PySem.W.mg_of KX GN a33) l33 c33 k33 fun _ _ _ _ _ _ us hl => uln1 (fun _ => rfl) us hl
  have F34 : FunAt K mg "turn_curve" s_turn_curve ["kept", "things"] := FunAt.mk' (PySem.W.mg_of KX GN a34) l34 c34 k34 fun _ _ _ _ _ _ us hl => uln2 (fun _ _ => rfl) us hl
  have F35 : MthAt K C_Desk "say" "Desk.say" s_Desk_say ["self", "row"] := MthAt.mk' a35 i35 l35 c35 k35 fun _ _ _ _ _ _ us hl => uln2 (fun _ _ => rfl) us hl
  have F36 : FunAt K mg "_law_share" s_l_share ["_law_top", "_law_bottom"] := FunAt.mk' (PySem.W.mg_of KX GN a36) l36 c36 k36 fun _ _ _ _ _ _ us hl => uln2 (fun _ _ => rfl) us hl
  have F37 : FunAt K mg "_law_share_text" s_l_share_text ["_law_one"] := FunAt.mk' (PySem.W.mg_of KX GN a37) l37 c37 k37 fun _ _ _ _ _ _ us hl => uln1 (fun _ => rfl) us hl
  have F38 : FunAt K mg "_law_box_due" s_l_box_due ["_law_seats_here", "_law_bottom"] := FunAt.mk' (PySem.W.mg_of KX GN a38) l38 c38 k38 fun _ _ _ _ _ _ us hl => uln2 (fun _ _ => rfl) us hl
  have F39 : FunAt K mg "_law_point_text" s_l_point_text ["_law_place_here"] := FunAt.mk' (PySem.W.mg_of KX GN a39) l39 c39 k39 fun _ _ _ _ _ _ us hl => uln1 (fun _ => rfl) us hl
  have F40 : FunAt K mg "_law_curve_text" s_l_curve_text ["_law_curve"] := FunAt.mk' (PySem.W.mg_of KX GN a40) l40 c40 k40 fun _ _ _ _ _ _ us hl => uln1 (fun _ => rfl) us hl
  have F41 : FunAt K mg "_law_handed" s_l_handed ["_law_places", "_law_bottom"] := FunAt.mk' (PySem.W.mg_of KX GN a41) l41 c41 k41 fun _ _ _ _ _ _ us hl => uln2 (fun _ _ => rfl) us hl
  have F42 : FunAt K mg "_law_power" s_l_power ["_law_number", "_law_many"] := FunAt.mk' (PySem.W.mg_of KX GN a42) l42 c42 k42 fun _ _ _ _ _ _ us hl => uln2 (fun _ _ => rfl) us hl
  have F43 : FunAt K mg "_law_rows" s_l_rows ["_law_seats_here", "_law_t"] := FunAt.mk' (PySem.W.mg_of KX GN a43) l43 c43 k43 fun _ _ _ _ _ _ us hl => uln2 (fun _ _ => rfl) us hl
  have F44 : FunAt K mg "_law_point_due" s_l_point_due ["_law_seats_here", "_law_bottom", "_law_t"] := FunAt.mk' (PySem.W.mg_of KX GN a44) l44 c44 k44 fun _ _ _ _ _ _ us hl => uln3 (fun _ _ _ => rfl) us hl
  have F45 : FunAt K mg "_law_stream" s_l_stream ["_law_cell", "_law_many"] := FunAt.mk' (PySem.W.mg_of KX GN a45) l45 c45 k45 fun _ _ _ _ _ _ us hl => uln2 (fun _ _ => rfl) us hl
  have F46 : FunAt K mg "_law_place" s_l_place ["_law_cell", "_law_way_here"] := FunAt.mk' (PySem.W.mg_of KX GN a46) l46 c46 k46 fun _ _ _ _ _ _ us hl => uln2 (fun _ _ => rfl) us hl
  have F47 : FunAt K mg "_law_seats" s_l_seats ["_law_cell", "_law_many", "_law_way_here"] := FunAt.mk' (PySem.W.mg_of KX GN a47) l47 c47 k47 fun _ _ _ _ _ _ us hl => uln3 (fun _ _ _ => rfl) us hl
  have F48 : FunAt K mg "_law_way" s_l_way ["_law_cell"] := FunAt.mk' (PySem.W.mg_of KX GN a48) l48 c48 k48 fun _ _ _ _ _ _ us hl => uln1 (fun _ => rfl) us hl
  have F49 : FunAt K mg "_law_told" s_l_told ["_law_desk", "_law_book", "_law_name", "_law_cell"] := FunAt.mk' (PySem.W.mg_of KX GN a49) l49 c49 k49 fun _ _ _ _ _ _ us hl => uln4 (fun _ _ _ _ => rfl) us hl
  have F50 : FunAt K mg "_law_asked" s_l_asked ["_law_desk", "_law_book", "_law_cell", "_law_names_here"] := FunAt.mk' (PySem.W.mg_of KX GN a50) l50 c50 k50 fun _ _ _ _ _ _ us hl => uln4 (fun _ _ _ _ => rfl) us hl
  have F51 : FunAt K mg "_law_by_turns" s_l_by_turns ["_law_desk", "_law_beside", "_law_book", "_law_cell"] := FunAt.mk' (PySem.W.mg_of KX GN a51) l51 c51 k51 fun _ _ _ _ _ _ us hl => uln4 (fun _ _ _ _ => rfl) us hl
  have F52 : FunAt K mg "_law_cell_at" s_l_cell_at ["_law_script", "_law_k"] := FunAt.mk' (PySem.W.mg_of KX GN a52) l52 c52 k52 fun _ _ _ _ _ _ us hl => uln2 (fun _ _ => rfl) us hl
  have F53 : FunAt K mg "_law_names" s_l_names ["_law_cell", "_law_many"] := FunAt.mk' (PySem.W.mg_of KX GN a53) l53 c53 k53 fun _ _ _ _ _ _ us hl => uln2 (fun _ _ => rfl) us hl
  have F54 : FunAt K mg "law" s_law ["_law_script"] := FunAt.mk' (PySem.W.mg_of KX GN a54) l54 c54 k54 fun _ _ _ _ _ _ us hl => uln1 (fun _ => rfl) us hl
  refine ⟨PySem.W.fnOf "law" "law" (defArgs s_law) (defBody s_law) (defScope s_law) .none kV54 dc54 pm54 an54 cd54 ct54, fun s v => .of_eq rfl, fun P base _ _ => ?_⟩
  have D0 := ok_Desk___init__ (P := P) (w := w) (base := base) T_Desk nA_Desk_kept F0
  have D1 := ok_keep_curve (P := P) (w := w) (base := base) F1
  have D2 := ok_kinds_behind (P := P) (w := w) (base := base) F2 B G
  have D3 := ok_read_level (P := P) (w := w) (base := base) F3
  have D4 := ok_read_name (P := P) (w := w) (base := base) F4 B G
  have D5 := ok_pieces (P := P) (w := w) (base := base) F5 B
  have D6 := ok_read_figures (P := P) (w := w) (base := base) F6 B X G
  have D7 := ok_read_whole (P := P) (w := w) (base := base) F7 X D6
  have D8 := ok_greatest_common (P := P) (w := w) (base := base) F8 B
  have D9 := ok_share (P := P) (w := w) (base := base) F9 D8
  have D10 := ok_read_share (P := P) (w := w) (base := base) F10 B X D5 D6 D7 D9
  have D11 := ok_read_point (P := P) (w := w) (base := base) F11 B D5 D10
  have D12 := ok_read_word (P := P) (w := w) (base := base) F12 D3 D4 D10 D11
  have D13 := ok_read_row (P := P) (w := w) (base := base) F13 B D2 D12
  have D14 := ok_common_bottoms (P := P) (w := w) (base := base) F14 D8
  have D15 := ok_product (P := P) (w := w) (base := base) F15
  have D16 := ok_axis (P := P) (w := w) (base := base) F16 D14 D15
  have D17 := ok_axes (P := P) (w := w) (base := base) F17 D16
  have D18 := ok_both_ends (P := P) (w := w) (base := base) F18 B
  have D19 := ok_share_over (P := P) (w := w) (base := base) F19 D8
  have D20 := ok_points_of (P := P) (w := w) (base := base) F20 B D19
  have D21 := ok_box (P := P) (w := w) (base := base) F21 D17 D18 D20
  have D22 := ok_show_whole (P := P) (w := w) (base := base) F22 B G
  have D23 := ok_show_share (P := P) (w := w) (base := base) F23 D22
  have D24 := ok_tell_box (P := P) (w := w) (base := base) F24 D21 D23
  have D25 := ok_show_point (P := P) (w := w) (base := base) F25 D23
  have D26 := ok_show_curve (P := P) (w := w) (base := base) F26 D25
  have D27 := ok_tell_curve (P := P) (w := w) (base := base) F27 D26
  have D28 := ok_tell_names (P := P) (w := w) (base := base) F28 B
  have D29 := ok_narrowed (P := P) (w := w) (base := base) F29 B
  have D30 := ok_polar (P := P) (w := w) (base := base) F30 D17 D20 D29
  have D31 := ok_point (P := P) (w := w) (base := base) F31 B D30
  have D32 := ok_tell_point (P := P) (w := w) (base := base) F32 D25 D31
  have D33 := ok_turned (P := P) (w := w) (base := base) F33 B
  have D34 := ok_turn_curve (P := P) (w := w) (base := base) F34 D33
  have D35 := ok_Desk_say (P := P) (w := w) (base := base) T_Desk nA_Desk_kept F35 B G D1 D13 D24 D27 D28 D32 D34
  have D36 := ok_l_share (P := P) (w := w) (base := base) F36 B
  have D37 := ok_l_share_text (P := P) (w := w) (base := base) F37 B
  have D38 := ok_l_box_due (P := P) (w := w) (base := base) F38 B D36 D37
  have D39 := ok_l_point_text (P := P) (w := w) (base := base) F39 D37
  have D40 := ok_l_curve_text (P := P) (w := w) (base := base) F40 D39
  have D41 := ok_l_handed (P := P) (w := w) (base := base) F41 D36
  have D42 := ok_l_power (P := P) (w := w) (base := base) F42 B
  have D43 := ok_l_rows (P := P) (w := w) (base := base) F43 B
  have D44 := ok_l_point_due (P := P) (w := w) (base := base) F44 B D36 D39 D42 D43
  have D45 := ok_l_stream (P := P) (w := w) (base := base) F45 B
  have D46 := ok_l_place (P := P) (w := w) (base := base) F46 D45
  have D47 := ok_l_seats (P := P) (w := w) (base := base) F47 D45 D46
  have D48 := ok_l_way (P := P) (w := w) (base := base) F48 D45
  have D49 := ok_l_told (P := P) (w := w) (base := base) T_Desk nA_Desk_kept F49 D35 D40 D41 D45 D47 D48
  have D50 := ok_l_asked (P := P) (w := w) (base := base) T_Desk nA_Desk_kept F50 B D35 D36 D37 D38 D40 D41 D44 D45 D49
  have D51 := ok_l_by_turns (P := P) (w := w) (base := base) T_Desk nA_Desk_kept F51 B D35 D38 D40 D41 D49
  have D52 := ok_l_cell_at (P := P) (w := w) (base := base) F52 B
  have D53 := ok_l_names (P := P) (w := w) (base := base) F53 B D45
  have D54 := ok_law (P := P) (w := w) (base := base) T_Desk nA_Desk_kept F54 B D0 D35 D40 D41 D49 D50 D51 D52 D53
  exact D54.law l54 (PySem.W.mg_of KX GN a54)
end Cv
open PySem PySem.W PyProof.Rows
set_option maxHeartbeats 0 in
theorem PySem.Challenge.cw_curveseat_k82_rows_answered_holds : PySem.Challenge.rw_curveseat_k82_rows_answered.Holds := by
  w_on; o_law; k_head; (case hw => w_witness2)
  k_fill
  refine Cv.walk (l := PySem.Challenge.rw_curveseat_k82_rows_answered) (k := 11) (x := "_law_script") (CX := L2.CX0) (sp := fun K => (Cv.spLaw K)) rfl rfl ⟨rfl, by decide, by decide⟩ (fun w h Y => PySem.W.kIn_of Y) ?F (fun K H a ns h1 h2 h3 => ⟨a, ns, rfl, h3, h1, fun _ => rfl⟩) (fun _ _ _ _ z => z)
  case F =>
    intro w mg fa h KX G hmg
    refine' Cv.all_mk KX G hmg ?aC_Desk ?pg_Desk ?hd_Desk ?po_Desk ?sa_Desk ?mk_Desk ?kc_Desk ?nA_Desk_kept ?a0 ?i0 ?l0 ?c0 ?k0 ?a1 ?l1 ?c1 ?k1 ?a2 ?l2 ?c2 ?k2 ?a3 ?l3 ?c3 ?k3 ?a4 ?l4 ?c4 ?k4 ?a5 ?l5 ?c5 ?k5 ?a6 ?l6 ?c6 ?k6 ?a7 ?l7 ?c7 ?k7 ?a8 ?l8 ?c8 ?k8 ?a9 ?l9 ?c9 ?k9 ?a10 ?l10 ?c10 ?k10 ?a11 ?l11 ?c11 ?k11 ?a12 ?l12 ?c12 ?k12 ?a13 ?l13 ?c13 ?k13 ?a14 ?l14 ?c14 ?k14 ?a15 ?l15 ?c15 ?k15 ?a16 ?l16 ?c16 ?k16 ?a17 ?l17 ?c17 ?k17 ?a18 ?l18 ?c18 ?k18 ?a19 ?l19 ?c19 ?k19 ?a20 ?l20 ?c20 ?k20 ?a21 ?l21 ?c21 ?k21 ?a22 ?l22 ?c22 ?k22 ?a23 ?l23 ?c23 ?k23 ?a24 ?l24 ?c24 ?k24 ?a25 ?l25 ?c25 ?k25 ?a26 ?l26 ?c26 ?k26 ?a27 ?l27 ?c27 ?k27 ?a28 ?l28 ?c28 ?k28 ?a29 ?l29 ?c29 ?k29 ?a30 ?l30 ?c30 ?k30 ?a31 ?l31 ?c31 ?k31 ?a32 ?l32 ?c32 ?k32 ?a33 ?l33 ?c33 ?k33 ?a34 ?l34 ?c34 ?k34 ?a35 ?i35 ?l35 ?c35 ?k35 ?a36 ?l36 ?c36 ?k36 ?a37 ?l37 ?c37 ?k37 ?a38 ?l38 ?c38 ?k38 ?a39 ?l39 ?c39 ?k39 ?a40 ?l40 ?c40 ?k40 ?a41 ?l41 ?c41 ?k41 ?a42 ?l42 ?c42 ?k42 ?a43 ?l43 ?c43 ?k43 ?a44 ?l44 ?c44 ?k44 ?a45 ?l45 ?c45 ?k45 ?a46 ?l46 ?c46 ?k46 ?a47 ?l47 ?c47 ?k47 ?a48 ?l48 ?c48 ?k48 ?a49 ?l49 ?c49 ?k49 ?a50 ?l50 ?c50 ?k50 ?a51 ?l51 ?c51 ?k51 ?a52 ?l52 ?c52 ?k52 ?a53 ?l53 ?c53 ?k53 ?a54 ?l54 ?c54 ?k54 ?z_len ?z_abs ?z_range ?z_max ?z_min ?z_any ?z_all ?z_sum ?z_isinstance ?z_int ?z_bool ?z_tuple ?z_list ?z_str ?z_ValueError ?z_zip ?z_reversed ?z_enumerate ?z_sorted ?z_dict ?a_SeatError ?a_NoText ?a_NoName ?l_NoText ?n_NoText ?i_NoText ?t_NoText ?m_NoText ?v_NoText ?l_NoName ?n_NoName ?i_NoName ?t_NoName ?m_NoName ?v_NoName ?a_MOST_SEATS ?a_FIGURES ?a_MOST_FIGURES ?a_PIECE_FIGURES ?a_PIECE ?a_divmod ?a_LETTERS ?a_MOST_LETTERS ?a_FORMS ?lA_FORMS ?n_b_FORMS ?q_FORMS ?a_DEEDS ?lA_DEEDS ?n_b_DEEDS ?q_DEEDS ?ag_keep_curve ?ag_tell_curve ?ag_tell_names ?ag_tell_point ?ag_turn_curve ?ag_tell_box
    (case aC_Desk => k_is)
    (case pg_Desk => k_is)
    (case hd_Desk => k_is)
    (case po_Desk => k_is)
    (case sa_Desk => k_is)
    (case mk_Desk => k_is)
    (case kc_Desk => k_is)
    (case nA_Desk_kept => k_is)
    (case a0 => k_is)
    (case i0 => k_is)
    (case l0 => k_is)
    (case c0 => k_is)
    (case k0 => k_is)
    (case a1 => k_is)
    (case l1 => k_is)
    (case c1 => k_is)
    (case k1 => k_is)
    (case a2 => k_is)
    (case l2 => k_is)
    (case c2 => k_is)
    (case k2 => k_is)
    (case a3 => k_is)
    (case l3 => k_is)
    (case c3 => k_is)
    (case k3 => k_is)
    (case a4 => k_is)
    (case l4 => k_is)
    (case c4 => k_is)
    (case k4 => k_is)
    (case a5 => k_is)
    (case l5 => k_is)
    (case c5 => k_is)
    (case k5 => k_is)
    (case a6 => k_is)
    (case l6 => k_is)
    (case c6 => k_is)
    (case k6 => k_is)
    (case a7 => k_is)
    (case l7 => k_is)
    (case c7 => k_is)
    (case k7 => k_is)
    (case a8 => k_is)
    (case l8 => k_is)
    (case c8 => k_is)
    (case k8 => k_is)
    (case a9 => k_is)
    (case l9 => k_is)
    (case c9 => k_is)
    (case k9 => k_is)
    (case a10 => k_is)
    (case l10 => k_is)
    (case c10 => k_is)
    (case k10 => k_is)
    (case a11 => k_is)
    (case l11 => k_is)
    (case c11 => k_is)
    (case k11 => k_is)
    (case a12 => k_is)
    (case l12 => k_is)
    (case c12 => k_is)
    (case k12 => k_is)
    (case a13 => k_is)
    (case l13 => k_is)
    (case c13 => k_is)
    (case k13 => k_is)
    (case a14 => k_is)
    (case l14 => k_is)
    (case c14 => k_is)
    (case k14 => k_is)
    (case a15 => k_is)
    (case l15 => k_is)
    (case c15 => k_is)
    (case k15 => k_is)
    (case a16 => k_is)
    (case l16 => k_is)
    (case c16 => k_is)
    (case k16 => k_is)
    (case a17 => k_is)
    (case l17 => k_is)
    (case c17 => k_is)
    (case k17 => k_is)
    (case a18 => k_is)
    (case l18 => k_is)
    (case c18 => k_is)
    (case k18 => k_is)
    (case a19 => k_is)
    (case l19 => k_is)
    (case c19 => k_is)
    (case k19 => k_is)
    (case a20 => k_is)
    (case l20 => k_is)
    (case c20 => k_is)
    (case k20 => k_is)
    (case a21 => k_is)
    (case l21 => k_is)
    (case c21 => k_is)
    (case k21 => k_is)
    (case a22 => k_is)
    (case l22 => k_is)
    (case c22 => k_is)
    (case k22 => k_is)
    (case a23 => k_is)
    (case l23 => k_is)
    (case c23 => k_is)
    (case k23 => k_is)
    (case a24 => k_is)
    (case l24 => k_is)
    (case c24 => k_is)
    (case k24 => k_is)
    (case a25 => k_is)
    (case l25 => k_is)
    (case c25 => k_is)
    (case k25 => k_is)
    (case a26 => k_is)
    (case l26 => k_is)
    (case c26 => k_is)
    (case k26 => k_is)
    (case a27 => k_is)
    (case l27 => k_is)
    (case c27 => k_is)
    (case k27 => k_is)
    (case a28 => k_is)
    (case l28 => k_is)
    (case c28 => k_is)
    (case k28 => k_is)
    (case a29 => k_is)
    (case l29 => k_is)
    (case c29 => k_is)
    (case k29 => k_is)
    (case a30 => k_is)
    (case l30 => k_is)
    (case c30 => k_is)
    (case k30 => k_is)
    (case a31 => k_is)
    (case l31 => k_is)
    (case c31 => k_is)
    (case k31 => k_is)
    (case a32 => k_is)
    (case l32 => k_is)
    (case c32 => k_is)
    (case k32 => k_is)
    (case a33 => k_is)
    (case l33 => k_is)
    (case c33 => k_is)
    (case k33 => k_is)
    (case a34 => k_is)
    (case l34 => k_is)
    (case c34 => k_is)
    (case k34 => k_is)
    (case a35 => k_is)
    (case i35 => k_is)
    (case l35 => k_is)
    (case c35 => k_is)
    (case k35 => k_is)
    (case a36 => k_is)
    (case l36 => k_is)
    (case c36 => k_is)
    (case k36 => k_is)
    (case a37 => k_is)
    (case l37 => k_is)
    (case c37 => k_is)
    (case k37 => k_is)
    (case a38 => k_is)
    (case l38 => k_is)
    (case c38 => k_is)
    (case k38 => k_is)
    (case a39 => k_is)
    (case l39 => k_is)
    (case c39 => k_is)
    (case k39 => k_is)
    (case a40 => k_is)
    (case l40 => k_is)
    (case c40 => k_is)
    (case k40 => k_is)
    (case a41 => k_is)
    (case l41 => k_is)
    (case c41 => k_is)
    (case k41 => k_is)
    (case a42 => k_is)
    (case l42 => k_is)
    (case c42 => k_is)
    (case k42 => k_is)
    (case a43 => k_is)
    (case l43 => k_is)
    (case c43 => k_is)
    (case k43 => k_is)
    (case a44 => k_is)
    (case l44 => k_is)
    (case c44 => k_is)
    (case k44 => k_is)
    (case a45 => k_is)
    (case l45 => k_is)
    (case c45 => k_is)
    (case k45 => k_is)
    (case a46 => k_is)
    (case l46 => k_is)
    (case c46 => k_is)
    (case k46 => k_is)
    (case a47 => k_is)
    (case l47 => k_is)
    (case c47 => k_is)
    (case k47 => k_is)
    (case a48 => k_is)
    (case l48 => k_is)
    (case c48 => k_is)
    (case k48 => k_is)
    (case a49 => k_is)
    (case l49 => k_is)
    (case c49 => k_is)
    (case k49 => k_is)
    (case a50 => k_is)
    (case l50 => k_is)
    (case c50 => k_is)
    (case k50 => k_is)
    (case a51 => k_is)
    (case l51 => k_is)
    (case c51 => k_is)
    (case k51 => k_is)
    (case a52 => k_is)
    (case l52 => k_is)
    (case c52 => k_is)
    (case k52 => k_is)
    (case a53 => k_is)
    (case l53 => k_is)
    (case c53 => k_is)
    (case k53 => k_is)
    (case a54 => k_is)
    (case l54 => k_is)
    (case c54 => k_is)
    (case k54 => k_is)
    (case z_len => k_is)
    (case z_abs => k_is)
    (case z_range => k_is)
    (case z_max => k_is)
    (case z_min => k_is)
    (case z_any => k_is)
    (case z_all => k_is)
    (case z_sum => k_is)
    (case z_isinstance => k_is)
    (case z_int => k_is)
    (case z_bool => k_is)
    (case z_tuple => k_is)
    (case z_list => k_is)
    (case z_str => k_is)
    (case z_ValueError => k_is)
    (case z_zip => k_is)
    (case z_reversed => k_is)
    (case z_enumerate => k_is)
    (case z_sorted => k_is)
    (case z_dict => k_is)
    (case a_SeatError => k_is)
    (case a_NoText => k_is)
    (case a_NoName => k_is)
    (case l_NoText => k_is)
    (case n_NoText => kernel_rfl)
    (case i_NoText => k_is)
    (case t_NoText => kernel_rfl)
    (case m_NoText => kts_exm)
    (case v_NoText => kit_is)
    (case l_NoName => k_is)
    (case n_NoName => kernel_rfl)
    (case i_NoName => k_is)
    (case t_NoName => kernel_rfl)
    (case m_NoName => kts_exm)
    (case v_NoName => kit_is)
    (case a_MOST_SEATS => k_is)
    (case a_FIGURES => k_is)
    (case a_MOST_FIGURES => k_is)
    (case a_PIECE_FIGURES => k_is)
    (case a_PIECE => k_is)
    (case a_divmod => k_is)
    (case a_LETTERS => k_is)
    (case a_MOST_LETTERS => k_is)
    (case a_FORMS => k_is)
    (case lA_FORMS => k_is)
    (case n_b_FORMS => kernel_rfl)
    (case q_FORMS => (unfold Cv.EntsOk; repeat (first | exact PySem.Paired.nil | (refine PySem.Paired.cons ⟨rfl, rfl, ?_⟩ ?_; (first | exact ⟨_, rfl⟩ | rfl)))))
    (case a_DEEDS => k_is)
    (case lA_DEEDS => k_is)
    (case n_b_DEEDS => kernel_rfl)
    (case q_DEEDS => (unfold Cv.EntsOk; repeat (first | exact PySem.Paired.nil | (refine PySem.Paired.cons ⟨rfl, rfl, ?_⟩ ?_; (first | exact ⟨_, rfl⟩ | rfl)))))
    (case ag_keep_curve => k_is)
    (case ag_tell_curve => k_is)
    (case ag_tell_names => k_is)
    (case ag_tell_point => k_is)
    (case ag_turn_curve => k_is)
    (case ag_tell_box => k_is)
#print axioms PySem.Challenge.cw_curveseat_k82_rows_answered_holds
