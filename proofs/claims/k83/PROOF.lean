import PyProof.Rows.All
import Wide.All
import OpenK.AllK
import Wide.FinOn
import Lean
import PyProof.EqAt
import PyProof.EqKinds
import PyProof.TupleCall
import PySem.Challenge.RW_curveseat_k83_rows_refused
set_option compiler.extract_closed false
set_option genSizeOfSpec false
namespace PySem.W.Fast
noncomputable def tw7976433737766831171:=()
noncomputable def tw16564359323777312221:=()
noncomputable def tw9558065342642583842:=()
noncomputable def tw8433844056327537525:=()
noncomputable def tw1614723813117096278:=()
noncomputable def tw13687675688953339628:=()
noncomputable def tw13742048778762726739:=()
noncomputable def tw15358434685787113304:=()
noncomputable def tw10256801240965402795:=()
noncomputable def tw10618721387137402539:=()
noncomputable def tw8690596916020447749:=()
noncomputable def tw10356222879103258301:=()
noncomputable def tw2224698549771651727:=()
noncomputable def tw8599837677357268929:=()
noncomputable def tw2906048129343934469:=()
noncomputable def tw16012264005230511379:=()
noncomputable def tw6440592190640908460:=()
noncomputable def tw7080902108439281843:=()
noncomputable def tw6078013948259503801:=()
noncomputable def tw3355511990944330151:=()
noncomputable def tw488396652986114461:=()
noncomputable def tw1928675587700842610:=()
noncomputable def tw17834450777828224396:=()
noncomputable def tw14836771174626112221:=()
noncomputable def tw1278123184852106132:=()
noncomputable def tw2172062755225839169:=()
noncomputable def tw8980714126321475295:=()
noncomputable def tw6068149770518500235:=()
noncomputable def tw11375424118358862141:=()
noncomputable def tw17734085954713666787:=()
noncomputable def tw16847325146146908939:=()
noncomputable def tw10781157955190217005:=()
noncomputable def tw11393781747749309248:=()
noncomputable def tw13593516484476416078:=()
noncomputable def tw11326880873378358127:=()
noncomputable def tw12343342699366530442:=()
noncomputable def tw3614447485993497895:=()
noncomputable def tw1886843552712996278:=()
noncomputable def tw1846170409656488032:=()
noncomputable def tw6552130206495166571:=()
noncomputable def tw12801388044316578320:=()
noncomputable def tw5244229885239426845:=()
noncomputable def tw17118772258831065835:=()
noncomputable def tw14454908377244814690:=()
noncomputable def tw13807439053491706402:=()
noncomputable def tw13123092802625460611:=()
noncomputable def tw1794891714376694431:=()
noncomputable def tw15619477974870292910:=()
noncomputable def tw5225656240954140405:=()
noncomputable def tw7661776775357057147:=()
noncomputable def tw5565006928244048579:=()
noncomputable def tw5261656209834099290:=()
noncomputable def tw7889023352121113157:=()
noncomputable def tw2664074058041946319:=()
noncomputable def tw18005745132737236384:=()
noncomputable def tw15794423283257542334:=()
noncomputable def tw11860643797271628773:=()
noncomputable def tw2689692675180669818:=()
noncomputable def tw1975265998704713342:=()
noncomputable def tw13191061337079475355:=()
noncomputable def tw186057620468050624:=()
noncomputable def tw8950206148019130900:=()
noncomputable def tw5782274267931725934:=()
noncomputable def tw14246061227426891386:=()
noncomputable def tw9373634550046037477:=()
noncomputable def tw7315363179752700988:=()
noncomputable def tw3975863000113694806:=()
noncomputable def tw1382918046725535079:=()
noncomputable def tw11747276083149339012:=()
noncomputable def tw17799407518484485681:=()
noncomputable def tw9934984002712639339:=()
noncomputable def tw11816856625828270357:=()
noncomputable def tw9485665222210364930:=()
noncomputable def tw14265367704691851333:=()
noncomputable def tw6092877604078989700:=()
noncomputable def tw2655925614416841597:=()
noncomputable def tw5951177025046562288:=()
noncomputable def tw11782715288310457683:=()
noncomputable def tw15768730202709509432:=()
noncomputable def tw4031698794617548986:=()
noncomputable def tw17696892068986779275:=()
noncomputable def tw5370983196857676620:=()
noncomputable def tw2740808063269445962:=()
noncomputable def tw4088586172323402929:=()
noncomputable def tw5940348789176270623:=()
noncomputable def tw9380105659808561115:=()
noncomputable def tw11445601232926746539:=()
noncomputable def tw9530154718243604739:=()
noncomputable def tw16230462131682012437:=()
noncomputable def tw2381734354088573397:=()
noncomputable def tw7020691126637977922:=()
noncomputable def tw7505515911369806632:=()
noncomputable def tw8889017336160707421:=()
noncomputable def tw1521823343889645591:=()
noncomputable def tw12140590306236451476:=()
noncomputable def tw2494578805808684714:=()
noncomputable def tw6521929378427920757:=()
noncomputable def tw16969237784262166519:=()
noncomputable def tw7996870867635929319:=()
noncomputable def tw10947393195763206408:=()
noncomputable def tw17780988047795976533:=()
noncomputable def tw5902778968156105234:=()
noncomputable def tw4713090748240260917:=()
noncomputable def tw9273972312491466713:=()
noncomputable def tw6791154928856837236:=()
noncomputable def tw4670966521557604296:=()
noncomputable def tw8427137979747641096:=()
noncomputable def tw14253534484843277853:=()
noncomputable def tw4520484792289407773:=()
noncomputable def tw1132685934884906770:=()
noncomputable def tw8932541241078918447:=()
noncomputable def tw3636195778661959988:=()
noncomputable def tw17787682039555765351:=()
noncomputable def tw1715541859595148153:=()
noncomputable def tw8799977768958042036:=()
noncomputable def tw9150644691351793656:=()
noncomputable def tw13343322540694662054:=()
noncomputable def tw2255910060267552123:=()
noncomputable def tw11805138017391209004:=()
noncomputable def tw9787475958041065601:=()
noncomputable def tw9728201971556047847:=()
noncomputable def tw14059968440764436055:=()
noncomputable def tw7274053235134188673:=()
noncomputable def tw7550624169602256432:=()
noncomputable def tw12577586817418098053:=()
noncomputable def tw2618960058063329632:=()
noncomputable def tw4668324552810856444:=()
noncomputable def tw9671087743555098765:=()
noncomputable def tw6942905872551719226:=()
noncomputable def tw16218822504859146731:=()
noncomputable def tw6356452954021651806:=()
noncomputable def tw12955679031530343652:=()
noncomputable def tw10280462515597024553:=()
noncomputable def tw17861258165049180790:=()
noncomputable def tw10661918417882448731:=()
noncomputable def tw9368095730403682618:=()
noncomputable def tw12757837746554057324:=()
noncomputable def tw11579113781198192430:=()
noncomputable def tw16738874345391335195:=()
noncomputable def tw4141313603198832285:=()
noncomputable def tw6114376728126923461:=()
noncomputable def tw7113698423883865646:=()
noncomputable def tw2276836686389911528:=()
noncomputable def tw13193492616830741263:=()
noncomputable def tw12196736147183554632:=()
noncomputable def tw7141093394232605373:=()
noncomputable def tw6627227897503373273:=()
noncomputable def tw11116124074385418304:=()
noncomputable def tw1204542364409644445:=()
noncomputable def tw10323744084175363443:=()
noncomputable def tw1992678932362769381:=()
noncomputable def tw18215895653893256171:=()
noncomputable def tw3250499039163805251:=()
noncomputable def tw11091211959384916059:=()
noncomputable def tw16894230652203439332:=()
noncomputable def tw2672460905599953358:=()
noncomputable def tw2294999510590599722:=()
noncomputable def tw8821596005711611441:=()
noncomputable def tw2088884900017190488:=()
noncomputable def tw8538711099622358524:=()
noncomputable def tw17085934910782150932:=()
noncomputable def tw1931485260054452701:=()
noncomputable def tw14963872703381287722:=()
noncomputable def tw8859851858678444879:=()
noncomputable def tw934301730740580489:=()
noncomputable def tw18382308061617273197:=()
noncomputable def tw15160215384843546935:=()
noncomputable def tw1284598257994990319:=()
noncomputable def tw11673081109036462005:=()
noncomputable def tw4073971463601909502:=()
noncomputable def tw6125214754032937778:=()
noncomputable def tw9194786185979967204:=()
noncomputable def tw14251682437508970881:=()
noncomputable def tw8177727526253364244:=()
noncomputable def tw5811439445303255749:=()
noncomputable def tw16502167153973055052:=()
noncomputable def tw14971553900629982162:=()
noncomputable def tw1337295809693138010:=()
noncomputable def tw4951611220950883582:=()
noncomputable def tw17981524227045110570:=()
noncomputable def tw16349525087146350073:=()
noncomputable def tw14184128783227539906:=()
noncomputable def tw10757670031967135354:=()
noncomputable def tw10026007468260968699:=()
noncomputable def tw5540551052641105918:=()
noncomputable def tw4748744273600200601:=()
noncomputable def tw4508049594100452325:=()
noncomputable def tw3459033014568552944:=()
noncomputable def tw7694268189129417836:=()
noncomputable def tw10108312059935995271:=()
noncomputable def tw8282126220032993499:=()
noncomputable def tw4396568622050024625:=()
noncomputable def tw13926270424236481817:=()
noncomputable def tw16168649093137943741:=()
noncomputable def tw18176194966888322796:=()
noncomputable def tw12168462430721726204:=()
noncomputable def tw8334835623785031631:=()
noncomputable def tw5002419469742512642:=()
noncomputable def tw8242742789098279507:=()
noncomputable def tw17058465773794819867:=()
noncomputable def tw10062031760269148018:=()
noncomputable def tw4443550831811208334:=()
noncomputable def tw1177326568511821866:=()
noncomputable def tw11191126759911448376:=()
noncomputable def tw15331452692256548807:=()
noncomputable def tw17221064959235776623:=()
noncomputable def tw2272752515872268069:=()
noncomputable def tw9079789757091246506:=()
noncomputable def tw12648728259036545736:=()
noncomputable def tw11502567618325198117:=()
noncomputable def tw796829652319091261:=()
noncomputable def tw2901378438936269243:=()
noncomputable def tw276197882709205986:=()
noncomputable def tw14235071366730088664:=()
noncomputable def tw15895192990607049532:=()
noncomputable def tw9737455346072710674:=()
noncomputable def tw3316901682312538676:=()
noncomputable def tw3009930203891905783:=()
noncomputable def tw11832114281993760265:=()
noncomputable def tw972387726208595753:=()
noncomputable def tw5565227162138037454:=()
noncomputable def tw15365096433535862461:=()
noncomputable def tw10448344470347799787:=()
noncomputable def tw3981162567679495501:=()
noncomputable def tw1181179995741242457:=()
noncomputable def tw12850175180537277339:=()
noncomputable def tw10831480935420383939:=()
noncomputable def tw5479901282224051726:=()
noncomputable def tw8255976288422964688:=()
noncomputable def tw6148611856835447834:=()
noncomputable def tw17021059514665914151:=()
noncomputable def tw3967825214565323192:=()
noncomputable def tw3896262946563311503:=()
noncomputable def tw14904466635672158636:=()
noncomputable def tw16512056340630741051:=()
noncomputable def tw11556613633697235999:=()
noncomputable def tw17856036768725076312:=()
noncomputable def tw6956656411792327105:=()
noncomputable def tw16606863992603601036:=()
noncomputable def tw11558961206641053738:=()
noncomputable def tw12379983781529734200:=()
noncomputable def tw10320298030785208610:=()
noncomputable def tw7670719186360006195:=()
noncomputable def tw16200106909207685421:=()
noncomputable def tw11918969470284200005:=()
noncomputable def tw7900333580761671644:=()
noncomputable def tw5428058625051292267:=()
noncomputable def tw11452996777798749290:=()
noncomputable def tw7321622232758218865:=()
noncomputable def tw10004676368143241439:=()
noncomputable def tw12186655581200565767:=()
noncomputable def tw39410101189788018:=()
noncomputable def tw4353523578484798167:=()
noncomputable def tw2397181260600569512:=()
noncomputable def tw17618946875846422207:=()
noncomputable def tw4603485308981427248:=()
noncomputable def tw1578273004325022361:=()
noncomputable def tw9895030224586311522:=()
noncomputable def tw17303972659537978372:=()
noncomputable def tw3300030172825606251:=()
noncomputable def tw13609027855827449959:=()
noncomputable def tw11622867063744825329:=()
noncomputable def tw14083630884922369280:=()
noncomputable def tw11843528861944213441:=()
noncomputable def tw18129979449021985989:=()
noncomputable def tw16204541642616443139:=()
noncomputable def tw16195061254986860054:=()
noncomputable def tw7295957042875814879:=()
noncomputable def tw3582595222014167590:=()
noncomputable def tw18058278928059143861:=()
noncomputable def tw3929817319787642616:=()
noncomputable def tw15338726150906463442:=()
noncomputable def tw4287073705635695469:=()
noncomputable def tw4507113794535728866:=()
noncomputable def tw18343214461090338765:=()
noncomputable def tw11912697290921896071:=()
noncomputable def tw17424254820457641767:=()
noncomputable def tw7523143260953870401:=()
noncomputable def tw15242492127907748683:=()
noncomputable def tw12051575750100711240:=()
noncomputable def tw12379995320023519060:=()
noncomputable def tw17760192048880391751:=()
noncomputable def tw16839895588186499836:=()
noncomputable def tw13295214041134520107:=()
noncomputable def tw10632542980986377547:=()
noncomputable def tw14542296626666704429:=()
noncomputable def tw10103405562604410769:=()
noncomputable def tw3325208636821190687:=()
noncomputable def tw9200674380063159105:=()
noncomputable def tw12438475892147042502:=()
noncomputable def tw17049886897687479610:=()
noncomputable def tw8021832653393157682:=()
noncomputable def tw3587663839011487806:=()
noncomputable def tw6738856664031386131:=()
noncomputable def tw7842571082503308765:=()
noncomputable def tw456221259048083904:=()
noncomputable def tw10466769647197274747:=()
noncomputable def tw3474940100272789119:=()
noncomputable def tw8240690551183324950:=()
noncomputable def tw2382750280873288591:=()
noncomputable def tw555028539492700508:=()
noncomputable def tw9789959340971185489:=()
noncomputable def tw11318605364010005889:=()
noncomputable def tw7728820411652727486:=()
noncomputable def tw17966495148034818751:=()
noncomputable def tw16527793528189822179:=()
noncomputable def tw10576133402815454482:=()
noncomputable def tw7497174591626591505:=()
noncomputable def tw13741636649791836829:=()
noncomputable def tw10182906142811972744:=()
noncomputable def tw4862606515089014297:=()
noncomputable def tw16616106121761417970:=()
noncomputable def tw3426600951181612811:=()
noncomputable def tw2934341825841671932:=()
noncomputable def tw15794114948047671882:=()
noncomputable def tw13072039198065877851:=()
noncomputable def tw17526076339413907485:=()
noncomputable def tw12852270448750966709:=()
noncomputable def tw16198527419860825697:=()
noncomputable def tw5424166893934432187:=()
noncomputable def tw182277549559273965:=()
noncomputable def tw11210036394693442571:=()
noncomputable def tw14447980954100556585:=()
noncomputable def tw15803696380152608784:=()
noncomputable def tw15727222618222563324:=()
noncomputable def tw12595278722940086546:=()
noncomputable def tw16364195899466554001:=()
noncomputable def tw8247826190907627402:=()
noncomputable def tw12497789591258744195:=()
noncomputable def tw16094929126310084572:=()
noncomputable def tw17031384508625630342:=()
noncomputable def tw2088074240957295824:=()
noncomputable def tw5152030079287728389:=()
noncomputable def tw2994619155804144207:=()
noncomputable def tw15399025266665950027:=()
noncomputable def tw18377617545492464035:=()
noncomputable def tw12823600372077486119:=()
noncomputable def tw17265169845496998703:=()
noncomputable def tw12324083176257688819:=()
noncomputable def tw5686808079830971786:=()
noncomputable def tw9173086954580311618:=()
noncomputable def tw10597432183371371664:=()
noncomputable def tw4436523093067118603:=()
noncomputable def tw7578390193593501514:=()
noncomputable def tw5032953009729208808:=()
noncomputable def tw6176454219146338582:=()
noncomputable def tw3507251100263759097:=()
noncomputable def tw15860986938965162447:=()
noncomputable def tw6448548486955118734:=()
noncomputable def tw185497925304987892:=()
noncomputable def tw10678263444450039741:=()
noncomputable def tw16531472212671283438:=()
noncomputable def tw10912339011605419338:=()
noncomputable def tw13054859682255601258:=()
noncomputable def tw10192287348854444961:=()
noncomputable def tw3181443947224663543:=()
noncomputable def tw13796192568285383170:=()
noncomputable def tw6427791247315643535:=()
noncomputable def tw17967142665036036940:=()
noncomputable def tw12887153298602775944:=()
noncomputable def tw17203836219526664430:=()
noncomputable def tw11543045192594959427:=()
noncomputable def tw8573011200991065095:=()
noncomputable def tw1179300660148980288:=()
noncomputable def tw7751622172294379212:=()
noncomputable def tw5879349792410267972:=()
noncomputable def tw18135636999762106149:=()
noncomputable def tw17744004261688960281:=()
noncomputable def tw11961123278233420932:=()
noncomputable def tw17740529331388181890:=()
noncomputable def tw11869289446015970258:=()
noncomputable def tw8085909184469311258:=()
noncomputable def tw1073512635899986326:=()
noncomputable def tw15571320448906481604:=()
noncomputable def tw324659973065883820:=()
noncomputable def tw800467145576714414:=()
noncomputable def tw14244222331621790554:=()
noncomputable def tw15197271378964944298:=()
noncomputable def tw10229151370037618393:=()
noncomputable def tw4578689282584275665:=()
noncomputable def tw5411540834138480260:=()
noncomputable def tw3403723145418676871:=()
noncomputable def tw11251033439025829019:=()
noncomputable def tw8385476392566241605:=()
noncomputable def tw7455608659537232147:=()
noncomputable def tw3571045448892313091:=()
noncomputable def tw12366667255463715409:=()
noncomputable def tw12766615093249308278:=()
noncomputable def tw14545580197933077705:=()
noncomputable def tw16113588403326032426:=()
noncomputable def tw847481084697151249:=()
noncomputable def tw13448486018857168246:=()
noncomputable def tw16937183702242483776:=()
noncomputable def tw2807560934022974312:=()
noncomputable def tw6166333826868787221:=()
noncomputable def tw12916991716361682415:=()
noncomputable def tw14556541125166514357:=()
noncomputable def tw11542605886323396129:=()
noncomputable def tw15552271276405414918:=()
noncomputable def tw17910424815349992666:=()
noncomputable def tw12171463957067063837:=()
noncomputable def tw5025376389980196574:=()
noncomputable def tw10256045656214297529:=()
noncomputable def tw1896066968012609044:=()
noncomputable def tw4016486525960004102:=()
noncomputable def tw17709846035941865763:=()
noncomputable def tw16867644962549710661:=()
noncomputable def tw7617192835945891066:=()
noncomputable def tw2112074613172394499:=()
noncomputable def tw8321710870918832054:=()
noncomputable def tw2094744508504312775:=()
noncomputable def tw16999808583804712494:=()
noncomputable def tw7974665052014841735:=()
noncomputable def tw13399740814985756506:=()
noncomputable def tw1899591086137690918:=()
noncomputable def tw2230312532760262960:=()
noncomputable def tw1273817613556281060:=()
noncomputable def tw18117989804071736746:=()
noncomputable def tw13318104118193117466:=()
noncomputable def tw32540171758981261:=()
noncomputable def tw16778016281457814869:=()
noncomputable def tw3594081630562199916:=()
noncomputable def tw1974739713387074894:=()
noncomputable def tw14134092867160234910:=()
noncomputable def tw12580085881143299466:=()
noncomputable def tw3579115245579703912:=()
noncomputable def tw14861692716219929902:=()
noncomputable def tw10927166300197939002:=()
noncomputable def tw4443304383230354544:=()
noncomputable def tw1440971727014211958:=()
noncomputable def tw11836688246582926230:=()
noncomputable def tw12204017399419943992:=()
noncomputable def tw13338211339053189852:=()
noncomputable def tw11409469751997059685:=()
noncomputable def tw149628204768217004:=()
noncomputable def tw12628912052556390453:=()
noncomputable def tw18125949633005984717:=()
noncomputable def tw7129835143658591304:=()
noncomputable def tw16191219411891238683:=()
noncomputable def tw10248239881794893625:=()
noncomputable def tw9279580216202485863:=()
noncomputable def tw2438139228254452676:=()
noncomputable def tw11685287126635724211:=()
noncomputable def tw3480591570569781214:=()
noncomputable def tw15723326836782254522:=()
noncomputable def tw11127704092971145477:=()
noncomputable def tw5395276298321391752:=()
noncomputable def tw18341919504838824137:=()
noncomputable def tw17556830534996928972:=()
noncomputable def tw14447582010993542176:=()
noncomputable def tw13880682805948126492:=()
noncomputable def tw1189252055137022147:=()
noncomputable def tw15565286105388148525:=()
noncomputable def tw15286382430634621032:=()
noncomputable def tw4526591495085034343:=()
noncomputable def tw17481946109891781036:=()
noncomputable def tw14017039628380935490:=()
noncomputable def tw1108604749121265487:=()
noncomputable def tw12949881607062581061:=()
noncomputable def tw15611475571915007285:=()
noncomputable def tw11967932193582049141:=()
noncomputable def tw15294850114278751462:=()
noncomputable def tw10972133616221262673:=()
noncomputable def tw3294273882812284608:=()
noncomputable def tw12412777051410869982:=()
noncomputable def tw6472390999947441528:=()
noncomputable def tw6139069335479518877:=()
noncomputable def tw3366028243303469361:=()
noncomputable def tw16533158479806003254:=()
noncomputable def tw13082141478948452476:=()
noncomputable def tw5895454466421971913:=()
noncomputable def tw1269592728684617291:=()
noncomputable def tw12936860454184133546:=()
noncomputable def tw2349107097002761892:=()
noncomputable def tw17647235714782673698:=()
noncomputable def tw9870430312975513326:=()
noncomputable def tw4773379083004834159:=()
noncomputable def tw8589483877123536520:=()
noncomputable def tw18321267834869153147:=()
noncomputable def tw12311560654888088552:=()
noncomputable def tw15717598235729710360:=()
noncomputable def tw15394842222742147767:=()
noncomputable def tw98460053394018877:=()
noncomputable def tw12454673076832247165:=()
noncomputable def tw15612986439982976883:=()
noncomputable def tw8467504453913444395:=()
noncomputable def tw12878456995851773403:=()
noncomputable def tw15592309931865735781:=()
noncomputable def tw12638753666624202477:=()
noncomputable def tw13223758866086978574:=()
noncomputable def tw7913929772457531208:=()
noncomputable def tw6044090474697410557:=()
noncomputable def tw14106926287092670323:=()
noncomputable def tw4370594121561850863:=()
noncomputable def tw13275044978711632960:=()
noncomputable def tw1212302949938492004:=()
noncomputable def tw13497517879551757973:=()
noncomputable def tw14430632549118264083:=()
noncomputable def tw9118743903885517081:=()
noncomputable def tw15273293550286923375:=()
noncomputable def tw9244292889669334708:=()
noncomputable def tw16184183755004405183:=()
noncomputable def tw18383085330974098314:=()
noncomputable def tw6364879028963546517:=()
noncomputable def tw14542377134097968311:=()
noncomputable def tw4114204548745988022:=()
noncomputable def tw1129059110599461358:=()
noncomputable def tw16783610046450122605:=()
noncomputable def tw5122972221628287214:=()
noncomputable def tw2392640761923903954:=()
noncomputable def tw1811273295474622276:=()
noncomputable def tw962152276807142275:=()
noncomputable def tw6619281350021349522:=()
noncomputable def tw4734875293318363584:=()
noncomputable def tw7233738468889773757:=()
noncomputable def tw287744660232270520:=()
noncomputable def tw14302573225899288846:=()
noncomputable def tw11588846631645265127:=()
noncomputable def tw6704224822898797133:=()
noncomputable def tw11890337022871880985:=()
noncomputable def tw2172633947123554851:=()
noncomputable def tw8735977566417282780:=()
noncomputable def tw8007493285768835579:=()
noncomputable def tw9486754384099354978:=()
noncomputable def tw14815777678736197558:=()
noncomputable def tw17891822317240878710:=()
noncomputable def tw18127317304729009941:=()
noncomputable def tw10543218206486053750:=()
noncomputable def tw13684359805300109909:=()
noncomputable def tw6139684800840934104:=()
noncomputable def tw4944806664878142894:=()
noncomputable def tw2550152868278240913:=()
noncomputable def tw9367981393577394992:=()
noncomputable def tw4447346822275248272:=()
noncomputable def tw4662255199831262797:=()
noncomputable def tw14160715446319401255:=()
noncomputable def tw9323593473362471089:=()
noncomputable def tw7263849864093859544:=()
noncomputable def tw16997592525567455117:=()
noncomputable def tw8743350791933908220:=()
noncomputable def tw5945536050824610917:=()
noncomputable def tw6137751014290436584:=()
noncomputable def tw7565438983641977330:=()
noncomputable def tw8236568538633718143:=()
noncomputable def tw17370918124620546872:=()
noncomputable def tw6589032232649360559:=()
noncomputable def tw15890293949022078126:=()
noncomputable def tw6008498659638782776:=()
noncomputable def tw11508869175947752701:=()
noncomputable def tw12836771728245899566:=()
noncomputable def tw4052767137211775500:=()
noncomputable def tw10087123764942997779:=()
noncomputable def tw9348332810413475475:=()
noncomputable def tw8284085975635818598:=()
noncomputable def tw9441860605054642026:=()
noncomputable def tw6030981838245764441:=()
noncomputable def tw4349906240260719094:=()
noncomputable def tw2761264541924068716:=()
noncomputable def tw5606702027906121303:=()
noncomputable def tw1823628111899575491:=()
noncomputable def tw17994269407901874455:=()
noncomputable def tw15663962546551306288:=()
noncomputable def tw4300173052700712381:=()
noncomputable def tw14589130433763901012:=()
noncomputable def tw6876917760937496977:=()
noncomputable def tw11317565553449125705:=()
noncomputable def tw7740646727737403864:=()
noncomputable def tw4440264128274303315:=()
noncomputable def tw17701755381866485712:=()
noncomputable def tw3432466486739845936:=()
noncomputable def tw18120027126991888209:=()
noncomputable def tw8064397993841908337:=()
noncomputable def tw16395381025886786577:=()
noncomputable def tw7308698886850635034:=()
noncomputable def tw1544310041741271416:=()
noncomputable def tw2967019021812700327:=()
noncomputable def tw13061753207158823365:=()
noncomputable def tw944341884329632232:=()
noncomputable def tw10094572957517675374:=()
noncomputable def tw17132242768919221471:=()
noncomputable def tw10539034901905669755:=()
noncomputable def tw12381635486897248421:=()
noncomputable def tw18106753880443444499:=()
noncomputable def tw12388068832731257923:=()
noncomputable def tw16268695040752306236:=()
noncomputable def tw13619118619117136841:=()
noncomputable def tw2519812561741436253:=()
noncomputable def tw18444594604098926447:=()
noncomputable def tw9284181563983325612:=()
noncomputable def tw4547296164650792182:=()
noncomputable def tw2520643057039310351:=()
noncomputable def tw5719490224767684632:=()
noncomputable def tw17232893807857820211:=()
noncomputable def tw15567632810576893909:=()
noncomputable def tw7925565707956296337:=()
noncomputable def tw2532219715725129004:=()
noncomputable def tw437559148645361695:=()
noncomputable def tw12983874255135673640:=()
noncomputable def tw17097063475999905240:=()
noncomputable def tw14766664491089380113:=()
noncomputable def tw14872710374025659434:=()
noncomputable def tw6264624351526157524:=()
noncomputable def tw6539831631919437179:=()
noncomputable def tw11167844801428510515:=()
noncomputable def tw2793469594246327549:=()
noncomputable def tw2522496238825277923:=()
noncomputable def tw10232934952588405038:=()
noncomputable def tw13559318447756517853:=()
noncomputable def tw14145677474397452516:=()
noncomputable def tw8779956125410697114:=()
noncomputable def tw12371671697104915130:=()
noncomputable def tw14857107630874389384:=()
noncomputable def tw4288231729271612070:=()
noncomputable def tw11011873081086029212:=()
noncomputable def tw16907985196416827078:=()
noncomputable def tw3900487138937200829:=()
noncomputable def tw8460344776178911213:=()
noncomputable def tw14979345763387864778:=()
noncomputable def tw6945657782864111154:=()
noncomputable def tw13435093591490934520:=()
noncomputable def tw7647039186784648254:=()
noncomputable def tw9323489520684390730:=()
noncomputable def tw12242235800461637432:=()
noncomputable def tw11116529277824304409:=()
noncomputable def tw9854953301334741542:=()
noncomputable def tw2752549625318214726:=()
noncomputable def tw12538611150555166705:=()
noncomputable def tw15145130550714334439:=()
noncomputable def tw11050519693986312709:=()
noncomputable def tw5934208765184350644:=()
noncomputable def tw11156088696972115393:=()
noncomputable def tw3030763060220682455:=()
noncomputable def tw411533695965738144:=()
noncomputable def tw2170324729552812728:=()
noncomputable def tw2459808532156738496:=()
noncomputable def tw18042064722603299628:=()
noncomputable def tw2850312400531920817:=()
noncomputable def tw15728653337748109180:=()
noncomputable def tw5213241424975449602:=()
noncomputable def tw8817890722549817615:=()
noncomputable def tw7176166669414234255:=()
noncomputable def tw9164675290868252508:=()
noncomputable def tw8754587131766958400:=()
noncomputable def tw1654965611359296689:=()
noncomputable def tw12223958747993916595:=()
noncomputable def tw847178723246120269:=()
noncomputable def tw13322458488826302502:=()
noncomputable def tw15642428783056136826:=()
noncomputable def tw9765845024468941330:=()
noncomputable def tw13338630625736245339:=()
noncomputable def tw13521247856213932661:=()
noncomputable def tw203084666786911562:=()
noncomputable def tw8810541146529996174:=()
noncomputable def tw13256692899162314648:=()
noncomputable def tw17995703699559616550:=()
noncomputable def tw11505871916442498833:=()
noncomputable def tw8431956790019477570:=()
noncomputable def tw16178860057217805931:=()
noncomputable def tw4512248491822564777:=()
noncomputable def tw4368533017105736002:=()
noncomputable def tw13423843147592817302:=()
noncomputable def tw16628246824690272413:=()
noncomputable def tw11746386781992701151:=()
noncomputable def tw12449876104605395932:=()
noncomputable def tw11513353971501538459:=()
noncomputable def tw16780798261352249899:=()
noncomputable def tw13110794269765287208:=()
noncomputable def tw17900022797966112120:=()
noncomputable def tw16782986046236972557:=()
noncomputable def tw17337608313196791859:=()
noncomputable def tw7806438348554320226:=()
noncomputable def tw1862730492121610054:=()
noncomputable def tw12980243329139170598:=()
noncomputable def tw7912114093944245672:=()
noncomputable def tw1660772495870342811:=()
noncomputable def tw17910233428925394157:=()
noncomputable def tw340854659182396075:=()
noncomputable def tw571064845281571325:=()
noncomputable def tw10126597966857300584:=()
noncomputable def tw17131045104496453439:=()
noncomputable def tw5867104058509161376:=()
noncomputable def tw8952334414322568846:=()
noncomputable def tw1041615609129004630:=()
noncomputable def tw16202746010571917567:=()
noncomputable def tw13346628910055039268:=()
noncomputable def tw1633466505978970097:=()
noncomputable def tw5209304145079413659:=()
noncomputable def tw9536375021453847971:=()
noncomputable def tw14522356220132180958:=()
noncomputable def tw14285883769821367611:=()
noncomputable def tw12583662997202594688:=()
noncomputable def tw14817621903470044584:=()
noncomputable def tw10196566436889848724:=()
noncomputable def tw15317867654151335062:=()
noncomputable def tw8530036495205037018:=()
noncomputable def tw3834217712928412717:=()
noncomputable def tw12577447933493684399:=()
noncomputable def tw2257809415385160416:=()
noncomputable def tw18263831222704419239:=()
noncomputable def tw14831991401425370367:=()
noncomputable def tw4012919323108331181:=()
noncomputable def tw9785062817234908849:=()
noncomputable def tw6637816087994800954:=()
noncomputable def tw13637638590909008962:=()
noncomputable def tw14257405195710469046:=()
noncomputable def tw391719428021100166:=()
noncomputable def tw8731466050772743855:=()
noncomputable def tw17944021689661310735:=()
noncomputable def tw8516530296331182434:=()
noncomputable def tw10640546544769117206:=()
noncomputable def tw6265547115886901644:=()
noncomputable def tw8748012948518756935:=()
noncomputable def tw5118176960400815326:=()
noncomputable def tw15206967645458085800:=()
noncomputable def tw138694201373059116:=()
noncomputable def tw17326239500838193754:=()
noncomputable def tw949344690282522167:=()
noncomputable def tw15335422767753428597:=()
noncomputable def tw6699359356449466705:=()
noncomputable def tw5668794263921735017:=()
noncomputable def tw18410524807072260882:=()
noncomputable def tw6630226110473194650:=()
noncomputable def tw17239243623321410022:=()
noncomputable def tw17056754875292620695:=()
noncomputable def tw10123043516105441144:=()
noncomputable def tw11280407915863843411:=()
noncomputable def tw7338155381826474227:=()
noncomputable def tw14833304033217683009:=()
noncomputable def tw15154558154050150786:=()
noncomputable def tw17788991922674580902:=()
noncomputable def tw4041989663540973108:=()
noncomputable def tw16205227235997940809:=()
noncomputable def tw4205605244326195526:=()
noncomputable def tw10957998764102915824:=()
noncomputable def tw18399359670908908290:=()
noncomputable def tw11236242370579470033:=()
noncomputable def tw16822740348424668475:=()
noncomputable def tw10511896974142817953:=()
noncomputable def tw8983272772406726283:=()
noncomputable def tw6997216764235933764:=()
noncomputable def tw15284130205094446187:=()
noncomputable def tw16709540995730383743:=()
noncomputable def tw16424302585780823848:=()
noncomputable def tw13849363259616737584:=()
noncomputable def tw4997535106100568924:=()
noncomputable def tw9367640715042462897:=()
noncomputable def tw4110304207892507466:=()
noncomputable def tw5193058275436794359:=()
noncomputable def tw16268799615715941640:=()
noncomputable def tw17468878227862425448:=()
noncomputable def tw17175005663107526360:=()
noncomputable def tw11393494976767542516:=()
noncomputable def tw2368530349061260260:=()
noncomputable def tw16043305005100049591:=()
noncomputable def tw18416072313082509216:=()
noncomputable def tw17118940357702724074:=()
noncomputable def tw264230025831891485:=()
noncomputable def tw2469162806399580151:=()
noncomputable def tw15420481661806500445:=()
noncomputable def tw16271419886994766828:=()
noncomputable def tw3576842568240834623:=()
noncomputable def tw869552851887398709:=()
noncomputable def tw148067630730778724:=()
noncomputable def tw9706107387753802492:=()
noncomputable def tw12479637103480576968:=()
noncomputable def tw3948516469098822071:=()
noncomputable def tw2203770431312058923:=()
noncomputable def tw17788162268778099596:=()
noncomputable def tw4092554365445751700:=()
noncomputable def tw10790382193883766391:=()
noncomputable def tw10121379860070938290:=()
noncomputable def tw7641157503461871672:=()
noncomputable def tw17527279307505476981:=()
noncomputable def tw9325720473833939062:=()
noncomputable def tw4551898126539916876:=()
noncomputable def tw8355789740797575101:=()
noncomputable def tw858207275798506521:=()
noncomputable def tw16317070677769982119:=()
noncomputable def tw4107222312439153711:=()
noncomputable def tw9516971806016311203:=()
noncomputable def tw14268047645223775354:=()
noncomputable def tw7387842201139613725:=()
noncomputable def tw9817929756283258646:=()
noncomputable def tw16041328086759412550:=()
noncomputable def tw2906427644021831212:=()
noncomputable def tw320515161945181086:=()
noncomputable def tw16342244252179289754:=()
noncomputable def tw17338586044663561135:=()
noncomputable def tw6963485282810352692:=()
noncomputable def tw14758909851184792685:=()
noncomputable def tw5968571034321244587:=()
noncomputable def tw727089397803857138:=()
noncomputable def tw7638278218475745155:=()
noncomputable def tw1244602259065327810:=()
noncomputable def tw17326667167217588391:=()
noncomputable def tw8245011109552103066:=()
noncomputable def tw2250081409919094738:=()
noncomputable def tw17989306147923422102:=()
noncomputable def tw10247989830039511839:=()
noncomputable def tw4050687844808501503:=()
noncomputable def tw16051918568700145415:=()
noncomputable def tw12811057265366016633:=()
noncomputable def tw9854212462797858893:=()
noncomputable def tw11627253532977292867:=()
noncomputable def tw13202145876737116400:=()
noncomputable def tw8141750369345142438:=()
noncomputable def tw7503596950200220957:=()
noncomputable def tw9720241438505353651:=()
noncomputable def tw17604143395240633480:=()
noncomputable def tw2181023992099146224:=()
noncomputable def tw137870521796032262:=()
noncomputable def tw7876185108081780536:=()
noncomputable def tw12922019916737174780:=()
noncomputable def tw6658102391562019527:=()
noncomputable def tw2486081217070002763:=()
noncomputable def tw14377762582198029401:=()
noncomputable def tw7202449743821456034:=()
noncomputable def tw1013856222468437350:=()
noncomputable def tw4383381546994028297:=()
noncomputable def tw3984485286960347037:=()
noncomputable def tw3651862331095991784:=()
noncomputable def tw7010182199570952750:=()
noncomputable def tw8393281944850134949:=()
noncomputable def tw14451064900213497457:=()
noncomputable def tw10832271437280816204:=()
noncomputable def tw13803001401409294412:=()
noncomputable def tw15477232828024706111:=()
noncomputable def tw10182607316947530206:=()
noncomputable def tw4162345552315359901:=()
noncomputable def tw1769157151349171101:=()
noncomputable def tw7523979893493047953:=()
noncomputable def tw17018131972848889925:=()
noncomputable def tw3999730477355282090:=()
noncomputable def tw1953366564472804084:=()
noncomputable def tw10242897929421714519:=()
noncomputable def tw14034613158631218547:=()
noncomputable def tw14696210293145560459:=()
noncomputable def tw6860415990662100751:=()
noncomputable def tw13842625670794792787:=()
noncomputable def tw6136711036363641988:=()
noncomputable def tw9973742057524447843:=()
noncomputable def tw8465779591786597915:=()
noncomputable def tw1123938875486180729:=()
noncomputable def tw10960030973791370716:=()
noncomputable def tw11699579235163303810:=()
noncomputable def tw5762869793506236616:=()
noncomputable def tw7895641533891481845:=()
noncomputable def tw6763634420408366734:=()
noncomputable def tw13190806579451079719:=()
noncomputable def tw17799279229214952895:=()
noncomputable def tw3548878538154107047:=()
noncomputable def tw8787670431201057338:=()
noncomputable def tw4704160110927388393:=()
noncomputable def tw84449167711535667:=()
noncomputable def tw3959646296621908416:=()
noncomputable def tw15740296128940991141:=()
noncomputable def tw2894411009230210637:=()
end PySem.W.Fast
set_option maxHeartbeats 9999999
local macro_rules|`(tactic|omega)=>`(tactic|first|lia|omega (config:={}))
open PySem.W renaming Frag→c5t,nsIn→c5w,kitOne→c5x,mg_of→c5y,keepIn→c5z,codeIn→c6a,fnOf→c6b,findIn→c6p,mg_none_of→c6r,exmOne→c7m,kqdOk→c7q,kia_one→c7x,hideAll→c8b,emptyDict→c8e,mroIn→c8j,hideAll_get→c8n,instObj→c8t,clsIn→c8v,Dat→c8z,specialIn→c9h,kqdP→c9k,takesIn→c9p,plainGet→d0a,of_hideAll→d0c,callWith_K→d0d,isFn→d0f,nsOkIn→d0g,tailIn→d0h,hasDictIn→d0i
open List renaming length_map→c5u,getElem?_eq_getElem→c5v,getElem?_map→c6c,mem_cons→c6e,map_cons→c6f,all_eq_true→c6g,getElem?_eq_some_iff→c6h,replicate→c6i,length_append→c6m,mem_append_right→c6q,mem_of_getElem?→c6t,not_mem_nil→c6u,getElem?_append_right→c6v,length_cons→c6z,length_replicate→c7a,mem_singleton→c7b,getElem?_append_left→c7c,mem_map→c7d,mem_cons_of_mem→c7e,size_toArray→c7f,getElem_mem→c7h,Nodup→c7j,getElem?_eq_none→c7k,append_nil→c7p,mem_append→c7t,getElem_of_mem→c7u,lookup_cons→c7y,length→c8f,find?_cons→c8g,length_take→c8i,replicate_succ→c8m,append_assoc→c8r,ext_getElem?→c8s,getElem?_replicate→c8u,take_of_length_le→c8w,getD_eq_getElem?_getD→c8x,map_append→c9d,getElem?_eq_none_iff→c9e,any_cons→c9f,flatten_cons→c9g,filterMap_cons→c9j,nodup_cons→c9m,mem_range→c9u,mem_append_left→c9w,length_drop→c9y,lookup→d0b,map_nil→d0e
open Nat renaming le_of_lt→c6d,lt_of_lt_of_le→c6j,le_refl→c6l,ne_of_lt→c6s,le_trans→c6x,lt_of_le_of_lt→c7w,zero_le→c8c,lt_irrefl→c8d,le_of_eq→c9c,pow_le_pow_right→c9x
open Bool renaming false_ne_true→c6k,and_eq_true→c6n,or_eq_true→c7i,eq_iff_iff→c9o,not_eq_true'→c9t
open Int renaming gcd→c6o,natAbs_natCast→c6w,emod_lt_of_pos→c7g,emod_nonneg→c7l,fdiv_eq_ediv_of_nonneg→c7r,toNat→c7s,natAbs_dvd_natAbs→c8y,mul_ediv_cancel_left→c9i,fmod_eq_emod_of_nonneg→c9z
open Rat renaming divInt→c6y,num_divInt_den→c8h
open PySem.F renaming plainAttrs_str→c7n,plainAttrs_list→c8k,slot_list_append→c8p,type_list_append→c8q,slot_str_join→c9a,type_str_join→c9b,slot_str_split→c9q,type_str_split→c9r
open PyProof.Rows renaming boot_isinstance→c7o,boot_str→c8a,callWith_type1→c8l
open Array renaming length_toList→c7v,getElem?_eq_some_iff→c8o,append_assoc→c9l,getElem?_toList→c9s,getD_eq_getD_getElem?→c9v
open Option renaming some→c7z,map_eq_some_iff→c9n
noncomputable section
set_option Elab.async false
set_option linter.all false
set_option maxRecDepth 100000
namespace L2
open PySem PySem.Spec PyProof.Rows
abbrev Key:=Sum Int Str
def b5o:Key→Value→Bool
 | .inl k,v=>Value.isInt k v
 | .inr x,v=>Value.isStrOf x v
def keyH(w:World):Key→Int
 | .inl k=>hashInt k
 | .inr x=>hashStr w x
theorem a2o:∀ {k:Key} {v:Value},b5o k v=true→(∃ i t,k=Sum.inl i∧v=Value.int i t)∨(∃ x t,k=Sum.inr x∧v=Value.str x t)
 | .inl i,v,h=>by
   obtain⟨t,e⟩:=Value.isInt_shape (k:=i) (v:=v) h
   exact .inl ⟨i,t,rfl,e⟩
 | .inr x,v,h=>by
   obtain⟨t,e⟩:=Value.isStrOf_shape (x:=x) (v:=v) h
   exact .inr ⟨x,t,rfl,e⟩
theorem c4g(i:Int)(t:Tok):b5o (.inl i) (.int i t)=true:=by simp[b5o,Value.isInt]
theorem c4f(x:Str)(t:Tok):b5o (.inr x) (.str x t)=true:=by simp[b5o,Value.isStrOf]
theorem key_ll(a b:Int):decide ((Sum.inl a:Key)=Sum.inl b)=(a == b):=by
 by_cases e:a=b
 · subst e;simp
 · have h:¬ (Sum.inl a:Key)=Sum.inl b:=fun q=>e (Sum.inl.inj q)
   rw[decide_eq_false h]
   exact (beq_eq_false_iff_ne.mpr e).symm
theorem key_rr(a b:Str):decide ((Sum.inr a:Key)=Sum.inr b)=decide (a=b):=by
 by_cases e:a=b
 · subst e;simp
 · have h:¬ (Sum.inr a:Key)=Sum.inr b:=fun q=>e (Sum.inr.inj q)
   rw[decide_eq_false h,decide_eq_false e]
theorem key_lr(a:Int)(b:Str):decide ((Sum.inl a:Key)=Sum.inr b)=false:=decide_eq_false (fun q=>nomatch q)
theorem key_rl(a:Str)(b:Int):decide ((Sum.inr a:Key)=Sum.inl b)=false:=decide_eq_false (fun q=>nomatch q)
def a2i(prog:Program)(w:World):PySem.KeyKind prog w Key where
 is:=b5o
 hash:=keyH w
 inj:=fun v a b ha hb=>by
   rcases a2o ha with⟨i,t,rfl,rfl⟩ | ⟨x,t,rfl,rfl⟩
   · rcases a2o hb with⟨j,u,rfl,e⟩ | ⟨y,u,rfl,e⟩
     · injection e with e1 _;rw[e1]
     · exact nomatch e
   · rcases a2o hb with⟨j,u,rfl,e⟩ | ⟨y,u,rfl,e⟩
     · exact nomatch e
     · injection e with e1 _;rw[e1]
 byValue:=fun k v h=>by
   rcases a2o h with⟨i,t,rfl,rfl⟩ | ⟨x,t,rfl,rfl⟩<;>rfl
 pyHash:=fun hv h=>by
   rcases a2o hv with⟨i,t,rfl,rfl⟩ | ⟨x,t,rfl,rfl⟩
   · exact wpAny_pyHash_int h
   · exact wpAny_pyHash_str h
 eqBool:=fun hu hv h=>by
   rcases a2o hu with⟨i,t,rfl,rfl⟩ | ⟨x,t,rfl,rfl⟩
   · rcases a2o hv with⟨j,u,rfl,rfl⟩ | ⟨y,u,rfl,rfl⟩
     · rw[key_ll] at h;exact wpAny_eqBool_int h
     · rw[key_lr] at h;exact SeqAt.EqAt.int_str i t y u _ _ _ _ h
   · rcases a2o hv with⟨j,u,rfl,rfl⟩ | ⟨y,u,rfl,rfl⟩
     · rw[key_rl] at h;exact SeqAt.EqAt.str_int x t j u _ _ _ _ h
     · rw[key_rr] at h;exact wpAny_eqBool_str h
 «strs»:=fun k x t v h=>by
   rcases a2o h with⟨i,u,rfl,e⟩ | ⟨y,u,rfl,e⟩
   · exact nomatch e
   · injection e with e1 _
     subst e1
     cases v<;>rfl
theorem b7j(prog:Program)(w:World)(i:Int)(t:Tok):(a2i prog w).is (.inl i) (.int i t)=true:=c4g i t
theorem b7i(prog:Program)(w:World)(x:Str)(t:Tok):(a2i prog w).is (.inr x) (.str x t)=true:=c4f x t
end L2
namespace L2
open PySem PySem.Spec PyProof.Rows
inductive V where
 | non | bl (b:Bool) | int (i:Int) | str (x:Str) | byt (b:Array UInt8) | flt (b:UInt64) | ref (a:Addr) | ty (n:String)
 deriving DecidableEq
def RelV:V→Value→Prop
 | .non,u=>u=Value.none
 | .bl b,u=>u=Value.bool b
 | .int i,u=>∃ t,u=Value.int i t
 | .str x,u=>∃ t,u=Value.str x t
 | .byt b,u=>∃ t,u=Value.bytes b t
 | .flt b,u=>∃ t,u=Value.float b t
 | .ref a,u=>u=Value.ref a
 | .ty n,u=>u=Value.type n
abbrev Vals:List V→List Value→Prop:=Paired RelV
theorem Vals.length{xs:List V}{us:List Value}(r:Vals xs us):xs.length=us.length:=Paired.length r
theorem Vals.get:∀ {xs:List V} {us:List Value} {i:Nat} {x:V},Vals xs us→xs[i]?=some x→∃ u,us[i]?=some u∧RelV x u
 | _,_,_,_,.nil,e=>by simp at e
 | _,_,0,_,.cons r _,e=>by simp at e;subst e;exact⟨_,rfl,r⟩
 | _,_,i+1,x,.cons _ t,e=>by
   obtain⟨u,h1,h2⟩:=Vals.get (i:=i) (x:=x) t (by simpa using e)
   exact⟨u,by simpa using h1,h2⟩
theorem Vals.append:∀ {xs ys:List V} {us ws:List Value},Vals xs us→Vals ys ws→Vals (xs++ys) (us++ws)
 | _,_,_,_,.nil,s=>s
 | _,_,_,_,.cons r t,s=>.cons r (Vals.append t s)
theorem Vals.take:∀ {xs:List V} {us:List Value} (n:Nat),Vals xs us→Vals (xs.take n) (us.take n)
 | _,_,0,_=>.nil
 | _,_,_+1,.nil=>.nil
 | _,_,n+1,.cons r t=>.cons r (Vals.take n t)
theorem Vals.drop:∀ {xs:List V} {us:List Value} (n:Nat),Vals xs us→Vals (xs.drop n) (us.drop n)
 | _,_,0,r=>r
 | _,_,_+1,.nil=>.nil
 | _,_,n+1,.cons _ t=>Vals.drop n t
theorem Vals.none_of:∀ {xs:List V} {us:List Value} {i:Nat},Vals xs us→xs[i]?=none→us[i]?=none:=fun {xs us i} r e=>by
 have h1:=r.length
 have h2:xs.length≤i:=c9e.mp e
 exact c9e.mpr (by omega)
def RelO:Option V→Option Value→Prop
 | some v,some u=>RelV v u
 | none,none=>True
 | _,_=>False
def KV{κ:Type}:List (κ×V)→List (κ×Value)→Prop:=Paired fun (p:κ×V) (q:κ×Value)=>p.1=q.1∧RelV p.2 q.2
def kV:Key→V
 | .inl i=>.int i
 | .inr x=>.str x
inductive HO where
 | lst (xs:List V)
 | tup (xs:List V)
 | dK (kvs:List (Key×V)) | dT (kvs:List (List Key×V))
 | set (S:Int→Bool) (n:Nat)
 | ins (C dx:Addr) (fs:List (Str×V))
 | own (x:Addr)
 | xd (fs:List (Str×V))
 | met (f x:Addr)
 | rng (lo hi:Int)
 | frz (o:Obj) (u:HO)
 | tbl (ps:Array Value)
 | ext (φ:Heap→Prop)
abbrev Hp:=Addr→Option HO
def upd(H:Hp)(a:Addr)(o:HO):Hp:=fun b=>if b=a then some o else H b
theorem a0h{H:Hp}{a:Addr}{o:HO}:upd H a o a=some o:=by unfold upd;rw[if_pos rfl]
theorem a1a{H:Hp}{a b:Addr}{o:HO}(h:b≠a):upd H a o b=H b:=by unfold upd;rw[if_neg h]
theorem b0w{H:Hp}{a b:Addr}{o u:HO}(h:H a=some o)(h':H b=some u)(d:o≠u):a≠b:=by
 intro e;subst e;rw[h] at h';exact d (c7z.inj h')
theorem a0x{H:Hp}{a b:Addr}{o:HO}(h:H a=some o)(h':H b=none):a≠b:=by
 intro e;subst e;rw[h] at h';cases h'
section
variable (P:Program) (w:World)
def a4n(H:Hp)(h:Heap)(a:Addr):HO→Prop
 | .lst xs=>xs.length≤sizeLine∧∃ (its:List Value) (n:Nat),Vals xs its∧h.get? a=some { cls:=.type "list",data:=.seq its.toArray n }
 | .tup xs=>xs.length≤sizeLine∧∃ its:List Value,Vals xs its∧IsTup h a its.toArray
 | .dK kvs=>kvs.length≤sizeLine∧(a == sysModules)=false∧∃ vs,KV kvs vs∧h.DictOf (a2i P w) a vs
 | .dT kvs=>kvs.length≤sizeLine∧(a == sysModules)=false∧∃ xs:List (List Key×Addr×Value),
     Paired (fun (p:List Key×V) (q:List Key×Addr×Value)=>p.1=q.1∧H q.2.1=some (.tup (p.1.map kV))∧RelV p.2 q.2.2) kvs xs∧
     ∃ o es ep,h.get? a=some o∧o.ExactDict∧o.data=.dict es ep∧es.toList=xs.map (entryOfKey (tupleKind (a2i P w)))∧(xs.map (·.1)).Nodup
 | .set S n=>h.SetOf (intKind P w) a S n
 | .ins C dx fs=>H dx=some (.own a)∧fs.length≤1000∧dx≠a∧h.get? a=some (c8t C dx)∧
     ∃ mA,h.Ns1 dx mA∧(∀ f,RelO (fs.lookup f) (mA f))∧PySem.Within mA (fs.map (·.1))
 | .own _=>∃ o,h.get? a=some o
 | .xd fs=>∃ mA,h.Ns1 a mA∧∀ f,RelO (fs.lookup f) (mA f)
 | .rng lo hi=>∃ t u v,h.get? a=some { cls:=.type "range",data:=.fields #[.int lo t,.int hi u,.int 1 v] }
 | .frz o u=>h.get? a=some o∧a4n H h a u
 | .tbl ps=>h.get? a=some { cls:=.none,data:=.fields ps }
 | .met f x=>h.get? a=some (PySem.W.methodObj (.ref f) (.ref x))
 | .ext φ=>φ h∧(∃ o,h.get? a=some o)∧∀ h1 h2:Heap,φ h1→(∀ o,h1.get? a=some o→h2.get? a=some o)→φ h2
def HOk(H:Hp)(h:Heap):Prop:=∀ a o,H a=some o→a4n P w H h a o
end
section
variable {P:Program} {w:World} {H H':Hp} {h h':Heap} {a:Addr} {o:HO}
theorem a4n.lt(x:a4n P w H h a o):a<h.objs.size:=by
 cases o with
 | lst xs=>obtain⟨_,_,_,_,e⟩:=x;exact Heap.lt_size e
 | tup xs=>obtain⟨_,_,_,p⟩:=x;exact p.lt
 | dK kvs=>obtain⟨_,_,_,_,o,_,_,e,_⟩:=x;exact Heap.lt_size e
 | dT kvs=>obtain⟨_,_,_,_,o,_,_,e,_⟩:=x;exact Heap.lt_size e
 | set S n=>obtain⟨o,_,_,_,e,_⟩:=x;exact Heap.lt_size e
 | ins C dx fs=>obtain⟨_,_,_,e,_⟩:=x;exact Heap.lt_size e
 | own y=>obtain⟨_,e⟩:=x;exact Heap.lt_size e
 | xd fs=>obtain⟨_,⟨_,_,_,e,_⟩,_⟩:=x;exact Heap.lt_size e
 | rng lo hi=>obtain⟨_,_,_,e⟩:=x;exact Heap.lt_size e
 | frz ob u=>obtain⟨e,_⟩:=x;exact Heap.lt_size e
 | tbl ps=>exact Heap.lt_size (show h.get? a=some _ from x)
 | met f y=>exact Heap.lt_size (show h.get? a=some _ from x)
 | ext φ=>obtain⟨_,⟨_,e⟩,_⟩:=x;exact Heap.lt_size e
theorem Paired.mapP{α β:Type}{F G:α→β→Prop}:∀ {l₁:List α} {l₂:List β},Paired F l₁ l₂→(∀ a b,F a b→G a b)→Paired G l₁ l₂
 | _,_,.nil,_=>.nil
 | _,_,.cons r t,f=>.cons (f _ _ r) (Paired.mapP t f)
theorem a4n.stay(x:a4n P w H h a o)(k:∀ b u,(b=a∨H b=some (.own a))→h.get? b=some u→h'.get? b=some u)(ho:∀ b,H b=some (.own a)→H' b=some (.own a))(ht:∀ b xs,H b=some (.tup xs)→H' b=some (.tup xs)):a4n P w H' h' a o:=by
 induction o with
 | lst xs=>obtain⟨z,its,n,r,e⟩:=x;exact⟨z,its,n,r,k _ _ (.inl rfl) e⟩
 | tup xs=>obtain⟨z,its,r,ob,e,c⟩:=x;exact⟨z,its,r,ob,k _ _ (.inl rfl) e,c⟩
 | dK kvs=>obtain⟨z,y,vs,r,ob,es,ep,e,c⟩:=x;exact⟨z,y,vs,r,ob,es,ep,k _ _ (.inl rfl) e,c⟩
 | dT kvs=>
   obtain⟨z,y,xs,r,ob,es,ep,e,c⟩:=x
   exact⟨z,y,xs,Paired.mapP r fun p q z=>⟨z.1,ht _ _ z.2.1,z.2.2⟩,ob,es,ep,k _ _ (.inl rfl) e,c⟩
 | set S n=>obtain⟨ob,es,ep,t,e,c⟩:=x;exact⟨ob,es,ep,t,k _ _ (.inl rfl) e,c⟩
 | ins C dx fs=>
   obtain⟨d,z,ne,e,mA,⟨od,es,ep,e2,c⟩,r⟩:=x
   exact⟨ho _ d,z,ne,k _ _ (.inl rfl) e,mA,⟨od,es,ep,k _ _ (.inr d) e2,c⟩,r⟩
 | own y=>obtain⟨ob,e⟩:=x;exact⟨ob,k _ _ (.inl rfl) e⟩
 | xd fs=>obtain⟨mA,⟨od,es,ep,e,c⟩,r⟩:=x;exact⟨mA,⟨od,es,ep,k _ _ (.inl rfl) e,c⟩,r⟩
 | rng lo hi=>obtain⟨t,u,v,e⟩:=x;exact⟨t,u,v,k _ _ (.inl rfl) e⟩
 | frz ob u ih=>obtain⟨e,q⟩:=x;exact⟨k _ _ (.inl rfl) e,ih q⟩
 | tbl ps=>
   have e:h.get? a=some { cls:=.none,data:=.fields ps }:=x
   show h'.get? a=some { cls:=.none,data:=.fields ps }
   exact k a _ (.inl rfl) e
 | met f y=>
   have e:h.get? a=some (PySem.W.methodObj (.ref f) (.ref y)):=x
   show h'.get? a=some (PySem.W.methodObj (.ref f) (.ref y))
   exact k a _ (.inl rfl) e
 | ext φ=>obtain⟨p,⟨o,e⟩,st⟩:=x;exact⟨st _ _ p fun o q=>k _ _ (.inl rfl) q,⟨o,k _ _ (.inl rfl) e⟩,st⟩
theorem HOk.lt(x:HOk P w H h)(e:H a=some o):a<h.objs.size:=(x a o e).lt
theorem HOk.fresh(x:HOk P w H h)(e:h.objs.size≤a):H a=none:=by
 cases q:H a with
 | none=>rfl
 | some u=>exact absurd (c6j (x.lt q) e) (c8d _)
theorem HOk.kept(x:HOk P w H h)(k:∀ b u,h.get? b=some u→h'.get? b=some u):HOk P w H h':=fun a o e=>
 (x a o e).stay (fun b u _ q=>k b u q) (fun _ q=>q) fun _ _ q=>q
theorem HOk.laid(x:HOk P w H h)(k:∀ b u,h.get? b=some u→h'.get? b=some u)(hp:h.objs.size≤a)(new:a4n P w (upd H a o) h' a o):HOk P w (upd H a o) h':=fun b u e=>by
 have hn:=x.fresh hp
 by_cases hb:b=a
 · subst hb;rw[a0h] at e;cases e;exact new
 · rw[a1a hb] at e
   exact (x b u e).stay (fun c v _ q=>k c v q) (fun c q=>by rw[a1a (a0x q hn)];exact q) fun c xs q=>by rw[a1a (a0x q hn)];exact q
end
def Rd(H:Hp)(a:Addr)(u:HO):Prop:=H a=some u∨∃ o,H a=some (.frz o u)
theorem Rd.ok{P:Program}{w:World}{H:Hp}{h:Heap}{a:Addr}{u:HO}(r:Rd H a u)(x:HOk P w H h):a4n P w H h a u:=by
 rcases r with r | ⟨o,r⟩
 · exact x a u r
 · obtain⟨_,q⟩:=x a _ r
   exact q
def Mut:Option HO→Prop
 | some (.lst _)=>True
 | some (.dK _)=>True
 | some (.dT _)=>True
 | some (.set _ _)=>True
 | some (.ins _ _ _)=>True
 | some (.ext _)=>True
 | _=>False
section
variable {P:Program} {w:World} {H:Hp} {h h':Heap} {x e:Addr} {o':HO}
theorem HOk.write(ok:HOk P w H h)(mu:Mut (H x))(he:e=x∨H e=some (.own x))(k:∀ b u,b≠e→h.get? b=some u→h'.get? b=some u)(heo:∃ u,h'.get? e=some u)(new:a4n P w (upd H x o') h' x o'):HOk P w (upd H x o') h':=fun b u q=>by
 have nown:∀ c y,H c=some (.own y)→c≠x:=fun c y r z=>by subst z;rw[r] at mu;exact mu
 have ntup:∀ c xs,H c=some (.tup xs)→c≠x:=fun c xs r z=>by subst z;rw[r] at mu;exact mu
 by_cases hb:b=x
 · subst hb;rw[a0h] at q;cases q;exact new
 · rw[a1a hb] at q
   by_cases hbe:b=e
   · have q':H b=some (.own x):=by
       rcases he with z | z
       · exact absurd (hbe.trans z) hb
       · rw[hbe];exact z
     rw[q] at q';cases q'
     obtain⟨v,hv⟩:=heo
     exact⟨v,by rw[hbe];exact hv⟩
   · refine (ok b u q).stay (fun c v hc r=>k c v ?_ r) (fun c r=>by rw[a1a (nown c b r)];exact r) fun c xs r=>by rw[a1a (ntup c xs r)];exact r
     rcases hc with rfl | hc
     · exact hbe
     · rintro rfl
       rcases he with z | z
       · exact nown c b hc z
       · rw[hc] at z;cases z;exact hb rfl
end
structure Un(fs ex:List Addr)(H H':Hp)(h h':Heap):Prop where
 keep:∀ b o,h.get? b=some o→H b=none→b∉fs→b∉ex→h'.get? b=some o
 slot:∀ b o,h.get? b=some o→H b=none→b∈fs→b∉ex→∃ sl,h'.get? b=some { o with slots:=sl }
 free:∀ b o,h.get? b=some o→H b=none→b∉ex→H' b=none
 there:∀ b o,h.get? b=some o→b∉ex→∃ o',h'.get? b=some o'
 tups:∀ b xs,H b=some (.tup xs)→H' b=some (.tup xs)
 frzs:∀ b o u,H b=some (.frz o u)→H' b=some (.frz o u)
 tbls:∀ b ps,H b=some (.tbl ps)→∃ more,H' b=some (.tbl (ps++more))
section
variable {fs fs' ex ex':List Addr} {H H1 H2:Hp} {h h1 h2 h':Heap} {a x e:Addr} {o:HO}
theorem Un.any(u:Un fs ex H H1 h h1){b:Addr}{ob:Obj}(q:h.get? b=some ob)(n:H b=none)(hx:b∉ex):∃ sl,h1.get? b=some { ob with slots:=sl }:=by
 by_cases hb:b∈fs
 · exact u.slot b ob q n hb hx
 · exact⟨ob.slots,u.keep b ob q n hb hx⟩
theorem Un.kept(k:∀ b u,h.get? b=some u→h'.get? b=some u):Un fs ex H H h h':=
 ⟨fun b ob q _ _ _=>k b ob q,fun b ob q _ _ _=>⟨ob.slots,k b ob q⟩,fun _ _ _ n _=>n,fun b ob q _=>⟨ob,k b ob q⟩,fun _ _ q=>q,fun _ _ _ q=>q,fun _ ps q=>⟨#[],by rw[q];simp⟩⟩
theorem Un.refl:Un fs ex H H h h:=Un.kept fun _ _ q=>q
theorem Un.laid(k:∀ b u,h.get? b=some u→h'.get? b=some u)(hp:h.objs.size≤a)(hn:H a=none):Un fs ex H (upd H a o) h h' where
 keep:=fun b u q _ _ _=>k b u q
 slot:=fun b u q _ _ _=>⟨u.slots,k b u q⟩
 free:=fun b u q n _=>by rw[a1a (c6s (c6j (Heap.lt_size q) hp))];exact n
 there:=fun b u q _=>⟨u,k b u q⟩
 tups:=fun b xs q=>by rw[a1a (a0x q hn)];exact q
 frzs:=fun b u xs q=>by rw[a1a (a0x q hn)];exact q
 tbls:=fun b ps q=>⟨#[],by rw[a1a (a0x q hn),q];simp⟩
theorem Un.write(mu:Mut (H x))(he:e=x∨H e=some (.own x))(k:∀ b u,b≠e→h.get? b=some u→h'.get? b=some u)(heo:∃ u,h'.get? e=some u):Un fs ex H (upd H x o) h h':=by
 have hx:∀ b,H b=none→b≠x:=fun b n z=>by subst z;rw[n] at mu;exact mu
 have hb:∀ b,H b=none→b≠e:=fun b n z=>by
   subst z
   rcases he with r | r
   · exact hx b n r
   · rw[n] at r;cases r
 have hm:∀ b u,H b=some u→¬ Mut (some u)→b≠x:=fun b u q nm z=>by subst z;rw[q] at mu;exact nm mu
 refine⟨fun b u q n _ _=>k b u (hb b n) q,fun b u q n _ _=>⟨u.slots,k b u (hb b n) q⟩,fun b u q n _=>by rw[a1a (hx b n)];exact n,fun b u q _=>?_,
   fun b xs q=>by rw[a1a (hm b _ q fun z=>z)];exact q,fun b u xs q=>by rw[a1a (hm b _ q fun z=>z)];exact q,fun b ps q=>⟨#[],by rw[a1a (hm b _ q fun z=>z),q];simp⟩⟩
 by_cases hbe:b=e
 · subst hbe;exact heo
 · exact⟨u,k b u hbe q⟩
end
def trk(h:Heap)(H:Hp):List Addr:=(List.range h.objs.size).filter fun a=>(H a).isSome
def hidT(h:Heap)(H:Hp):Heap:=c8b h (trk h H)
theorem c4q(h:Heap)(H:Hp):(hidT h H).objs.size=h.objs.size:=PySem.W.hideAll_size _ _
theorem hidT_get{h:Heap}{H:Hp}{b:Addr}{o:Obj}(e:h.get? b=some o)(n:H b=none):(hidT h H).get? b=some o:=
 c8n _ e fun hm=>by
   have q:(H b).isSome=true:=(List.mem_filter.mp hm).2
   rw[n] at q;simp at q
theorem of_hidT{h:Heap}{H:Hp}{b:Addr}{o:Obj}(e:(hidT h H).get? b=some o):h.get? b=some o∧H b=none:=by
 have e':h.get? b=some o:=d0c (trk h H) e
 refine⟨e',?_⟩
 cases q:H b with
 | none=>rfl
 | some x=>
   have hm:b∈trk h H:=List.mem_filter.mpr ⟨c9u.mpr (Heap.lt_size e'),by simp[q]⟩
   have z:(hidT h H).get? b=none:=PySem.W.hideAll_none (trk h H) hm
   rw[z] at e;cases e
end L2
namespace L2
open PySem PySem.Spec PyProof.Rows
structure Mod(K:c5t)(mg:Str→Option Value)(base:Heap):Prop where
 kin:K.In base
 glob:base.Ns mainGlobals mg
 blt:∃ mb,base.Ns builtinsNs mb∧∀ x:Str,x ≠ "__name__" → mb x=bootBuiltins x
 nolimit:base.NoLimit
structure Cx where
 prog:Program
 w:World
 K:c5t
 mg:Str→Option Value
 base:Heap
 A:Around
 N:List Str
 s₀:Shared
 H₀:Hp
 env:Env
 outer:List Env
 stack:List Env
 ex:List Addr
 fn:Str→Bool
 calm:Bool
 pn:List (Addr×Obj)
 xe:Value→Shared→Prop
def frs(l:List Env):List Addr:=l.filterMap (·.frame)
abbrev Cx.fs(X:Cx):List Addr:=frs X.outer
def Vis(sc:Scope)(x:Str):Prop:=sc.names.lookup x=some .local∨sc.names.lookup x=some .cell∨sc.names.lookup x=some .free
def Loc(sc:Scope)(x:Str):Prop:=sc.names.lookup x=some .local∨sc.names.lookup x=some .cell
def Look(env:Env)(h:Heap)(m:Str→Option Value)(x:Str)(u:Value):Prop:=
 (env.kindOf x=some .local∧m x=some u)∨((env.kindOf x=some .cell∨env.kindOf x=some .free)∧∃ c,env.cells.lookup x=some c∧h.IsCell c (some u))
structure Cx.Ok(X:Cx):Prop where
 mod:Mod X.K X.mg X.base
 kind:X.env.scope.kind=.function
 glob:X.env.globals=mainGlobals
 blt:X.env.builtins=builtinsNs
 above:X.s₀.heap.objs.size≤X.env.locals
 inj:∀ x y c,X.env.cells.lookup x=some c→X.env.cells.lookup y=some c→x=y
 has:∀ x,(X.env.kindOf x=some .cell∨X.env.kindOf x=some .free)→∃ c,X.env.cells.lookup x=some c
 cab:∀ x c,X.fn x=true→X.env.cells.lookup x=some c→X.s₀.heap.objs.size≤c
 hd:X.calm=true→X.A.handled=none
 frames:X.A.frames=some X.stack
 stk:X.stack=X.outer∨(X.stack=X.env::X.outer∧X.env.frame=some X.env.locals)
 exf:∀ b∈X.ex,b≠X.env.locals∧∀ x c,X.env.cells.lookup x=some c→c≠b
 bs:∀ b o,X.base.get? b=some o→X.s₀.heap.get? b=some o∧X.H₀ b=none
 bsz:X.base.objs.size≤X.s₀.heap.objs.size
 noex:∀ b o,X.base.get? b=some o→b∉X.ex
 exfs:∀ b∈X.ex,b∉X.fs
 funs:X.s₀.heap.FunFrames X.base X.outer
 frf:∀ b∈X.fs,X.H₀ b=none
structure Inv(X:Cx)(pins:List (Addr×Obj))(σ:List (Option V))(H:Hp)(s:Shared):Prop where
 ok:X.Ok
 os:s.os=X.s₀.os
 bare:AllBare s.gens
 base:Un X.fs X.ex X.H₀ H X.s₀.heap s.heap
 loc:∃ m,s.heap.Ns X.env.locals m∧∀ (i:Nat) (x:Str) (v:V),X.N[i]?=some x→σ[i]?=some (some v)→Vis X.env.scope x→∃ u,RelV v u∧Look X.env s.heap m x u
 cell:∀ x c,X.env.cells.lookup x=some c→∃ v,s.heap.IsCell c v
 free:H X.env.locals=none
 freeC:∀ x c,X.env.cells.lookup x=some c→H c=none
 pin:∀ p∈X.pn++pins,s.heap.get? p.1=some p.2∧H p.1=none∧p.1≠X.env.locals∧p.1∉X.fs∧∀ v,p.2.data≠.cell v
 hok:HOk X.prog X.w H s.heap
 len:σ.length=X.N.length
section
variable {X:Cx} {pins:List (Addr×Obj)} {σ:List (Option V)} {H H':Hp} {s:Shared} {h':Heap}
theorem Cx.Ok.nofr(ok:X.Ok){b:Addr}{o:Obj}(e:X.base.get? b=some o):b∉X.fs:=fun hb=>by
 have:=(ok.funs.mem hb).1
 rw[e] at this;cases this
theorem Inv.bs(I:Inv X pins σ H s):∀ b o,X.base.get? b=some o→s.heap.get? b=some o∧H b=none:=fun b o e=>
 ⟨I.base.keep b o (I.ok.bs b o e).1 (I.ok.bs b o e).2 (I.ok.nofr e) (I.ok.noex b o e),I.base.free b o (I.ok.bs b o e).1 (I.ok.bs b o e).2 (I.ok.noex b o e)⟩
theorem Inv.bk(I:Inv X pins σ H s):∀ b o,X.base.get? b=some o→s.heap.get? b=some o:=fun b o e=>(I.bs b o e).1
theorem Inv.mod(I:Inv X pins σ H s):Mod X.K X.mg X.base:=I.ok.mod
theorem Inv.kIn(I:Inv X pins σ H s):X.K.In s.heap:=I.ok.mod.kin.keeps I.bk
theorem Inv.lt(I:Inv X pins σ H s):X.env.locals<s.heap.objs.size:=let ⟨_,hn,_⟩:=I.loc;hn.lt
theorem Inv.sz(I:Inv X pins σ H s):X.s₀.heap.objs.size≤s.heap.objs.size:=c6x I.ok.above (c6d I.lt)
theorem Inv.nofs(I:Inv X pins σ H s){a:Addr}(h:s.heap.objs.size≤a):a∉X.fs:=fun hb=>by
 obtain⟨_,o,ho,_⟩:=I.ok.funs.mem hb
 exact absurd (c6j (Heap.lt_size ho) (c6x I.sz h)) (c8d _)
theorem Inv.cne(I:Inv X pins σ H s):∀ x c,X.env.cells.lookup x=some c→c≠X.env.locals:=fun x c e z=>by
 obtain⟨v,o,ho,hd⟩:=I.cell x c e
 obtain⟨m,⟨o',es,ep,ho',hd',_⟩,_⟩:=I.loc
 rw[z,ho'] at ho;cases ho;rw[hd'] at hd;cases hd
theorem Inv.funs(I:Inv X pins σ H s):s.heap.FunFrames X.base X.outer:=by
 have all:∀ (l:List Env),(∀ b∈frs l,b∈X.fs)→X.s₀.heap.FunFrames X.base l→s.heap.FunFrames X.base l:=by
   intro l
   induction l with
   | nil=>intro _ _;trivial
   | cons env r ih=>
     intro hs hl
     obtain⟨hk,⟨L,o,hf,hn,ho,hd⟩,hr⟩:=hl
     have hL:L∈X.fs:=hs L (by unfold frs;rw[c9j,hf];exact List.mem_cons_self)
     obtain⟨sl,e⟩:=I.base.slot L o ho (I.ok.frf L hL) hL fun z=>I.ok.exfs L z hL
     exact⟨hk,⟨L,_,hf,hn,e,hd⟩,ih (fun b hb=>hs b (by unfold frs;rw[c9j,hf];exact c7e _ hb)) hr⟩
 exact all X.outer (fun _ hb=>hb) I.ok.funs
theorem Inv.stack(I:Inv X pins σ H s):s.heap.FunFrames X.base X.stack:=by
 rcases I.ok.stk with e | ⟨e,hf⟩
 · rw[e];exact I.funs
 · rw[e]
   obtain⟨m,hn,_⟩:=I.loc
   refine .cons (by rw[I.ok.kind];decide) hf hn ?_ I.funs
   exact Heap.get?_none_of_le (c6x I.ok.bsz I.ok.above)
theorem Inv.stkSub(I:Inv X pins σ H s):∀ b∈frs X.stack,b∈X.env.locals::X.fs:=fun b hb=>by
 rcases I.ok.stk with e | ⟨e,hf⟩
 · rw[e] at hb;exact c7e _ hb
 · rw[e] at hb
   unfold frs at hb
   rw[c9j,hf] at hb
   exact hb
theorem Inv.stkFree(I:Inv X pins σ H s):∀ b∈frs X.stack,H b=none:=fun b hb=>by
 rcases c6e.mp (I.stkSub b hb) with e | hb
 · rw[e];exact I.free
 · obtain⟨_,o,ho,_⟩:=I.ok.funs.mem hb
   exact I.base.free b o ho (I.ok.frf b hb) fun z=>I.ok.exfs b z hb
theorem Inv.step{g':Array GenState}{t':Nat}{d':Drawn}{ch:List Addr}(I:Inv X pins σ H s)(hch:∀ b∈ch,(b∈X.ex∨X.s₀.heap.objs.size≤b)∧b≠X.env.locals∧(∀ x c,X.env.cells.lookup x=some c→c≠b)∧∀ p∈X.pn++pins,p.1≠b)(keep:∀ b o,b≠X.env.locals→b∉X.fs→b∉ch→s.heap.get? b=some o→H b=none→h'.get? b=some o)(slot:∀ b o,b≠X.env.locals→b∈X.fs→b∉ch→s.heap.get? b=some o→H b=none→∃ sl,h'.get? b=some { o with slots:=sl })(free:∀ b o,b∉ch→s.heap.get? b=some o→H b=none→H' b=none)(there:∀ b o,b∉ch→s.heap.get? b=some o→∃ o',h'.get? b=some o')(tups:∀ b xs,H b=some (.tup xs)→H' b=some (.tup xs))(frzs:∀ b o u,H b=some (.frz o u)→H' b=some (.frz o u))(tbls:∀ b ps,H b=some (.tbl ps)→∃ more,H' b=some (.tbl (ps++more)))(ns:∀ m,s.heap.Ns X.env.locals m→h'.Ns X.env.locals m)(hok:HOk X.prog X.w H' h')(hg:AllBare g') :
   Inv X pins σ H' { s with heap:=h',gens:=g',drawn:=d',toks:=t' }:=by
 have neL:∀ b o,X.s₀.heap.get? b=some o→b≠X.env.locals:=fun b o e=>c6s (c6j (Heap.lt_size e) I.ok.above)
 have neC:∀ b o,X.s₀.heap.get? b=some o→b∉X.ex→b∉ch:=fun b o e hx hb=>by
   rcases (hch b hb).1 with z | z
   · exact hx z
   · exact absurd (c6j (Heap.lt_size e) z) (c8d _)
 have cellK:∀ x c,X.env.cells.lookup x=some c→∀ v,s.heap.IsCell c v→h'.IsCell c v:=fun x c e v ⟨o,ho,hd⟩=>by
   have nch:c∉ch:=fun z=>(hch c z).2.2.1 x c e rfl
   by_cases hc:c∈X.fs
   · obtain⟨sl,q⟩:=slot c o (I.cne x c e) hc nch ho (I.freeC x c e)
     exact⟨_,q,hd⟩
   · exact⟨o,keep c o (I.cne x c e) hc nch ho (I.freeC x c e),hd⟩
 refine⟨I.ok,I.os,hg,⟨fun b o e n hb hx=>?_,fun b o e n hb hx=>?_,fun b o e n hx=>?_,fun b o e hx=>?_,fun b xs e=>tups b xs (I.base.tups b xs e),fun b o xs e=>frzs b o xs (I.base.frzs b o xs e),fun b ps e=>?_⟩,?_,fun x c e=>?_,?_,fun x c e=>?_,fun p hp=>?_,hok,I.len⟩
 · exact keep b o (neL b o e) hb (neC b o e hx) (I.base.keep b o e n hb hx) (I.base.free b o e n hx)
 · obtain⟨sl,e1⟩:=I.base.slot b o e n hb hx
   obtain⟨sl',e2⟩:=slot b _ (neL b o e) hb (neC b o e hx) e1 (I.base.free b o e n hx)
   exact⟨sl',e2⟩
 · obtain⟨o',e1⟩:=I.base.there b o e hx
   exact free b o' (neC b o e hx) e1 (I.base.free b o e n hx)
 · obtain⟨o',e1⟩:=I.base.there b o e hx
   exact there b o' (neC b o e hx) e1
 · obtain⟨m1,e1⟩:=I.base.tbls b ps e
   obtain⟨m2,e2⟩:=tbls b _ e1
   exact⟨m1++m2,by rw[e2,c9l]⟩
 · obtain⟨m,hn,hl⟩:=I.loc
   refine⟨m,ns m hn,fun i x v e1 e2 e3=>?_⟩
   obtain⟨u,r,l⟩:=hl i x v e1 e2 e3
   refine⟨u,r,?_⟩
   rcases l with l | ⟨k,c,e,z⟩
   · exact .inl l
   · exact .inr ⟨k,c,e,cellK x c e _ z⟩
 · obtain⟨v,z⟩:=I.cell x c e
   exact⟨v,cellK x c e v z⟩
 · obtain⟨m,⟨o,_,_,ho,_⟩,_⟩:=I.loc
   exact free _ o (fun z=>(hch _ z).2.1 rfl) ho I.free
 · obtain⟨v,o,ho,hd⟩:=I.cell x c e
   exact free c o (fun z=>(hch c z).2.2.1 x c e rfl) ho (I.freeC x c e)
 · obtain⟨e,n,ne,nf,d⟩:=I.pin p hp
   have nch:p.1∉ch:=fun z=>(hch p.1 z).2.2.2 p hp rfl
   exact⟨keep p.1 p.2 ne nf nch e n,free p.1 p.2 nch e n,ne,nf,d⟩
theorem Inv.un{t':Nat}(I:Inv X pins σ H s)(u:Un X.fs [] H H' s.heap h')(hok:HOk X.prog X.w H' h'):Inv X pins σ H' { s with heap:=h',toks:=t' }:=by
 obtain⟨m,⟨o,es,ep,ho,r⟩,_⟩:=id I.loc
 obtain⟨sl,hL⟩:=u.any ho I.free (by simp)
 exact I.step (g':=s.gens) (d':=s.drawn) (ch:=[]) (fun _ z=>nomatch z) (fun b o _ hb _ e n=>u.keep b o e n hb (by simp)) (fun b o _ hb _ e n=>u.slot b o e n hb (by simp)) (fun b o _ e n=>u.free b o e n (by simp)) (fun b o _ e=>u.there b o e (by simp)) u.tups u.frzs u.tbls (fun m' hm=>by
   obtain⟨o',es',ep',ho',r'⟩:=hm
   rw[ho] at ho';cases ho'
   exact⟨_,es',ep',hL,r'⟩) hok I.bare
theorem Inv.call{g':Array GenState}{t':Nat}{d':Drawn}{ch:List Addr}(I:Inv X pins σ H s)(u:Un (frs X.stack) ch H H' s.heap h')(hok:HOk X.prog X.w H' h')(hg:AllBare g')(hch:∀ b∈ch,(b∈X.ex∨X.s₀.heap.objs.size≤b)∧b≠X.env.locals∧(∀ x c,X.env.cells.lookup x=some c→c≠b)∧∀ p∈X.pn++pins,p.1≠b) :
   Inv X pins σ H' { s with heap:=h',gens:=g',drawn:=d',toks:=t' }:=by
 obtain⟨m,⟨o,es,ep,ho,r⟩,_⟩:=id I.loc
 obtain⟨sl,hL⟩:=u.any ho I.free fun z=>(hch _ z).2.1 rfl
 exact I.step (ch:=ch) hch (fun b o hL hb hc e n=>u.keep b o e n (fun z=>(c6e.mp (I.stkSub b z)).elim hL hb) hc) (fun b o _ _ hc e n=>u.any e n hc) (fun b o hc e n=>u.free b o e n hc) (fun b o hc e=>u.there b o e hc) u.tups u.frzs u.tbls (fun m' hm=>by
   obtain⟨o',es',ep',ho',r'⟩:=hm
   rw[ho] at ho';cases ho'
   exact⟨_,es',ep',hL,r'⟩) hok hg
theorem Inv.turned{t':Nat}{it:Addr}(I:Inv X pins σ H s)(k:∀ b o,b≠it→s.heap.get? b=some o→h'.get? b=some o)(hn:H it=none)(hL:it≠X.env.locals)(h1:it∈X.ex∨X.s₀.heap.objs.size≤it)(h2:∀ x c,X.env.cells.lookup x=some c→c≠it)(h3:∀ p∈X.pn++pins,p.1≠it):Inv X pins σ H { s with heap:=h',toks:=t' }:=by
 have nit:∀ b u,H b=some u→b≠it:=fun b u e z=>by rw[z,hn] at e;cases e
 refine I.step (g':=s.gens) (d':=s.drawn) (ch:=[it]) (fun b hb=>?_) (fun b o _ _ hc e _=>k b o (fun z=>hc (by simp[z])) e) (fun b o _ _ hc e _=>⟨o.slots,k b o (fun z=>hc (by simp[z])) e⟩) (fun _ _ _ _ n=>n)
   (fun b o hc e=>⟨o,k b o (fun z=>hc (by simp[z])) e⟩) (fun _ _ e=>e) (fun _ _ _ e=>e) (fun b ps e=>⟨#[],by rw[e];simp⟩) (fun m hm=>?_) (fun b u e=>?_) I.bare
 · have e:b=it:=by simpa using hb
   subst e
   exact⟨h1,hL,h2,h3⟩
 · obtain⟨o,es,ep,ho,r⟩:=hm
   exact⟨o,es,ep,k _ o (Ne.symm hL) ho,r⟩
 · refine (I.hok b u e).stay (fun c v hc q=>k c v ?_ q) (fun _ q=>q) fun _ _ q=>q
   rcases hc with z | z
   · rw[z];exact nit b u e
   · exact nit c _ z
theorem Inv.tok(I:Inv X pins σ H s)(t:Nat):Inv X pins σ H { s with toks:=t }:=I.un (h':=s.heap) (t':=t) Un.refl I.hok
theorem Inv.kept{t':Nat}(I:Inv X pins σ H s)(k:∀ b u,s.heap.get? b=some u→h'.get? b=some u):Inv X pins σ H { s with heap:=h',toks:=t' }:=I.un (Un.kept k) (I.hok.kept k)
theorem Inv.laid{a:Addr}{o:HO}{t':Nat}(I:Inv X pins σ H s)(k:∀ b u,s.heap.get? b=some u→h'.get? b=some u)(hp:s.heap.objs.size≤a)(new:a4n X.prog X.w (upd H a o) h' a o) :
 Inv X pins σ (upd H a o) { s with heap:=h',toks:=t' }:=I.un (Un.laid k hp (I.hok.fresh hp)) (I.hok.laid k hp new)
theorem Inv.write{x e:Addr}{o:HO}{t':Nat}(I:Inv X pins σ H s)(mu:Mut (H x))(he:e=x∨H e=some (.own x))(k:∀ b u,b≠e→s.heap.get? b=some u→h'.get? b=some u)(heo:∃ u,h'.get? e=some u)(new:a4n X.prog X.w (upd H x o) h' x o):Inv X pins σ (upd H x o) { s with heap:=h',toks:=t' }:=I.un (Un.write mu he k heo) (I.hok.write mu he k heo new)
theorem Inv.pins_of{pins':List (Addr×Obj)}(I:Inv X pins σ H s)(h:∀ p∈pins',s.heap.get? p.1=some p.2∧H p.1=none∧p.1≠X.env.locals∧p.1∉X.fs∧∀ v,p.2.data≠.cell v):Inv X pins' σ H s:=
 ⟨I.ok,I.os,I.bare,I.base,I.loc,I.cell,I.free,I.freeC,fun p hp=>(c7t.mp hp).elim (fun z=>I.pin p (c9w _ z)) (h p),I.hok,I.len⟩
theorem b8w{N:List Str}(hN:N.Nodup){i j:Nat}{x:Str}(a:N[i]?=some x)(b:N[j]?=some x):i=j:=by
 obtain⟨h1,e1⟩:=c6h.mp a
 obtain⟨h2,e2⟩:=c6h.mp b
 exact (List.getElem_inj hN).mp (e1.trans e2.symm)
theorem c1n{M:Model}{A:Around}{E:Value→Shared→Prop}{i:Nat}{x:Str}{v:V}{u:Value}{Q:Unit→Shared→Prop}(I:Inv X pins σ H s)(hN:X.N.Nodup)(hi:X.N[i]?=some x)(hx:Loc X.env.scope x)(r:RelV v u)(h:∀ s',Inv X pins (σ.set i (some v)) H s'→(∃ a,Heap.SameBut a s.heap s'.heap∧(a=X.env.locals∨X.env.cells.lookup x=some a))→Q () s')(hf:X.fn x=true∨X.env.scope.names.lookup x=some .local:=by first | exact .inl rfl | exact .inr rfl | assumption):wpAny M A (storeName X.env x u) Q E s:=by
 obtain⟨m,hn,hl⟩:=id I.loc
 have hcls:(X.env.scope.kind == .class || (X.env.scope.kind == .module && X.env.locals != X.env.globals))=false:=by rw[I.ok.kind];rfl
 have hiσ:i<σ.length:=by rw[I.len];exact (c6h.mp hi).1
 have cne:=I.cne
 have tracked:∀ {a:Addr} {h':Heap},(∃ o,s.heap.get? a=some o∧H a=none)→Heap.SameBut a s.heap h'→HOk X.prog X.w H h':=fun {a h'} ha hs b ob e=>by
   obtain⟨_,_,hfree⟩:=ha
   refine (I.hok b ob e).stay (fun c w' hc q=>(hs.2 c ?_).trans q) (fun _ q=>q) fun _ _ q=>q
   rintro rfl
   rcases hc with rfl | hc
   · rw[hfree] at e;cases e
   · rw[hfree] at hc;cases hc
 rcases hx with hk | hk
 · refine wpAny_storeName_local hk hn (fun h' hn' hs=>?_) hcls
   obtain⟨oL,_,_,hoL,_⟩:=id hn
   refine h _ ⟨I.ok,I.os,I.bare,⟨fun b o e n hb hx=>?_,fun b o e n hb hx=>?_,I.base.free,fun b o e hx=>?_,I.base.tups,I.base.frzs,I.base.tbls⟩,⟨_,hn',fun j y v' e1 e2 e3=>?_⟩,fun y c e=>?_,I.free,I.freeC,fun p hp=>?_,tracked ⟨oL,hoL,I.free⟩ hs,by simpa using I.len⟩ ⟨_,hs,.inl rfl⟩
   · exact (hs.2 b (c6s (c6j (Heap.lt_size e) I.ok.above))).trans (I.base.keep b o e n hb hx)
   · obtain⟨sl,e1⟩:=I.base.slot b o e n hb hx
     exact⟨sl,(hs.2 b (c6s (c6j (Heap.lt_size e) I.ok.above))).trans e1⟩
   · obtain⟨o',e1⟩:=I.base.there b o e hx
     exact⟨o',(hs.2 b (c6s (c6j (Heap.lt_size e) I.ok.above))).trans e1⟩
   · by_cases hj:j=i
     · subst hj
       rw[hi] at e1;cases e1
       rw[List.getElem?_set_self hiσ] at e2
       cases e2
       exact⟨u,r,.inl ⟨hk,by simp⟩⟩
     · rw[List.getElem?_set_ne (Ne.symm hj)] at e2
       obtain⟨u',r',q⟩:=hl j y v' e1 e2 e3
       refine⟨u',r',?_⟩
       rcases q with⟨k,e⟩ | ⟨k,c,e,z⟩
       · refine .inl ⟨k,?_⟩
         have:y≠x:=fun e=>hj (b8w hN e1 (e ▸ hi))
         simp[this,e]
       · exact .inr ⟨k,c,e,z.sameBut hs (cne y c e)⟩
   · obtain⟨w',z⟩:=I.cell y c e
     exact⟨w',z.sameBut hs (cne y c e)⟩
   · obtain⟨e,n,ne,nf,d⟩:=I.pin p hp
     exact⟨(hs.2 p.1 ne).trans e,n,ne,nf,d⟩
 · have hfn:X.fn x=true:=by
     rcases hf with z | z
     · exact z
     · rw[z] at hk;cases hk
   obtain⟨c,hc⟩:=I.ok.has x (.inl hk)
   obtain⟨w',z⟩:=I.cell x c hc
   refine wpAny_storeName_cell I.ok.kind hk hc z (fun h' hc' hs=>?_)
   obtain⟨oc,hoc,hocd⟩:=id z
   refine h { s with heap:=h' } ⟨I.ok,I.os,I.bare,⟨fun b o e n hb hx=>?_,fun b o e n hb hx=>?_,I.base.free,fun b o e hx=>?_,I.base.tups,I.base.frzs,I.base.tbls⟩,⟨m,hn.sameBut hs (Ne.symm (cne x c hc)),fun j y v' e1 e2 e3=>?_⟩,fun y c' e=>?_,I.free,I.freeC,fun p hp=>?_,tracked ⟨oc,hoc,I.freeC x c hc⟩ hs,by simpa using I.len⟩ ⟨c,hs,.inr hc⟩
   · exact (hs.2 b (c6s (c6j (Heap.lt_size e) (I.ok.cab x c hfn hc)))).trans (I.base.keep b o e n hb hx)
   · obtain⟨sl,e1⟩:=I.base.slot b o e n hb hx
     exact⟨sl,(hs.2 b (c6s (c6j (Heap.lt_size e) (I.ok.cab x c hfn hc)))).trans e1⟩
   · obtain⟨o',e1⟩:=I.base.there b o e hx
     exact⟨o',(hs.2 b (c6s (c6j (Heap.lt_size e) (I.ok.cab x c hfn hc)))).trans e1⟩
   · by_cases hj:j=i
     · subst hj
       rw[hi] at e1;cases e1
       rw[List.getElem?_set_self hiσ] at e2
       cases e2
       exact⟨u,r,.inr ⟨.inl hk,c,hc,hc'⟩⟩
     · rw[List.getElem?_set_ne (Ne.symm hj)] at e2
       obtain⟨u',r',q⟩:=hl j y v' e1 e2 e3
       refine⟨u',r',?_⟩
       rcases q with q | ⟨k,c',e,z'⟩
       · exact .inl q
       · refine .inr ⟨k,c',e,z'.sameBut hs ?_⟩
         rintro rfl
         exact hj (b8w hN e1 (I.ok.inj _ _ _ e hc ▸ hi))
   · by_cases hcc:c'=c
     · subst hcc;exact⟨_,hc'⟩
     · obtain⟨w2,z2⟩:=I.cell y c' e
       exact⟨w2,z2.sameBut hs hcc⟩
   · obtain⟨e,n,ne,nf,d⟩:=I.pin p hp
     refine⟨(hs.2 p.1 ?_).trans e,n,ne,nf,d⟩
     intro q
     rw[q,hoc] at e
     have q':oc=p.2:=c7z.inj e
     exact d w' (by rw[← q'];exact hocd)
theorem a7a{M:Model}{A:Around}{E:Value→Shared→Prop}{i:Nat}{x:Str}{v:V}{u:Value}{Q:Unit→Shared→Prop}(I:Inv X pins σ H s)(hN:X.N.Nodup)(hi:X.N[i]?=some x)(hx:Loc X.env.scope x)(r:RelV v u)(h:∀ s',Inv X pins (σ.set i (some v)) H s'→Q () s')(hf:X.fn x=true∨X.env.scope.names.lookup x=some .local:=by first | exact .inl rfl | exact .inr rfl | assumption):wpAny M A (storeName X.env x u) Q E s:=
 c1n I hN hi hx r (fun s' I' _=>h s' I') hf
theorem Inv.call'{s':Shared}{ch:List Addr}(I:Inv X pins σ H s)(ho:s'.os=s.os)(u:Un (frs X.stack) ch H H' s.heap s'.heap)(hok:HOk X.prog X.w H' s'.heap)(hg:AllBare s'.gens)(hch:∀ b∈ch,(b∈X.ex∨X.s₀.heap.objs.size≤b)∧b≠X.env.locals∧(∀ x c,X.env.cells.lookup x=some c→c≠b)∧∀ p∈X.pn++pins,p.1≠b):Inv X pins σ H' s':=by
 obtain⟨h',g',d',t',o'⟩:=s'
 have e:o'=s.os:=ho
 subst e
 exact I.call (g':=g') (t':=t') (d':=d') u hok hg hch
end
abbrev XK:=Value→Option Addr→Hp→Prop
abbrev St:=List (Option V)
abbrev VK:=V→Hp→Prop
abbrev TE:=St→Hp→VK→Prop
abbrev TT:=St→Hp→(Bool→Hp→Prop)→Prop
abbrev TA:=St→Hp→(List V→Hp→Prop)→Prop
structure Ends where
 nx:St→Hp→Prop
 rt:VK
 bk:St→Hp→Prop:=fun _ _=>False
 ct:St→Hp→Prop:=fun _ _=>False
abbrev TS:=Ends→St→Hp→Prop
def EP(X:Cx)(pins:List (Addr×Obj))(σ:St)(Q:VK)(u:Value)(s':Shared):Prop:=∃ v H',Inv X pins σ H' s'∧RelV v u∧Q v H'
def TP(X:Cx)(pins:List (Addr×Obj))(σ:St)(Q:Bool→Hp→Prop)(b:Bool)(s':Shared):Prop:=∃ H',Inv X pins σ H' s'∧Q b H'
def AP(X:Cx)(pins:List (Addr×Obj))(σ:St)(Q:List V→Hp→Prop)(us:List Value)(s':Shared):Prop:=∃ vs H',Inv X pins σ H' s'∧Vals vs us∧Q vs H'
def SP(X:Cx)(pins:List (Addr×Obj))(D:Ends)(f:Flow)(s':Shared):Prop:=
 match f with
 | .next=>∃ σ' H',Inv X pins σ' H' s'∧D.nx σ' H'
 | .brk=>∃ σ' H',Inv X pins σ' H' s'∧D.bk σ' H'
 | .cont=>∃ σ' H',Inv X pins σ' H' s'∧D.ct σ' H'
 | .ret u=>∃ v σ' H',Inv X pins σ' H' s'∧RelV v u∧D.rt v H'
def PE(X:Cx)(e:Expr)(t:TE):Prop:=
 ∀ (pins:List (Addr×Obj)) (s:Shared) (σ:St) (H:Hp) (Q:VK),Inv X pins σ H s→t σ H Q→wpAny (model X.prog X.w) X.A (eval e X.env) (EP X pins σ Q) X.xe s
def PT(X:Cx)(e:Expr)(t:TT):Prop:=
 ∀ (pins:List (Addr×Obj)) (s:Shared) (σ:St) (H:Hp) (Q:Bool→Hp→Prop),Inv X pins σ H s→t σ H Q→wpAny (model X.prog X.w) X.A (isTrue e X.env (eval e X.env)) (TP X pins σ Q) X.xe s
def PW(X:Cx)(e:Expr)(t:TT):Prop:=
 ∀ (whole:Sem Value) (pins:List (Addr×Obj)) (s:Shared) (σ:St) (H:Hp) (Q:Bool→Hp→Prop),Inv X pins σ H s→t σ H Q→wpAny (model X.prog X.w) X.A (isTrue e X.env whole) (TP X pins σ Q) X.xe s
theorem PW.pt{X:Cx}{e:Expr}{t:TT}(h:PW X e t):PT X e t:=h _
def PA(X:Cx)(es:List Expr)(t:TA):Prop:=
 ∀ (pos:Pos) (pins:List (Addr×Obj)) (s:Shared) (σ:St) (H:Hp) (Q:List V→Hp→Prop),Inv X pins σ H s→t σ H Q→wpAny (model X.prog X.w) X.A (spliced (backTo pos (starEach es X.env))) (AP X pins σ Q) X.xe s
def PS(X:Cx)(st:Stmt)(t:TS):Prop:=
 ∀ (pins:List (Addr×Obj)) (s:Shared) (σ:St) (H:Hp) (D:Ends),Inv X pins σ H s→t D σ H→wpAny (model X.prog X.w) X.A (exec st X.env) (SP X pins D) X.xe s
def PSs(X:Cx)(st:List Stmt)(t:TS):Prop:=
 ∀ (pins:List (Addr×Obj)) (s:Shared) (σ:St) (H:Hp) (D:Ends),Inv X pins σ H s→t D σ H→wpAny (model X.prog X.w) X.A (execs st X.env) (SP X pins D) X.xe s
theorem thn{α:Type}{t:Sem α}{Q Q':α→Shared→Prop}{M:Model}{A:Around}{E:Value→Shared→Prop}{s:Shared}(h:wpAny M A t Q E s)(hQ:∀ a s,Q a s→Q' a s):wpAny M A t Q' E s:=wpAny_mono h hQ fun _ _ x=>x
end L2
namespace L2
open PySem PySem.Spec PyProof.Rows
section
variable {X:Cx}
def tVar(i:Nat):TE:=fun σ H Q=>∃ v,σ[i]?=some (some v)∧Q v H
def tC(v:V):TE:=fun _ H Q=>Q v H
theorem pe_var{i:Nat}{x:Str}{pos:Pos}(hN:X.N[i]?=some x)(hv:Vis X.env.scope x)(hd:(x == ("__debug__" : Str))=false:=by decide)(hcd:(x == ("__classdict__" : Str))=false:=by decide):PE X (.Name x pos) (tVar i):=by
 intro pins s σ H Q I h
 obtain⟨v,e,h⟩:=h
 obtain⟨m,hn,hl⟩:=I.loc
 obtain⟨u,r,l⟩:=hl i x v hN e hv
 have fin:EP X pins σ Q u s:=⟨v,H,I,r,h⟩
 rcases l with⟨hk,hm⟩ | ⟨hk,c,hc,hcell⟩
 · exact wpAny_Name (wpAny_loadName_local I.ok.kind hk hn hm fin) hd
 · rcases hk with hk | hk
   · exact wpAny_Name (wpAny_loadName_cell I.ok.kind hk hc hcell fin) hd
   · exact wpAny_Name (wpAny_loadName_free I.ok.kind hk hc hcell fin hcd) hd
theorem pe_int{i j pos}:PE X (.Constant (.int i) j pos) (tC (.int i)):=fun _ _ _ H _ I h=>wpAny_Constant_int ⟨.int i,H,I.tok _,⟨_,rfl⟩,h⟩
theorem pe_bl{b j pos}:PE X (.Constant (.bool b) j pos) (tC (.bl b)):=fun _ _ _ H _ I h=>Constant_bool ⟨.bl b,H,I,rfl,h⟩
theorem pe_non{j pos}:PE X (.Constant .none j pos) (tC .non):=fun _ _ _ H _ I h=>Constant_none ⟨.non,H,I,rfl,h⟩
theorem pe_str{x j pos}:PE X (.Constant (.str x) j pos) (tC (.str x)):=fun _ _ _ H _ I h=>Calls.Constant_str ⟨.str x,H,I.tok _,⟨_,rfl⟩,h⟩
def Gl(X:Cx)(x:Str):Prop:=X.env.kindOf x=some .globalImplicit
theorem b0z{E:Value→Shared→Prop}{pins:List (Addr×Obj)}{s:Shared}{σ:St}{H:Hp}{x:Str}{u:Value}{pos:Pos}{Q:Value→Shared→Prop}(I:Inv X pins σ H s)(hg:Gl X x)(hm:X.mg x=some u)(h:Q u s)(hd:(x == ("__debug__" : Str))=false:=by decide):wpAny (model X.prog X.w) X.A (eval (.Name x pos) X.env) Q E s:=
 Calls.Name_function_global I.ok.kind hg (Calls.loadGlobal_global (by rw[I.ok.glob];exact I.mod.glob.keeps I.bk) hm h) hd
theorem b1a{E:Value→Shared→Prop}{pins:List (Addr×Obj)}{s:Shared}{σ:St}{H:Hp}{x:Str}{u:Value}{pos:Pos}{Q:Value→Shared→Prop}(I:Inv X pins σ H s)(hg:Gl X x)(hm:X.mg x=none)(hv:bootBuiltins x=some u)(h:Q u s)(hn:x ≠ "__name__":=by decide)(hd:(x == ("__debug__" : Str))=false:=by decide):wpAny (model X.prog X.w) X.A (eval (.Name x pos) X.env) Q E s:=by
 obtain⟨mb,h1,h2⟩:=I.mod.blt
 exact Calls.Name_function_global I.ok.kind hg (Calls.loadGlobal_builtin (by rw[I.ok.glob];exact I.mod.glob.keeps I.bk) hm (by rw[I.ok.blt];exact h1.keeps I.bk) ((h2 x hn).trans hv) h) hd
theorem pe_glob{x:Str}{v:V}{u:Value}{pos:Pos}(hg:Gl X x)(hm:X.mg x=some u)(r:RelV v u)(hd:(x == ("__debug__" : Str))=false:=by decide):PE X (.Name x pos) (tC v):=
 fun _ _ _ H _ I h=>b0z I hg hm ⟨v,H,I,r,h⟩ hd
theorem pe_bltn{x:Str}{v:V}{u:Value}{pos:Pos}(hg:Gl X x)(hm:X.mg x=none)(hv:bootBuiltins x=some u)(r:RelV v u)(hn:x ≠ "__name__":=by decide)(hd:(x == ("__debug__" : Str))=false:=by decide):PE X (.Name x pos) (tC v):=
 fun _ _ _ H _ I h=>b1a I hg hm hv ⟨v,H,I,r,h⟩ hn hd
variable {a b:Expr} {ta tb:TE} {pos:Pos}
def tB(t:TE):TT:=fun σ H Q=>t σ H fun x H1=>∃ c,x=.bl c∧Q c H1
theorem pt_val{e:Expr}{t:TE}(h:PE X e t)(he:∀ whole,isTrue e X.env whole=(do let v ← whole;standAt e.pos;holding [v] (truthy v)):=by intro _;rfl):PT X e (tB t):=by
 intro pins s σ H Q I hw
 refine isTrue_plain (thn (h pins s σ H _ I hw) fun v s1 ⟨x,H1,I1,r1,q1⟩=>?_) (he _)
 obtain⟨d,rfl,q⟩:=q1
 cases r1
 exact wpAny_truthy_bool ⟨H1,I1,q⟩
variable {tA tB':TT} {rest:List Expr}
def tAnd(t u:TT):TT:=fun σ H Q=>t σ H fun c H1=>if c=true then u σ H1 Q else Q false H1
def tOr(t u:TT):TT:=fun σ H Q=>t σ H fun c H1=>if c=true then Q true H1 else u σ H1 Q
def tNot(t:TT):TT:=fun σ H Q=>t σ H fun c H1=>Q (!c) H1
theorem pw_and1(ha:PT X a tA):PW X (.BoolOp .And [a] pos) tA:=by
 intro wh pins s σ H Q I h
 refine isTrue_and (thn (ha pins s σ H Q I h) fun c s1 e=>?_)
 cases c with
 | true=>exact isTrue_and_nil e
 | false=>exact e
theorem pw_or1(ha:PT X a tA):PW X (.BoolOp .Or [a] pos) tA:=by
 intro wh pins s σ H Q I h
 refine isTrue_or (thn (ha pins s σ H Q I h) fun c s1 e=>?_)
 cases c with
 | false=>exact isTrue_or_nil e
 | true=>exact e
theorem pw_and(ha:PT X a tA)(hb:PW X (.BoolOp .And (b::rest) pos) tB'):PW X (.BoolOp .And (a::b::rest) pos) (tAnd tA tB'):=by
 intro wh pins s σ H Q I h
 refine isTrue_and (thn (ha pins s σ H _ I h) fun c s1 ⟨H1,I1,q1⟩=>?_)
 cases c with
 | true=>exact hb wh pins s1 σ H1 Q I1 q1
 | false=>exact⟨H1,I1,q1⟩
theorem pw_or(ha:PT X a tA)(hb:PW X (.BoolOp .Or (b::rest) pos) tB'):PW X (.BoolOp .Or (a::b::rest) pos) (tOr tA tB'):=by
 intro wh pins s σ H Q I h
 refine isTrue_or (thn (ha pins s σ H _ I h) fun c s1 ⟨H1,I1,q1⟩=>?_)
 cases c with
 | true=>exact⟨H1,I1,q1⟩
 | false=>exact hb wh pins s1 σ H1 Q I1 q1
theorem pt_not(ha:PT X a tA):PT X (.UnaryOp .Not a pos) (tNot tA):=by
 intro pins s σ H Q I h
 exact isTrue_not (ha pins s σ H (fun c H1=>Q (!c) H1) I h)
def tAndV(ta tb:TE):TE:=fun σ H Q=>ta σ H fun x H1=>∃ c,x=.bl c∧if c=true then tb σ H1 Q else Q (.bl false) H1
theorem pe_one{op}{t:TE}(h:PE X a t):PE X (.BoolOp op [a] pos) t:=fun pins s σ H Q I hw=>BoolOp_one (h pins s σ H Q I hw)
theorem pe_and(ha:PE X a ta)(hb:PE X (.BoolOp .And (b::rest) pos) tb):PE X (.BoolOp .And (a::b::rest) pos) (tAndV ta tb):=by
 intro pins s σ H Q I h
 refine BoolOp_and (thn (ha pins s σ H _ I h) fun v s1 ⟨x,H1,I1,r1,q1⟩=>?_)
 obtain⟨c,rfl,q1⟩:=q1
 cases r1
 refine wpAny_truthy_bool ?_
 cases c with
 | true=>exact hb pins s1 σ H1 Q I1 q1
 | false=>exact⟨.bl false,H1,I1,rfl,q1⟩
def tIf(t:TT)(ta tb:TE):TE:=fun σ H Q=>t σ H fun c H1=>if c=true then ta σ H1 Q else tb σ H1 Q
theorem pe_ifExp{c:Expr}(hc:PT X c tA)(ha:PE X a ta)(hb:PE X b tb):PE X (.IfExp c a b pos) (tIf tA ta tb):=by
 intro pins s σ H Q I h
 refine wpAny_IfExp (thn (hc pins s σ H _ I h) fun d s1 ⟨H1,I1,q1⟩=>?_)
 cases d with
 | true=>exact ha pins s1 σ H1 Q I1 q1
 | false=>exact hb pins s1 σ H1 Q I1 q1
end
end L2
namespace L2
open PySem PySem.Spec PyProof.Rows
def SqL(K:c5t)(H:Hp)(a:Addr)(xs:List V):Prop:=
 Rd H a (.lst xs)∨
   ∃ (o:Obj) (its:Array Value) (n:Nat),K.lookup a=some o∧o.cls=.type "list" ∧ o.dict=none∧o.data=.seq its n∧its.size≤sizeLine∧Vals xs its.toList
def SqT(K:c5t)(H:Hp)(a:Addr)(xs:List V):Prop:=
 Rd H a (.tup xs)∨
   ∃ (o:Obj) (its:Array Value) (n:Nat),K.lookup a=some o∧o.cls=.type "tuple" ∧ o.data=.seq its n∧its.size≤sizeLine∧Vals xs its.toList
def absV:Value→Option V
 | .none=>some .non
 | .bool b=>some (.bl b)
 | .int i _=>some (.int i)
 | .str x _=>some (.str x)
 | .bytes b _=>some (.byt b)
 | .float b _=>some (.flt b)
 | .ref a=>some (.ref a)
 | .type n=>some (.ty n)
 | _=>none
theorem RelV.abs{x:V}{u:Value}(r:RelV x u):absV u=some x:=by
 cases x with
 | non=>cases r;rfl
 | bl _=>cases r;rfl
 | int _=>obtain⟨t,rfl⟩:=r;rfl
 | str _=>obtain⟨t,rfl⟩:=r;rfl
 | byt _=>obtain⟨t,rfl⟩:=r;rfl
 | flt _=>obtain⟨t,rfl⟩:=r;rfl
 | ref _=>cases r;rfl
 | ty _=>cases r;rfl
theorem RelV.inj{x y:V}{u:Value}(r:RelV x u)(q:RelV y u):x=y:=c7z.inj (r.abs.symm.trans q.abs)
theorem Vals.inj:∀ {xs ys:List V} {us:List Value},Vals xs us→Vals ys us→xs=ys
 | _,_,_,.nil,.nil=>rfl
 | _,_,_,.cons r t,.cons r' t'=>by rw[r.inj r',Vals.inj t t']
section
variable {X:Cx} {pins:List (Addr×Obj)} {σ:St} {H:Hp} {s:Shared} {a:Addr} {xs ys:List V}
theorem SqL.of{K:c5t}(h:H a=some (.lst xs)):SqL K H a xs:=.inl (.inl h)
theorem SqT.of{K:c5t}(h:H a=some (.tup xs)):SqT K H a xs:=.inl (.inl h)
theorem Inv.list(I:Inv X pins σ H s)(h:SqL X.K H a xs):∃ its:List Value,Vals xs its∧PlainL s.heap a its.toArray∧xs.length≤sizeLine:=by
 rcases h with h | ⟨o,its,n,hk,hc,hd,hs,hz,r⟩
 · obtain⟨z,its,n,r,e⟩:=h.ok I.hok
   exact⟨its,r,⟨_,n,e,rfl,rfl,rfl⟩,z⟩
 · refine⟨its.toList,r,⟨o,n,I.kIn a o hk,hc,hd,by simpa using hs⟩,?_⟩
   have e:=r.length
   simp only[c7v] at e
   omega
theorem Inv.tuple(I:Inv X pins σ H s)(h:SqT X.K H a xs):∃ its:List Value,Vals xs its∧IsTup s.heap a its.toArray∧xs.length≤sizeLine:=by
 rcases h with h | ⟨o,its,n,hk,hc,hs,hz,r⟩
 · obtain⟨z,its,r,p⟩:=h.ok I.hok
   exact⟨its,r,p,z⟩
 · refine⟨its.toList,r,⟨o,I.kIn a o hk,hc,n,by simpa using hs⟩,?_⟩
   have e:=r.length
   simp only[c7v] at e
   omega
theorem Inv.list_inj(I:Inv X pins σ H s)(h:SqL X.K H a xs)(h':SqL X.K H a ys):xs=ys:=by
 obtain⟨its,r,⟨o,n,e,_,_,d⟩,_⟩:=I.list h
 obtain⟨its',r',⟨o',n',e',_,_,d'⟩,_⟩:=I.list h'
 rw[e] at e';cases e'
 rw[d] at d'
 injection d' with d1 _
 have:its=its':=by simpa using congrArg Array.toList d1
 subst this
 exact r.inj r'
end
abbrev Cx.wish(X:Cx)(E:Value→Shared→Prop):Cx:={ X with xe:=E }
abbrev Cx.nox(X:Cx):Cx:=X.wish fun _ _=>False
theorem Cx.Ok.wish{X:Cx}(ok:X.Ok)(E:Value→Shared→Prop):(X.wish E).Ok:=
 ⟨ok.mod,ok.kind,ok.glob,ok.blt,ok.above,ok.inj,ok.has,ok.cab,ok.hd,ok.frames,ok.stk,ok.exf,ok.bs,ok.bsz,ok.noex,ok.exfs,ok.funs,ok.frf⟩
theorem Cx.Ok.unwish{X:Cx}{E:Value→Shared→Prop}(ok:(X.wish E).Ok):X.Ok:=
 ⟨ok.mod,ok.kind,ok.glob,ok.blt,ok.above,ok.inj,ok.has,ok.cab,ok.hd,ok.frames,ok.stk,ok.exf,ok.bs,ok.bsz,ok.noex,ok.exfs,ok.funs,ok.frf⟩
section
variable {X:Cx} {pins:List (Addr×Obj)} {σ:St} {H:Hp} {s:Shared} {E:Value→Shared→Prop}
theorem Inv.wish(I:Inv X pins σ H s)(E:Value→Shared→Prop):Inv (X.wish E) pins σ H s:=⟨I.ok.wish E,I.os,I.bare,I.base,I.loc,I.cell,I.free,I.freeC,I.pin,I.hok,I.len⟩
theorem Inv.unwish(I:Inv (X.wish E) pins σ H s):Inv X pins σ H s:=⟨I.ok.unwish,I.os,I.bare,I.base,I.loc,I.cell,I.free,I.freeC,I.pin,I.hok,I.len⟩
theorem SP.unwish{D:Ends}{f:Flow}{s':Shared}(h:SP (X.wish E) pins D f s'):SP X pins D f s':=by
 cases f with
 | next=>obtain⟨σ',H',I,q⟩:=h;exact⟨σ',H',I.unwish,q⟩
 | brk=>obtain⟨σ',H',I,q⟩:=h;exact⟨σ',H',I.unwish,q⟩
 | cont=>obtain⟨σ',H',I,q⟩:=h;exact⟨σ',H',I.unwish,q⟩
 | ret u=>obtain⟨v,σ',H',I,r,q⟩:=h;exact⟨v,σ',H',I.unwish,r,q⟩
theorem PSs.nox{st:List Stmt}{t:TS}(h:PSs X.nox st t):PSs X st t:=fun pins s σ H D I hw=>
 wpAny_mono (h pins s σ H D (I.wish _) hw) (fun _ _ q=>q.unwish) fun _ _ z=>False.elim z
end
section
variable {X:Cx} {st:Stmt} {rest:List Stmt} {t u:TS} {e:Expr} {te:TE} {pos:Pos}
def tNext:TS:=fun D σ H=>D.nx σ H
def tSeq(t u:TS):TS:=fun D σ H=>t { D with nx:=u D } σ H
theorem pss_nil:PSs X [] tNext:=fun _ _ σ H _ I h=>wpAny_execs_nil ⟨σ,H,I,h⟩
theorem pss_cons(h1:PS X st t)(h2:PSs X rest u):PSs X (st::rest) (tSeq t u):=by
 intro pins s σ H D I h
 refine wpAny_execs_cons (thn (h1 pins s σ H { D with nx:=u D } I h) fun f s1 q=>?_)
 cases f with
 | next=>
   obtain⟨σ',H',I',q⟩:=q
   exact h2 pins s1 σ' H' D I' q
 | ret v=>exact q
 | brk=>exact q
 | cont=>exact q
theorem pss_one(h1:PS X st t):PSs X [st] t:=by
 intro pins s σ H D I h
 refine wpAny_execs_cons (thn (h1 pins s σ H D I h) fun f s1 q=>?_)
 cases f with
 | next=>exact wpAny_execs_nil q
 | ret v=>exact q
 | brk=>exact q
 | cont=>exact q
theorem Inv.quiet{pins:List (Addr×Obj)}{σ:St}{H:Hp}{s:Shared}(I:Inv X pins σ H s):interactive X.env=false:=by simp[interactive,I.ok.kind]
def tDrop(te:TE):TS:=fun D σ H=>te σ H fun _ H1=>D.nx σ H1
theorem ps_expr(he:PE X e te)(hs:swapsWith e none pos.line X.env=pure false:=by rfl):PS X (.Expr e pos) (tDrop te):=by
 intro pins s σ H D I h
 exact wpAny_Expr_any (thn (he pins s σ H _ I h) fun v s1 ⟨x,H1,I1,r1,q1⟩=>⟨σ,H1,I1,q1⟩) I.quiet hs
def tRet(te:TE):TS:=fun D σ H=>te σ H D.rt
theorem ps_ret(he:PE X e te):PS X (.Return (some e) pos) (tRet te):=by
 intro pins s σ H D I h
 exact wpAny_Return_some (thn (he pins s σ H _ I h) fun v s1 ⟨x,H1,I1,r1,q1⟩=>⟨x,σ,H1,I1,r1,q1⟩)
def tIfS(c:TT)(t u:TS):TS:=fun D σ H=>c σ H fun b H1=>if b=true then t D σ H1 else u D σ H1
theorem ps_if{c:Expr}{a b:List Stmt}{tc:TT}(hc:PT X c tc)(ha:PSs X a t)(hb:PSs X b u):PS X (.If c a b pos) (tIfS tc t u):=by
 intro pins s σ H D I h
 refine wpAny_If (thn (hc pins s σ H _ I h) fun d s1 ⟨H1,I1,q1⟩=>?_)
 cases d with
 | true=>exact ha pins s1 σ H1 D I1 q1
 | false=>exact hb pins s1 σ H1 D I1 q1
def tNever:TS:=fun _ _ _=>False
theorem ps_never:PS X st tNever:=fun _ _ _ _ _ _ h=>h.elim
end
abbrev TG:=V→St→Hp→(St→Hp→Prop)→Prop
abbrev TGs:=List V→St→Hp→(St→Hp→Prop)→Prop
def PG(X:Cx)(target:Expr)(t:TG):Prop:=
 ∀ (pins:List (Addr×Obj)) (s:Shared) (σ:St) (H:Hp) (v:V) (u:Value) (Q:St→Hp→Prop),Inv X pins σ H s→RelV v u→t v σ H Q→
   wpAny (model X.prog X.w) X.A (assign target X.env u) (fun _ s'=>∃ σ' H',Inv X pins σ' H' s'∧Q σ' H') X.xe s
def PGs(X:Cx)(ts:List Expr)(t:TGs):Prop:=
 ∀ (pins:List (Addr×Obj)) (s:Shared) (σ:St) (H:Hp) (vs:List V) (us:List Value) (Q:St→Hp→Prop),Inv X pins σ H s→Vals vs us→t vs σ H Q→
   wpAny (model X.prog X.w) X.A (assignInOrder ((assignEach ts X.env).map (·.2)) us) (fun _ s'=>∃ σ' H',Inv X pins σ' H' s'∧Q σ' H') X.xe s
abbrev TSet:=V→V→V→Hp→(Hp→Prop)→Prop
def PSet(X:Cx)(t:TSet):Prop:=
 ∀ (pins:List (Addr×Obj)) (s:Shared) (σ:St) (H:Hp) (o i v:V) (ov iv u:Value) (Q:Hp→Prop),Inv X pins σ H s→RelV o ov→RelV i iv→RelV v u→t o i v H Q→
   wpAny (model X.prog X.w) X.A (setItem ov iv u) (fun _ s'=>∃ H',Inv X pins σ H' s'∧Q H') X.xe s
section
variable {X:Cx} {pos:Pos}
def a3l(i:Nat):TG:=fun v σ H Q=>Q (σ.set i (some v)) H
theorem pg_name{i:Nat}{x:Str}(hN:X.N.Nodup)(hi:X.N[i]?=some x)(hx:Loc X.env.scope x)(hf:X.fn x=true∨X.env.scope.names.lookup x=some .local:=by first | exact .inl rfl | exact .inr rfl | assumption):PG X (.Name x pos) (a3l i):=by
 intro pins s σ H v u Q I r h
 exact wpAny_assign_Name (a7a I hN hi hx r (fun s' I'=>⟨_,H,I',h⟩) hf)
def gNil:TGs:=fun vs σ H Q=>vs=[]∧Q σ H
def b5r(t:TG)(u:TGs):TGs:=fun vs σ H Q=>∃ v r,vs=v::r∧t v σ H fun σ' H'=>u r σ' H' Q
theorem pgs_nil:PGs X [] gNil:=by
 intro pins s σ H vs us Q I r h
 obtain⟨e,h⟩:=h
 subst e
 cases r
 exact assignInOrder_nil ⟨σ,H,I,h⟩
theorem pgs_cons{e:Expr}{es:List Expr}{t:TG}{u:TGs}(h1:PG X e t)(h2:PGs X es u)(hs:(assignEach (e::es) X.env).map (·.2)=assign e X.env::(assignEach es X.env).map (·.2):=by rfl):PGs X (e::es) (b5r t u):=by
 intro pins s σ H vs us Q I r h
 obtain⟨v,vr,e1,h⟩:=h
 subst e1
 cases r with
 | cons r rr=>
   rw[hs]
   refine assignInOrder_cons (thn (h1 pins s σ H _ _ _ I r h) fun _ s1 ⟨σ1,H1,I1,q1⟩=>?_)
   exact h2 pins s1 σ1 H1 _ _ Q I1 rr q1
def gTup(K:c5t)(n:Nat)(t:TGs):TG:=fun v σ H Q=>∃ a xs,v=.ref a∧SqT K H a xs∧xs.length=n∧t xs σ H Q
theorem pg_tup{es:List Expr}{k:Nat}{t:TGs}{n:Nat}(hc:X.calm=true)(h:PGs X es t)(hn:(assignEach es X.env).length=n:=by rfl)(hst:(assignEach es X.env).findIdx? (·.1)=none:=by rfl):PG X (.Tuple es k pos) (gTup X.K n t):=by
 intro pins s σ H v u Q I r hw
 obtain⟨a,xs,e1,hq,hl,hw⟩:=hw
 subst e1
 cases r
 obtain⟨its,rv,ht,hz⟩:=I.tuple hq
 refine assign_Tuple_tuple (I.ok.hd hc) ht (by simp[hn,← hl,rv.length]) hst fun h' hx=>?_
 have I1:Inv X pins σ H { s with heap:=h' }:=I.kept (t':=s.toks) fun b o e=>hx b o (c6s (Heap.lt_size e)) e
 exact h pins _ σ H xs _ Q I1 (by simpa using rv) hw
def gSub(to ti:TE)(t:TSet):TG:=fun v σ H Q=>to σ H fun o H1=>ti σ H1 fun i H2=>t o i v H2 fun H3=>Q σ H3
theorem pg_sub{o i:Expr}{to ti:TE}{t:TSet}(ho:PE X o to)(hi:PE X i ti)(hs:PSet X t)(ha:∀ v,assign (.Subscript o i pos) X.env v=(do
     let ov ← holding [v] (eval o X.env)
     let iv ← holding [v,ov] (eval i X.env)
     standAt pos
     holding [v,ov,iv] (setItem ov iv v)
     release [v,ov,iv] []):=by intro _;rfl):PG X (.Subscript o i pos) (gSub to ti t):=by
 intro pins s σ H v u Q I r h
 rw[ha]
 refine wpAny_bind (wpAny_holding (thn (ho pins s σ H _ I h) fun ov s1 ⟨x,H1,I1,r1,q1⟩=>?_))
 refine wpAny_bind (wpAny_holding (thn (hi pins s1 σ H1 _ I1 q1) fun iv s2 ⟨y,H2,I2,r2,q2⟩=>?_))
 refine wpAny_bind (wpAny_standAt (wpAny_bind (wpAny_holding (thn (hs pins s2 σ H2 x y v ov iv u _ I2 r1 r2 r q2) fun _ s3 ⟨H3,I3,q3⟩=>?_))))
 exact wpAny_release ⟨σ,H3,I3,q3⟩
def tAsg(te:TE)(g:TG):TS:=fun D σ H=>te σ H fun x H1=>g x σ H1 D.nx
theorem ps_asg{tg e:Expr}{te:TE}{g:TG}(he:PE X e te)(hg:PG X tg g)(hs:swapsWithSole [tg] e pos.line X.env=pure false:=by rfl)(hw:swappedStores [tg] e X.env=pure none:=by rfl)(h1:(assignEach [tg] X.env).map (·.2)=[assign tg X.env]:=by rfl):PS X (.Assign [tg] e pos) (tAsg te g):=by
 intro pins s σ H D I h
 refine wpAny_Assign_stores (thn (he pins s σ H _ I h) fun v s1 ⟨x,H1,I1,r1,q1⟩=>?_) hs hw
 rw[h1]
 exact thn (hg pins s1 σ H1 x v _ I1 r1 q1) fun _ s2 q=>q
theorem ps_set{i:Nat}{x:Str}{e:Expr}{te:TE}{pos':Pos}(hN:X.N.Nodup)(hi:X.N[i]?=some x)(hx:Loc X.env.scope x)(he:PE X e te)(hs:swapsWith e (some (.Name x pos')) pos.line X.env=pure false:=by rfl)(hf:X.fn x=true∨X.env.scope.names.lookup x=some .local:=by first | exact .inl rfl | exact .inr rfl | assumption) :
   PS X (.Assign [.Name x pos'] e pos) (tAsg te (a3l i)):=by
 intro pins s σ H D I h
 refine wpAny_Assign_Name (thn (he pins s σ H _ I h) fun v s1 ⟨y,H1,I1,r1,q1⟩=>?_) hs
 exact a7a I1 hN hi hx r1 (fun s2 I2=>⟨_,H1,I2,q1⟩) hf
def tPar(i j:Nat)(ta:TA):TS:=fun D σ H=>ta σ H fun vs H1=>∃ v w,vs=[v,w]∧D.nx ((σ.set i (some v)).set j (some w)) H1
theorem ps_par{i j:Nat}{x y:Str}{a b:Expr}{ta:TA}{px py pt:Pos}{kt k2 pt2}(hc:X.calm=true)(hN:X.N.Nodup)(hi:X.N[i]?=some x)(hj:X.N[j]?=some y)(hij:i≠j)(hx:X.env.scope.names.lookup x=some .local)(hy:X.env.scope.names.lookup y=some .local)(ha:PA X [a,b] ta)(hw:swappedStores [.Tuple [.Name x px,.Name y py] kt pt] (.Tuple [a,b] k2 pt2) X.env=pure (some [x,y]))(hs:swapsWithSole [.Tuple [.Name x px,.Name y py] kt pt] (.Tuple [a,b] k2 pt2) pos.line X.env=pure false:=by rfl) :
   PS X (.Assign [.Tuple [.Name x px,.Name y py] kt pt] (.Tuple [a,b] k2 pt2) pos) (tPar i j ta):=by
 intro pins s σ H D I h
 rw[exec_Assign_arm]
 refine wpAny_bind (wpAny_standAt ?_)
 rw[hs]
 refine wpAny_bind (wpAny_pure ?_)
 rw[if_neg (by decide)]
 refine wpAny_bind (Tuple_ (thn (ha _ pins s σ H _ I h) fun us s1 ⟨vs,H1,I1,r1,q1⟩=>?_))
 obtain⟨v,w,e1,q1⟩:=q1
 subst e1
 obtain⟨u1,u2,rfl,rv,rw'⟩ : ∃ u1 u2,us=[u1,u2]∧RelV v u1∧RelV w u2:=by
   cases r1 with
   | cons p q=>
     cases q with
     | cons p' q'=>
       cases q'
       exact⟨_,_,rfl,p,p'⟩
 refine wpAny_newObj_type ?_ (by show 2≤sizeLine;decide)
 have I2:Inv X pins σ H1 { s1 with heap:=s1.heap.push { cls:=.type "tuple",data:=.seq [u1,u2].toArray } }:=I1.kept (t':=s1.toks) fun b o e=>Heap.get?_push_of_some _ e
 rw[hw]
 refine wpAny_bind (wpAny_pure ?_)
 show wpAny (model X.prog X.w) X.A (do rule "assign.swapped-stores";let items ← unpackItems (.ref s1.heap.objs.size) 2 none;assignInOrder [fun v=>bindName X.env y v,fun v=>bindName X.env x v] items.reverse;pure Flow.next) _ _ _
 refine wpAny_bind (wpAny_rule (wpAny_bind (unpackItems_tuple (items:=#[u1,u2]) (I.ok.hd hc) (IsTup.new s1.heap _) fun h' hx'=>?_)))
 have I3:=I2.kept (h':=h') (t':=s1.toks) fun b o e=>hx' b o (c6s (Heap.lt_size e)) e
 show wpAny _ _ (assignInOrder [fun v=>bindName X.env y v,fun v=>bindName X.env x v] [u2,u1] >>= fun _=>pure Flow.next) _ _ _
 refine wpAny_bind (assignInOrder_cons (wpAny_bindName (a7a I3 hN hj (.inl hy) rw' (fun s2 I4=>?_) (.inr hy))))
 refine assignInOrder_cons (wpAny_bindName (a7a I4 hN hi (.inl hx) rv (fun s3 I5=>assignInOrder_nil (wpAny_pure ?_)) (.inr hx)))
 rw[List.set_comm _ _ (Ne.symm hij)] at I5
 exact⟨_,H1,I5,q1⟩
end
section
variable {X:Cx} {pos:Pos}
def c1d(c:TT)(tb:TS):TS:=fun D σ H=>∃ W:Nat→St→Hp→Prop,(∃ m,W m σ H)∧∀ m σ H,W m σ H→
 c σ H fun b H1=>if b=true then ∃ N:St→Hp→Prop,(∀ σ' H',N σ' H'→∃ m',m' < m∧W m' σ' H')∧tb { D with nx:=N,ct:=N,bk:=D.nx } σ H1 else D.nx σ H1
theorem ps_while{c:Expr}{body:List Stmt}{tc:TT}{tb:TS}(hp:PassesOwn (model X.prog X.w) X.A X.env X.xe)(hc:PT X c tc)(hb:PSs X body tb):PS X (.While c body [] pos) (c1d tc tb):=by
 intro pins s σ H D I h
 obtain⟨W,⟨m0,w0⟩,turn⟩:=h
 refine wpAny_While (codeAny_whileLoop (fun n s'=>∃ σ' H',Inv X pins σ' H' s'∧W n σ' H') ?_ m0 ⟨σ,H,I,w0⟩)
 rintro n s1 ⟨σ1,H1,I1,w1⟩
 refine wpAny_passesOwn hp (thn (hc pins s1 σ1 H1 _ I1 (turn n σ1 H1 w1)) fun b s2 ⟨H2,I2,q2⟩=>?_)
 cases b with
 | true=>
   obtain⟨N,hN,q2⟩:=q2
   rw[if_pos rfl]
   refine wpAny_passesOwn hp (thn (hb pins s2 σ1 H2 _ I2 q2) fun f s3 q3=>?_)
   cases f with
   | next=>
     obtain⟨σ3,H3,I3,n3⟩:=q3
     obtain⟨m',hm,w3⟩:=hN σ3 H3 n3
     exact⟨m',hm,σ3,H3,I3,w3⟩
   | cont=>
     obtain⟨σ3,H3,I3,n3⟩:=q3
     obtain⟨m',hm,w3⟩:=hN σ3 H3 n3
     exact⟨m',hm,σ3,H3,I3,w3⟩
   | brk=>exact q3
   | ret v=>exact q3
 | false=>
   rw[if_neg c6k]
   exact wpAny_execs_nil ⟨σ1,H2,I2,q2⟩
end
structure It where
 go:Nat→Hp→Prop
 yld:Nat→Hp→V→Hp→Prop
 stop:Nat→Hp→Prop
def FpOk(X:Cx)(pins:List (Addr×Obj))(H:Hp)(b:Addr):Prop:=
 H b=none∧b≠X.env.locals∧b∉X.fs∧(b∈X.ex∨X.s₀.heap.objs.size≤b)∧(∀ x c,X.env.cells.lookup x=some c→c≠b)∧∀ p∈X.pn++pins,p.1≠b
theorem Inv.fpOk{X:Cx}{pins:List (Addr×Obj)}{σ:St}{H H':Hp}{s:Shared}{b:Addr}(I:Inv X pins σ H s)(hb:s.heap.objs.size≤b)(hn:H' b=none):FpOk X pins H' b:=by
 refine⟨hn,Nat.ne_of_gt (c6j I.lt hb),I.nofs hb,.inr (c6x I.sz hb),fun x c e z=>?_,fun p hp z=>?_⟩
 · obtain⟨v,q⟩:=I.cell x c e
   exact absurd (c6j q.lt (by rw[z];exact hb)) (c8d _)
 · exact absurd (c6j (Heap.lt_size (I.pin p hp).1) (by rw[z];exact hb)) (c8d _)
structure Turn(P:Program)(w:World)(K:c5t)(tg:Expr)(J:It)(fp:List Addr)(it:Addr)(tn:Nat→Heap→Prop):Prop where
 mem:it∈fp
 obj:∀ i h,tn i h→∀ b∈fp,∃ o,h.get? b=some o∧∀ v,o.data≠.cell v
 keep:∀ i h h',tn i h→(∀ b∈fp,∀ o,h.get? b=some o→h'.get? b=some o)→tn i h'
 item:∀ (X:Cx),X.prog=P→X.w=w→X.K=K→X.calm=true→∀ (i:Nat) (pins:List (Addr×Obj)) (s:Shared) (σ:St) (H:Hp) (E:Value→Shared→Prop),Inv X pins σ H s→(∀ b∈fp,FpOk X pins H b)→tn i s.heap→J.go i H→
   wpAny (model P w) X.A (pyNext (.ref it)) (fun r s1=>∃ u,r=some u∧
     wpAny (model P w) X.A (letOwnedTupleGo tg (.ref it) u) (fun _ s2=>∃ x H',Inv X pins σ H' s2∧RelV x u∧J.yld i H x H'∧tn (i+1) s2.heap∧∀ b∈fp,H' b=none) E s1) E s
 done:∀ (X:Cx),X.prog=P→X.w=w→X.K=K→X.calm=true→∀ (i:Nat) (pins:List (Addr×Obj)) (s:Shared) (σ:St) (H:Hp) (E:Value→Shared→Prop),Inv X pins σ H s→(∀ b∈fp,FpOk X pins H b)→tn i s.heap→J.stop i H→
   wpAny (model P w) X.A (pyNext (.ref it)) (fun r s1=>r=none∧Inv X pins σ H s1) E s
 self:∀ (A:Around) (i:Nat) (s:Shared) (Q:Value→Shared→Prop) (E:Value→Shared→Prop),tn i s.heap→Q (.ref it) s→wpAny (model P w) A (pyIter (.ref it)) Q E s
abbrev TI:=St→Hp→(It→Hp→Prop)→Prop
def PIE(X:Cx)(pins:List (Addr×Obj))(σ:St)(tg:Expr)(R:It→Hp→Prop)(itv:Value)(s2:Shared):Prop:=
 ∃ (it:Addr) (fp:List Addr) (tn:Nat→Heap→Prop) (J:It) (H':Hp),itv=.ref it∧Inv X pins σ H' s2∧Turn X.prog X.w X.K tg J fp it tn∧tn 0 s2.heap∧(∀ b∈fp,FpOk X pins H' b)∧R J H'
def PI(X:Cx)(tg iter:Expr)(wi:TI):Prop:=
 ∀ (pins:List (Addr×Obj)) (s:Shared) (σ:St) (H:Hp) (R:It→Hp→Prop),Inv X pins σ H s→wi σ H R→
   wpAny (model X.prog X.w) X.A (eval iter X.env) (fun v s1=>wpAny (model X.prog X.w) X.A (pyIter v) (PIE X pins σ tg R) X.xe s1) X.xe s
theorem go_of{M:Model}{A:Around}{E:Value→Shared→Prop}{s:Shared}{tg:Expr}{it:Addr}{u:Value}{o:Obj}{n:String}{vs:Array Value}{Q:Unit→Shared→Prop}(ho:s.heap.get? it=some o)(hc:o.cls=.type n)(hd:o.data=.fields vs)(hn:["enumerate","zip","dict_itemiterator","dict_reverseitemiterator","odict_iterator","itertools.zip_longest","itertools.pairwise"].contains n=false)(hQ:Q () s):wpAny M A (letOwnedTupleGo tg (.ref it) u) Q E s:=by
 unfold letOwnedTupleGo
 cases tg<;>first
   | exact wpAny_pure hQ
   | (cases u<;>first
       | exact wpAny_pure hQ
       | (refine wpAny_bind (wpAny_load ho ?_)
          rw[hc,hd]
          show wpAny M A (if (["enumerate","zip","dict_itemiterator","dict_reverseitemiterator","odict_iterator","itertools.zip_longest","itertools.pairwise"].contains n && vs[0]? == some (rawInt _))=true then _ else _) Q E s
          rw[if_neg (by intro h;rw[hn,Bool.false_and] at h;cases h)]
          exact wpAny_pure hQ))
def Itl(K:c5t)(a:Addr):It:=
 ⟨fun i H=>∃ xs x,SqL K H a xs∧xs[i]?=some x,fun i H x H'=>H'=H∧∀ xs,SqL K H a xs→xs[i]?=some x,fun i H=>∃ xs,SqL K H a xs∧xs.length≤i⟩
def Itr(lo:Int)(n:Nat):It:=⟨fun i _=>i<n,fun i H x H'=>H'=H∧x=.int (lo+i),fun i _=>n≤i⟩
theorem c1b{P:Program}{w:World}{K:c5t}{tg:Expr}(a it:Addr):Turn P w K tg (Itl K a) [it] it (fun i h=>h.IsListIter it a i) where
 mem:=by simp
 obj:=fun i h st b hb=>by
   have e:b=it:=by simpa using hb
   subst e
   obtain⟨o,e,c,d⟩:=st
   exact⟨o,e,fun v z=>by rw[d] at z;cases z⟩
 keep:=fun i h h' st k=>st.at fun o e=>k it (by simp) o e
 item:=by
   intro X hP hw hK hc i pins s σ H E I hf st hg
   subst hP hw hK
   obtain⟨xs,x,hq,hx⟩:=hg
   obtain⟨its,rv,p,hz⟩:=I.list hq
   obtain⟨u,hu,ru⟩:=rv.get hx
   obtain⟨f0,f1,f2,f3,f4,f5⟩:=hf it (by simp)
   refine wpAny_pyNext_list_item st p.isList (x:=u) (by simpa using hu) fun h' st' sb=>?_
   have I1:Inv X pins σ H { s with heap:=h' }:=I.turned (t':=s.toks) (fun b o hb e=>(sb.2 b hb).trans e) f0 f1 f3 f4 f5
   obtain⟨o,e,c,d⟩:=id st'
   exact⟨u,rfl,go_of (s:={ s with heap:=h' }) e c d (by decide) ⟨x,H,I1,ru,⟨rfl,fun ys hy=>by rw[I.list_inj hy hq];exact hx⟩,st',fun b hb=>(hf b hb).1⟩⟩
 done:=by
   intro X hP hw hK hc i pins s σ H E I hf st hg
   subst hP hw hK
   obtain⟨xs,hq,hx⟩:=hg
   obtain⟨its,rv,p,hz⟩:=I.list hq
   obtain⟨f0,f1,f2,f3,f4,f5⟩:=hf it (by simp)
   have hl:=rv.length
   exact wpAny_pyNext_list_end (I.ok.hd hc) st p.isList (by simp;omega) fun h' eb=>⟨rfl,I.turned (t':=s.toks) (fun b o hb e=>eb b o hb e) f0 f1 f3 f4 f5⟩
 self:=fun _ _ _ _ _ st h=>wpAny_pyIter_listiter st h
theorem a8n{P:Program}{w:World}{K:c5t}{tg:Expr}(it:Addr)(lo:Int)(n:Nat):Turn P w K tg (Itr lo n) [it] it (fun i h=>IsRangeIter h it (lo+(i:Nat)*1) ((n:Int) - (i:Nat)) 1) where
 mem:=by simp
 obj:=fun i h st b hb=>by
   have e:b=it:=by simpa using hb
   subst e
   exact⟨_,st,fun v z=>by
     have z':Data.fields _=Data.cell v:=z
     cases z'⟩
 keep:=fun i h h' st k=>k it (by simp) _ st
 item:=by
   intro X hP hw hK hc i pins s σ H E I hf st hg
   subst hP hw hK
   obtain⟨f0,f1,f2,f3,f4,f5⟩:=hf it (by simp)
   have W:=Walks.range (prog:=X.prog) (w:=X.w) (I.ok.hd hc) it lo 1 n
   refine W.item i s _ _ hg st fun v h' tk hv st' kk=>?_
   obtain⟨t,rfl⟩:=hv
   have I1:Inv X pins σ H { s with heap:=h',toks:=tk }:=I.turned (fun b o hb e=>kk b o (by simpa using hb) e) f0 f1 f3 f4 f5
   refine⟨_,rfl,go_of (s:={ s with heap:=h',toks:=tk }) (n := "range_iterator") st' rfl rfl (by decide) ⟨.int (lo+i),H,I1,⟨t,?_⟩,⟨rfl,rfl⟩,st',fun b hb=>(hf b hb).1⟩⟩
   rw[Int.mul_one]
 done:=by
   intro X hP hw hK hc i pins s σ H E I hf st hg
   subst hP hw hK
   obtain⟨f0,f1,f2,f3,f4,f5⟩:=hf it (by simp)
   exact wpAny_pyNext_range_end (I.ok.hd hc) st (by have:n≤i:=hg;omega) fun h' eb=>⟨rfl,I.turned (t':=s.toks) (fun b o hb e=>eb b o hb e) f0 f1 f3 f4 f5⟩
 self:=fun _ _ _ _ _ st h=>wpAny_pyIter_rangeiter st h
end L2
namespace L2
open PySem PySem.Spec PyProof.Rows
section
variable {X:Cx} {tg:Expr}
def iList(K:c5t)(tl:TE):TI:=fun σ H R=>tl σ H fun x H1=>∃ a,x=.ref a∧(∃ xs,SqL K H1 a xs)∧R (Itl K a) H1
theorem pi_list{l:Expr}{tl:TE}(hl:PE X l tl):PI X tg l (iList X.K tl):=by
 intro pins s σ H R I h
 refine thn (hl pins s σ H _ I h) fun v s1 ⟨x,H1,I1,r1,q1⟩=>?_
 obtain⟨a,e,⟨xs,hq⟩,q⟩:=q1
 subst e
 cases r1
 obtain⟨its,rv,p,hz⟩:=I1.list hq
 refine wpAny_pyIter_list p.isList ?_
 refine⟨s1.heap.objs.size,[s1.heap.objs.size],_,_,H1,rfl,I1.kept (t':=s1.toks) fun b o e=>Heap.get?_push_of_some _ e,c1b a _,⟨_,Heap.get?_push_size _ rfl,rfl,rfl⟩,fun b hb=>?_,q⟩
 have e:b=s1.heap.objs.size:=by simpa using hb
 subst e
 exact I1.fpOk (c6l _) (I1.hok.fresh (c6l _))
theorem b8s{pins:List (Addr×Obj)}{σ:St}{H:Hp}{s:Shared}{R:It→Hp→Prop}{E:Value→Shared→Prop}{lo hi:Int}{t u v:Tok}{tk:Nat}(I:Inv X pins σ H s)(h1:-(2^62)≤lo)(h2:lo<2^62)(h3:-(2^62)≤hi)(h4:hi<2^62)(q:R (Itr lo (hi - lo).toNat) H):wpAny (model X.prog X.w) X.A (pyIter (.ref s.heap.objs.size)) (PIE X pins σ tg R) E { s with heap:=s.heap.push { cls:=.type "range",data:=.fields #[.int lo t,.int hi u,.int 1 v] },toks:=tk }:=by
 refine wpAny_pyIter_range (IsRange.new ..) (small_one h1 h2 h3 h4) ?_
 have I1:Inv X pins σ H { s with heap:=s.heap.push { cls:=.type "range",data:=.fields #[.int lo t,.int hi u,.int 1 v] },toks:=tk }:=I.kept fun b o e=>Heap.get?_push_of_some _ e
 refine⟨(s.heap.push { cls:=.type "range",data:=.fields #[.int lo t,.int hi u,.int 1 v] }).objs.size,[(s.heap.push { cls:=.type "range",data:=.fields #[.int lo t,.int hi u,.int 1 v] }).objs.size],_,_,H,rfl,
   I1.kept (t':=tk) fun b o e=>Heap.get?_push_of_some _ e,a8n _ lo (hi - lo).toNat,?_,fun b hb=>?_,q⟩
 · have e1:lo+((0:Nat):Int)*1=lo:=by simp
   have e2:(((hi - lo).toNat:Nat):Int) - ((0:Nat):Int)=Builtin.Range.rangeSize lo hi 1:=by rw[rangeSize_one];split<;>omega
   show IsRangeIter _ _ (lo+((0:Nat):Int)*1) ((((hi - lo).toNat:Nat):Int) - ((0:Nat):Int)) 1
   rw[e1,e2]
   exact Heap.get?_push_size _ rfl
 · have e:b=(s.heap.push { cls:=.type "range",data:=.fields #[.int lo t,.int hi u,.int 1 v] }).objs.size:=by simpa using hb
   subst e
   exact I1.fpOk (c6l _) (I1.hok.fresh (c6l _))
def iRng1(ta:TA):TI:=fun σ H R=>ta σ H fun vs H1=>∃ j:Int,vs=[.int j]∧-(2^62)≤j∧j<2^62∧R (Itr 0 j.toNat) H1
def iRng2(ta:TA):TI:=fun σ H R=>ta σ H fun vs H1=>∃ i j:Int,vs=[.int i,.int j]∧(-(2^62)≤i∧i<2^62∧-(2^62)≤j∧j<2^62)∧R (Itr i (j - i).toNat) H1
theorem c3d{a:Expr}{ta:TA}{p pos:Pos}(hg:Gl X "range")(hm:X.mg "range" = none)(ha:PA X [a] ta)(hs:starEach [a] X.env=[(false,eval a X.env)]:=by rfl):PI X tg (.Call (.Name "range" p) [a] [] pos) (iRng1 ta):=by
 intro pins s σ H R I h
 refine Call_ (b1a I hg hm boot_range (c8l (thn (ha pos pins s σ H _ I h) fun us s1 ⟨vs,H1,I1,r1,q1⟩=>?_) hs rfl))
 obtain⟨j,e,q1,q2,q⟩:=q1
 subst e
 cases r1 with
 | cons r rr=>
   cases rr
   obtain⟨t,rfl⟩:=r
   exact call_range_1 (b8s I1 (by omega) (by omega) q1 q2 (by simpa using q))
theorem c3c{a b:Expr}{ta:TA}{p pos:Pos}(hg:Gl X "range")(hm:X.mg "range" = none)(ha:PA X [a,b] ta)(hs:starEach [a,b] X.env=[(false,eval a X.env),(false,eval b X.env)]:=by rfl)(hs2:starEach [b] X.env=[(false,eval b X.env)]:=by rfl) :
   PI X tg (.Call (.Name "range" p) [a,b] [] pos) (iRng2 ta):=by
 intro pins s σ H R I h
 refine Call_ (b1a I hg hm boot_range (c8l (thn (ha pos pins s σ H _ I h) fun us s1 ⟨vs,H1,I1,r1,q1⟩=>?_) (by rw[hs,hs2]) (by rw[hs2];rfl)))
 obtain⟨i,j,e,⟨q1,q2,q3,q4⟩,q⟩:=q1
 subst e
 cases r1 with
 | cons r rr=>
   cases rr with
   | cons r' rr=>
     cases rr
     obtain⟨t,rfl⟩:=r
     obtain⟨t',rfl⟩:=r'
     exact call_range_2 (b8s I1 q1 q2 q3 q4 q)
def tFor(wi:TI)(g:TG)(tb:TS):TS:=fun D σ H=>wi σ H fun J H1=>∃ W:Nat→Nat→St→Hp→Prop,(∃ m,W 0 m σ H1)∧∀ i m σ H,W i m σ H→
 (J.stop i H∧D.nx σ H)∨(J.go i H∧∃ N:St→Hp→Prop,(∀ σ' H',N σ' H'→∃ m',m' < m∧W (i+1) m' σ' H')∧∀ x H',J.yld i H x H'→g x σ H' fun σ2 H2=>tb { D with nx:=N,ct:=N,bk:=D.nx } σ2 H2)
def b1z(fp:List Addr)(h:Heap):List (Addr×Obj):=fp.filterMap fun b=>(h.get? b).map fun o=>(b,o)
theorem a5d{fp:List Addr}{h:Heap}{b:Addr}{o:Obj}(hb:b∈fp)(e:h.get? b=some o):(b,o)∈b1z fp h:=List.mem_filterMap.mpr ⟨b,hb,by rw[e];rfl⟩
theorem c4a{fp:List Addr}{h:Heap}{p:Addr×Obj}(hp:p∈b1z fp h):p.1∈fp∧h.get? p.1=some p.2:=by
 obtain⟨b,hb,e⟩:=List.mem_filterMap.mp hp
 cases q:h.get? b with
 | none=>rw[q] at e;cases e
 | some o=>
   rw[q] at e
   have e':(b,o)=p:=c7z.inj e
   subst e'
   exact⟨hb,q⟩
theorem Inv.pinned{pins:List (Addr×Obj)}{σ:St}{H:Hp}{s:Shared}{fp:List Addr}(I:Inv X pins σ H s)(hf:∀ b∈fp,FpOk X pins H b)(ho:∀ b∈fp,∃ o,s.heap.get? b=some o∧∀ v,o.data≠.cell v):Inv X (pins++b1z fp s.heap) σ H s:=
 I.pins_of fun p hp=>(c7t.mp hp).elim (fun z=>I.pin p (c6q _ z)) fun z=>by
   obtain⟨hb,e⟩:=c4a z
   obtain⟨f0,f1,f2,_⟩:=hf p.1 hb
   obtain⟨o,e',d⟩:=ho p.1 hb
   rw[e] at e';cases e'
   exact⟨e,f0,f1,f2,d⟩
theorem Inv.unpinned{pins pl:List (Addr×Obj)}{σ:St}{H:Hp}{s:Shared}(I:Inv X (pins++pl) σ H s):Inv X pins σ H s:=I.pins_of fun p hp=>I.pin p (c6q _ (c9w _ hp))
theorem ps_for{iter:Expr}{body:List Stmt}{wi:TI}{g:TG}{tb:TS}{pos:Pos}(hp:PassesOwn (model X.prog X.w) X.A X.env X.xe)(hc:X.calm=true)(hi:PI X tg iter wi)(hg:PG X tg g)(hb:PSs X body tb)(hs:∀ x,foldedSetIterable iter X.env x=pure x:=by intro _;rfl):PS X (.For tg iter body [] pos) (tFor wi g tb):=by
 intro pins s σ H D I h
 refine wpAny_For (thn (hi pins s σ H _ I h) fun v s1 h1=>thn h1 fun itv s2 h2=>?_) hs
 obtain⟨it,fp,tn,J,H2,e,I2,T,st2,f2,W,⟨m0,w0⟩,turn⟩:=h2
 subst e
 have stat:∀ {H':Hp},(∀ b∈fp,H' b=none)→∀ b∈fp,FpOk X pins H' b:=fun hn b hb=>⟨hn b hb,(f2 b hb).2⟩
 refine codeAny_forLoop_any (fun n s'=>∃ i σ' H',Inv X pins σ' H' s'∧tn i s'.heap∧(∀ b∈fp,H' b=none)∧W i n σ' H') ?_ m0 ⟨0,σ,H2,I2,st2,fun b hb=>(f2 b hb).1,w0⟩
 rintro n s3 ⟨i,σ3,H3,I3,st3,fr3,w3⟩
 rcases turn i n σ3 H3 w3 with⟨stop,qn⟩ | ⟨go,N,hN,step⟩
 · refine wpAny_passesOwn hp (thn (T.done X rfl rfl rfl hc i pins s3 σ3 H3 X.xe I3 (stat fr3) st3 stop) fun r s4 ⟨hr,I4⟩=>?_)
   subst hr
   exact wpAny_execs_nil ⟨σ3,H3,I4,qn⟩
 · refine wpAny_passesOwn hp (thn (T.item X rfl rfl rfl hc i pins s3 σ3 H3 X.xe I3 (stat fr3) st3 go) fun r s4 ⟨u,hr,h4⟩=>?_)
   subst hr
   refine wpAny_passesOwn hp (thn h4 fun _ s5 ⟨x,H5,I5,r5,y5,st5,fr5⟩=>?_)
   have I5':=I5.pinned (stat fr5) (T.obj _ _ st5)
   refine wpAny_passesOwn hp (thn (hg _ s5 σ3 H5 x u _ I5' r5 (step x H5 y5)) fun _ s6 ⟨σ6,H6,I6,q6⟩=>?_)
   refine wpAny_passesOwn hp (thn (hb _ s6 σ6 H6 _ I6 q6) fun f s7 q7=>?_)
   have again:∀ {σ7:St} {H7:Hp},Inv X (pins++b1z fp s5.heap) σ7 H7 s7→N σ7 H7→∃ m,m<n∧∃ i σ' H',Inv X pins σ' H' s7∧tn i s7.heap∧(∀ b∈fp,H' b=none)∧W i m σ' H':=fun {σ7 H7} I7 n7=>by
     obtain⟨m',hm,w7⟩:=hN σ7 H7 n7
     refine⟨m',hm,i+1,σ7,H7,I7.unpinned,T.keep _ _ _ st5 fun b hb o e=>(I7.pin (b,o) (c6q _ (c6q _ (a5d hb e)))).1,fun b hb=>?_,w7⟩
     obtain⟨o,e,d⟩:=T.obj _ _ st5 b hb
     exact (I7.pin (b,o) (c6q _ (c6q _ (a5d hb e)))).2.1
   cases f with
   | next=>obtain⟨σ7,H7,I7,n7⟩:=q7;exact again I7 n7
   | cont=>obtain⟨σ7,H7,I7,n7⟩:=q7;exact again I7 n7
   | brk=>obtain⟨σ7,H7,I7,q7⟩:=q7;exact⟨σ7,H7,I7.unpinned,q7⟩
   | ret v=>obtain⟨x7,σ7,H7,I7,r7,q7⟩:=q7;exact⟨x7,σ7,H7,I7.unpinned,r7,q7⟩
end
theorem a9s{K:c5t}{a:Addr}{xs:List V}{g:TG}{tb:TS}{D:Ends}{σ:St}{H:Hp}(Pv:Nat→St→Hp→Prop)(h0:Pv 0 σ H)(hl:∀ i σ H,i≤xs.length→Pv i σ H→SqL K H a xs)(hs:∀ i x σ H,xs[i]?=some x→Pv i σ H→g x σ H fun σ2 H2=>tb { D with nx:=Pv (i+1),ct:=Pv (i+1),bk:=D.nx } σ2 H2)(hd:∀ σ H,Pv xs.length σ H→D.nx σ H) :
   ∃ W:Nat→Nat→St→Hp→Prop,(∃ m,W 0 m σ H)∧∀ i m σ H,W i m σ H→
     ((Itl K a).stop i H∧D.nx σ H)∨((Itl K a).go i H∧∃ N:St→Hp→Prop,(∀ σ' H',N σ' H'→∃ m',m' < m∧W (i+1) m' σ' H')∧∀ x H',(Itl K a).yld i H x H'→g x σ H' fun σ2 H2=>tb { D with nx:=N,ct:=N,bk:=D.nx } σ2 H2):=by
 refine⟨fun i m σ H=>m=xs.length - i∧i≤xs.length∧Pv i σ H,⟨xs.length,by simp,c8c _,h0⟩,?_⟩
 rintro i m σ H ⟨rfl,hi,p⟩
 have q:=hl i σ H hi p
 by_cases hlt:i<xs.length
 · refine .inr ⟨⟨xs,xs[i],q,by simp[hlt]⟩,Pv (i+1),fun σ' H' p'=>⟨xs.length - (i+1),by omega,rfl,hlt,p'⟩,fun x H' y=>?_⟩
   obtain⟨e,y⟩:=y
   subst e
   exact hs i x σ _ (y xs q) p
 · have e:i=xs.length:=by omega
   subst e
   exact .inl ⟨⟨xs,q,c6l _⟩,hd σ H p⟩
theorem a6u{lo:Int}{n:Nat}{g:TG}{tb:TS}{D:Ends}{σ:St}{H:Hp}(Pv:Nat→St→Hp→Prop)(h0:Pv 0 σ H)(hs:∀ i σ H,i<n→Pv i σ H→g (.int (lo+i)) σ H fun σ2 H2=>tb { D with nx:=Pv (i+1),ct:=Pv (i+1),bk:=D.nx } σ2 H2)(hd:∀ σ H,Pv n σ H→D.nx σ H) :
   ∃ W:Nat→Nat→St→Hp→Prop,(∃ m,W 0 m σ H)∧∀ i m σ H,W i m σ H→
     ((Itr lo n).stop i H∧D.nx σ H)∨((Itr lo n).go i H∧∃ N:St→Hp→Prop,(∀ σ' H',N σ' H'→∃ m',m' < m∧W (i+1) m' σ' H')∧∀ x H',(Itr lo n).yld i H x H'→g x σ H' fun σ2 H2=>tb { D with nx:=N,ct:=N,bk:=D.nx } σ2 H2):=by
 refine⟨fun i m σ H=>m=n - i∧i≤n∧Pv i σ H,⟨n,by simp,c8c _,h0⟩,?_⟩
 rintro i m σ H ⟨rfl,hi,p⟩
 by_cases hlt:i<n
 · refine .inr ⟨hlt,Pv (i+1),fun σ' H' p'=>⟨n - (i+1),by omega,rfl,hlt,p'⟩,fun x H' y=>?_⟩
   obtain⟨e,y⟩:=y
   subst e y
   exact hs i σ _ hlt p
 · have e:i=n:=by omega
   subst e
   exact .inl ⟨c6l _,hd σ H p⟩
theorem a9n{c:TT}{tb:TS}{D:Ends}{σ:St}{H:Hp}(Pv:St→Hp→Prop)(μ:St→Hp→Nat)(h0:Pv σ H)(hs:∀ σ H,Pv σ H→c σ H fun b H1=>if b=true then tb { D with nx:=fun σ' H'=>Pv σ' H'∧μ σ' H' < μ σ H,ct:=fun σ' H'=>Pv σ' H'∧μ σ' H' < μ σ H,bk:=D.nx } σ H1 else D.nx σ H1)(mono:∀ σ H Q Q',(∀ b H1,Q b H1→Q' b H1)→c σ H Q→c σ H Q'):c1d c tb D σ H:=by
 refine⟨fun m σ H=>m=μ σ H∧Pv σ H,⟨_,rfl,h0⟩,?_⟩
 rintro m σ H ⟨rfl,p⟩
 refine mono σ H _ _ (fun b H1 q=>?_) (hs σ H p)
 cases b with
 | true=>exact⟨_,fun σ' H' ⟨p',l⟩=>⟨_,l,rfl,p'⟩,q⟩
 | false=>exact q
end L2
namespace L2
open PySem PySem.Spec PyProof.Rows
abbrev R2:=V→V→Hp→VK→Prop
def OpR(X:Cx)(f:Value→Value→Sem Value)(r:R2):Prop:=
 ∀ (pins:List (Addr×Obj)) (s:Shared) (σ:St) (H:Hp) (x y:V) (v u:Value) (Q:VK),Inv X pins σ H s→RelV x v→RelV y u→r x y H Q→
   wpAny (model X.prog X.w) X.A (f v u) (EP X pins σ Q) X.xe s
def UnR(X:Cx)(f:Value→Sem Value)(r:V→Hp→VK→Prop):Prop:=
 ∀ (pins:List (Addr×Obj)) (s:Shared) (σ:St) (H:Hp) (x:V) (v:Value) (Q:VK),Inv X pins σ H s→RelV x v→r x H Q→
   wpAny (model X.prog X.w) X.A (f v) (EP X pins σ Q) X.xe s
def a6a(X:Cx)(f:Value)(r:List V→Hp→VK→Prop):Prop:=
 ∀ (pins:List (Addr×Obj)) (s:Shared) (σ:St) (H:Hp) (xs:List V) (us:List Value) (Q:VK),Inv X pins σ H s→Vals xs us→r xs H Q→
   wpAny (model X.prog X.w) X.A (call f us) (EP X pins σ Q) X.xe s
def tOp(r:R2)(ta tb:TE):TE:=fun σ H Q=>ta σ H fun x H1=>tb σ H1 fun y H2=>r x y H2 Q
def tUn(r:V→Hp→VK→Prop)(ta:TE):TE:=fun σ H Q=>ta σ H fun x H1=>r x H1 Q
def rI(C:Int→Int→Prop)(g:Int→Int→V):R2:=fun x y H Q=>∃ i j,x=.int i∧y=.int j∧C i j∧Q (g i j) H
def rI0(g:Int→Int→V):R2:=fun x y H Q=>∃ i j,x=.int i∧y=.int j∧Q (g i j) H
def rU(g:Int→V):V→Hp→VK→Prop:=fun x H Q=>∃ i,x=.int i∧Q (g i) H
section
variable {X:Cx} {a b c:Expr} {ta tb tc:TE} {pos:Pos}
theorem binT(ha:PE X a ta)(hb:PE X b tb){pins:List (Addr×Obj)}{s:Shared}{σ:St}{H:Hp}{R:V→V→Hp→Prop}(I:Inv X pins σ H s)(h:ta σ H fun x H1=>tb σ H1 fun y H2=>R x y H2){Q:Value→Shared→Prop}{f:Value→Value→Sem Value}(hf:∀ v u s2 x y H2,Inv X pins σ H2 s2→RelV x v→RelV y u→R x y H2→wpAny (model X.prog X.w) X.A (f v u) Q X.xe s2) :
   wpAny (model X.prog X.w) X.A (eval a X.env) (fun v s₁=>wpAny (model X.prog X.w) X.A (eval b X.env) (fun u s₂=>wpAny (model X.prog X.w) X.A (f v u) Q X.xe s₂) X.xe s₁) X.xe s:=by
 refine thn (ha pins s σ H _ I h) fun v s1 ⟨x,H1,I1,r1,q1⟩=>?_
 refine thn (hb pins s1 σ H1 _ I1 q1) fun u s2 ⟨y,H2,I2,r2,q2⟩=>?_
 exact hf v u s2 x y H2 I2 r1 r2 q2
theorem pe_op{op:Operator}{r:R2}(ho:OpR X (binaryOp op) r)(ha:PE X a ta)(hb:PE X b tb):PE X (.BinOp a op b pos) (tOp r ta tb):=by
 intro pins s σ H Q I h
 exact wpAny_BinOp (binT ha hb I h fun v u s2 x y H2 I2 rx ry q=>ho pins s2 σ H2 x y v u Q I2 rx ry q)
theorem pe_un{op:UnaryOp}{r:V→Hp→VK→Prop}(ho:UnR X (unaryOp op) r)(ha:PE X a ta):PE X (.UnaryOp op a pos) (tUn r ta):=by
 intro pins s σ H Q I h
 exact UnaryOp_ (thn (ha pins s σ H _ I h) fun v s1 ⟨x,H1,I1,r1,q1⟩=>ho pins s1 σ H1 x v Q I1 r1 q1)
theorem opI{f:Value→Value→Sem Value}{C:Int→Int→Prop}{g:Int→Int→Int}(rule:∀ (i j:Int) (t u:Tok) (s:Shared) (Q:Value→Shared→Prop) (E:Value→Shared→Prop),C i j→Q (.int (g i j) s.toks) { s with toks:=s.toks+1 }→wpAny (model X.prog X.w) X.A (f (.int i t) (.int j u)) Q E s) :
   OpR X f (rI C fun i j=>.int (g i j)):=by
 intro pins s σ H x y v u Q I rx ry h
 obtain⟨i,j,rfl,rfl,hc,q⟩:=h
 obtain⟨t,rfl⟩:=rx
 obtain⟨t',rfl⟩:=ry
 exact rule i j t t' s _ _ hc ⟨.int (g i j),H,I.tok _,⟨_,rfl⟩,q⟩
theorem opI0{f:Value→Value→Sem Value}{g:Int→Int→Int}(rule:∀ (i j:Int) (t u:Tok) (s:Shared) (Q:Value→Shared→Prop) (E:Value→Shared→Prop),Q (.int (g i j) s.toks) { s with toks:=s.toks+1 }→wpAny (model X.prog X.w) X.A (f (.int i t) (.int j u)) Q E s) :
   OpR X f (rI0 fun i j=>.int (g i j)):=by
 intro pins s σ H x y v u Q I rx ry h
 obtain⟨i,j,rfl,rfl,q⟩:=h
 obtain⟨t,rfl⟩:=rx
 obtain⟨t',rfl⟩:=ry
 exact rule i j t t' s _ _ ⟨.int (g i j),H,I.tok _,⟨_,rfl⟩,q⟩
theorem opB0{f:Value→Value→Sem Value}{g:Int→Int→Bool}(rule:∀ (i j:Int) (t u:Tok) (s:Shared) (Q:Value→Shared→Prop) (E:Value→Shared→Prop),Q (.bool (g i j)) s→wpAny (model X.prog X.w) X.A (f (.int i t) (.int j u)) Q E s) :
   OpR X f (rI0 fun i j=>.bl (g i j)):=by
 intro pins s σ H x y v u Q I rx ry h
 obtain⟨i,j,rfl,rfl,q⟩:=h
 obtain⟨t,rfl⟩:=rx
 obtain⟨t',rfl⟩:=ry
 exact rule i j t t' s _ _ ⟨.bl (g i j),H,I,rfl,q⟩
def CDiv(i j:Int):Prop:=0<j∧j<1073741824
def CPow(i j:Int):Prop:=0≤j∧j≤1000000∧i.natAbs<2^64
def CMul(i j:Int):Prop:=(-(2^64)<i∧i<2^64)∨(-(2^64)<j∧j<2^64)
theorem CMul.ok{i j:Int}(h:CMul i j):IntMulOk i j:=by
 rcases h with⟨h1,h2⟩ | ⟨h1,h2⟩
 · exact .of_left (intBits_le_64 h1 h2)
 · exact .of_right (intBits_le_64 h1 h2)
theorem a2v:OpR X (binaryOp .Add) (rI0 fun i j=>.int (i+j)):=opI0 fun _ _ _ _ _ _ _ q=>add_int q
theorem a4t:OpR X (binaryOp .Sub) (rI0 fun i j=>.int (i - j)):=opI0 fun _ _ _ _ _ _ _ q=>sub_int q
theorem b7c:OpR X (binaryOp .FloorDiv) (rI CDiv fun i j=>.int (i / j)):=opI fun i j _ _ _ _ _ hc q=>by
 have h1:(0:Int)<j:=hc.1
 have h2:j<1073741824:=hc.2
 exact floordiv_int (by omega) (by rw[c7r i (by omega)];exact q) (.inl (PyProof.noPylong_small (by omega)))
theorem a1k:OpR X (binaryOp .Mod) (rI (fun _ j=>0<j) fun i j=>.int (i % j)):=opI fun i j _ _ _ _ _ hc q=>by
 have h1:(0:Int)<j:=hc
 exact mod_int' (by omega) (by rw[c9z i (by omega)];exact q)
theorem op_modN:OpR X (binaryOp .Mod) (rI (fun _ j=>j≠0) fun i j=>.int (i.fmod j)):=opI fun _ _ _ _ _ _ _ hc q=>mod_int' hc q
theorem b0q:OpR X (binaryOp .Pow) (rI CPow fun i j=>.int (i^j.toNat)):=opI fun _ _ _ _ _ _ _ hc q=>pow_int_small hc.1 hc.2.1 hc.2.2 q
theorem unI{f:Value→Sem Value}{g:Int→Int}(rule:∀ (i:Int) (t:Tok) (s:Shared) (Q:Value→Shared→Prop) (E:Value→Shared→Prop),Q (.int (g i) s.toks) { s with toks:=s.toks+1 }→wpAny (model X.prog X.w) X.A (f (.int i t)) Q E s) :
   UnR X f (rU fun i=>.int (g i)):=by
 intro pins s σ H x v Q I rx h
 obtain⟨i,rfl,q⟩:=h
 obtain⟨t,rfl⟩:=rx
 exact rule i t s _ _ ⟨.int (g i),H,I.tok _,⟨_,rfl⟩,q⟩
theorem b4a:UnR X (unaryOp .USub) (rU fun i=>.int (-i)):=unI fun _ _ _ _ _ q=>neg_int q
end
def scal:V→V→Bool
 | .non,.non=>true | .non,.int _=>true | .int _,.non=>true | .non,.bl _=>true | .bl _,.non=>true | .non,.str _=>true | .str _,.non=>true
 | .int _,.int _=>true | .bl _,.bl _=>true | .str _,.str _=>true | .byt _,.byt _=>true
 | .int _,.str _=>true | .str _,.int _=>true | .bl _,.str _=>true | .str _,.bl _=>true
 | _,_=>false
def rEq:R2:=fun x y H Q=>scal x y=true∧Q (.bl (decide (x=y))) H
def rNe:R2:=fun x y H Q=>scal x y=true∧Q (.bl (!decide (x=y))) H
theorem c5b{i j:Int}:decide (V.int i=V.int j)=(i == j):=by
 rw[c9o]
 simp
theorem dec_bl{i j:Bool}:decide (V.bl i=V.bl j)=(i == j):=by
 rw[c9o]
 simp
theorem c5a{i j:Str}:decide (V.str i=V.str j)=(i == j):=by
 rw[c9o]
 simp
theorem c5c{i j:Array UInt8}:decide (V.byt i=V.byt j)=(i.toList == j.toList):=by
 rw[c9o]
 cases i
 cases j
 simp
section
variable {X:Cx} {a b c:Expr} {ta tb tc:TE} {pos:Pos}
theorem a1w{pins:List (Addr×Obj)}{σ:St}{H:Hp}{s:Shared}{Q:VK}{k k':Bool}(I:Inv X pins σ H s)(q:Q (.bl k) H)(e:k=k'):EP X pins σ Q (.bool k') s:=by
 subst e
 exact⟨.bl k,H,I,rfl,q⟩
theorem a4l:OpR X (compareOp .Eq) rEq:=by
 intro pins s σ H x y v u Q I rx ry h
 obtain⟨hs,q⟩:=h
 cases x with
 | non=>
   cases rx
   cases y with
   | non=>cases ry;exact PySem.EqNone.eq_none_none (a1w I q (by simp))
   | bl j=>cases ry;exact PySem.EqNone.eq_none_bool (a1w I q (by simp))
   | int j=>obtain⟨t',rfl⟩:=ry;exact PySem.EqNone.eq_none_int (a1w I q (by simp))
   | str j=>obtain⟨t',rfl⟩:=ry;exact PySem.EqNone.eq_none_str (a1w I q (by simp))
   | _=>exact absurd (show false=true from hs) c6k
 | bl i=>
   cases rx
   cases y with
   | non=>cases ry;exact PySem.EqNone.eq_bool_none (a1w I q (by simp))
   | bl j=>cases ry;exact eq_bool (a1w I q dec_bl)
   | str j=>obtain⟨t',rfl⟩:=ry;exact PySem.EqMixed.eq_bool_str (a1w I q (by simp))
   | _=>exact absurd (show false=true from hs) c6k
 | int i=>
   obtain⟨t,rfl⟩:=rx
   cases y with
   | non=>cases ry;exact PySem.EqNone.eq_int_none (a1w I q (by simp))
   | int j=>obtain⟨t',rfl⟩:=ry;exact eq_int (a1w I q c5b)
   | str j=>obtain⟨t',rfl⟩:=ry;exact PySem.EqMixed.eq_int_str (a1w I q (by simp))
   | _=>exact absurd (show false=true from hs) c6k
 | str i=>
   obtain⟨t,rfl⟩:=rx
   cases y with
   | non=>cases ry;exact PySem.EqNone.eq_str_none (a1w I q (by simp))
   | bl j=>cases ry;exact PySem.EqMixed.eq_str_bool (a1w I q (by simp))
   | int j=>obtain⟨t',rfl⟩:=ry;exact PySem.EqMixed.eq_str_int (a1w I q (by simp))
   | str j=>obtain⟨t',rfl⟩:=ry;exact eq_str (a1w I q c5a)
   | _=>exact absurd (show false=true from hs) c6k
 | byt i=>
   obtain⟨t,rfl⟩:=rx
   cases y with
   | byt j=>obtain⟨t',rfl⟩:=ry;exact PySem.W.eq_bytes (a1w I q c5c)
   | _=>exact absurd (show false=true from hs) c6k
 | _=>cases y<;>exact absurd (show false=true from hs) c6k
theorem op_ne:OpR X (compareOp .NotEq) rNe:=by
 intro pins s σ H x y v u Q I rx ry h
 obtain⟨hs,q⟩:=h
 cases x with
 | non=>
   cases rx
   cases y with
   | non=>cases ry;exact PySem.EqNone.ne_none_none (a1w I q (by simp))
   | bl j=>cases ry;exact PySem.EqNone.ne_none_bool (a1w I q (by simp))
   | int j=>obtain⟨t',rfl⟩:=ry;exact PySem.EqNone.ne_none_int (a1w I q (by simp))
   | str j=>obtain⟨t',rfl⟩:=ry;exact PySem.EqNone.ne_none_str (a1w I q (by simp))
   | _=>exact absurd (show false=true from hs) c6k
 | bl i=>
   cases rx
   cases y with
   | non=>cases ry;exact PySem.EqNone.ne_bool_none (a1w I q (by simp))
   | bl j=>cases ry;exact ne_bool (a1w I q (congrArg not dec_bl))
   | str j=>obtain⟨t',rfl⟩:=ry;exact PySem.EqMixed.ne_bool_str (a1w I q (by simp))
   | _=>exact absurd (show false=true from hs) c6k
 | int i=>
   obtain⟨t,rfl⟩:=rx
   cases y with
   | non=>cases ry;exact PySem.EqNone.ne_int_none (a1w I q (by simp))
   | int j=>obtain⟨t',rfl⟩:=ry;exact ne_int (a1w I q (congrArg not c5b))
   | str j=>obtain⟨t',rfl⟩:=ry;exact PySem.EqMixed.ne_int_str (a1w I q (by simp))
   | _=>exact absurd (show false=true from hs) c6k
 | str i=>
   obtain⟨t,rfl⟩:=rx
   cases y with
   | non=>cases ry;exact PySem.EqNone.ne_str_none (a1w I q (by simp))
   | bl j=>cases ry;exact PySem.EqMixed.ne_str_bool (a1w I q (by simp))
   | int j=>obtain⟨t',rfl⟩:=ry;exact PySem.EqMixed.ne_str_int (a1w I q (by simp))
   | str j=>obtain⟨t',rfl⟩:=ry;exact ne_str (a1w I q (congrArg not c5a))
   | _=>exact absurd (show false=true from hs) c6k
 | byt i=>
   obtain⟨t,rfl⟩:=rx
   cases y with
   | byt j=>obtain⟨t',rfl⟩:=ry;exact PySem.W.ne_bytes (a1w I q (congrArg not c5c))
   | _=>exact absurd (show false=true from hs) c6k
 | _=>cases y<;>exact absurd (show false=true from hs) c6k
theorem op_lt:OpR X (compareOp .Lt) (rI0 fun i j=>.bl (decide (i<j))):=opB0 fun _ _ _ _ _ _ _ q=>lt_int q
theorem b7b:OpR X (compareOp .LtE) (rI0 fun i j=>.bl (decide (i≤j))):=opB0 fun _ _ _ _ _ _ _ q=>le_int q
theorem b9x:OpR X (compareOp .Gt) (rI0 fun i j=>.bl (decide (j<i))):=opB0 fun _ _ _ _ _ _ _ q=>gt_int q
theorem op_ge:OpR X (compareOp .GtE) (rI0 fun i j=>.bl (decide (j≤i))):=opB0 fun _ _ _ _ _ _ _ q=>ge_int q
theorem b5c:OpR X (compareOp .In) (fun x y H Q=>∃ i j,x=.str i∧y=.str j∧Q (.bl (!(Builtin.Str.occurrences j i 0 j.length 1).isEmpty)) H):=by
 intro pins s σ H x y v u Q I rx ry h
 obtain⟨i,j,rfl,rfl,q⟩:=h
 obtain⟨t,rfl⟩:=rx
 obtain⟨t',rfl⟩:=ry
 exact in_str (a1w I q rfl)
theorem a1g(b:Expr){op:CmpOp}(h:op≠.In:=by decide)(h2:op≠.NotIn:=by decide):behindInMarks op b=false:=by
 have e1:(op == CmpOp.In)=false:=by cases op<;>first | rfl | exact absurd rfl h
 have e2:(op == CmpOp.NotIn)=false:=by cases op<;>first | rfl | exact absurd rfl h2
 cases b<;>simp[behindInMarks,e1,e2]
theorem pe_cmpR{op:CmpOp}{r:R2}(ho:OpR X (compareOp op) r)(ha:PE X a ta)(hb:PE X b tb)(hm:behindInMarks op b=false):PE X (.Compare a [op] [b] pos) (tOp r ta tb):=by
 intro pins s σ H Q I h
 exact wpAny_Compare1 (binT ha hb I h fun v u s2 x y H2 I2 rx ry q=>ho pins s2 σ H2 x y v u Q I2 rx ry q) hm
def tTest(t:TE):TT:=fun σ H Q=>t σ H fun x H'=>∃ k,x=.bl k∧Q k H'
theorem pt_cmpR{op:CmpOp}{r:R2}(ho:OpR X (compareOp op) r)(ha:PE X a ta)(hb:PE X b tb)(hm:behindInMarks op b=false):PT X (.Compare a [op] [b] pos) (tTest (tOp r ta tb)):=by
 intro pins s σ H Q I h
 refine wpAny_isTrue_Compare1 (thn (ha pins s σ H _ I h) fun v s1 ⟨x,H1,I1,r1,q1⟩=>thn (hb pins s1 σ H1 _ I1 q1) fun u s2 ⟨y,H2,I2,r2,q2⟩=>
   thn (ho pins s2 σ H2 x y v u _ I2 r1 r2 q2) fun c s3 ⟨z,H3,I3,r3,k,e,q3⟩=>?_) hm
 subst e
 cases r3
 exact wpAny_truthy_bool ⟨H3,I3,q3⟩
def tChain(r r':R2)(ta tb tc:TE):TE:=fun σ H Q=>ta σ H fun x H1=>tb σ H1 fun y H2=>r x y H2 fun z H3=>∃ k,z=.bl k∧
 (if k=true then tc σ H3 fun w' H4=>r' y w' H4 Q else Q (.bl false) H3)
theorem pt_chain{op op':CmpOp}{r r':R2}(ho:OpR X (compareOp op) r)(ho':OpR X (compareOp op') r')(ha:PE X a ta)(hb:PE X b tb)(hc:PE X c tc)(hm:lastMarks [op,op'] [b,c]=false:=by with_unfolding_all rfl):PT X (.Compare a [op,op'] [b,c] pos) (tTest (tChain r r' ta tb tc)):=by
 intro pins s σ H Q I h
 refine isTrue_chain (thn (ha pins s σ H _ I h) fun v s1 ⟨x,H1,I1,r1,q1⟩=>test_link (thn (hb pins s1 σ H1 _ I1 q1) fun u s2 ⟨y,H2,I2,r2,q2⟩=>
   thn (ho pins s2 σ H2 x y v u _ I2 r1 r2 q2) fun d s3 ⟨z,H3,I3,r3,k,e,q3⟩=>?_)) hm
 subst e
 cases r3
 refine wpAny_truthy_bool ?_
 cases k with
 | false=>
   obtain⟨k',e',q'⟩:=q3
   cases e'
   exact ite_ff ⟨H3,I3,q'⟩
 | true=>
   refine ite_tt (test_last (thn (hc pins s3 σ H3 _ I3 q3) fun w' s4 ⟨z',H4,I4,r4,q4⟩=>thn (ho' pins s4 σ H4 y z' u w' _ I4 r2 r4 q4) fun d' s5 ⟨z2,H5,I5,r5,k2,e2,q5⟩=>?_))
   subst e2
   cases r5
   exact wpAny_truthy_bool ⟨H5,I5,q5⟩
theorem b5n:(sizeLine:Nat)<2^63:=by rw[sizeLine_eq];decide
theorem a0w:OpR X (binaryOp .Add) (fun x y H Q=>∃ i j,x=.str i∧y=.str j∧i.length+j.length≤sizeLine∧Q (.str (i++j)) H):=by
 intro pins s σ H x y v u Q I rx ry h
 obtain⟨i,j,rfl,rfl,hz,q⟩:=h
 obtain⟨t,rfl⟩:=rx
 obtain⟨t',rfl⟩:=ry
 exact add_str (fun t' tk=>⟨.str (i++j),H,I.tok _,⟨_,rfl⟩,q⟩) hz
theorem vals1{x:V}{us:List Value}(r:Vals [x] us):∃ u,us=[u]∧RelV x u:=by
 cases r with
 | cons r1 r2=>cases r2;exact⟨_,rfl,r1⟩
theorem b3u:a6a X (.builtin "abs") (fun xs H Q=>∃ i,xs=[.int i]∧Q (.int (if i<0 then -i else i)) H):=by
 intro pins s σ H xs us Q I r h
 obtain⟨i,rfl,q⟩:=h
 obtain⟨u,rfl,t,rfl⟩:=vals1 r
 exact call_abs_int fun u tk=>⟨.int (if i<0 then -i else i),H,I.tok _,⟨_,rfl⟩,q⟩
theorem a4b:a6a X (.type "str") (fun xs H Q=>∃ i,xs=[.int i]∧i.natAbs.log2<1920∧Q (.str (toString i)) H):=by
 intro pins s σ H xs us Q I r h
 obtain⟨i,rfl,hz,q⟩:=h
 obtain⟨u,rfl,t,rfl⟩:=vals1 r
 exact PySem.P.str_of_int hz ⟨.str _,H,I.tok _,⟨_,rfl⟩,q⟩
end
end L2
namespace L2
open PySem PySem.Spec PyProof.Rows
structure ObjM(h:Heap)(x dx C:Addr)(mA:Str→Option Value):Prop where
 obj:h.get? x=some (c8t C dx)
 ns:h.Ns1 dx mA
 ne:dx≠x
theorem c4e{h:Heap}{dx:Addr}{mA:Str→Option Value}(n:h.Ns1 dx mA):∃ od,h.get? dx=some od∧∀ name,PySem.W.lookIn name od=some (mA name):=by
 obtain⟨o,es,ep,ho,hd,hk,_,hm⟩:=n
 refine⟨o,ho,fun name=>?_⟩
 have e:=hm name
 unfold nsFind findBy at e
 rw[← Array.find?_toList] at e
 unfold PySem.W.lookIn
 rw[hd]
 dsimp only
 split
 · rename_i y q
   rw[q] at e
   exact congrArg some e
 · rename_i q
   rw[q] at e
   have a:es.toList.any (·.refKey)=false:=by
     rw[List.any_eq_false]
     intro y hy
     obtain⟨z,t,hkey⟩:=hk y (Array.mem_toList_iff.mp hy)
     simp[DictEntry.refKey,hkey]
   have a':¬ es.toList.any (·.refKey)=true:=by rw[a];exact c6k
   rw[if_neg a']
   exact congrArg some e
theorem ObjM.look{h:Heap}{x dx C:Addr}{mA:Str→Option Value}(I:ObjM h x dx C mA):∃ od,PySem.W.InstAt h x (c8t C dx) C (some od)∧∀ name,PySem.W.lookIn name od=some (mA name):=
 let ⟨od,ho,hl⟩:=c4e I.ns
 ⟨od,⟨I.obj,rfl,rfl,ho⟩,hl⟩
section
variable {prog:Program} {w:World} {A:Around} {E:Value→Shared→Prop} {s:Shared} {K:c5t} {x dx C f:Addr} {mA:Str→Option Value} {name:Str} {v:Value}
theorem get_map{expr:Bool}{Q:Value→Shared→Prop}(X:K.In s.heap)(I:ObjM s.heap x dx C mA)(hg:d0a K C name=true)(hh:d0i K C=true)(ha:c6p K (.ref C) name=some none)(hv:mA name=some v)(hv':PySem.W.handedIn v=true)(h:Q v { s with toks:=s.toks+1 }) :
   wpAny (model prog w) A (getAttr (.ref x) name expr) Q E s:=by
 obtain⟨od,J,hl⟩:=I.look
 exact PySem.W.get_value X J (PySem.W.plainGet_of hg).1 (PySem.W.findObj_own hh ha rfl (by rw[hl,hv])) hv' h
theorem get_meth{pl:Sem Bool}{Q:Value×List Value→Shared→Prop}(X:K.In s.heap)(I:ObjM s.heap x dx C mA)(hg:d0a K C name=true)(hf:c6p K (.ref C) name=some (some (.ref f)))(ht:d0f K (.ref f)=true)(hv:mA name=none)(h:Q (.ref f,[.ref x]) s) :
   wpAny (model prog w) A (getMethod (.ref x) name pl) Q E s:=by
 obtain⟨od,J,hl⟩:=I.look
 exact PySem.W.method_fn X J (PySem.W.plainGet_of hg).1 (PySem.W.plainGet_of hg).2 hf (beq_iff_eq.mp ht) (by show (PySem.W.lookIn name od).map (·.isSome)=some false;rw[hl,hv];rfl) h
theorem set_map{ns:List Str}{Q:Unit→Shared→Prop}(X:K.In s.heap)(I:ObjM s.heap x dx C mA)(hs:c6p K (.ref C) "__setattr__" = some (some (.builtin "object.__setattr__")))(hp:PySem.W.plainOver K C=true)(ht:PySem.W.takerIn K C name=some none)(hh:d0i K C=true)(hw:PySem.Within mA ns)(hsz:ns.length≤sizeLine)(h:∀ h',ObjM h' x dx C (fun y=>if y=name then some v else mA y)→Heap.SameBut dx s.heap h'→Q () { s with heap:=h',toks:=s.toks+2 }) :
   wpAny (model prog w) A (setAttr (.ref x) name v) Q E s:=by
 obtain⟨od,J,hl⟩:=I.look
 refine PySem.W.set_plain X J hs (PySem.W.osa_open (s:={ s with toks:=s.toks+1 }) (r:=none) X J hp ht fun b=>?_)
 obtain⟨cd,hc,hd'⟩:=PySem.W.any_some hh
 have hx:s.heap.get? x=some ⟨.ref C,some dx,.plain,#[]⟩:=I.obj
 refine wpAny_bind (wpAny_pure (wpAny_bind (wpAny_bind (wpAny_loadPart hx (wpAny_bind (PySem.W.Looks.here (s:={ s with toks:=s.toks+1 }) (PySem.W.looks_clsIn X hc) ?_))))))
 rw[hd']
 refine wpAny_pure (a:=some dx) (wpAny_bind (wpAny_pure (wpAny_bind ?_)))
 refine wpAny_nsSet1 (s:={ s with toks:=s.toks+1 }) I.ns fun h' hn2 hs2=>?_
 obtain⟨oD,esD,epD,hoD,hdD,hcD⟩:=hn2.count (PySem.Within.cons name v hw)
 refine wpAny_bind (wpAny_lookBehind hoD (by rw[hdD];exact pastItsLine_dict (c6x hcD (by rw[c6z];omega))) ?_)
 exact wpAny_pure (h _ ⟨(hs2.2 _ (Ne.symm I.ne)).trans I.obj,hn2,I.ne⟩ hs2)
theorem make_map{R:Result→Shared→Prop}{vs:List Value}{kw:List (Str×Value)}(X:K.In s.heap)(hm:PySem.W.makesIn K C=true)(hi:c6p K (.ref C) "__init__" = some (some (.ref f)))(hf:PySem.W.typeIn K (.ref f)=some (.type "function"))(h:codeAny (model prog w) (A.under (.builtin "type.__call__" ⟨.ref C::vs,kw⟩)) (.call (.ref f) ⟨.ref (s.heap.objs.size+1)::vs,kw⟩) (PySem.W.InitBack (s.heap.objs.size+1) R)
     { s with heap:=(s.heap.push c8e).push (c8t C s.heap.objs.size) }) :
   codeAny (model prog w) A (.call (.ref C) ⟨vs,kw⟩) R s:=by
 obtain⟨hh,g,d,t,os⟩:=s
 exact PySem.W.make_core (PySem.W.makes_of X hm) (PySem.W.looks_findIn X hi) (fun self=>PySem.W.bind_fn X self hf) (.inl rfl) h
end
def putF(f:Str)(v:V):List (Str×V)→List (Str×V)
 | []=>[(f,v)]
 | (g,x)::r=>if g=f then (g,v)::r else (g,x)::putF f v r
theorem a6k(f g:Str)(v:V):∀ fs:List (Str×V),(putF f v fs).lookup g=if g=f then some v else fs.lookup g
 | []=>by
   show d0b g [(f,v)]=_
   by_cases h:g=f
   · have hb:(g == f)=true:=beq_iff_eq.mpr h
     simp only[d0b,hb,if_pos h]
   · have hb:(g == f)=false:=beq_eq_false_iff_ne.mpr h
     simp only[d0b,hb,if_neg h]
 | (k,x)::r=>by
   have ih:=a6k f g v r
   rw[show putF f v ((k,x)::r)=(if k=f then (k,v)::r else (k,x)::putF f v r) from rfl]
   by_cases hk:k=f
   · rw[if_pos hk]
     by_cases h:g=k
     · have hb:(g == k)=true:=beq_iff_eq.mpr h
       simp only[d0b,hb,if_pos (h.trans hk)]
     · have hb:(g == k)=false:=beq_eq_false_iff_ne.mpr h
       simp only[d0b,hb,if_neg (fun e:g=f=>h (e.trans hk.symm))]
   · rw[if_neg hk]
     by_cases h:g=k
     · have hb:(g == k)=true:=beq_iff_eq.mpr h
       simp only[d0b,hb,if_neg (fun e:g=f=>hk (h.symm.trans e))]
     · have hb:(g == k)=false:=beq_eq_false_iff_ne.mpr h
       simp only[d0b,hb]
       exact ih
theorem b1b(f:Str)(v:V):∀ fs:List (Str×V),f∈(putF f v fs).map (·.1)∧∀ g,g∈fs.map (·.1)→g∈(putF f v fs).map (·.1)
 | []=>⟨by simp[putF],fun g h=>by simp at h⟩
 | (k,x)::r=>by
   obtain⟨i1,i2⟩:=b1b f v r
   rw[show putF f v ((k,x)::r)=(if k=f then (k,v)::r else (k,x)::putF f v r) from rfl]
   by_cases hk:k=f
   · rw[if_pos hk]
     subst hk
     exact⟨by simp,fun g h=>by simpa using h⟩
   · rw[if_neg hk]
     refine⟨?_,fun g h=>?_⟩
     · rw[c6f]
       exact c7e _ i1
     · rw[c6f] at h ⊢
       rcases c6e.mp h with e | e
       · exact c6e.mpr (.inl e)
       · exact c7e _ (i2 g e)
theorem b0y(f:Str)(v:V):∀ fs:List (Str×V),(putF f v fs).length≤fs.length+1
 | []=>by simp[putF]
 | (k,x)::r=>by
   have ih:=b0y f v r
   rw[show putF f v ((k,x)::r)=(if k=f then (k,v)::r else (k,x)::putF f v r) from rfl]
   by_cases hk:k=f
   · rw[if_pos hk,c6z,c6z];omega
   · rw[if_neg hk,c6z,c6z];omega
theorem RelO.some_of{v:V}{o:Option Value}(r:RelO (some v) o):∃ u,o=some u∧RelV v u:=by
 cases o with
 | none=>exact (show False from r).elim
 | some u=>exact⟨u,rfl,r⟩
theorem RelO.none_of{o:Option Value}(r:RelO none o):o=none:=by
 cases o with
 | none=>rfl
 | some u=>exact (show False from r).elim
theorem c4r{v:V}{u:Value}(r:RelV v u):PySem.W.handedIn u=true:=by
 cases v with
 | non=>cases (show u=Value.none from r);rfl
 | bl b=>cases (show u=Value.bool b from r);rfl
 | int i=>obtain⟨t,e⟩:=(show ∃ t,u=Value.int i t from r);cases e;rfl
 | str x=>obtain⟨t,e⟩:=(show ∃ t,u=Value.str x t from r);cases e;rfl
 | byt b=>obtain⟨t,e⟩:=(show ∃ t,u=Value.bytes b t from r);cases e;rfl
 | flt b=>obtain⟨t,e⟩:=(show ∃ t,u=Value.float b t from r);cases e;rfl
 | ref a=>cases (show u=Value.ref a from r);rfl
 | ty n=>cases (show u=Value.type n from r);rfl
section
variable {P:Program} {w:World} {H H':Hp} {h h':Heap} {a C dx:Addr} {fs fs':List (Str×V)}
theorem b3q(hok:HOk P w H h)(e:H a=some (.ins C dx fs)):∃ mA,ObjM h a dx C mA∧(∀ f,RelO (fs.lookup f) (mA f))∧PySem.Within mA (fs.map (·.1))∧fs.length≤1000∧H dx=some (.own a):=by
 obtain⟨d,z,ne,ob,mA,n,r,q⟩:=(show a4n P w H h a (.ins C dx fs) from hok a _ e)
 exact⟨mA,⟨ob,n,ne⟩,r,q,z,d⟩
end
structure Cls(K:c5t)(C:Addr):Prop where
 pg:d0a K C Str.empty=true
 hd:d0i K C=true
 po:PySem.W.plainOver K C=true
 sa:c6p K (.ref C) "__setattr__" = some (some (.builtin "object.__setattr__"))
theorem Cls.get{K:c5t}{C:Addr}(c:Cls K C)(f:Str):d0a K C f=true:=c.pg
def a6y(K:c5t)(C:Addr)(f:Str):Prop:=c6p K (.ref C) f=some none
theorem a6y.taker{K:c5t}{C:Addr}{f:Str}(n:a6y K C f):PySem.W.takerIn K C f=some none:=by
 unfold PySem.W.takerIn
 rw[show c6p K (.ref C) f=some none from n]
 rfl
structure Meth(K:c5t)(C:Addr)(m:Str)(f:Addr):Prop where
 at_:c6p K (.ref C) m=some (some (.ref f))
 fn:d0f K (.ref f)=true
 kp:c5z K (.ref f)=true
section
variable {X:Cx} {pins:List (Addr×Obj)} {σ:St} {H:Hp} {s:Shared} {a C dx:Addr} {fs:List (Str×V)} {f:Str} {v:V} {A:Around} {E:Value→Shared→Prop}
theorem c0m{b:Bool}{Q:Value→Shared→Prop}(I:Inv X pins σ H s)(e:H a=some (.ins C dx fs))(c:Cls X.K C)(n:a6y X.K C f)(l:fs.lookup f=some v)(h:∀ u s',Inv X pins σ H s'→RelV v u→Q u s'):wpAny (model X.prog X.w) A (getAttr (.ref a) f b) Q E s:=by
 obtain⟨mA,O,r,_,_,_⟩:=b3q I.hok e
 obtain⟨u,hu,ru⟩:=RelO.some_of (v:=v) (o:=mA f) (by rw[← l];exact r f)
 exact get_map I.kIn O (c.get f) c.hd n hu (c4r ru) (h u _ (I.tok _) ru)
theorem b2a{m:Str}{g:Addr}{pl:Sem Bool}{Q:Value×List Value→Shared→Prop}(I:Inv X pins σ H s)(e:H a=some (.ins C dx fs))(c:Cls X.K C)(k:Meth X.K C m g)(l:fs.lookup m=none)(h:Q (.ref g,[.ref a]) s):wpAny (model X.prog X.w) A (getMethod (.ref a) m pl) Q E s:=by
 obtain⟨mA,O,r,_,_,_⟩:=b3q I.hok e
 have hn:mA m=none:=RelO.none_of (by rw[← l];exact r m)
 exact get_meth I.kIn O (c.get m) k.at_ k.fn hn h
theorem b9o{y:V}{u:Value}{Q:Unit→Shared→Prop}(I:Inv X pins σ H s)(e:H a=some (.ins C dx fs))(c:Cls X.K C)(n:a6y X.K C f)(hl:fs.length<1000)(ry:RelV y u)(h:∀ s',Inv X pins σ (upd H a (.ins C dx (putF f y fs))) s'→Q () s'):wpAny (model X.prog X.w) A (setAttr (.ref a) f u) Q E s:=by
 obtain⟨mA,O,r,wi,_,ho⟩:=b3q I.hok e
 have hz:(fs.map (·.1)).length≤sizeLine:=by rw[c5u,sizeLine_eq];omega
 refine set_map I.kIn O c.sa c.po n.taker c.hd wi hz fun h' O' sb=>h _ ?_
 have hd:∃ o,h'.get? dx=some o:=let ⟨o,_,_,e',_⟩:=O'.ns;⟨o,e'⟩
 refine I.write (x:=a) (e:=dx) (by rw[e];exact True.intro) (.inr ho) (fun b q hb z=>(sb.2 b hb).trans z) hd ?_
 refine⟨by rw[a1a O.ne];exact ho,?_,O.ne,O'.obj,_,O'.ns,fun g=>?_,fun g hg=>?_⟩
 · have:=b0y f y fs;omega
 · show RelO ((putF f y fs).lookup g) (if g=f then some u else mA g)
   rw[a6k]
   by_cases q:g=f
   · rw[if_pos q,if_pos q];exact ry
   · rw[if_neg q,if_neg q];exact r g
 · by_cases q:g=f
   · rw[q];exact (b1b f y fs).1
   · refine (b1b f y fs).2 g (wi g fun z=>hg ?_)
     show (if g=f then some u else mA g)=none
     rw[if_neg q];exact z
theorem Inv.made(I:Inv X pins σ H s):Inv X pins σ (upd (upd H s.heap.objs.size (.own (s.heap.objs.size+1))) (s.heap.objs.size+1) (.ins C s.heap.objs.size []))
   { s with heap:=(s.heap.push c8e).push (c8t C s.heap.objs.size) }:=by
 have e1:(s.heap.push c8e).get? s.heap.objs.size=some c8e:=Heap.get?_push_size s.heap rfl
 have e2:((s.heap.push c8e).push (c8t C s.heap.objs.size)).get? (s.heap.objs.size+1)=some (c8t C s.heap.objs.size):=by
   have:=Heap.get?_push_size (s.heap.push c8e) (o:=c8t C s.heap.objs.size) rfl
   rwa [Heap.size_push] at this
 have e3:(s.heap.push c8e).Ns s.heap.objs.size (fun _=>none):=⟨c8e,#[],_,e1,rfl,(fun e he=>absurd he (by simp)),fun _=>rfl⟩
 have I1:=I.laid (a:=s.heap.objs.size) (o:=.own (s.heap.objs.size+1)) (h':=s.heap.push c8e) (t':=s.toks) (fun b u q=>Heap.get?_push_of_some _ q) (c6l _) ⟨_,e1⟩
 refine I1.laid (a:=s.heap.objs.size+1) (o:=.ins C s.heap.objs.size []) (t':=s.toks) (fun b u q=>Heap.get?_push_of_some _ q) (c9c (Heap.size_push _ _)) ?_
 have ne:s.heap.objs.size≠s.heap.objs.size+1:=c6s (Nat.lt_succ_self _)
 refine⟨by rw[a1a ne,a0h],c8c _,ne,e2,fun _=>none,(Heap.Ns1.of_empty e3).at fun o q=>Heap.get?_push_of_some _ q,fun _=>True.intro,fun y hy=>absurd rfl hy⟩
theorem attr_of{prog:Program}{w:World}{env:Env}{e:Expr}{f:Str}{pos:Pos}{s:Shared}{Q:Value→Shared→Prop}(hb:attributeBase e f env (eval e env)=eval e env)(h:wpAny (model prog w) A (eval e env) (fun o s₁=>wpAny (model prog w) A (getAttr o f true) Q E s₁) E s):wpAny (model prog w) A (eval (.Attribute e f pos) env) Q E s:=
 Attribute_any_ h (by rw[arm_eval_Attribute,hb])
end
def tFld(K:c5t)(ta:TE)(f:Str):TE:=fun σ H Q=>ta σ H fun x H1=>∃ a C dx fs v,x=.ref a∧H1 a=some (.ins C dx fs)∧Cls K C∧a6y K C f∧fs.lookup f=some v∧Q v H1
def sFld(K:c5t)(ta tv:TE)(f:Str):TS:=fun D σ H=>tv σ H fun y H1=>ta σ H1 fun x H2=>∃ a C dx fs,x=.ref a∧H2 a=some (.ins C dx fs)∧Cls K C∧a6y K C f∧fs.length<1000∧
 D.nx σ (upd H2 a (.ins C dx (putF f y fs)))
section
variable {X:Cx} {o e value:Expr} {f:Str} {pos pos' tpos:Pos} {ta tv:TE}
theorem pe_fld(he:PE X e ta)(hb:attributeBase e f X.env (eval e X.env)=eval e X.env):PE X (.Attribute e f pos) (tFld X.K ta f):=by
 intro pins s σ H Q I h
 refine attr_of hb (thn (he pins s σ H _ I h) fun u s1 ⟨x,H1,I1,rx,a,C,dx,fs,v,ex,ea,c,n,l,q⟩=>?_)
 subst ex
 obtain rfl:u=Value.ref a:=rx
 exact c0m I1 ea c n l fun u' s2 I2 ru=>⟨v,H1,I2,ru,q⟩
theorem ps_fld(ha:PE X o ta)(hv:PE X value tv)(hs:swapsWith value (some (.Attribute o f pos')) pos.line X.env=pure false):PS X (.Assign [.Attribute o f pos'] value pos) (sFld X.K ta tv f):=by
 intro pins s σ H D I h
 refine plainObj_wpAny_Assign_Attribute (thn (hv pins s σ H _ I h) fun u s1 ⟨y,H1,I1,ry,q⟩=>thn (ha pins s1 σ H1 _ I1 q) fun ov s2 ⟨x,H2,I2,rx,a,C,dx,fs,ex,ea,c,n,l,q2⟩=>?_) hs
 subst ex
 obtain rfl:ov=Value.ref a:=rx
 exact b9o I2 ea c n l ry fun s3 I3=>⟨σ,_,I3,q2⟩
end
section
variable {X:Cx} {pins:List (Addr×Obj)} {σ:St} {H:Hp} {s:Shared} {A:Around} {E:Value→Shared→Prop} {Q:Value→Shared→Prop} {c:Value} {b:Bool}
inductive TyOf (K:c5t) (H:Hp):V→Value→Prop where
 | non:TyOf K H .non (.type "NoneType")
 | bl (x:Bool):TyOf K H (.bl x) (.type "bool")
 | int (i:Int):TyOf K H (.int i) (.type "int")
 | str (x:Str):TyOf K H (.str x) (.type "str")
 | flt (x:UInt64):TyOf K H (.flt x) (.type "float")
 | lst {a:Addr} {xs:List V} (e:H a=some (.lst xs)):TyOf K H (.ref a) (.type "list")
 | frz {a:Addr} {o:Obj} {xs:List V} (e:H a=some (.frz o (.lst xs))):TyOf K H (.ref a) (.type "list")
 | tup {a:Addr} {xs:List V} (e:H a=some (.tup xs)):TyOf K H (.ref a) (.type "tuple")
 | dK {a:Addr} {kvs:List (Key×V)} (e:H a=some (.dK kvs)):TyOf K H (.ref a) (.type "dict")
 | dT {a:Addr} {kvs:List (List Key×V)} (e:H a=some (.dT kvs)):TyOf K H (.ref a) (.type "dict")
 | ins {a C dx:Addr} {fs:List (Str×V)} (e:H a=some (.ins C dx fs)) (cl:Cls K C) (ha:c6p K (.ref C) "__class__" = some (some (.builtin "object.__class__")))
     (hn:c9h K (.builtin "object.__class__") "__get__" = some (some (.builtin "getset_descriptor.__get__"))) (htk:c9p K (.builtin "object.__class__")=some true)
     (hm:c8j K C (.type "object")=some true):TyOf K H (.ref a) (.ref C)
theorem c4j{x:V}{u t:Value}(I:Inv X pins σ H s)(rx:RelV x u)(ty:TyOf X.K H x t)(e:c5x X.K t c=some b)(h:∀ tk,Q (.bool b) { s with toks:=tk }) :
   wpAny (model X.prog X.w) A (call (.builtin "isinstance") [u,c]) Q E s:=by
 cases ty with
 | non=>cases (show u=Value.none from rx);exact c7x PySem.W.kitx_none I.kIn True.intro e (fun z=>nomatch z) h
 | bl y=>cases (show u=Value.bool y from rx);exact c7x PySem.W.kitx_bool I.kIn True.intro e (fun z=>nomatch z) h
 | int i=>obtain⟨t,q⟩:=(show ∃ t,u=Value.int i t from rx);cases q;exact c7x PySem.W.kitx_int I.kIn True.intro e (fun z=>nomatch z) h
 | str y=>obtain⟨t,q⟩:=(show ∃ t,u=Value.str y t from rx);cases q;exact c7x PySem.W.kitx_str I.kIn True.intro e (fun z=>nomatch z) h
 | flt y=>obtain⟨t,q⟩:=(show ∃ t,u=Value.float y t from rx);cases q;exact c7x PySem.W.kitx_float I.kIn True.intro e (fun z=>nomatch z) h
 | @lst a xs ea=>
   cases (show u=Value.ref a from rx)
   obtain⟨_,_,n,_,h1⟩:=(show a4n X.prog X.w H s.heap a (.lst xs) from I.hok a _ ea)
   exact c7x PySem.W.kitx_list I.kIn ⟨_,h1,rfl⟩ e (fun z=>nomatch z) h
 | @frz a ob xs ea=>
   cases (show u=Value.ref a from rx)
   obtain⟨_,_,_,n,_,h1⟩:=(show a4n X.prog X.w H s.heap a (.frz ob (.lst xs)) from I.hok a _ ea)
   exact c7x PySem.W.kitx_list I.kIn ⟨_,h1,rfl⟩ e (fun z=>nomatch z) h
 | @tup a xs ea=>
   cases (show u=Value.ref a from rx)
   obtain⟨_,_,_,p⟩:=(show a4n X.prog X.w H s.heap a (.tup xs) from I.hok a _ ea)
   obtain⟨o,h1,h2,_⟩:=p
   exact c7x PySem.W.kitx_tuple I.kIn ⟨o,h1,h2⟩ e (fun z=>nomatch z) h
 | @dK a kvs ea=>
   cases (show u=Value.ref a from rx)
   obtain⟨_,_,vs,_,p⟩:=(show a4n X.prog X.w H s.heap a (.dK kvs) from I.hok a _ ea)
   obtain⟨o,es,ep,h1,h2,_⟩:=p
   exact c7x PySem.W.kitx_dict I.kIn ⟨o,h1,h2.1⟩ e (fun z=>nomatch z) h
 | @dT a kvs ea=>
   cases (show u=Value.ref a from rx)
   obtain⟨_,_,xs,_,o,es,ep,h1,h2,_⟩:=(show a4n X.prog X.w H s.heap a (.dT kvs) from I.hok a _ ea)
   exact c7x PySem.W.kitx_dict I.kIn ⟨o,h1,h2.1⟩ e (fun z=>nomatch z) h
 | @ins a C dx fs ea cl ha hn htk hm=>
   cases (show u=Value.ref a from rx)
   obtain⟨mA,O,_⟩:=b3q I.hok ea
   obtain⟨od,J,_⟩:=O.look
   exact c7x (PySem.W.kitx_own (cl.get _) cl.hd ha hn htk hm) I.kIn J e (fun z=>nomatch z) h
end
end L2
namespace L2
open PySem PySem.Spec PyProof.Rows
structure Room(k:Nat)(A:Around):Prop where
 hd:A.handled=none
 dp:A.depth+3*k+5<recursionLimit
 un:A.units+16*k+200<cLine
theorem Room.mono{j k:Nat}{A:Around}(r:Room k A)(h:j≤k):Room j A:=⟨r.hd,by have:=r.dp;omega,by have:=r.un;omega⟩
theorem Room.deeper{k:Nat}{A:Around}(r:Room (k+1) A)(env:Env):Room k (A.deeper env):=
 ⟨r.hd,by have:=r.dp;show A.depth+1+3*k+5<_;omega,by have:=r.un;show A.units+3+16*k+200<_;omega⟩
theorem c0i{A:Around}{C:Addr}{us:List Value}{kw:List (Str×Value)}:(A.under (.builtin "type.__call__" ⟨.ref C::us,kw⟩)).depth=A.depth+1:=by
 first | rfl | simp[Around.under,Code.weight,Code.isCreation,Code.isGuard,Code.isCaller,Code.frames,Code.isFrame,guardIds]
theorem c0h{A:Around}{C:Addr}{us:List Value}{kw:List (Str×Value)}:(A.under (.builtin "type.__call__" ⟨.ref C::us,kw⟩)).units=A.units+1:=by
 first | rfl | simp[Around.under,Code.cUnits,Code.frames,Code.isFrame]
theorem Room.make{k:Nat}{A:Around}(r:Room (k+1) A)(C:Addr)(us:List Value)(kw:List (Str×Value)):Room k (A.under (.builtin "type.__call__" ⟨.ref C::us,kw⟩)):=
 ⟨r.hd,by have:=r.dp;rw[c0i];omega,by have:=r.un;rw[c0h];omega⟩
theorem Room.depth{k:Nat}{A:Around}(r:Room k A):A.depth<recursionLimit:=by have:=r.dp;omega
theorem Room.units{k:Nat}{A:Around}(r:Room k A):A.units+64<cLine:=by have:=r.un;omega
def tNil:TA:=fun _ H Q=>Q [] H
def tCons(ta:TE)(tr:TA):TA:=fun σ H Q=>ta σ H fun x H1=>tr σ H1 fun xs H2=>Q (x::xs) H2
section
variable {X:Cx} {e:Expr} {es:List Expr} {te:TE} {t:TA} {pos:Pos}
theorem pa_nil:PA X [] tNil:=fun _ _ _ _ H Q I h=>Calls.spliced_nil ⟨[],H,I,.nil,h⟩
theorem pa_cons(ha:PE X e te)(hr:PA X es t)(hs:starEach (e::es) X.env=(false,eval e X.env)::starEach es X.env:=by rfl):PA X (e::es) (tCons te t):=by
 intro pos pins s σ H Q I h
 rw[hs]
 show wpAny _ _ (spliced ((false,eval e X.env)::backTo pos (starEach es X.env))) _ _ s
 refine Calls.spliced_cons (thn (ha pins s σ H _ I h) fun u s1 ⟨x,H1,I1,r1,q1⟩=>?_)
 exact thn (hr pos pins s1 σ H1 _ I1 q1) fun us s2 ⟨xs,H2,I2,r2,q2⟩=>⟨x::xs,H2,I2,.cons r1 r2,q2⟩
def tTup(t:TA):TE:=fun σ H Q=>t σ H fun xs H1=>xs.length≤sizeLine∧∀ p,H1 p=none→Q (.ref p) (upd H1 p (.tup xs))
def tLst(t:TA):TE:=fun σ H Q=>t σ H fun xs H1=>xs.length≤sizeLine∧∀ p,H1 p=none→Q (.ref p) (upd H1 p (.lst xs))
theorem pe_tup{x1}(h:PA X es t):PE X (.Tuple es x1 pos) (tTup t):=by
 intro pins s σ H Q I hq
 refine wpAny_Tuple_spliced (thn (h pos pins s σ H _ I hq) fun us s1 ⟨xs,H1,I1,r,z,q⟩=>⟨by rw[← r.length];exact z,?_⟩)
 have hf:H1 s1.heap.objs.size=none:=I1.hok.fresh (c6l _)
 refine⟨.ref s1.heap.objs.size,upd H1 s1.heap.objs.size (.tup xs),I1.laid (t':=s1.toks) (fun b u e=>Heap.get?_push_of_some _ e) (c6l _) ?_,rfl,q _ hf⟩
 exact⟨z,us,r,⟨_,Heap.get?_push_size _ rfl,rfl,_,rfl⟩⟩
theorem pe_lst(h:PA X es t):PE X (.List es pos) (tLst t):=by
 intro pins s σ H Q I hq
 refine wpAny_List_spliced (thn (h pos pins s σ H _ I hq) fun us s1 ⟨xs,H1,I1,r,z,q⟩=>⟨by rw[← r.length];exact z,?_⟩)
 have hf:H1 s1.heap.objs.size=none:=I1.hok.fresh (c6l _)
 refine⟨.ref s1.heap.objs.size,upd H1 s1.heap.objs.size (.lst xs),I1.laid (t':=s1.toks) (fun b u e=>Heap.get?_push_of_some _ e) (c6l _) ?_,rfl,q _ hf⟩
 exact⟨z,us,0,r,Heap.get?_push_size _ rfl⟩
end
abbrev Sp:=List V→Hp→VK→XK→Prop
abbrev CXT:=List Env→Hp→Shared→XK→Value→Shared→Prop
structure Env0(P:Program)(w:World)(K:c5t)(mg:Str→Option Value)(base:Heap)(A:Around)(outer:List Env)(s:Shared)(H:Hp):Prop where
 frames:A.frames=some outer
 mod:Mod K mg base
 bs:∀ b o,base.get? b=some o→s.heap.get? b=some o∧H b=none
 bsz:base.objs.size≤s.heap.objs.size
 funs:s.heap.FunFrames base outer
 frf:∀ b∈frs outer,H b=none
 hok:HOk P w H s.heap
 bare:AllBare s.gens
def CE(outer:List Env)(P:Program)(w:World)(H:Hp)(s:Shared)(Q:VK)(u:Value)(s':Shared):Prop:=
 ∃ v H',s'.os=s.os∧AllBare s'.gens∧Un (frs outer) [] H H' s.heap s'.heap∧HOk P w H' s'.heap∧RelV v u∧Q v H'
def CR(CX:CXT)(outer:List Env)(P:Program)(w:World)(H:Hp)(s:Shared)(Q:VK)(E:XK)(r:Result)(s':Shared):Prop:=
 match r with
 | .ok (.ret u)=>CE outer P w H s Q u s'
 | .ok _=>False
 | .error e=>CX outer H s E e s'
structure FnOk(P:Program)(w:World)(K:c5t)(mg:Str→Option Value)(base:Heap)(CX:CXT)(k:Nat)(f:Addr)(fd:FuncData)(ps:List Str)(sp:Sp):Prop where
 len:∀ vs H Q E,sp vs H Q E→vs.length=ps.length
 run:∀ (A:Around) (outer:List Env) (s:Shared) (H:Hp) (args:Args) (us:List Value) (vs:List V) (Q:VK) (E:XK),Room k A→Env0 P w K mg base A outer s H→BindsTo s fd args (ps.zip us)→Vals vs us→sp vs H Q E→
   codeAny (model P w) A (.call (.ref f) args) (CR CX outer P w H s Q E) s
theorem Env0.make{P:Program}{w:World}{K:c5t}{mg:Str→Option Value}{base:Heap}{A:Around}{outer:List Env}{s:Shared}{H:Hp}(e:Env0 P w K mg base A outer s H)(C:Addr)(us:List Value)(kw:List (Str×Value)) :
 Env0 P w K mg base (A.under (.builtin "type.__call__" ⟨.ref C::us,kw⟩)) outer s H:=⟨by first | exact e.frames | (simpa [Around.under,Code.envs,Code.isFrame,pushEnvs] using e.frames),e.mod,e.bs,e.bsz,e.funs,e.frf,e.hok,e.bare⟩
section
variable {X:Cx} {pins:List (Addr×Obj)} {σ:St} {H:Hp} {s s':Shared}
theorem Inv.env0(I:Inv X pins σ H s):Env0 X.prog X.w X.K X.mg X.base X.A X.stack s H:=
 ⟨I.ok.frames,I.ok.mod,I.bs,c6x I.ok.bsz I.sz,I.stack,I.stkFree,I.hok,I.bare⟩
theorem Inv.after{Q:VK}{u:Value}(I:Inv X pins σ H s)(h:CE X.stack X.prog X.w H s Q u s'):EP X pins σ Q u s':=by
 obtain⟨v,H',os,bare,un,hok,r,q⟩:=h
 obtain⟨hh,g,d,t,os'⟩:=s'
 obtain rfl:os'=s.os:=os
 exact⟨v,H',I.call (h':=hh) (g':=g) (d':=d) (t':=t) (ch:=[]) un hok bare (fun b z=>absurd z (by simp)),r,q⟩
end
def tCall(sp:Sp)(dvs:List V)(E:XK)(t:TA):TE:=fun σ H Q=>t σ H fun vs H1=>sp (vs++dvs) H1 Q E
def tMeth(C:Addr)(m:Str)(sp:Sp)(dvs:List V)(E:XK)(ta:TE)(t:TA):TE:=fun σ H Q=>ta σ H fun x H1=>∃ a dx fs,x=.ref a∧H1 a=some (.ins C dx fs)∧fs.lookup m=none∧
 t σ H1 fun vs H2=>sp (x::(vs++dvs)) H2 Q E
def tMake(C:Addr)(sp:Sp)(dvs:List V)(E:XK)(t:TA):TE:=fun σ H Q=>t σ H fun vs H1=>∀ x dx,H1 x=none→H1 dx=none→dx≠x→
 sp (.ref x::(vs++dvs)) (upd (upd H1 dx (.own x)) x (.ins C dx [])) (fun v H2=>v=.non∧Q (.ref x) H2) E
def a9m(K:c5t)(fd:FuncData)(ps:List Str)(ds:List Value):Prop:=
 ∀ (s:Shared) (us:List Value),K.In s.heap→(us++ds).length=ps.length→BindsTo s fd ⟨us,[]⟩ (ps.zip (us++ds))
theorem a9m.all{K:c5t}{fd:FuncData}{ps:List Str}(h:∀ us:List Value,us.length=ps.length→bindArgs fd ⟨us,[]⟩=pure (ps.zip us)):a9m K fd ps []:=fun s us _ hl=>by
 rw[c7p] at hl ⊢
 exact .of_eq (h us hl)
def a4r(CX:CXT)(X:Cx)(E:XK):Prop:=∀ (pins:List (Addr×Obj)) (σ:St) (H:Hp) (s:Shared) (e:Value) (s':Shared),Inv X pins σ H s→CX X.stack H s E e s'→X.xe e s'
section
variable {X:Cx} {CX:CXT} {k:Nat} {f C:Addr} {fd:FuncData} {ps:List Str} {sp:Sp} {dvs:List V} {ds:List Value} {E:XK} {x m:Str} {p pos apos:Pos} {e o:Expr} {es:List Expr} {ta:TE} {t:TA}
theorem c2m{pins:List (Addr×Obj)}{σ:St}{H:Hp}{s:Shared}{Q:VK}{us:List Value}{vs:List V}(F:FnOk X.prog X.w X.K X.mg X.base CX k f fd ps sp)(hr:Room k X.A)(hb:a9m X.K fd ps ds)(hd:Vals dvs ds)(hx:a4r CX X E)(I:Inv X pins σ H s)(r:Vals vs us)(h:sp (vs++dvs) H Q E):wpAny (model X.prog X.w) X.A (call (.ref f) us) (EP X pins σ Q) X.xe s:=by
 have r2:Vals (vs++dvs) (us++ds):=r.append hd
 have hl:(us++ds).length=ps.length:=by rw[← r2.length];exact F.len _ _ _ _ h
 refine wpAny_call (codeAny_mono (F.run X.A X.stack s H ⟨us,[]⟩ (us++ds) (vs++dvs) Q E hr I.env0 (hb s us I.kIn hl) r2 h) fun r s' hq=>?_)
 cases r with
 | error e=>exact hx pins σ H s e s' I hq
 | ok fl=>
   cases fl with
   | ret u=>exact I.after hq
   | next=>exact False.elim hq
   | brk=>exact False.elim hq
   | cont=>exact False.elim hq
theorem pe_call(F:FnOk X.prog X.w X.K X.mg X.base CX k f fd ps sp)(hr:Room k X.A)(hg:Gl X x)(hm:X.mg x=some (.ref f))(hk:c5z X.K (.ref f)=true)(hb:a9m X.K fd ps ds)(hd:Vals dvs ds)(hx:a4r CX X E)(ha:PA X (e::es) t)(hdb:(x == ("__debug__" : Str))=false:=by decide)(he:starEach (e::es) X.env=(false,eval e X.env)::starEach es X.env:=by rfl)(hpl:(backTo pos (starEach es X.env)).any (·.1)=false:=by rfl) :
   PE X (.Call (.Name x p) (e::es) [] pos) (tCall sp dvs E t):=by
 intro pins s σ H Q I h
 refine wpAny_Call_Name_kw (b0z I hg hm ?_ hdb)
 refine d0d (h₀:=X.base) I.ok.mod.kin hk (thn (ha pos pins s σ H _ I h) fun us s1 ⟨vs,H1,I1,r,q⟩=>⟨I1.kIn,?_⟩) he hpl
 exact c2m F hr hb hd hx I1 r q
theorem pe_meth{pl:Sem Bool}(he:PE X o ta)(c:Cls X.K C)(hm:Meth X.K C m f)(F:FnOk X.prog X.w X.K X.mg X.base CX k f fd ps sp)(hr:Room k X.A)(hb:a9m X.K fd ps ds)(hd:Vals dvs ds)(hx:a4r CX X E)(ha:PA X (e::es) t)(hst:starEach (e::es) X.env=(false,eval e X.env)::starEach es X.env:=by rfl)(hpl:(backTo pos (starEach es X.env)).any (·.1)=false:=by rfl)(ht:eval (.Call (.Attribute o m apos) (e::es) [] pos) X.env=(do
     let ov ← eval o X.env
     standAt apos.atName
     let (f,first) ← holding [ov] (getMethod ov m pl)
     callWith pos f first (backTo pos (starEach (e::es) X.env)) (backToKw pos (keywordEach [] X.env))):=by rfl) :
   PE X (.Call (.Attribute o m apos) (e::es) [] pos) (tMeth C m sp dvs E ta t):=by
 intro pins s σ H Q I h
 refine PySem.W.methodCall_KW (pl:=pl) (thn (he pins s σ H _ I h) fun u s1 ⟨x,H1,I1,rx,a,dx,fs,ex,ea,l,q⟩=>?_) ht
 subst ex
 obtain rfl:u=Value.ref a:=rx
 refine b2a I1 ea c hm l ?_
 refine d0d (first:=[.ref a]) (h₀:=X.base) I.ok.mod.kin hm.kp (thn (ha pos pins s1 σ H1 _ I1 q) fun us s2 ⟨vs,H2,I2,r,q2⟩=>⟨I2.kIn,?_⟩) hst hpl
 exact c2m (us:=.ref a::us) (vs:=.ref a::vs) F hr hb hd hx I2 (.cons rfl r) q2
structure Mk(K:c5t)(C f:Addr):Prop where
 makes:PySem.W.makesIn K C=true
 init:c6p K (.ref C) "__init__" = some (some (.ref f))
 fn:d0f K (.ref f)=true
 kp:c5z K (.ref C)=true
theorem run_make{pins:List (Addr×Obj)}{σ:St}{H:Hp}{s:Shared}{Q:VK}{us:List Value}{vs:List V}(M:Mk X.K C f)(F:FnOk X.prog X.w X.K X.mg X.base CX k f fd ps sp)(hr:Room (k+1) X.A)(hb:a9m X.K fd ps ds)(hd:Vals dvs ds)(hx:a4r CX X E)(I:Inv X pins σ H s)(r:Vals vs us)(h:∀ x dx,H x=none→H dx=none→dx≠x→sp (.ref x::(vs++dvs)) (upd (upd H dx (.own x)) x (.ins C dx [])) (fun v H2=>v=.non∧Q (.ref x) H2) E) :
   wpAny (model X.prog X.w) X.A (call (.ref C) us) (EP X pins σ Q) X.xe s:=by
 have hq:=h (s.heap.objs.size+1) s.heap.objs.size (I.hok.fresh (Nat.le_succ _)) (I.hok.fresh (c6l _)) (c6s (Nat.lt_succ_self _))
 have I2:=Inv.made (C:=C) I
 have r2:Vals (V.ref (s.heap.objs.size+1)::(vs++dvs)) (Value.ref (s.heap.objs.size+1)::(us++ds)):=.cons rfl (r.append hd)
 have hl:(Value.ref (s.heap.objs.size+1)::us++ds).length=ps.length:=by
   have e:=r2.length
   rw[F.len _ _ _ _ hq] at e
   exact e.symm
 refine wpAny_call (make_map (f:=f) I.kIn M.makes M.init (beq_iff_eq.mp M.fn) (codeAny_mono (F.run _ X.stack _ _ ⟨Value.ref (s.heap.objs.size+1)::us,[]⟩ (Value.ref (s.heap.objs.size+1)::(us++ds)) _ _ E (hr.make C us [])
   (I2.env0.make C us []) (hb _ (Value.ref (s.heap.objs.size+1)::us) I2.kIn hl) r2 hq) fun r s' hq'=>?_))
 cases r with
 | error e=>exact hx pins σ _ _ e s' I2 hq'
 | ok fl=>
   cases fl with
   | ret u=>
     obtain⟨v,H',I3,rv,ev,q3⟩:=I2.after hq'
     subst ev
     exact⟨rv,⟨V.ref (s.heap.objs.size+1),H',I3,rfl,q3⟩⟩
   | next=>exact False.elim hq'
   | brk=>exact False.elim hq'
   | cont=>exact False.elim hq'
theorem pe_make0(M:Mk X.K C f)(F:FnOk X.prog X.w X.K X.mg X.base CX k f fd ps sp)(hr:Room (k+1) X.A)(hg:Gl X x)(hm:X.mg x=some (.ref C))(hb:a9m X.K fd ps ds)(hd:Vals dvs ds)(hx:a4r CX X E)(hdb:(x == ("__debug__" : Str))=false:=by decide):PE X (.Call (.Name x p) [] [] pos) (tMake C sp dvs E tNil):=by
 intro pins s σ H Q I h
 refine wpAny_Call_Name_kw (b0z I hg hm ?_ hdb)
 exact PySem.W.callWith_K0 I.kIn M.kp (run_make (us:=[]) M F hr hb hd hx I .nil h)
end
structure a0t(N P:List Str)(sc:Scope):Prop where
 kind:sc.kind=.function
 co:sc.isCoroutine=false
 gen:sc.isGenerator=false
 nd:N.Nodup
 pre:N.take P.length=P
 par:∀ x∈P,sc.names.lookup x=some .local∨sc.names.lookup x=some .cell
 nofree:∀ y∈sc.names,y.2≠.free
theorem b6c{kindOf:Str→Option NameKind}{x:Str}:∀ {binds:List (Str×Value)} {m:Str→Option Value},(∀ v,(x,v)∉binds)→bindL kindOf binds m x=m x
 | [],_,_=>rfl
 | (n,v)::r,m,h=>by
   unfold bindL
   rw[b6c fun w hw=>h w (c7e _ hw)]
   split
   · have:x≠n:=by rintro rfl;exact h v List.mem_cons_self
     simp[this]
   · rfl
theorem b6e{kindOf:Str→Option NameKind}{x:Str}:∀ {binds:List (Str×Value)} {m:Str→Option Value},(∀ v,(x,v)∉binds)→bindC kindOf binds m x=m x
 | [],_,_=>rfl
 | (n,v)::r,m,h=>by
   unfold bindC
   rw[b6e fun w hw=>h w (c7e _ hw)]
   split
   · rfl
   · have:x≠n:=by rintro rfl;exact h v List.mem_cons_self
     simp[this]
theorem b6d{kindOf:Str→Option NameKind}{x:Str}{v:Value}:∀ {P:List Str} {vs:List Value} {i:Nat} {m:Str→Option Value},P.Nodup→P[i]?=some x→vs[i]?=some v→kindOf x=some .local→
   bindL kindOf (P.zip vs) m x=some v
 | [],_,_,_,_,h,_,_=>by simp at h
 | _::_,[],_,_,_,_,h,_=>by simp at h
 | p::P,w::vs,0,m,nd,h1,h2,hk=>by
   simp at h1 h2;subst h1;subst h2
   show bindL kindOf ((p,w)::P.zip vs) m p=_
   unfold bindL
   rw[b6c fun v hv=>(c9m.mp nd).1 (List.of_mem_zip hv).1,if_pos hk]
   simp
 | p::P,w::vs,i+1,m,nd,h1,h2,hk=>by
   show bindL kindOf ((p,w)::P.zip vs) m x=_
   unfold bindL
   exact b6d (i:=i) (c9m.mp nd).2 (by simpa using h1) (by simpa using h2) hk
theorem b6f{kindOf:Str→Option NameKind}{x:Str}{v:Value}:∀ {P:List Str} {vs:List Value} {i:Nat} {m:Str→Option Value},P.Nodup→P[i]?=some x→vs[i]?=some v→kindOf x≠some .local→
   bindC kindOf (P.zip vs) m x=some v
 | [],_,_,_,_,h,_,_=>by simp at h
 | _::_,[],_,_,_,_,h,_=>by simp at h
 | p::P,w::vs,0,m,nd,h1,h2,hk=>by
   simp at h1 h2;subst h1;subst h2
   show bindC kindOf ((p,w)::P.zip vs) m p=_
   unfold bindC
   rw[b6e fun v hv=>(c9m.mp nd).1 (List.of_mem_zip hv).1,if_neg hk]
   simp
 | p::P,w::vs,i+1,m,nd,h1,h2,hk=>by
   show bindC kindOf ((p,w)::P.zip vs) m x=_
   unfold bindC
   exact b6f (i:=i) (c9m.mp nd).2 (by simpa using h1) (by simpa using h2) hk
def a7s(N:List Str)(vs:List V):St:=vs.map some++c6i (N.length - vs.length) none
def cxOf(CX:CXT)(P:Program)(w:World)(K:c5t)(mg:Str→Option Value)(base:Heap)(N:List Str)(qual:Str)(scope:Scope)(f:Addr)(cd:Value)(A:Around)(outer:List Env)(s:Shared)(H:Hp)(E:XK):Cx where
 prog:=P
 w:=w
 K:=K
 mg:=mg
 base:=base
 A:=A.deeper (envOfC qual scope s.heap.objs.size f cd)
 N:=N
 s₀:=s
 H₀:=H
 env:=envOfC qual scope s.heap.objs.size f cd
 outer:=outer
 stack:=envOfC qual scope s.heap.objs.size f cd::outer
 ex:=[]
 calm:=true
 fn:=fun _=>true
 pn:=[]
 xe:=fun e s'=>wpAny (model P w) (A.deeper (envOfC qual scope s.heap.objs.size f cd)) (leaving (envOfC qual scope s.heap.objs.size f cd) e) (fun _ s''=>CX outer H s E e s'') (fun e' s''=>CX outer H s E e' s'') s'
theorem b9k{sc:Scope}{n:Nat}{x:Str}(h:sc.names.lookup x=some .cell):∃ c,(cellsFrom n sc.names []).lookup x=some c:=by
 have q:=PySem.W.cellsFrom_some sc.names n [] (.inl h)
 exact Option.isSome_iff_exists.mp q
theorem c4k{CX:CXT}{P:Program}{w:World}{K:c5t}{mg:Str→Option Value}{base:Heap}{N ps:List Str}{qual:Str}{scope:Scope}{f:Addr}{cd:Value}{A:Around}{outer:List Env}{s s1:Shared}{H:Hp}{E:XK}{us:List Value}{vs:List V}(S:a0t N ps scope)(hd:A.handled=none)(e0:Env0 P w K mg base A outer s H)(hl:vs.length=ps.length)(r:Vals vs us)(x:InCallC s s.heap.objs.size (bindL (envOfC qual scope s.heap.objs.size f cd).kindOf (ps.zip us) fun _=>none) (cellsFrom (s.heap.objs.size+1) scope.names []) (bindC (envOfC qual scope s.heap.objs.size f cd).kindOf (ps.zip us) fun _=>none) s1) :
   Inv (cxOf CX P w K mg base N qual scope f cd A outer s H E) [] (a7s N vs) H s1:=by
 have hpl:ps.length≤N.length:=by have:=congrArg c8f S.pre;rw[c8i] at this;omega
 obtain⟨h1,tk,rfl,hk⟩:=x.done
 have noA:∀ b:Addr,b∉(cxOf CX P w K mg base N qual scope f cd A outer s H E).ex:=fun b z=>absurd (show b∈([]:List Addr) from z) (by simp)
 refine⟨⟨e0.mod,S.kind,rfl,rfl,c6l _,fun y z c h1 h2=>?_,fun y hy=>?_,fun y c _ h=>?_,fun _=>hd,Around.frames_deeper e0.frames,.inr ⟨rfl,rfl⟩,fun b z=>absurd z (noA b),e0.bs,e0.bsz,fun b _ _=>noA b,fun b z=>absurd z (noA b),e0.funs,e0.frf⟩,
   rfl,e0.bare,Un.kept hk,⟨_,x.toInCall.ns,fun i y v h1 h2 h3=>?_⟩,fun y c h=>⟨_,x.cell y c h⟩,e0.hok.fresh (c6l _),fun y c h=>?_,fun p hp=>absurd (show p∈([]:List (Addr×Obj)) from hp) (by simp),e0.hok.kept hk,?_⟩
 · exact name_of_addr x.apart (PySem.mem_of_lookup h1) (PySem.mem_of_lookup h2)
 · have hy:scope.names.lookup y=some .cell∨scope.names.lookup y=some .free:=hy
   rcases hy with hy | hy
   · exact b9k hy
   · exact absurd rfl (S.nofree _ (PySem.mem_of_lookup hy))
 · exact c6d (x.above y c (PySem.mem_of_lookup h))
 · have hi:i<vs.length:=by
     unfold a7s at h2
     by_cases hi:i<vs.length
     · exact hi
     · rw[c6v (by simpa using hi)] at h2
       rw[c8u] at h2
       split at h2<;>cases h2
   have ha:vs[i]?=some v:=by
     unfold a7s at h2
     rw[c7c (by simpa using hi),c6c] at h2
     cases e:vs[i]? with
     | none=>rw[e] at h2;cases h2
     | some a=>rw[e] at h2;cases h2;rfl
   obtain⟨u,hu,rv⟩:=r.get ha
   have hp:ps[i]?=some y:=by
     rw[← S.pre,List.getElem?_take_of_lt (by omega)];exact h1
   have ndP:ps.Nodup:=by rw[← S.pre];exact S.nd.sublist (List.take_sublist _ _)
   refine⟨u,rv,?_⟩
   rcases S.par y (c6t hp) with k | k
   · exact .inl ⟨k,b6d ndP hp hu k⟩
   · obtain⟨c,e⟩:=b9k (n:=s.heap.objs.size+1) k
     refine .inr ⟨.inl k,c,e,?_⟩
     have q:=x.cell y c e
     rw[b6f ndP hp hu (by show scope.names.lookup y≠_;rw[k];decide)] at q
     exact q
 · exact e0.hok.fresh (c6d (x.above y c (PySem.mem_of_lookup h)))
 · unfold a7s
   show _=N.length
   rw[c6m,c5u,c7a]
   omega
theorem fn_of{CX:CXT}{P:Program}{w:World}{K:c5t}{mg:Str→Option Value}{base:Heap}{k:Nat}{f:Addr}{name qual:Str}{params:Arguments}{body:List Stmt}{scope:Scope}{dV kV doc pm cdv ct oc:Value}{an od:Option Addr}{osl:Array (Option Value)}{N ps:List Str}{sp:Sp}(lk:K.lookup f=some ⟨oc,od,.func (c6b name qual params body scope dV kV doc pm an cdv ct),osl⟩)(hcd:c6a K cdv qual=true)(S:a0t N ps scope)(len:∀ vs H Q E,sp vs H Q E→vs.length=ps.length)(hbody:∀ (A:Around) (outer:List Env) (s:Shared) (H:Hp) (vs:List V) (Q:VK) (E:XK),Room k (A.deeper (envOfC qual scope s.heap.objs.size f cdv))→sp vs H Q E→
     ∃ t,PSs (cxOf CX P w K mg base N qual scope f cdv A outer s H E) body t∧t { nx:=fun _ H'=>Q .non H',rt:=Q } (a7s N vs) H) :
   FnOk P w K mg base CX (k+1) f (c6b name qual params body scope dV kV doc pm an cdv ct) ps sp:=by
 refine⟨len,fun A outer s H args us vs Q E hr e0 hb r hsp=>?_⟩
 have hl:=len _ _ _ _ hsp
 have KX:K.In s.heap:=e0.mod.kin.keeps fun b o e=>(e0.bs b o e).1
 have lim:s.heap.NoLimit:=e0.mod.nolimit.keeps fun b o e=>(e0.bs b o e).1
 have hkind:∀ y∈ps.zip us,scope.names.lookup y.1=some .local∨(scope.names.lookup y.1=some .cell∧((cellsFrom (s.heap.objs.size+1) scope.names []).lookup y.1).isSome=true):=fun⟨n,v⟩ hy=>by
   rcases S.par n (List.of_mem_zip hy).1 with q | q
   · exact .inl q
   · exact .inr ⟨q,PySem.W.cellsFrom_some _ _ _ (.inl q)⟩
 refine codeAny_call_function hr.depth (KX _ _ lk) rfl S.co S.gen rfl (PySem.W.codeRec_of KX hcd) (hb _ _ _ _ ?_)
 refine wpAny_newFunctionEnv_cells S.kind hkind fun env he s1 x=>?_
 subst he
 refine⟨lim.keeps x.toInCall.keep,codeAny_func ?_⟩
 obtain⟨t,ht,hq⟩:=hbody A outer s H vs Q E (hr.deeper _) hsp
 have I:Inv (cxOf CX P w K mg base N qual scope f cdv A outer s H E) [] (a7s N vs) H s1:=c4k S hr.hd e0 hl r x
 refine wpAny_mono (ht [] s1 (a7s N vs) H _ I hq) (fun fl s' hs=>?_) fun e s' hs=>hs
 have fin:∀ {σ':St} {H':Hp} {v:V} {u:Value},Inv (cxOf CX P w K mg base N qual scope f cdv A outer s H E) [] σ' H' s'→RelV v u→Q v H'→CE outer P w H s Q u s':=
   fun {σ' H' v u} J rv q=>⟨v,H',J.os,J.bare,J.base,J.hok,rv,q⟩
 cases fl with
 | ret u=>
   obtain⟨v,σ',H',J,rv,q⟩:=hs
   exact fin J rv q
 | next=>
   obtain⟨σ',H',J,q⟩:=hs
   exact fin (v:=V.non) (u:=Value.none) J rfl q
 | brk=>
   obtain⟨_,_,_,q⟩:=hs
   exact False.elim q
 | cont=>
   obtain⟨_,_,_,q⟩:=hs
   exact False.elim q
end L2
namespace L2
open PySem PySem.Spec PyProof.Rows
section
variable {X:Cx} {x:Str} {p pos:Pos} {e:Expr} {es:List Expr} {t:TA} {id T:String} {r:List V→Hp→VK→Prop}
def tCB(r:List V→Hp→VK→Prop)(t:TA):TE:=fun σ H Q=>t σ H fun vs H1=>r vs H1 Q
theorem pe_callB(hc:a6a X (.builtin id) r)(hg:Gl X x)(hm:X.mg x=none)(hv:bootBuiltins x=some (.builtin id))(ha:PA X (e::es) t)(hn:x ≠ "__name__":=by decide)(hdb:(x == ("__debug__" : Str))=false:=by decide)(he:starEach (e::es) X.env=(false,eval e X.env)::starEach es X.env:=by rfl)(hpl:(backTo pos (starEach es X.env)).any (·.1)=false:=by rfl):PE X (.Call (.Name x p) (e::es) [] pos) (tCB r t):=by
 intro pins s σ H Q I h
 refine wpAny_Call_Name_kw (b1a I hg hm hv ?_ hn hdb)
 exact PyProof.Rows.callWith_builtin1 (thn (ha pos pins s σ H _ I h) fun us s1 ⟨vs,H1,I1,r1,q1⟩=>hc pins s1 σ H1 vs us Q I1 r1 q1) he hpl
theorem c3j(hc:a6a X (.type T) r)(hg:Gl X x)(hm:X.mg x=none)(hv:bootBuiltins x=some (.type T))(ha:PA X (e::es) t)(hn:x ≠ "__name__":=by decide)(hdb:(x == ("__debug__" : Str))=false:=by decide)(he:starEach (e::es) X.env=(false,eval e X.env)::starEach es X.env:=by rfl)(hpl:(backTo pos (starEach es X.env)).any (·.1)=false:=by rfl):PE X (.Call (.Name x p) (e::es) [] pos) (tCB r t):=by
 intro pins s σ H Q I h
 refine wpAny_Call_Name_kw (b1a I hg hm hv ?_ hn hdb)
 exact c8l (thn (ha pos pins s σ H _ I h) fun us s1 ⟨vs,H1,I1,r1,q1⟩=>hc pins s1 σ H1 vs us Q I1 r1 q1) he hpl
end
end L2
namespace HT
open PySem PyProof.Rows
section
variable {prog:Program} {w:World} {A:Around} {E:Value→Shared→Prop} {s:Shared}
def sIx(n d:Nat):Option Int→Nat
 | none=>d
 | some v=>if v<0 then (v+(n:Int)).toNat else min v.toNat n
theorem sIx_none(n d:Nat):sIx n d none=d:=rfl
theorem sIx_nat(n d k:Nat):sIx n d (some (k:Int))=min k n:=by
 show (if (k:Int)<0 then ((k:Int)+(n:Int)).toNat else min (k:Int).toNat n)=min k n
 rw[if_neg (by omega),Int.toNat_natCast]
end
end HT
namespace L2
open PySem PySem.Spec PyProof.Rows
abbrev TO:=St→Hp→(Option Int→Hp→Prop)→Prop
def PO(X:Cx)(e:Option Expr)(t:TO):Prop:=
 ∀ (pins:List (Addr×Obj)) (s:Shared) (σ:St) (H:Hp) (Q:Option Int→Hp→Prop),Inv X pins σ H s→t σ H Q→
   wpAny (model X.prog X.w) X.A (evalPart e X.env) (fun u s'=>∃ o H',Inv X pins σ H' s'∧IsPart u o∧Q o H') X.xe s
def c1f:TO:=fun _ H Q=>Q none H
def tPart(t:TE):TO:=fun σ H Q=>t σ H fun x H1=>∃ i,x=.int i∧Q (some i) H1
section
variable {X:Cx} {e:Expr} {te:TE} {lo hi:Option Expr} {tl th:TO} {pos p2:Pos}
theorem po_none:PO X none c1f:=by
 intro pins s σ H Q I h
 rw[evalPart_none]
 exact wpAny_pure ⟨none,H,I,.none,h⟩
theorem po_some(h:PE X e te):PO X (some e) (tPart te):=by
 intro pins s σ H Q I hw
 rw[evalPart_some]
 refine thn (h pins s σ H _ I hw) fun u s1 ⟨x,H1,I1,r1,q1⟩=>?_
 obtain⟨i,rfl,q⟩:=q1
 obtain⟨t,rfl⟩:=r1
 exact⟨some i,H1,I1,.int i t,q⟩
def SlR(X:Cx)(r:V→Option Int→Option Int→Hp→VK→Prop):Prop:=
 ∀ (pins:List (Addr×Obj)) (s:Shared) (σ:St) (H:Hp) (x:V) (v vl vu:Value) (lo hi:Option Int) (sl:Addr) (Q:VK),Inv X pins σ H s→RelV x v→s.heap.IsSliceOf sl vl vu .none→IsPart vl lo→IsPart vu hi→r x lo hi H Q→
   ∃ T id,typeLookup (.type T) "__getitem__" = pure (some (.builtin id))∧s.TypeIs v T∧wpAny (model X.prog X.w) X.A (getItem v (.ref sl)) (EP X pins σ Q) X.xe s
def tSl(r:V→Option Int→Option Int→Hp→VK→Prop)(te:TE)(tl th:TO):TE:=fun σ H Q=>te σ H fun x H1=>tl σ H1 fun l H2=>th σ H2 fun u H3=>r x l u H3 Q
theorem pe_slice{r:V→Option Int→Option Int→Hp→VK→Prop}(hr:SlR X r)(he:PE X e te)(hl:PO X lo tl)(hu:PO X hi th):PE X (.Subscript e (.Slice lo hi none p2) pos) (tSl r te tl th):=by
 intro pins s σ H Q I h
 refine Subscript_ (thn (he pins s σ H _ I h) fun v s1 ⟨x,H1,I1,r1,q1⟩=>?_)
 refine wpAny_Slice (thn (hl pins s1 σ H1 _ I1 q1) fun vl s2 ⟨l,H2,I2,pl,q2⟩=>thn (hu pins s2 σ H2 _ I2 q2) fun vu s3 ⟨u,H3,I3,pu,q3⟩=>?_)
 rw[evalPart_none]
 refine wpAny_pure ?_
 have I4:Inv X pins σ H3 { s3 with heap:=s3.heap.push { cls:=.type "slice",data:=.fields #[vl,vu,.none] } }:=I3.kept (t':=s3.toks) fun b ob q=>Heap.get?_push_of_some _ q
 obtain⟨T,id,hT,ht,hg⟩:=hr pins { s3 with heap:=s3.heap.push { cls:=.type "slice",data:=.fields #[vl,vu,.none] } } σ H3 x v vl vu l u s3.heap.objs.size Q I4 r1 (Heap.IsSliceOf.new ..) pl pu q3
 show wpAny (model X.prog X.w) X.A (subscriptTail e (.Slice lo hi none p2) v (.ref s3.heap.objs.size)) (EP X pins σ Q) X.xe { s3 with heap:=s3.heap.push { cls:=.type "slice",data:=.fields #[vl,vu,.none] } }
 exact tail_any (ops:=[.ref s3.heap.objs.size,v]) ht hT hg (by with_unfolding_all rfl)
def cutV(xs:List V)(lo hi:Option Int):List V:=(xs.drop (HT.sIx xs.length 0 lo)).take (HT.sIx xs.length xs.length hi - HT.sIx xs.length 0 lo)
theorem b7s(xs:List V)(lo hi:Option Int):(cutV xs lo hi).length≤xs.length:=by
 unfold cutV
 rw[c8i,c9y]
 omega
end
end L2
namespace L2
open PySem PySem.Spec PyProof.Rows
def ixN(n:Nat)(i:Int):Option Nat:=if 0≤i then (if i<n then some i.toNat else none) else if -(n:Int)≤i then some (i+n).toNat else none
def atI{α:Type}(xs:List α)(i:Int):Option α:=(ixN xs.length i).bind fun j=>xs[j]?
theorem ixN_seq{n:Nat}{i:Int}{j:Nat}(h:ixN n i=some j):seqIndex? i n=some j∧j<n∧-(n:Int)≤i∧i<n:=by
 unfold ixN at h
 by_cases h0:0≤i
 · rw[if_pos h0] at h
   by_cases h1:i<n
   · rw[if_pos h1] at h
     have e:i.toNat=j:=c7z.inj h
     exact⟨by rw[seqIndex_of h0 h1,e],by omega,by omega,h1⟩
   · rw[if_neg h1] at h;cases h
 · rw[if_neg h0] at h
   by_cases h1:-(n:Int)≤i
   · rw[if_pos h1] at h
     have e:(i+n).toNat=j:=c7z.inj h
     exact⟨by rw[seqIndex_neg (by omega) h1,e],by omega,h1,by omega⟩
   · rw[if_neg h1] at h;cases h
theorem b7x{α:Type}{xs:List α}{i:Int}{v:α}(h:atI xs i=some v):∃ j,seqIndex? i xs.length=some j∧xs[j]?=some v∧j<xs.length∧-(xs.length:Int)≤i∧i<xs.length:=by
 unfold atI at h
 cases e:ixN xs.length i with
 | none=>rw[e] at h;cases h
 | some j=>
   rw[e] at h
   obtain⟨h1,h2,h3,h4⟩:=ixN_seq e
   exact⟨j,h1,h,h2,h3,h4⟩
theorem b3x{α:Type}{xs:List α}{j:Nat}{v:α}(h:xs[j]?=some v):atI xs (j:Int)=some v:=by
 have hj:j<xs.length:=(c6h.mp h).1
 have e:ixN xs.length (j:Int)=some j:=by
   unfold ixN
   rw[if_pos (by omega),if_pos (by omega)];simp
 unfold atI;rw[e];exact h
def c5r(b:Expr):Prop:=∀ o i,subscripted b false o i=operate [o,i] (getItem o i)
def IxR(X:Cx)(r:R2):Prop:=
 ∀ (value slice:Expr) (pins:List (Addr×Obj)) (s:Shared) (σ:St) (H:Hp) (x y:V) (v u:Value) (Q:VK),Inv X pins σ H s→RelV x v→RelV y u→r x y H Q→
   subscripted slice false v u=operate [v,u] (getItem v u)→wpAny (model X.prog X.w) X.A (subscriptTail value slice v u) (EP X pins σ Q) X.xe s
def MtR(X:Cx)(id:String)(r:V→List V→Hp→VK→Prop):Prop:=
 ∀ (pins:List (Addr×Obj)) (s:Shared) (σ:St) (H:Hp) (x:V) (xs:List V) (v:Value) (us:List Value) (Q:VK),Inv X pins σ H s→RelV x v→Vals xs us→r x xs H Q→
   wpAny (model X.prog X.w) X.A (call (.builtin id) (v::us)) (EP X pins σ Q) X.xe s
section
variable {X:Cx} {a b:Expr} {ta tb:TE} {pos:Pos}
theorem pe_ix{r:R2}(hr:IxR X r)(ha:PE X a ta)(hb:PE X b tb)(hs:c5r b):PE X (.Subscript a b pos) (tOp r ta tb):=by
 intro pins s σ H Q I h
 exact Subscript_ (binT ha hb I h fun v u s2 x y H2 I2 rx ry q=>hr a b pins s2 σ H2 x y v u Q I2 rx ry q (hs _ _))
def rIxL(K:c5t):R2:=fun x y H Q=>∃ p xs i v,x=.ref p∧y=.int i∧SqL K H p xs∧atI xs i=some v∧Q v H
def rIxT(K:c5t):R2:=fun x y H Q=>∃ p xs i v,x=.ref p∧y=.int i∧SqT K H p xs∧atI xs i=some v∧Q v H
def rIxS:R2:=fun x y H Q=>∃ z i c,x=.str z∧y=.int i∧z.length≤sizeLine∧atI z.cps.toList i=some c∧Q (.str ⟨#[c]⟩) H
theorem ix_list:IxR X (rIxL X.K):=by
 intro value slice pins s σ H x y v u Q I rx ry h hs
 obtain⟨p,xs,i,z,rfl,rfl,hq,he,q⟩:=h
 cases rx
 obtain⟨t,rfl⟩:=ry
 obtain⟨its,r,pl,hz⟩:=I.list hq
 obtain⟨j,h1,h2,h3,h4,h5⟩:=b7x he
 obtain⟨w,ew,rw'⟩:=r.get h2
 have hl:=r.length
 have hn:=b5n
 have fin:EP X pins σ Q w s:=⟨z,H,I,rw',q⟩
 by_cases h0:0≤i
 · have hj:i.toNat=j:=by
     rw[seqIndex_of h0 h5] at h1
     exact c7z.inj h1
   exact item_listR pl.isList h0 (by omega) (by rw[hj];simpa using ew) fin hs
 · have hj:(i+(its.toArray.size:Int)).toNat=j:=by
     rw[seqIndex_neg (by omega) h4] at h1
     rw[c7f,← hl]
     exact c7z.inj h1
   exact subscriptTail_builtinR (x:=w) pl.isList.typeIs slot_list_getitem.lookup
     (wpAny_getItem_list_neg (Q:=fun r s'=>r=w∧EP X pins σ Q r s') pl.isList (by omega) (by rw[c7f]<;>omega) (by omega) (by rw[hj];simpa using ew) ⟨rfl,fin⟩) hs
theorem ix_tup:IxR X (rIxT X.K):=by
 intro value slice pins s σ H x y v u Q I rx ry h hs
 obtain⟨p,xs,i,z,rfl,rfl,hq,he,q⟩:=h
 cases rx
 obtain⟨t,rfl⟩:=ry
 obtain⟨its,r,pl,hz⟩:=I.tuple hq
 obtain⟨j,h1,h2,h3,h4,h5⟩:=b7x he
 obtain⟨w,ew,rw'⟩:=r.get h2
 have hl:=r.length
 have hn:=b5n
 have fin:EP X pins σ Q w s:=⟨z,H,I,rw',q⟩
 exact subscriptTail_builtinR (x:=w) pl.typeIs slot_tuple_getitem.lookup
   (getItem_tuple (j:=j) (Q:=fun r s'=>r=w∧EP X pins σ Q r s') pl (by omega) (by omega) (by rw[c7f,← hl];exact h1) (by simpa using ew) ⟨rfl,fin⟩) hs
theorem c4i:IxR X rIxS:=by
 intro value slice pins s σ H x y v u Q I rx ry h hs
 obtain⟨z,i,c,rfl,rfl,hz,he,q⟩:=h
 obtain⟨t,rfl⟩:=rx
 obtain⟨t',rfl⟩:=ry
 obtain⟨j,h1,h2,h3,h4,h5⟩:=b7x he
 have hl:z.cps.toList.length=z.length:=by simp[Str.length]
 rw[hl] at h1 h4 h5
 have hn:=b5n
 exact tail_any (typeIs_str s z t) slot_str_getitem.lookup (getItem_str (c:=c) (by
   have e1:decide (i < -(2^63:Int))=false:=decide_eq_false (by omega)
   have e2:decide (i≥2^63)=false:=decide_eq_false (by omega)
   rw[e1,e2,Bool.or_false]) (by rw[h1];simpa using h2) ⟨.str ⟨#[c]⟩,H,I.tok _,⟨_,rfl⟩,q⟩) hs
theorem b4l(lo hi:Option Int)(n:Nat):(sliceBounds lo hi none n).1=((HT.sIx n 0 lo:Nat):Int)∧(sliceBounds lo hi none n).2.1=((HT.sIx n n hi:Nat):Int)∧(sliceBounds lo hi none n).2.2=1:=by
 refine⟨?_,?_,rfl⟩
 · cases lo with
   | none=>simp[sliceBounds,HT.sIx]
   | some i=>
     simp only[sliceBounds,HT.sIx,Option.getD_none,show (1:Int) > 0 by decide,if_true]
     by_cases h:i<0
     · simp only[h,if_true]<;>omega
     · simp only[h,if_false]<;>omega
 · cases hi with
   | none=>simp[sliceBounds,HT.sIx]
   | some i=>
     simp only[sliceBounds,HT.sIx,Option.getD_none,show (1:Int) > 0 by decide,if_true]
     by_cases h:i<0
     · simp only[h,if_true]<;>omega
     · simp only[h,if_false]<;>omega
theorem b2j(its:List Value)(lo hi:Option Int):slicePick its.toArray lo hi none=((its.drop (HT.sIx its.length 0 lo)).take (HT.sIx its.length its.length hi - HT.sIx its.length 0 lo)).toArray:=by
 obtain⟨h1,h2,h3⟩:=b4l lo hi its.toArray.size
 unfold slicePick
 rw[h1,h2,h3]
 simp only[sliceRange_one,pick_run,c7f]<;>rfl
def rSlL(K:c5t):V→Option Int→Option Int→Hp→VK→Prop:=fun x lo hi H Q=>∃ a xs,x=.ref a∧SqL K H a xs∧∀ p,H p=none→Q (.ref p) (upd H p (.lst (cutV xs lo hi)))
theorem sl_list:SlR X (rSlL X.K):=by
 intro pins s σ H x v vl vu lo hi sl Q I rx hs pl pu h
 obtain⟨a,xs,rfl,hx,q⟩:=h
 cases rx
 obtain⟨its,r,ht,hz⟩:=I.list hx
 have hlen:=r.length
 refine⟨"list",_,slot_list_getitem.lookup,ht.isList.typeIs,?_⟩
 refine wpAny_getItem_list_slice ht.isList hs pl pu .none (by simp) ?_ (by rw[c7f]<;>omega)
 rw[b2j,← hlen]
 refine⟨.ref s.heap.objs.size,_,I.laid (t':=s.toks) (o:=.lst (cutV xs lo hi)) (fun b ob q=>Heap.get?_push_of_some _ q) (c6l _) ?_,rfl,q _ (I.hok.fresh (c6l _))⟩
 exact⟨c6x (b7s xs lo hi) hz,_,0,(r.drop (HT.sIx xs.length 0 lo)).take (HT.sIx xs.length xs.length hi - HT.sIx xs.length 0 lo),Heap.get?_push_size _ rfl⟩
def b5u:V→Bool
 | .non=>true
 | .bl _=>true
 | .int _=>true
 | .str _=>true
 | _=>false
def eqV:V→V→Bool
 | .non,.non=>true
 | .bl a,.bl b=>a == b
 | .bl a,.int b=>(if a then 1 else 0) == b
 | .int a,.bl b=>a == (if b then 1 else 0)
 | .int a,.int b=>a == b
 | .str a,.str b=>a == b
 | _,_=>false
theorem eqAt_V{A:Around}{s:Shared}{y x:V}{u v:Value}(ry:RelV y u)(rx:RelV x v)(fy:b5u y=true)(fx:b5u x=true):SeqAt.EqAt A s u v (eqV y x):=by
 cases y with
 | non=>
   cases ry
   cases x with
   | non=>cases rx;exact SeqAt.EqAt.same _
   | bl b=>cases rx;exact SeqAt.EqAt.none_bool b
   | int b=>obtain⟨t,rfl⟩:=rx;exact SeqAt.EqAt.none_int b t
   | str b=>obtain⟨t,rfl⟩:=rx;exact SeqAt.EqAt.none_str b t
   | _=>exact absurd (show false=true from fx) c6k
 | bl a=>
   cases ry
   cases x with
   | non=>cases rx;exact SeqAt.EqAt.bool_none a
   | bl b=>cases rx;exact SeqAt.EqAt.bool_bool a b
   | int b=>obtain⟨t,rfl⟩:=rx;exact SeqAt.EqAt.bool_int a b t
   | str b=>obtain⟨t,rfl⟩:=rx;exact SeqAt.EqAt.bool_str a b t
   | _=>exact absurd (show false=true from fx) c6k
 | int a=>
   obtain⟨t',rfl⟩:=ry
   cases x with
   | non=>cases rx;exact SeqAt.EqAt.int_none a t'
   | bl b=>cases rx;exact SeqAt.EqAt.int_bool a t' b
   | int b=>obtain⟨t,rfl⟩:=rx;exact SeqAt.EqAt.int_int a t' b t
   | str b=>obtain⟨t,rfl⟩:=rx;exact SeqAt.EqAt.int_str a t' b t
   | _=>exact absurd (show false=true from fx) c6k
 | str a=>
   obtain⟨t',rfl⟩:=ry
   cases x with
   | non=>cases rx;exact SeqAt.EqAt.str_none a t'
   | bl b=>cases rx;exact SeqAt.EqAt.str_bool a t' b
   | int b=>obtain⟨t,rfl⟩:=rx;exact SeqAt.EqAt.str_int a t' b t
   | str b=>obtain⟨t,rfl⟩:=rx;exact SeqAt.EqAt.str_str a t' b t
   | _=>exact absurd (show false=true from fx) c6k
 | _=>exact absurd (show false=true from fy) c6k
def eqU(x:V)(u:Value):Bool:=match u with
 | .none=>eqV .non x
 | .bool b=>eqV (.bl b) x
 | .int i _=>eqV (.int i) x
 | .str z _=>eqV (.str z) x
 | _=>false
theorem eqU_of{x y:V}{u:Value}(r:RelV y u)(f:b5u y=true):eqU x u=eqV y x:=by
 cases y with
 | non=>cases r;rfl
 | bl b=>cases r;rfl
 | int i=>obtain⟨t,rfl⟩:=r;rfl
 | str z=>obtain⟨t,rfl⟩:=r;rfl
 | _=>exact absurd (show false=true from f) c6k
theorem b7z{x:V}:∀ {xs:List V} {us:List Value},Vals xs us→xs.all b5u=true→us.any (eqU x)=xs.any fun y=>eqV y x
 | _,_,.nil,_=>rfl
 | y::xs,u::us,.cons r t,f=>by
   rw[List.all_cons,c6n] at f
   rw[c9f,c9f,eqU_of r f.1,b7z t f.2]
theorem b3n{A:Around}{s:Shared}{x:V}{v:Value}(rx:RelV x v)(fx:b5u x=true):∀ {xs:List V} {us:List Value},Vals xs us→xs.all b5u=true→∀ u∈us,SeqAt.EqAt A s u v (eqU x u)
 | _,_,.nil,_=>fun u hu=>by cases hu
 | y::xs,u::us,.cons r t,f=>fun u' hu=>by
   rw[List.all_cons,c6n] at f
   rcases c6e.mp hu with rfl | hu
   · rw[eqU_of r f.1];exact eqAt_V r rx f.1 fx
   · exact b3n rx fx t f.2 u' hu
def inV(x:V)(xs:List V):Bool:=xs.any fun y=>eqV y x
def rIn(K:c5t)(neg:Bool):R2:=fun x y H Q=>∃ p xs,y=.ref p∧(SqL K H p xs∨SqT K H p xs)∧b5u x=true∧xs.all b5u=true∧Q (.bl (if neg then !inV x xs else inV x xs)) H
theorem c3r:OpR X (compareOp .In) (rIn X.K false):=by
 intro pins s σ H x y v u Q I rx ry h
 obtain⟨p,xs,rfl,hq,fx,fs,q⟩:=h
 cases ry
 rcases hq with hq | hq
 · obtain⟨its,r,pl,hz⟩:=I.list hq
   refine SeqAt.in_listAt (eqU x) pl.isList (fun w hw=>b3n rx fx r fs w (by simpa using hw)) ⟨.bl _,H,I,rfl,?_⟩
   rw[show its.toArray.any (eqU x)=its.any (eqU x) by simp,b7z r fs]
   exact q
 · obtain⟨its,r,pl,hz⟩:=I.tuple hq
   refine SeqAt.in_tupleAt (eqU x) pl (fun w hw=>b3n rx fx r fs w (by simpa using hw)) ⟨.bl _,H,I,rfl,?_⟩
   rw[show its.toArray.any (eqU x)=its.any (eqU x) by simp,b7z r fs]
   exact q
theorem b5z:a6a X (.builtin "len") (fun xs H Q=>∃ p ys,xs=[.ref p]∧(SqL X.K H p ys∨SqT X.K H p ys)∧Q (.int ys.length) H):=by
 intro pins s σ H xs us Q I r h
 obtain⟨p,ys,rfl,hq,q⟩:=h
 obtain⟨u,rfl,rx⟩:=vals1 r
 cases rx
 have hn:=b5n
 rcases hq with hq | hq
 · obtain⟨its,r',pl,hz⟩:=I.list hq
   have hlen:=r'.length
   exact Calls.call_len_list pl.isList (by simp only[c7f]<;>omega) ⟨.int ys.length,H,I.tok _,⟨s.toks+1,by rw[c7f,hlen]⟩,q⟩
 · obtain⟨its,r',pl,hz⟩:=I.tuple hq
   have hlen:=r'.length
   exact len_tuple pl (by simp only[c7f]<;>omega) ⟨.int ys.length,H,I.tok _,⟨s.toks+1,by rw[c7f,hlen]⟩,q⟩
theorem a6v:a6a X (.builtin "len") (fun xs H Q=>∃ z,xs=[.str z]∧z.length≤sizeLine∧Q (.int z.length) H):=by
 intro pins s σ H xs us Q I r h
 obtain⟨z,rfl,hz,q⟩:=h
 obtain⟨u,rfl,t,rfl⟩:=vals1 r
 have hn:=b5n
 exact len_str (by omega) ⟨.int z.length,H,I.tok _,⟨_,rfl⟩,q⟩
def tyV(K:c5t)(T:String)(x:V)(H:Hp):Prop:=match x with
 | .str _=>T = "str"
 | .int _=>T = "int"
 | .ref p=>(T = "list" ∧ ∃ xs,SqL K H p xs)∨(T = "tuple" ∧ ∃ o,K.lookup p=some o∧o.cls=.type "tuple" ∧ o.dict=none)∨
     (T = "dict" ∧ ((∃ kvs,H p=some (.dK kvs))∨∃ kvs,H p=some (.dT kvs)))∨(T = "set" ∧ ∃ S n,H p=some (.set S n))
 | _=>False
theorem tyV_is{pins:List (Addr×Obj)}{σ:St}{H:Hp}{s:Shared}{T:String}{x:V}{v:Value}(I:Inv X pins σ H s)(r:RelV x v)(ty:tyV X.K T x H) :
   s.TypeIs v T∧∀ a,v=.ref a→∃ ob,s.heap.get? a=some ob∧ob.dict=none:=by
 cases x with
 | str z=>
   obtain⟨t,rfl⟩:=r
   cases (show T = "str" from ty)
   exact⟨typeIs_str s z t,fun _ e=>nomatch e⟩
 | int i=>
   obtain⟨t,rfl⟩:=r
   cases (show T = "int" from ty)
   exact⟨typeIs_int s i t,fun _ e=>nomatch e⟩
 | ref p=>
   cases r
   rcases ty with⟨rfl,xs,hq⟩ | ⟨rfl,o,hk,hc,hd⟩ | ⟨rfl,hk⟩ | ⟨rfl,S,n,hk⟩
   · obtain⟨its,_,pl,_⟩:=I.list hq
     refine⟨pl.isList.typeIs,fun a e=>?_⟩
     cases e
     obtain⟨o,n,e,c,hd,_⟩:=pl
     exact⟨o,e,hd⟩
   · refine⟨⟨o,I.kIn p o hk,hc⟩,fun a e=>?_⟩
     cases e
     exact⟨o,I.kIn _ o hk,hd⟩
   · have z:∃ o,s.heap.get? p=some o∧o.ExactDict:=by
       rcases hk with⟨kvs,hk⟩ | ⟨kvs,hk⟩
       · obtain⟨_,_,_,_,o,_,_,e,ex,_⟩:=I.hok p _ hk
         exact⟨o,e,ex⟩
       · obtain⟨_,_,_,_,o,_,_,e,ex,_⟩:=I.hok p _ hk
         exact⟨o,e,ex⟩
     obtain⟨o,e,ex⟩:=z
     refine⟨⟨o,e,ex.1⟩,fun a e2=>?_⟩
     cases e2
     exact⟨o,e,ex.2.1⟩
   · obtain⟨o,_,_,_,e,ex,_⟩:=I.hok p _ hk
     refine⟨⟨o,e,ex.1⟩,fun a e2=>?_⟩
     cases e2
     exact⟨o,e,ex.2.1⟩
 | _=>exact False.elim ty
def tBM0(K:c5t)(T:String)(r:V→List V→Hp→VK→Prop)(to:TE):TE:=fun σ H Q=>to σ H fun x H1=>tyV K T x H1∧r x [] H1 Q
def tBM(K:c5t)(T:String)(r:V→List V→Hp→VK→Prop)(to:TE)(t:TA):TE:=fun σ H Q=>to σ H fun x H1=>tyV K T x H1∧t σ H1 fun xs H2=>r x xs H2 Q
variable {o e:Expr} {es:List Expr} {to:TE} {t:TA} {name:Str} {apos cpos:Pos} {T id:String} {r:V→List V→Hp→VK→Prop}
theorem pe_bm0(pa:PlainAttrs T)(slot:Slot T name id)(hty:typeOf (.builtin id)=pure (.type "method_descriptor"))(hm:MtR X id r)(ho:PE X o to)(hbase:attributeBase o name X.env (eval o X.env)=eval o X.env:=by rfl)(hline:(apos.endLine == cpos.line)=true:=by rfl):PE X (.Call (.Attribute o name apos) [] [] cpos) (tBM0 X.K T r to):=by
 intro pins s σ H Q I h
 refine wpAny_Call_method0_late hbase hline (thn (ho pins s σ H _ I h) fun v s1 ⟨x,H1,I1,r1,ty,q1⟩=>?_)
 obtain⟨h1,h2⟩:=tyV_is I1 r1 ty
 exact⟨T,id,pa,slot,hty,h1,h2,Calls.callWith_builtin rfl (PySem.evalArgs_none (hm pins s1 σ H1 x [] v [] Q I1 r1 .nil q1))⟩
theorem pe_bm(pa:PlainAttrs T)(slot:Slot T name id)(hty:typeOf (.builtin id)=pure (.type "method_descriptor"))(hm:MtR X id r)(ho:PE X o to)(ha:PA X (e::es) t)(hbase:attributeBase o name X.env (eval o X.env)=eval o X.env:=by rfl)(hfew:((backTo cpos (starEach (e::es) X.env)).all (fun x=>!x.1) && (backToKw cpos (keywordEach [] X.env)).all (fun x=>x.1.isSome)
     && decide ((e::es).length+([]:List Keyword).length+(if ([]:List Keyword).isEmpty then 0 else 1)<30))=true:=by rfl)(hline:(apos.endLine == cpos.line)=true:=by rfl)(hs:starEach (e::es) X.env=(false,eval e X.env)::starEach es X.env:=by rfl)(hplain:(backTo cpos (starEach es X.env)).any (·.1)=false:=by rfl) :
   PE X (.Call (.Attribute o name apos) (e::es) [] cpos) (tBM X.K T r to t):=by
 intro pins s σ H Q I h
 refine wpAny_Call_method_late hbase hfew hline rfl (thn (ho pins s σ H _ I h) fun v s1 ⟨x,H1,I1,r1,ty,q1⟩=>?_)
 obtain⟨h1,h2⟩:=tyV_is I1 r1 ty
 refine⟨T,id,pa,slot,hty,h1,h2,?_⟩
 have hA:=ha cpos pins s1 σ H1 _ I1 q1
 rw[hs] at hA ⊢
 refine Calls.callWith_builtin (by show (false || (backTo cpos (starEach es X.env)).any (·.1))=false;rw[hplain]<;>rfl) (Calls.evalArgs_plain ?_)
 exact thn hA fun us s2 ⟨vs,H2,I2,r2,q2⟩=>hm pins s2 σ H2 x vs v us Q I2 r1 r2 q2
end
end L2
namespace L2
open PySem PySem.Spec PyProof.Rows
def MtM(X:Cx)(id:String)(r:V→List V→Hp→VK→Prop):Prop:=
 ∀ (pins:List (Addr×Obj)) (s:Shared) (σ:St) (H:Hp) (x:V) (xs:List V) (v:Value) (us:List Value) (Q:VK),Inv X pins σ H s→RelV x v→Vals xs us→r x xs H Q→
   wpAny (model X.prog X.w) X.A (call (.builtin id) (v::us)) (EP X pins σ Q) X.xe s
theorem Vals.one:∀ {x:V} {us:List Value},Vals [x] us→∃ u,us=[u]∧RelV x u
 | _,_,.cons r .nil=>⟨_,rfl,r⟩
theorem Vals.zero:∀ {us:List Value},Vals [] us→us=[]
 | _,.nil=>rfl
theorem Vals.dropLast{xs:List V}{us:List Value}(h:Vals xs us):Vals xs.dropLast us.dropLast:=by
 induction h with
 | nil=>exact .nil
 | cons r t ih=>
   cases t with
   | nil=>exact .nil
   | cons q t'=>exact .cons r ih
theorem Vals.rep{xs:List V}{us:List Value}(h:Vals xs us):∀ k:Nat,Vals (c6i k xs).flatten (c6i k us).flatten
 | 0=>.nil
 | k+1=>by
   rw[c8m,c8m,c9g,c9g]
   exact Vals.append h (Vals.rep h k)
theorem c0o{α:Type}(l:List α):l.eraseIdx (l.length - 1)=l.dropLast:=by
 induction l with
 | nil=>rfl
 | cons a r ih=>
   cases r with
   | nil=>rfl
   | cons b r=>
     have e:(a::b::r).length - 1=((b::r).length - 1)+1:=by
       have h1:(a::b::r).length=r.length+2:=rfl
       have h2:(b::r).length=r.length+1:=rfl
       omega
     rw[e,List.eraseIdx_cons_succ,ih]
     all_goals rfl
theorem b5t(its:List Value):∀ (k:Nat) (acc:List Value),
   List.foldl (fun x1 x2=>x1++x2) acc.toArray (c6i k its.toArray)=(acc++(c6i k its).flatten).toArray
 | 0,acc=>by simp
 | k+1,acc=>by
   have e:acc.toArray++its.toArray=(acc++its).toArray:=by simp
   have e2:(acc++its)++(c6i k its).flatten=acc++(c6i (k+1) its).flatten:=by
     rw[c8m,c9g,c8r]
   rw[← e2,← b5t its k (acc++its),← e,c8m,List.foldl_cons]
section
variable {X:Cx} {pins:List (Addr×Obj)} {σ:St} {H:Hp} {s:Shared} {l b:Addr} {xs ys zs:List V}
theorem Inv.lset{its its':List Value}{n:Nat}{f:Array Value→Array Value}{t':Nat}(I:Inv X pins σ H s)(hH:H l=some (.lst xs))(e:s.heap.get? l=some { cls:=.type "list",data:=.seq its.toArray n })(hf:f its.toArray=its'.toArray)(hv:Vals ys its')(hz:ys.length≤sizeLine) :
   Inv X pins σ (upd H l (.lst ys)) { s with heap:=s.heap.update l (Obj.mapSeq f),toks:=t' }:=by
 have q:=PySem.IsL.update e f
 rw[hf] at q
 refine I.write (x:=l) (e:=l) (by rw[hH];exact trivial) (.inl rfl) (fun b' u hb hu=>(Heap.get?_update_other s.heap (Obj.mapSeq f) (Ne.symm hb)).trans hu) ⟨_,q⟩ ?_
 exact⟨hz,its',_,hv,q⟩
theorem Inv.lnew{its:List Value}{t':Nat}(I:Inv X pins σ H s)(hv:Vals ys its)(hz:ys.length≤sizeLine) :
   Inv X pins σ (upd H s.heap.objs.size (.lst ys)) { s with heap:=s.heap.push { cls:=.type "list",data:=.seq its.toArray },toks:=t' }:=
 I.laid (fun _ _ q=>Heap.get?_push_of_some _ q) (c6l _) ⟨hz,its,0,hv,Heap.get?_push_size _ rfl⟩
theorem Inv.fresh(I:Inv X pins σ H s):H s.heap.objs.size=none:=I.hok.fresh (c6l _)
theorem Inv.lstM(I:Inv X pins σ H s)(hH:H l=some (.lst xs)):xs.length≤sizeLine∧∃ (its:List Value) (n:Nat),Vals xs its∧xs.length=its.length∧s.heap.get? l=some { cls:=.type "list",data:=.seq its.toArray n }:=by
 obtain⟨z,its,n,r,e⟩:=I.hok l _ hH
 exact⟨z,its,n,r,r.length,e⟩
theorem notLongL{n:Nat}(h:n≤sizeLine):Builtin.List.listTooLong n=false:=by
 unfold Builtin.List.listTooLong
 exact decide_eq_false (by omega)
end
section
variable {X:Cx}
def rAppend:V→List V→Hp→VK→Prop:=fun x vs H Q=>∃ l xs y,x=.ref l∧vs=[y]∧H l=some (.lst xs)∧xs.length<sizeLine∧Q .non (upd H l (.lst (xs++[y])))
theorem a5l:MtM X "list.append" rAppend:=by
 intro pins s σ H x vs v us Q I rx rv h
 obtain⟨l,xs,y,rfl,rfl,hH,hz,q⟩:=h
 cases rx
 obtain⟨u,rfl,ru⟩:=rv.one
 obtain⟨z,its,n,r,hl,e⟩:=I.lstM hH
 refine call_meets F.slot_list_append ⟨_,e,rfl⟩ F.entry_list_append (F.args_list_append_2 _ _) (PySem.list_append l its.toArray n u (by rw[c7f];omega)) ⟨e,?_⟩
 refine⟨.non,_,I.lset (its':=its++[u]) hH e (by simp) (r.append (.cons ru .nil)) ?_,rfl,q⟩
 rw[c6m,List.length_singleton]
 omega
def rPop:V→List V→Hp→VK→Prop:=fun x vs H Q=>∃ l xs y,x=.ref l∧vs=[]∧H l=some (.lst xs)∧xs[xs.length - 1]?=some y∧Q y (upd H l (.lst xs.dropLast))
theorem mt_pop:MtM X "list.pop" rPop:=by
 intro pins s σ H x vs v us Q I rx rv h
 obtain⟨l,xs,y,rfl,rfl,hH,hy,q⟩:=h
 cases rx
 have hus:=rv.zero
 subst hus
 obtain⟨z,its,n,r,hl,e⟩:=I.lstM hH
 obtain⟨u,hu,ru⟩:=r.get hy
 have hy':its.toArray[its.toArray.size - 1]?=some u:=by
   show its.toArray[its.length - 1]?=some u
   rw[← c9s,← hl]
   exact hu
 refine call_meets F.slot_list_pop ⟨_,e,rfl⟩ F.entry_list_pop (F.args_list_pop_1 _) (MeetsSeq.list_pop_last l its.toArray n u hy' (by rw[c7f];omega)) ⟨e,?_⟩
 refine⟨y,_,I.lset (its':=its.dropLast) hH e ?_ r.dropLast ?_,ru,q⟩
 · show its.toArray.eraseIdxIfInBounds (its.toArray.size - 1)=its.dropLast.toArray
   rw[c7f,List.eraseIdxIfInBounds_toArray,c0o]
 · rw[List.length_dropLast]
   omega
def rCat:R2:=fun x y H Q=>∃ l b xs zs,x=.ref l∧y=.ref b∧H l=some (.lst xs)∧H b=some (.lst zs)∧xs.length+zs.length≤sizeLine∧∀ p,H p=none→Q (.ref p) (upd H p (.lst (xs++zs)))
theorem a4u:OpR X (binaryOp .Add) rCat:=by
 intro pins s σ H x y v u Q I rx ry h
 obtain⟨l,b,xs,zs,rfl,rfl,hH,hB,hz,q⟩:=h
 cases rx
 cases ry
 obtain⟨z,its,n,r,hl,e⟩:=I.lstM hH
 obtain⟨z2,its2,n2,r2,hl2,e2⟩:=I.lstM hB
 refine PySem.P.add_list e e2 ?_ (by rw[c7f,c7f];omega)
 have ea:its.toArray++its2.toArray=(its++its2).toArray:=by simp
 rw[ea]
 exact⟨.ref _,_,I.lnew (t':=s.toks) (r.append r2) (by rw[c6m];omega),rfl,q _ I.fresh⟩
def rRep:R2:=fun x y H Q=>∃ l k xs,x=.ref l∧y=.int k∧H l=some (.lst xs)∧-(2^63)≤k∧k<2^63∧xs.length*k.toNat≤sizeLine∧
 ∀ p,H p=none→Q (.ref p) (upd H p (.lst (c6i k.toNat xs).flatten))
theorem len_rep{α:Type}(xs:List α)(k:Nat):(c6i k xs).flatten.length=k*xs.length:=by
 induction k with
 | zero=>simp
 | succ k ih=>rw[c8m,c9g,c6m,ih,Nat.succ_mul,Nat.add_comm]
theorem op_rep:OpR X (binaryOp .Mult) rRep:=by
 intro pins s σ H x y v u Q I rx ry h
 obtain⟨l,k,xs,rfl,rfl,hH,h1,h2,hz,q⟩:=h
 cases rx
 obtain⟨t,rfl⟩:=ry
 obtain⟨z,its,n,r,hl,e⟩:=I.lstM hH
 have hlen:its.toArray.size*k.toNat≤sizeLine:=by rw[c7f,← hl];exact hz
 have hcap:¬ its.toArray.size*k.toNat > (2^63 - 1) / 8:=by
   have:(sizeLine:Nat)≤(2^63 - 1) / 8:=by decide
   omega
 have hfit:¬ (!Builtin.List.listFitsIndex k)=true:=by
   rw[fitsIndex_both h1 h2]
   exact c6k
 have hlong:¬ Builtin.List.listTooLong (its.toArray.size*k.toNat)=true:=by
   rw[notLongL hlen]
   exact c6k
 have hnew:List.foldl (fun x1 x2=>x1++x2) #[] (c6i (if its.toArray.isEmpty=true then 0 else k.toNat) its.toArray)=(c6i k.toNat its).flatten.toArray:=by
   have f0:∀ m:Nat,List.foldl (fun x1 x2=>x1++x2) #[] (c6i m its.toArray)=(c6i m its).flatten.toArray:=fun m=>by
     have:=b5t its m []
     rw[List.nil_append] at this
     exact this
   rw[f0]
   cases its with
   | nil=>simp
   | cons a r'=>rw[if_neg (by simp)]
 refine wpAny_binaryOp_repeat_ref (T := "list") (U := "int") (by decide) ⟨_,e,rfl⟩ (fun s'=>typeIs_int s' k t) noFill_list_mul F.fills_int_mul F.slot_int_rmul repeat_list F.slot_int_index.lookup
   (call_meets F.slot_int_rmul (typeIs_int s k t) F.entry_int_rmul (F.args_int_rmul_2 _ _) (int___rmul___int_list k t l its.toArray n)
     ⟨e,rfl,⟨_,e,rfl⟩,call_meets F.slot_list_mul ⟨_,e,rfl⟩ F.entry_list_mul (F.args_list_mul_2 _ _) (AutoListH.list___mul___list_int_3 l its.toArray n k t hfit hcap hlong) ⟨e,?_⟩⟩)
 rw[hnew]
 exact⟨.ref _,_,I.lnew (t':=s.toks) (r.rep k.toNat) (by rw[len_rep,Nat.mul_comm];exact hz),rfl,q _ I.fresh⟩
end
section
variable {prog:Program} {w:World} {A:Around} {E:Value→Shared→Prop} {s:Shared}
set_option maxRecDepth 100000 in
end
end L2
namespace Att
open PySem PySem.W PySem.Calls PyProof.Rows
theorem b1d{P:Params}{h:Heap}:∀ (ns:List Int) (vs:List Value),WellAll P h vs (ns.map WData.int)→IntsAre vs ns:=by
 intro ns
 induction ns with
 | nil=>
   intro vs w
   rw[d0e] at w
   cases w
   exact .nil
 | cons n ns ih=>
   intro vs w
   rw[c6f] at w
   cases w with
   | cons a b=>
     cases a
     exact .cons _ _ (ih _ b)
theorem c2h{l:OpenLaw}{n:Nat}(hn:l.most=some n){P:Params}{h:Heap}{args:List WData}{vals:List Value}(hpre:l.row.toRowW.claim.pre args=true)(hwl:WellAll P h vals args) :
   ∃ a vs ns,vals=[Value.ref a]∧args=[WData.list (ns.map WData.int)]∧h.get? a=some { cls:=.type "list",data:=.seq vs.toArray }∧IntsAre vs ns∧ns.length≤n:=by
 have hsh:WShape.hasAll [] args [.list .int]=true:=(pre_splitW hpre).1
 have hc:l.pre.holds [] { args:=args }=true:=(pre_splitW hpre).2
 obtain⟨d,r,rfl,h1,h2⟩:=hasAllW_cons hsh
 obtain rfl:=hasAllW_nil h2
 obtain⟨xs,rfl,h3⟩:=hasW_list h1
 obtain⟨ns,rfl⟩:=items_int h3
 have hlen:ns.length≤n:=by
   unfold OpenLaw.pre at hc
   have h4:(WTm.not (.lt (.lit (.int (n:Int))) (.len (.arg 0)))).holds [] { args:=[.list (ns.map .int)] }=true:=by
     have h4:=(holds_andW hc).1
     rw[hn] at h4
     exact h4
   have h5:=condW_of h4 (w_not (w_lt w_lit (w_len_list (w_arg rfl))))
   rw[c5u] at h5
   refine Nat.le_of_not_lt fun q=>?_
   have q':(n:Int)<((ns.length:Nat):Int):=by omega
   first
     | (rw[decide_eq_true q'] at h5;exact absurd h5 (by decide))
     | (simp at h5;omega)
 cases hwl with
 | cons w1 w2=>
   cases w2
   cases w1 with
   | list ho hall=>exact⟨_,_,ns,rfl,rfl,ho,b1d ns _ hall,hlen⟩
theorem c2y(l:OpenLaw)(args:List WData):l.row.toRowW.claim.post args (.bool true) args=true:=
 postW_of (r:=l.row.toRowW) (X:=(true == true))
   (show WShape.has [] (.bool true) .bool=true by first | rfl | decide | simp[WShape.has,WShape.arms,WShape.armsAll])
   (show (WTm.eq .res (.lit (.bool true))).value [] { args:=args,res:=some (.bool true),after:=args }=some (.bool (true == true)) from w_eq_bool (w_res rfl) w_lit) rfl
theorem b7v{l:OpenLaw}{n:Nat}{q:Program}{loose:List Str}{XP:(Str→Option Value)→Heap→Prop}{YP:World→Heap→Prop}{d:DefRec}(hn:l.most=some n)(hdf:d.params.defaults=[])(call:∀ (w:World) (s₀ s₁:Shared) (mg mb:Str→Option Value) (fa:Addr) (o:Obj) (pm cd doc:Value) (a:Addr) (vs:List Value) (ns:List Int),
     Ground q loose [] XP w s₀ mg mb s₁.heap→YP w s₁.heap→
     s₁.heap.get? fa=some o→o.data=.func (docDef d.name d.params d.body d.scope pm cd doc)→s₁.heap.CodeRec cd d.name→mg d.name=some (.ref fa)→
     s₁.heap.get? a=some { cls:=.type "list",data:=.seq vs.toArray }→IntsAre vs ns→ns.length≤n→s₁.gens = #[]→
     codeAny (model l.prog w) callerA (.call (.ref fa) ⟨[.ref a],[]⟩) (fun r s'=>r=.ok (.ret (.bool true))∧OldK s₁.heap s'.heap∧s'.os=s₁.os∧AllBare s'.gens) s₁) :
   WalkO q loose XP YP l.row.toRowW d [] (fun f vs=>PySem.call f vs):=by
 intro w s₀ s₁ mg mb G Y fa o pm cd doc dV kV ho hd hcd hD hmg hg args vals as hpre hlay hrd hwl hlo
 obtain rfl:dV=.none:=Dflts.none hD hdf
 obtain rfl:kV=.none:=Dflts.noKw hD
 obtain⟨a,vs,ns,rfl,rfl,hobj,hints,hlen⟩:=c2h hn hpre hwl
 refine enter_call (codeAny_mono (call w s₀ s₁ mg mb fa o pm cd doc a vs ns G Y ho (fd_plain hd) hcd hmg hobj hints hlen hg) fun r s' hq=>?_)
 obtain⟨rfl,h2,h3,h4⟩:=hq
 exact⟨.inl ⟨.bool true,.bool true,[],rfl,fun _=>rfl,.bool true,c2y l _,fun _=>⟨List.Pairwise.nil,fun _ hm=>(nomatch hm)⟩⟩,h2,h3,h4⟩
end Att
namespace L2
open PySem PySem.Spec PyProof.Rows
theorem b3z:∀ {vs:List Value} {ns:List Int},IntsAre vs ns→Vals (ns.map V.int) vs
 | _,_,.nil=>.nil
 | _,_,.cons n t h=>.cons ⟨t,rfl⟩ (b3z h)
def Only(H:Hp):Prop:=∀ b,H b=none∨∃ o xs,H b=some (.frz o (.lst xs))
theorem law_call{P:Program}{w:World}{K:c5t}{mg mb:Str→Option Value}{CX:CXT}{k:Nat}{fa a:Addr}{fd:FuncData}{x:Str}{sp:Sp}{s₁:Shared}{vs:List Value}{ns:List Int}(KX:K.In s₁.heap)(hns:s₁.heap.Ns mainGlobals mg)(hb:s₁.heap.Ns builtinsNs mb)(hbb:∀ x:Str,x ≠ "__name__" → mb x=bootBuiltins x)(hlim:s₁.heap.NoLimit)(hg:s₁.gens = #[])(ha:s₁.heap.get? a=some { cls:=.type "list",data:=.seq vs.toArray })(hi:IntsAre vs ns)(hl:ns.length≤sizeLine)(hr:Room k callerA)(F:∀ base:Heap,K.In base→base.Ns mainGlobals mg→FnOk P w K mg base CX k fa fd [x] sp)(hbind:∀ (s:Shared) (u:Value),BindsTo s fd ⟨[u],[]⟩ [(x,u)])(hsp:∀ H:Hp,Only H→SqL K H a (ns.map V.int)→sp [.ref a] H (fun v _=>v=.bl true) fun _ _ _=>False)(hCX:∀ H e s',CX [] H s₁ (fun _ _ _=>False) e s'→False) :
   codeAny (model P w) callerA (.call (.ref fa) ⟨[.ref a],[]⟩) (fun r s'=>r=.ok (.ret (.bool true))∧OldK s₁.heap s'.heap∧s'.os=s₁.os∧AllBare s'.gens) s₁:=by
 have rv:=b3z hi
 have lenV:=hi.length
 have core:∀ H:Hp,Only H→SqL K H a (ns.map V.int)→HOk P w H s₁.heap→(∀ b,H b≠none→b=a)→(H a≠none→K.lookup a=none)→
     codeAny (model P w) callerA (.call (.ref fa) ⟨[.ref a],[]⟩) (fun r s'=>r=.ok (.ret (.bool true))∧OldK s₁.heap s'.heap∧s'.os=s₁.os∧AllBare s'.gens) s₁:=by
   intro H hO hS hok hA hK
   have base_of:∀ {b:Addr} {o:Obj},s₁.heap.get? b=some o→H b=none→(hidT s₁.heap H).get? b=some o:=fun e n=>hidT_get e n
   have noA:∀ {b:Addr} {o:Obj} {es:Array DictEntry} {ep:Nat},s₁.heap.get? b=some o→o.data=.dict es ep→H b=none:=fun {b o es ep} e d=>by
     cases q:H b with
     | none=>rfl
     | some u=>
       have e':b=a:=hA b (by rw[q];simp)
       subst e'
       rw[ha] at e;cases e
       have d':Data.seq vs.toArray _=Data.dict es ep:=d
       cases d'
   have nsK:∀ {b:Addr} {m:Str→Option Value},s₁.heap.Ns b m→(hidT s₁.heap H).Ns b m:=fun {b m} ⟨o,es,ep,e,d,r⟩=>⟨o,es,ep,base_of e (noA e d),d,r⟩
   have hKb:K.In (hidT s₁.heap H):=fun b o e=>base_of (KX b o e) (by
     cases q:H b with
     | none=>rfl
     | some u=>
       have e':b=a:=hA b (by rw[q];simp)
       subst e'
       rw[hK (by rw[q];simp)] at e;cases e)
   have hM:Mod K mg (hidT s₁.heap H):=⟨hKb,nsK hns,⟨mb,nsK hb,hbb⟩,let ⟨mc,h1,h2⟩:=hlim;⟨mc,nsK h1,h2⟩⟩
   have e0:Env0 P w K mg (hidT s₁.heap H) callerA [] s₁ H:=⟨rfl,hM,fun b o e=>of_hidT e,c9c (c4q _ _),trivial,fun b hb=>absurd (show b∈([]:List Addr) from hb) (by simp),hok,.of_eq hg⟩
   refine codeAny_mono ((F _ hKb (nsK hns)).run callerA [] s₁ H ⟨[.ref a],[]⟩ [.ref a] [.ref a] _ _ hr e0 (hbind s₁ (.ref a)) (.cons rfl .nil) (hsp H hO hS)) fun r s' h=>?_
   cases r with
   | error e=>exact (hCX H e s' h).elim
   | ok fl=>
     cases fl with
     | next=>exact False.elim h
     | brk=>exact False.elim h
     | cont=>exact False.elim h
     | ret u=>
       obtain⟨v,H',os,bare,un,hok',r',q⟩:=h
       have q':v=.bl true:=q
       subst q'
       obtain rfl:u=Value.bool true:=r'
       refine⟨rfl,OldK.of_keep fun b o e=>?_,os,bare⟩
       cases q:H b with
       | none=>exact un.keep b o e q (by intro z;exact absurd (show b∈([]:List Addr) from z) (by simp)) (by simp)
       | some u=>
         rcases hO b with z | ⟨ob,xs,z⟩
         · rw[q] at z;cases z
         · have z2:=un.frzs b ob _ z
           obtain⟨e1,_⟩:=hok b _ z
           obtain⟨e2,_⟩:=hok' b _ z2
           rw[e] at e1;cases e1
           exact e2
 cases hk:K.lookup a with
 | some o=>
   have e:=KX a o hk
   rw[ha] at e
   cases e
   refine core (fun _=>none) (fun _=>.inl rfl) (.inr ⟨_,vs.toArray,_,hk,rfl,rfl,rfl,by rw[c7f,lenV];exact hl,by simpa using rv⟩) (fun b u z=>by have z':(none:Option HO)=some u:=z;cases z') (fun b z=>absurd rfl z) fun z=>absurd rfl z
 | none=>
   refine core (fun b=>if b=a then some (.frz { cls:=.type "list",data:=.seq vs.toArray } (.lst (ns.map V.int))) else none) (fun b=>?_) (.inl (.inr ⟨{ cls:=.type "list",data:=.seq vs.toArray },if_pos rfl⟩)) (fun b u z=>?_) (fun b z=>?_) fun _=>hk
   · by_cases hb:b=a
     · exact .inr ⟨_,_,if_pos hb⟩
     · exact .inl (if_neg hb)
   · by_cases hb:b=a
     · have z':=(if_pos hb).symm.trans z
       cases z'
       subst hb
       exact⟨ha,by rw[c5u];exact hl,vs,_,rv,ha⟩
     · have z':=(if_neg hb).symm.trans z
       cases z'
   · by_cases hb:b=a
     · exact hb
     · exact absurd (if_neg hb) z
end L2
namespace L2
open PySem PySem.Spec PyProof.Rows
theorem walk_of{l:PySem.W.OpenLaw}{n k:Nat}{q:Program}{loose:List Str}{XP:(Str→Option Value)→Heap→Prop}{YP:World→Heap→Prop}{d:DefRec}{K:Params→c5t}{CX:World→CXT}{sp:World→Sp}{x:Str}(hn:l.most=some n)(hn2:n≤sizeLine)(hdf:d.params.defaults=[])(hr:Room k callerA)(hY:∀ (w:World) (h:Heap),YP w h→(K w.params).In h)(F:∀ (w:World) (mg:Str→Option Value) (fa:Addr) (h:Heap),(K w.params).In h→h.Ns mainGlobals mg→mg d.name=some (.ref fa)→
     ∃ fd:FuncData,(∀ (s:Shared) (u:Value),BindsTo s fd ⟨[u],[]⟩ [(x,u)])∧
       ∀ base:Heap,(K w.params).In base→base.Ns mainGlobals mg→FnOk l.prog w (K w.params) mg base (CX w) k fa fd [x] (sp w))(hsp:∀ (w:World) (H:Hp) (a:Addr) (ns:List Int),ns.length≤n→Only H→SqL (K w.params) H a (ns.map V.int)→sp w [.ref a] H (fun v _=>v=.bl true) fun _ _ _=>False)(hCX:∀ (w:World) (H:Hp) (s:Shared) (e:Value) (s':Shared),CX w [] H s (fun _ _ _=>False) e s'→False) :
   PySem.W.WalkO q loose XP YP l.row.toRowW d [] (fun f vs=>PySem.call f vs):=by
 refine Att.b7v hn hdf fun w s₀ s₁ mg mb fa o pm cd doc a vs ns G Y ho hd hcd hmg hobj hints hlen hg=>?_
 have KX:=hY w _ Y
 obtain⟨fd,hb,hF⟩:=F w mg fa _ KX G.T.g hmg
 exact law_call KX G.T.g G.T.b G.T.builtins G.T.nolimit hg hobj hints (c6x hlen hn2) hr hF hb (fun H hO hS=>hsp w H a ns hlen hO hS) fun H e s'=>hCX w H s₁ e s'
end L2
namespace L2
open PySem PySem.Spec PyProof.Rows
def c4o(s:Stmt)(j:Nat):Stmt:=match s with
 | .ClassDef _ _ _ body _ _ _ _ _ _ _=>body.getD j (.Pass ⟨0,0,0,0⟩)
 | _=>.Pass ⟨0,0,0,0⟩
def a0s(s:Stmt):Arguments:=match s with
 | .FunctionDef _ a _ _ _ _ _ _ _ _=>a
 | _=>{ posonlyargs:=[],args:=[],vararg:=none,kwonlyargs:=[],kw_defaults:=[],kwarg:=none,defaults:=[] }
def a0p(s:Stmt):List Stmt:=match s with
 | .FunctionDef _ _ b _ _ _ _ _ _ _=>b
 | _=>[]
def a0d(s:Stmt):Scope:=match s with
 | .FunctionDef _ _ _ _ _ _ sc _ _ _=>sc
 | _=>{ kind:=.function,names:=[],isGenerator:=false,isCoroutine:=false }
abbrev CX0:CXT:=fun _ _ _ _ _ _=>False
abbrev E0:XK:=fun _ _ _=>False
theorem a1i{X:Cx}:a4r CX0 X E0:=fun _ _ _ _ _ _ _ h=>h.elim
structure Fun(K:c5t)(x qual:Str)(st:Stmt)(f:Addr)(fd:FuncData):Prop where
 ex:∃ (oc:Value) (od:Option Addr) (kV doc pm:Value) (an:Option Addr) (cdv ct:Value) (osl:Array (Option Value)),
   fd=c6b x qual (a0s st) (a0p st) (a0d st) .none kV doc pm an cdv ct∧K.lookup f=some ⟨oc,od,.func fd,osl⟩∧c6a K cdv qual=true
 kp:c5z K (.ref f)=true
section
variable {P:Program} {w:World} {K:c5t} {mg:Str→Option Value} {base:Heap}
theorem Fun.ok{x qual:Str}{st:Stmt}{f:Addr}{fd:FuncData}{N ps:List Str}{k:Nat}{sp:Sp}(F:Fun K x qual st f fd)(S:a0t N ps (a0d st))(len:∀ vs H Q E,sp vs H Q E→vs.length=ps.length)(hbody:∀ (cdv:Value) (A:Around) (outer:List Env) (s:Shared) (H:Hp) (vs:List V) (Q:VK) (E:XK),Room k (A.deeper (envOfC qual (a0d st) s.heap.objs.size f cdv))→sp vs H Q E→
     ∃ t,PSs (cxOf CX0 P w K mg base N qual (a0d st) f cdv A outer s H E).nox (a0p st) t∧t { nx:=fun _ H'=>Q .non H',rt:=Q } (a7s N vs) H):FnOk P w K mg base CX0 (k+1) f fd ps sp:=by
 obtain⟨oc,od,kV,doc,pm,an,cdv,ct,osl,rfl,lk,hcd⟩:=F.ex
 refine fn_of lk hcd S len fun A outer s H vs Q E hr hsp=>?_
 obtain⟨t,h,q⟩:=hbody cdv A outer s H vs Q E hr hsp
 exact⟨t,h.nox,q⟩
theorem Fun.binds{x qual:Str}{st:Stmt}{f:Addr}{fd:FuncData}{ps:List Str}(F:Fun K x qual st f fd)(h:∀ (kV doc pm:Value) (an:Option Addr) (cdv ct:Value) (us:List Value),us.length=ps.length→bindArgs (c6b x qual (a0s st) (a0p st) (a0d st) .none kV doc pm an cdv ct) ⟨us,[]⟩=pure (ps.zip us)):a9m K fd ps []:=by
 obtain⟨oc,od,kV,doc,pm,an,cdv,ct,osl,rfl,lk,hcd⟩:=F.ex
 exact .all (h kV doc pm an cdv ct)
theorem fun_mk{x qual:Str}{st:Stmt}{f:Addr}{oc:Value}{od an:Option Addr}{osl:Array (Option Value)}{kV doc pm cdv ct:Value}(l:K.lookup f=some ⟨oc,od,.func (c6b x qual (a0s st) (a0p st) (a0d st) .none kV doc pm an cdv ct),osl⟩)(c:c6a K cdv qual=true)(k:c5z K (.ref f)=true):Fun K x qual st f (c6b x qual (a0s st) (a0p st) (a0d st) .none kV doc pm an cdv ct):=⟨⟨oc,od,kV,doc,pm,an,cdv,ct,osl,rfl,l,c⟩,k⟩
end
section
variable {X:Cx}
theorem pv(i:Nat){x:Str}{pos:Pos}(hN:X.N[i]?=some x:=by rfl)(hv:Vis X.env.scope x:=by first | exact Or.inl rfl | exact Or.inr (Or.inl rfl) | exact Or.inr (Or.inr rfl))(hd:(x == ("__debug__" : Str))=false:=by decide)(hcd:(x == ("__classdict__" : Str))=false:=by decide):PE X (.Name x pos) (tVar i):=pe_var hN hv hd hcd
end
theorem iteF{A B:Prop}(h:B):if false=true then A else B:=by
 rw[if_neg c6k]
 exact h
theorem ite2{c A B:Prop}[Decidable c](h1:c→A)(h2:¬ c→B):if c then A else B:=by
 by_cases h:c
 · rw[if_pos h]
   exact h1 h
 · rw[if_neg h]
   exact h2 h
theorem iteNS{c A B:Prop}[Decidable c](hc:c)(h:B):if (!decide c)=true then A else B:=by
 rw[decide_eq_true hc]
 exact iteF h
def Same(H H':Hp):Prop:=∀ b o,H b=some o→H' b=some o
theorem Same.refl(H:Hp):Same H H:=fun _ _ h=>h
theorem Same.trans{H H1 H2:Hp}(a:Same H H1)(b:Same H1 H2):Same H H2:=fun c o h=>b c o (a c o h)
theorem Same.free{H H':Hp}(e:Same H H'){l:Addr}(h:H' l=Option.none):H l=Option.none:=by
 cases q:H l with
 | none=>rfl
 | some o=>
   rw[e l o q] at h
   cases h
theorem Same.seq{K:c5t}{H H':Hp}{a:Addr}{xs:List V}(e:Same H H')(h:SqL K H a xs):SqL K H' a xs:=by
 rcases h with (h | ⟨o,h⟩) | h
 · exact .inl (.inl (e _ _ h))
 · exact .inl (.inr ⟨o,e _ _ h⟩)
 · exact .inr h
end L2
namespace L2
open PySem PySem.Spec PyProof.Rows
section
variable {κ:Type} [DecidableEq κ]
def valV(kvs:List (κ×V))(k:κ):Option V:=(kvs.find? fun kv=>decide (kv.1=k)).map (·.2)
def putK(kvs:List (κ×V))(k:κ)(v:V):List (κ×V):=
 if (kvs.any fun kv=>decide (kv.1=k))=true then kvs.map (fun kv=>if kv.1=k then (kv.1,v) else kv) else kvs++[(k,v)]
theorem valV_nil{k:κ}:valV ([]:List (κ×V)) k=none:=rfl
theorem a7o{p:κ×V}{r:List (κ×V)}{k:κ}(e:p.1=k):valV (p::r) k=some p.2:=by simp[valV,c8g,e]
theorem a7p{p:κ×V}{r:List (κ×V)}{k:κ}(e:¬ p.1=k):valV (p::r) k=valV r k:=by simp[valV,c8g,e]
theorem b8b(k:κ):∀ kvs:List (κ×V),(kvs.any fun kv=>decide (kv.1=k))=(valV kvs k).isSome
 | []=>rfl
 | p::r=>by
   rw[c9f]
   by_cases e:p.1=k
   · simp only[a7o e,decide_eq_true e,Bool.true_or,Option.isSome_some]
   · rw[a7p e,decide_eq_false e,Bool.false_or];exact b8b k r
theorem b0x(kvs:List (κ×V))(k:κ)(v:V):(putK kvs k v).length≤kvs.length+1:=by
 unfold putK
 split
 · rw[c5u];omega
 · rw[c6m,c6z,List.length_nil];omega
theorem RelO.isSome_eq{o:Option V}{u:Option Value}(r:RelO o u):o.isSome=u.isSome:=by
 cases o with
 | none=>cases u with
   | none=>rfl
   | some _=>exact (show False from r).elim
 | some _=>cases u with
   | none=>exact (show False from r).elim
   | some _=>rfl
theorem KV.val{kvs:List (κ×V)}{vs:List (κ×Value)}(r:KV kvs vs)(k:κ):RelO (valV kvs k) (valueAt vs k):=by
 unfold KV at r
 induction r with
 | nil=>exact True.intro
 | @cons p q ps qs h t ih=>
   obtain⟨h1,h2⟩:=h
   by_cases e:p.1=k
   · have e':q.1=k:=h1.symm.trans e
     have b:valueAt (q::qs) k=some q.2:=by simp[valueAt,c8g,e']
     rw[a7o e,b];exact h2
   · have e':¬ q.1=k:=fun z=>e (h1.trans z)
     have b:valueAt (q::qs) k=valueAt qs k:=by simp[valueAt,c8g,e']
     rw[a7p e,b];exact ih
theorem KV.any{kvs:List (κ×V)}{vs:List (κ×Value)}(r:KV kvs vs)(k:κ):(kvs.any fun kv=>decide (kv.1=k))=vs.any fun kv=>decide (kv.1=k):=by
 unfold KV at r
 induction r with
 | nil=>rfl
 | cons h t ih=>rw[c9f,c9f,ih,h.1]
theorem KV.repl{kvs:List (κ×V)}{vs:List (κ×Value)}(r:KV kvs vs)(k:κ){y:V}{u:Value}(ry:RelV y u) :
   KV (kvs.map fun kv=>if kv.1=k then (kv.1,y) else kv) (vs.map fun kv=>if kv.1=k then (kv.1,u) else kv):=by
 unfold KV at r ⊢
 induction r with
 | nil=>exact .nil
 | @cons p q ps qs h t ih=>
   rw[c6f,c6f]
   refine .cons ?_ ih
   obtain⟨h1,h2⟩:=h
   by_cases e:p.1=k
   · rw[if_pos e,if_pos (h1.symm.trans e)];exact⟨h1,ry⟩
   · rw[if_neg e,if_neg (fun z=>e (h1.trans z))];exact⟨h1,h2⟩
theorem KV.put{kvs:List (κ×V)}{vs:List (κ×Value)}(r:KV kvs vs)(k:κ){y:V}{u:Value}(ry:RelV y u):KV (putK kvs k y) (stored vs k u):=by
 unfold putK stored
 rw[r.any k]
 by_cases e:(vs.any fun kv=>decide (kv.1=k))=true
 · rw[if_pos e,if_pos e];exact r.repl k ry
 · rw[if_neg e,if_neg e];exact Paired.snoc r ⟨rfl,ry⟩
theorem KV.keys{kvs:List (κ×V)}{vs:List (κ×Value)}(r:KV kvs vs):kvs.map (·.1)=vs.map (·.1):=by
 unfold KV at r
 induction r with
 | nil=>rfl
 | cons h t ih=>rw[c6f,c6f,ih,h.1]
theorem KV.length{kvs:List (κ×V)}{vs:List (κ×Value)}(r:KV kvs vs):kvs.length=vs.length:=Paired.length r
end
theorem c0k{P:Program}{w:World}{k:Key}{u:Value}(r:RelV (kV k) u):(a2i P w).is k u=true:=by
 cases k with
 | inl i=>obtain⟨t,e⟩:=(show ∃ t,u=Value.int i t from r);subst e;exact b7j P w i t
 | inr x=>obtain⟨t,e⟩:=(show ∃ t,u=Value.str x t from r);subst e;exact b7i P w x t
theorem b5p{P:Program}{w:World}:∀ {ks:List Key} {us:List Value},Vals (ks.map kV) us→ItemsAre (a2i P w) ks us
 | [],_,r=>by rw[d0e] at r;cases r;exact .nil
 | k::ks,_,r=>by
   rw[c6f] at r
   cases r with
   | cons h t=>exact .cons (c0k h) (b5p t)
abbrev KT(H:Hp):List (List Key×V)→List (List Key×Addr×Value)→Prop:=Paired fun p q=>p.1=q.1∧H q.2.1=some (.tup (p.1.map kV))∧RelV p.2 q.2.2
theorem KT.val{H:Hp}{kvs:List (List Key×V)}{xs:List (List Key×Addr×Value)}(r:KT H kvs xs)(k:List Key):RelO (valV kvs k) ((atKey xs k).map (·.2)):=by
 induction r with
 | nil=>exact True.intro
 | @cons p q ps qs h t ih=>
   obtain⟨h1,_,h2⟩:=h
   by_cases e:p.1=k
   · have e':q.1=k:=h1.symm.trans e
     have b:atKey (q::qs) k=some q.2:=by simp[atKey,c8g,e']
     rw[a7o e,b];exact h2
   · have e':¬ q.1=k:=fun z=>e (h1.trans z)
     have b:atKey (q::qs) k=atKey qs k:=by simp[atKey,c8g,e']
     rw[a7p e,b];exact ih
theorem KT.repl{H:Hp}{kvs:List (List Key×V)}{xs:List (List Key×Addr×Value)}(r:KT H kvs xs)(k:List Key){y:V}{u:Value}(ry:RelV y u) :
   KT H (kvs.map fun kv=>if kv.1=k then (kv.1,y) else kv) (xs.map (putAt k u)):=by
 induction r with
 | nil=>exact .nil
 | @cons p q ps qs h t ih=>
   rw[c6f,c6f]
   refine .cons ?_ ih
   obtain⟨h1,h2,h3⟩:=h
   unfold putAt
   by_cases e:p.1=k
   · rw[if_pos e,if_pos (h1.symm.trans e)];exact⟨h1,h2,ry⟩
   · rw[if_neg e,if_neg (fun z=>e (h1.trans z))];exact⟨h1,h2,h3⟩
theorem KT.put{H:Hp}{kvs:List (List Key×V)}{xs:List (List Key×Addr×Value)}(r:KT H kvs xs)(k:List Key){b:Addr}{y:V}{u:Value}(hb:H b=some (.tup (k.map kV)))(ry:RelV y u) :
   KT H (putK kvs k y) (storedH xs k b u):=by
 have e:(kvs.any fun kv=>decide (kv.1=k))=(atKey xs k).isSome:=by
   rw[b8b,(r.val k).isSome_eq,Option.isSome_map]
 unfold putK storedH
 rw[e]
 by_cases q:(atKey xs k).isSome=true
 · rw[if_pos q,if_pos q];exact r.repl k ry
 · rw[if_neg q,if_neg q];exact Paired.snoc r ⟨rfl,hb,ry⟩
theorem KT.keeps{H H':Hp}{kvs:List (List Key×V)}{xs:List (List Key×Addr×Value)}(r:KT H kvs xs)(ht:∀ b ys,H b=some (.tup ys)→H' b=some (.tup ys)):KT H' kvs xs:=
 Paired.mapP r fun _ _ z=>⟨z.1,ht _ _ z.2.1,z.2.2⟩
section
variable {P:Program} {w:World} {H:Hp} {h:Heap} {a:Addr}
theorem rd_of{u:HO}(ok:HOk P w H h)(e:Rd H a u):a4n P w H h a u:=e.ok ok
theorem c0q{kvs:List (Key×V)}(ok:HOk P w H h)(e:Rd H a (.dK kvs)):kvs.length≤sizeLine∧(a == sysModules)=false∧∃ vs,KV kvs vs∧h.DictOf (a2i P w) a vs:=
 show a4n P w H h a (.dK kvs) from rd_of ok e
theorem dk_of{kvs:List (Key×V)}(ok:HOk P w H h)(e:H a=some (.dK kvs)):kvs.length≤sizeLine∧(a == sysModules)=false∧∃ vs,KV kvs vs∧h.DictOf (a2i P w) a vs:=c0q ok (.inl e)
theorem b9a{ks:List Key}(ok:HOk P w H h)(e:H a=some (.tup (ks.map kV))):(tupleKind (a2i P w)).is h ks a:=by
 obtain⟨_,its,r,o,h1,h2,n,h3⟩:=(show a4n P w H h a (.tup (ks.map kV)) from ok a _ e)
 exact⟨o,its.toArray,n,h1,h2,h3,by simpa using b5p r⟩
theorem dt_rd{kvs:List (List Key×V)}(ok:HOk P w H h)(e:Rd H a (.dT kvs)):kvs.length≤sizeLine∧(a == sysModules)=false∧
   ∃ xs,KT H kvs xs∧h.DictOfH (tupleKind (a2i P w)) a xs:=by
 obtain⟨z,y,xs,r,o,es,ep,h1,h2,h3,h4,h5⟩:=(show a4n P w H h a (.dT kvs) from rd_of ok e)
 refine⟨z,y,xs,r,o,es,ep,h1,h2,h3,h4,fun x hx=>?_,h5⟩
 have all:∀ {l:List (List Key×V)} {m:List (List Key×Addr×Value)},KT H l m→∀ x∈m,(tupleKind (a2i P w)).is h x.1 x.2.1:=by
   intro l m q
   induction q with
   | nil=>intro x hx;exact nomatch hx
   | @cons p q ps qs hq t ih=>
     intro x hx
     rcases c6e.mp hx with e | hx
     · subst e
       exact b9a ok (by rw[← hq.1];exact hq.2.1)
     · exact ih x hx
 exact all r x hx
theorem dt_of{kvs:List (List Key×V)}(ok:HOk P w H h)(e:H a=some (.dT kvs)):kvs.length≤sizeLine∧(a == sysModules)=false∧
 ∃ xs,KT H kvs xs∧h.DictOfH (tupleKind (a2i P w)) a xs:=dt_rd ok (.inl e)
end
def DGet(H:Hp)(a:Addr)(y:V)(r:Option V):Prop:=
 (∃ kvs k,Rd H a (.dK kvs)∧y=kV k∧r=valV kvs k)∨∃ kvs k b,Rd H a (.dT kvs)∧y=.ref b∧H b=some (.tup (k.map kV))∧r=valV kvs k
def DPut(H:Hp)(a:Addr)(y v:V)(H':Hp):Prop:=
 (∃ kvs k,H a=some (.dK kvs)∧y=kV k∧kvs.length<sizeLine∧H'=upd H a (.dK (putK kvs k v)))∨
 ∃ kvs k b,H a=some (.dT kvs)∧y=.ref b∧H b=some (.tup (k.map kV))∧kvs.length<sizeLine∧H'=upd H a (.dT (putK kvs k v))
theorem DGet.k{H:Hp}{a:Addr}{kvs:List (Key×V)}{k:Key}(e:H a=some (.dK kvs)):DGet H a (kV k) (valV kvs k):=.inl ⟨kvs,k,.inl e,rfl,rfl⟩
theorem DPut.k{H:Hp}{a:Addr}{kvs:List (Key×V)}{k:Key}{v:V}(e:H a=some (.dK kvs))(hl:kvs.length<sizeLine):DPut H a (kV k) v (upd H a (.dK (putK kvs k v))):=.inl ⟨kvs,k,e,rfl,hl,rfl⟩
section
variable {X:Cx} {pins:List (Addr×Obj)} {σ:St} {H:Hp} {s:Shared} {a:Addr} {y v:V} {u r:Value} {o:Option V} {A:Around} {E:Value→Shared→Prop}
theorem Inv.big(I:Inv X pins σ H s):sysModules<s.heap.objs.size:=by
 have h:mainGlobals<s.heap.objs.size:=(I.mod.glob.keeps I.bk).lt
 exact Nat.lt_trans (by decide) h
theorem c5f{Q:Value→Shared→Prop}(hu:A.units+1<cLine)(I:Inv X pins σ H s)(g:DGet H a y (some v))(ry:RelV y u)(h:∀ w' s',Inv X pins σ H s'→RelV v w'→Q w' s') :
   wpAny (model X.prog X.w) A (getItem (.ref a) u) Q E s:=by
 rcases g with⟨kvs,k,e,ey,l⟩ | ⟨kvs,k,b,e,ey,eb,l⟩
 · subst ey
   obtain⟨z,hd,vs,rel,dd⟩:=c0q I.hok e
   obtain⟨w',hw,rw'⟩:=RelO.some_of (v:=v) (o:=valueAt vs k) (by rw[l];exact rel.val k)
   exact wpAny_getItem_of (c0k ry) dd.mapOf hw (h w' _ (I.tok _) rw')
 · subst ey
   cases (show u=Value.ref b from ry)
   obtain⟨z,hd,xs,rel,dd⟩:=dt_rd I.hok e
   obtain⟨w',hw,rw'⟩:=RelO.some_of (v:=v) (o:=(atKey xs k).map (·.2)) (by rw[l];exact rel.val k)
   obtain⟨p,hp,hp2⟩:=c9n.mp hw
   refine wpAny_getItem_heap (tupleKind_room_in1 hu) (b9a I.hok eb) dd hp ?_
   rw[hp2]
   exact h w' _ (I.tok _) rw'
theorem d_notIn{Q:Value→Shared→Prop}(hu:A.units+1<cLine)(I:Inv X pins σ H s)(g:DGet H a y o)(ry:RelV y u)(h:∀ s',Inv X pins σ H s'→Q (.bool (!o.isSome)) s') :
   wpAny (model X.prog X.w) A (compareOp .NotIn u (.ref a)) Q E s:=by
 rcases g with⟨kvs,k,e,ey,l⟩ | ⟨kvs,k,b,e,ey,eb,l⟩
 · subst ey
   obtain⟨z,hd,vs,rel,dd⟩:=c0q I.hok e
   refine wpAny_notIn_of (c0k ry) hd dd.mapOf ?_
   rw[← (rel.val k).isSome_eq,← l]
   exact h _ (I.tok _)
 · subst ey
   cases (show u=Value.ref b from ry)
   obtain⟨z,hd,xs,rel,dd⟩:=dt_rd I.hok e
   refine wpAny_notIn_heap (tupleKind_room_in1 hu) (b9a I.hok eb) hd dd ?_
   have q:=(rel.val k).isSome_eq
   rw[Option.isSome_map] at q
   rw[← q,← l]
   exact h _ (I.tok _)
theorem c5d{h':Heap}{t':Nat}{ob:HO}(I:Inv X pins σ H s)(mu:Mut (H a))(hs:Heap.SameBut a s.heap h')(he:∃ q,h'.get? a=some q)(new:a4n X.prog X.w (upd H a ob) h' a ob) :
   Inv X pins σ (upd H a ob) { s with heap:=h',toks:=t' }:=
 I.write (x:=a) (e:=a) mu (.inl rfl) (fun b q hb z=>(hs.2 b hb).trans z) he new
theorem dk_new{P:Program}{w:World}{H':Hp}{h':Heap}{kvs:List (Key×V)}{vs:List (Key×Value)}(z:kvs.length≤sizeLine)(hd:(a == sysModules)=false)(rel:KV kvs vs)(dd:h'.DictOf (a2i P w) a vs) :
 a4n P w H' h' a (.dK kvs):=⟨z,hd,vs,rel,dd⟩
theorem c5e{H':Hp}{Q:Unit→Shared→Prop}(hu:A.units+1<cLine)(I:Inv X pins σ H s)(g:DPut H a y v H')(ry:RelV y u)(rv:RelV v r)(h:∀ s',Inv X pins σ H' s'→Q () s') :
   wpAny (model X.prog X.w) A (setItem (.ref a) u r) Q E s:=by
 rcases g with⟨kvs,k,e,ey,l,eH⟩ | ⟨kvs,k,b,e,ey,eb,l,eH⟩
 · subst ey eH
   obtain⟨z,hd,vs,rel,dd⟩:=dk_of I.hok e
   have hz:vs.length≤sizeLine:=by rw[← rel.length];exact z
   have hl:(putK kvs k v).length≤sizeLine:=by have:=b0x kvs k v;omega
   refine wpAny_setItem_pairs (hsz:=hz) (c0k ry) dd fun h' dd' hs=>h _ ?_
   have he:∃ q,h'.get? a=some q:=let ⟨q,_,_,hq,_⟩:=dd';⟨q,hq⟩
   exact c5d I (by rw[e];exact True.intro) hs he (dk_new hl hd (rel.put k rv) dd')
 · subst ey eH
   cases (show u=Value.ref b from ry)
   obtain⟨z,hd,xs,rel,dd⟩:=dt_of I.hok e
   have hz:xs.length≤sizeLine:=by rw[← Paired.length rel];exact z
   have hl:(putK kvs k v).length≤sizeLine:=by have:=b0x kvs k v;omega
   refine wpAny_setItem_heap (hsz:=hz) (tupleKind_room_in1 hu) (b9a I.hok eb) dd fun h' dd' hs=>h _ ?_
   obtain⟨q,es,ep,hq,h2,h3,h4,_,h5⟩:=dd'
   refine c5d I (by rw[e];exact True.intro) hs ⟨q,hq⟩ ⟨hl,hd,_,(rel.put k eb rv).keeps fun c ys ec=>?_,q,es,ep,hq,h2,h3,h4,h5⟩
   rw[a1a (b0w ec e (fun z=>nomatch z))]
   exact ec
end
section
variable {X:Cx} {pins:List (Addr×Obj)} {σ:St} {H:Hp} {s:Shared} {a:Addr} {kvs:List (Key×V)} {k:Key} {u:Value} {A:Around} {E:Value→Shared→Prop}
theorem d_truth{Q:Bool→Shared→Prop}(I:Inv X pins σ H s)(e:Rd H a (.dK kvs))(h:∀ s',Inv X pins σ H s'→Q (!kvs.isEmpty) s'):wpAny (model X.prog X.w) A (truthy (.ref a)) Q E s:=by
 obtain⟨z,hd,vs,rel,dd⟩:=c0q I.hok e
 refine wpAny_truthy_dict hd dd (by rw[← rel.length];rw[sizeLine_eq] at z;omega) ?_
 have q:kvs.isEmpty=vs.isEmpty:=by cases rel<;>rfl
 rw[← q]
 exact h _ (I.tok _)
end
theorem b7o{X:Cx}{pins:List (Addr×Obj)}{σ:St}{H:Hp}{s:Shared}{a:Addr}{y:V}{o:Option V}(I:Inv X pins σ H s)(g:DGet H a y o):s.TypeIs (.ref a) "dict":=by
 rcases g with⟨kvs,k,e,_,_⟩ | ⟨kvs,k,b,e,_,_,_⟩
 · obtain⟨_,_,vs,_,dd⟩:=c0q I.hok e
   exact dd.typeIs
 · obtain⟨_,_,xs,_,dd⟩:=dt_rd I.hok e
   exact dd.typeIs
theorem dk_empty{P:Program}{w:World}{H:Hp}(h:Heap)(hb:sysModules<h.objs.size):a4n P w H (h.push { cls:=.type "dict",data:=.dict #[] }) h.objs.size (.dK []):=
 ⟨c8c _,beq_eq_false_iff_ne.mpr (Ne.symm (c6s hb)),[],.nil,Heap.DictOf.new h⟩
def tDNewK:TE:=fun _ H Q=>∀ p,H p=none→Q (.ref p) (upd H p (.dK []))
section
variable {X:Cx} {pos:Pos}
theorem pe_dnewK:PE X (.Dict [] [] pos) tDNewK:=fun pins s σ H Q I h=>
 wpAny_Dict_empty ⟨.ref s.heap.objs.size,_,I.laid (a:=s.heap.objs.size) (o:=.dK []) (t':=s.toks) (fun _ _ q=>Heap.get?_push_of_some _ q) (c6l _) (dk_empty s.heap I.big),rfl,h _ (I.hok.fresh (c6l _))⟩
end
end L2
namespace Cv
structure Sz(n:Nat)(x:Int):Prop where
 lt:x.natAbs<2^n
theorem Sz.mono{n m:Nat}{x:Int}(h:Sz n x)(hm:n≤m):Sz m x:=⟨c6j h.lt (c9x (by decide) hm)⟩
theorem Sz.le{n:Nat}{x y:Int}(h:Sz n x)(hy:y.natAbs≤x.natAbs):Sz n y:=⟨c7w hy h.lt⟩
theorem Sz.mul{n m:Nat}{x y:Int}(h:Sz n x)(k:Sz m y):Sz (n+m) (x*y):=by
 refine⟨?_⟩
 rw[Int.natAbs_mul,Nat.pow_add]
 exact Nat.mul_lt_mul'' h.lt k.lt
theorem Sz.add{n m:Nat}{x y:Int}(h:Sz n x)(k:Sz m y):Sz (max n m+1) (x+y):=by
 refine⟨?_⟩
 have h1:=(h.mono (Nat.le_max_left n m)).lt
 have h2:=(k.mono (Nat.le_max_right n m)).lt
 have h3:=Int.natAbs_add_le x y
 rw[Nat.pow_succ]
 omega
theorem Sz.neg{n:Nat}{x:Int}(h:Sz n x):Sz n (-x):=⟨by rw[Int.natAbs_neg];exact h.lt⟩
theorem Sz.sub{n m:Nat}{x y:Int}(h:Sz n x)(k:Sz m y):Sz (max n m+1) (x - y):=by
 rw[Int.sub_eq_add_neg]
 exact h.add k.neg
theorem Sz.one:Sz 1 1:=⟨by decide⟩
structure Bd(n:Nat)(q:Rat):Prop where
 num:Sz n q.num
 den:Sz n (q.den:Int)
theorem Bd.mono{n m:Nat}{q:Rat}(h:Bd n q)(hm:n≤m):Bd m q:=⟨h.num.mono hm,h.den.mono hm⟩
theorem num_le(a b:Int)(hb:b≠0):(c6y a b).num.natAbs≤a.natAbs∧(c6y a b).den≤b.natAbs:=by
 refine⟨?_,?_⟩
 · rw[Rat.num_divInt]
   have h2:(b.sign*a).natAbs=a.natAbs:=by
     rw[Int.natAbs_mul,Int.natAbs_sign_of_ne_zero hb,Nat.one_mul]
   have hd:(b.gcd a:Int)∣b.sign*a:=Int.dvd_mul_of_dvd_right (Int.gcd_dvd_right ..)
   rw[← h2]
   have:=Int.natAbs_ediv_of_dvd hd
   rw[this]
   exact Nat.div_le_self _ _
 · rw[Rat.den_divInt,if_neg hb]
   exact Nat.div_le_self _ _
theorem Bd.of{n m:Nat}{a b:Int}(ha:Sz n a)(hb:Sz m b)(h0:b≠0):Bd (max n m) (c6y a b):=
 ⟨(ha.mono (Nat.le_max_left n m)).le (num_le a b h0).1,(hb.mono (Nat.le_max_right n m)).le (by rw[c6w];exact (num_le a b h0).2)⟩
theorem a9f(q:Rat):(q.den:Int)≠0:=by have:=q.den_pos;omega
theorem add_eq(a b:Rat):c6y (a.num*b.den+b.num*a.den) ((a.den:Int)*b.den)=a+b:=by
 have:=Rat.divInt_add_divInt a.num b.num (a9f a) (a9f b)
 rw[c8h,c8h] at this
 exact this.symm
theorem sub_eq(a b:Rat):c6y (a.num*b.den - b.num*a.den) ((a.den:Int)*b.den)=a - b:=by
 have:=Rat.divInt_sub_divInt a.num b.num (a9f a) (a9f b)
 rw[c8h,c8h] at this
 exact this.symm
theorem mul_eq(a b:Rat):c6y (a.num*b.num) ((a.den:Int)*b.den)=a*b:=by
 have:=Rat.divInt_mul_divInt a.num b.num (d₁:=a.den) (d₂:=b.den)
 rw[c8h,c8h] at this
 exact this.symm
theorem a5e(a b:Rat):(a.den:Int)*b.den≠0:=Int.mul_ne_zero (a9f a) (a9f b)
theorem Bd.add{n m:Nat}{a b:Rat}(h:Bd n a)(k:Bd m b):Bd (n+m+1) (a+b):=by
 rw[← add_eq]
 exact (Bd.of ((h.num.mul k.den).add (k.num.mul h.den)) (h.den.mul k.den) (a5e a b)).mono (by omega)
theorem Bd.sub{n m:Nat}{a b:Rat}(h:Bd n a)(k:Bd m b):Bd (n+m+1) (a - b):=by
 rw[← sub_eq]
 exact (Bd.of ((h.num.mul k.den).sub (k.num.mul h.den)) (h.den.mul k.den) (a5e a b)).mono (by omega)
theorem Bd.mul{n m:Nat}{a b:Rat}(h:Bd n a)(k:Bd m b):Bd (n+m) (a*b):=by
 rw[← mul_eq]
 exact (Bd.of (h.num.mul k.num) (h.den.mul k.den) (a5e a b)).mono (by omega)
theorem b0b(t b:Int)(hb:0<b):t.fdiv (c6o t b)=(c6y t b).num∧b.fdiv (c6o t b)=((c6y t b).den:Int):=by
 rw[Rat.num_divInt,Rat.den_divInt,if_neg (by omega),Int.sign_eq_one_of_pos hb,Int.one_mul,Int.gcd_comm b t]
 refine⟨c7r _ (Int.natCast_nonneg _),?_⟩
 rw[c7r _ (Int.natCast_nonneg _),Int.natCast_ediv,Int.natAbs_of_nonneg (Int.le_of_lt hb)]
theorem c2f(t b:Int)(hb:b<0):t.fdiv (-(c6o t b:Int))=(c6y t b).num∧b.fdiv (-(c6o t b:Int))=((c6y t b).den:Int):=by
 have h:=b0b (-t) (-b) (by omega)
 rw[Rat.neg_divInt_neg,Int.neg_gcd,Int.gcd_neg] at h
 rw[← Int.neg_fdiv_neg,Int.neg_neg,← Int.neg_fdiv_neg b,Int.neg_neg]
 exact h
theorem b9d(a b:Int):c6o b (a.fmod b)=c6o a b:=by
 rw[Int.fmod_def,Int.sub_eq_add_neg,← Int.mul_neg,Int.gcd_add_mul_left_right,Int.gcd_comm]
theorem fmod_lt(a b:Int)(hb:b≠0):(a.fmod b).natAbs<b.natAbs:=by
 rw[Int.fmod_eq_emod]
 have h1:=c7l a hb
 have h2:=Int.emod_lt a hb
 by_cases h:0≤b∨b∣a
 · rw[if_pos h];omega
 · rw[if_neg h]
   have h3:a % b≠0:=fun z=>h (.inr (Int.dvd_of_emod_eq_zero z))
   omega
theorem gcd_zero(a:Int):(if a<0 then -a else a)=(c6o a 0:Int):=by
 rw[Int.gcd_zero]
 split<;>omega
theorem b9e(t b:Int)(hb:b≠0):(c6o t b:Int)≠0:=by
 have:=Int.gcd_pos_of_ne_zero_right t hb
 omega
end Cv
namespace Cv
theorem b8v(q:Rat):(q.num:Rat)=q*((q.den:Int):Rat):=by
 have h:=c8h q
 rw[Rat.divInt_eq_div] at h
 have hd:((q.den:Int):Rat)≠0:=by
   intro z
   exact a9f q (by exact_mod_cast z)
 conv=>rhs;rw[← h]
 grind
theorem b7q(q:Rat):((q.den:Int):Rat)≠0:=by
 intro z
 exact a9f q (by exact_mod_cast z)
theorem b5v{q:Rat}{t b:Int}(hb:b≠0)(h:q*(b:Rat)=(t:Rat)):q=c6y t b:=by
 rw[Rat.divInt_eq_div]
 have hb':(b:Rat)≠0:=by
   intro z
   exact hb (by exact_mod_cast z)
 grind
end Cv
namespace Cv
open PySem PySem.Spec PyProof.Rows L2
section
variable {X:Cx}
def CMulB(i j:Int):Prop:=∃ n m,Sz n i∧Sz m j∧n+m≤100000000
def CDivB(_i j:Int):Prop:=j≠0∧Sz 9000 j
theorem a5q:OpR X (binaryOp .FloorDiv) (rI CDivB fun i j=>.int (i.fdiv j)):=opI fun i j _ _ _ _ _ hc q=>by
 obtain⟨h0,h1⟩:=hc
 refine floordiv_int h0 q (.inl (PyProof.noPylong_of_log2 ?_))
 have hp:j.natAbs≠0:=by omega
 exact (Nat.log2_lt hp).mpr h1.lt
theorem a4w{x:V}{us:List Value}(r:Vals [x] us):∃ u,us=[u]∧RelV x u:=by
 cases r with
 | cons p q=>cases q;exact⟨_,rfl,p⟩
theorem a7n{x y:V}{us:List Value}(r:Vals [x,y] us):∃ u v,us=[u,v]∧RelV x u∧RelV y v:=by
 cases r with
 | cons p q=>
   obtain⟨v,rfl,p'⟩:=a4w q
   exact⟨_,_,rfl,p,p'⟩
theorem call_isi:a6a X (.builtin "isinstance") (fun xs H Q=>∃ x T t b,xs=[x,.ty T]∧TyOf X.K H x t∧c5x X.K t (.type T)=some b∧Q (.bl b) H):=by
 intro pins s σ H xs us Q I r h
 obtain⟨x,T,t,b,rfl,ty,e,q⟩:=h
 obtain⟨u,v,rfl,ru,rv⟩:=a7n r
 cases rv
 exact c4j I ru ty e fun tk=>⟨.bl b,H,I.tok tk,rfl,q⟩
mutual
def Dn(K:c5t)(H:Hp):c8z→V→Prop
 | .none,v=>v=.non
 | .bool b,v=>v=.bl b
 | .int i,v=>v=.int i
 | .str x,v=>v=.str x
 | .bytes _,_=>False
 | .tuple ds,v=>∃ a xs,v=.ref a∧SqT K H a xs∧b1k K H ds xs
 | .list ds,v=>∃ a xs,v=.ref a∧SqL K H a xs∧b1k K H ds xs
def b1k(K:c5t)(H:Hp):List c8z→List V→Prop
 | [],xs=>xs=[]
 | d::ds,xs=>∃ y ys,xs=y::ys∧Dn K H d y∧b1k K H ds ys
end
mutual
theorem a8g{pins:List (Addr×Obj)}{σ:L2.St}{H:Hp}{s:Shared}(I:Inv X pins σ H s):∀ (n:Nat) (d:c8z) (v:V) (u:Value),Dn X.K H d v→RelV v u→c7q n d=true→∃ as,Reads s.heap u (c9k d) as
 | n,.none,v,u,h,r,_=>by
   cases (show v=.non from by simpa [Dn] using h);cases r
   rw[c9k];exact⟨_,Reads.none⟩
 | n,.bool b,v,u,h,r,_=>by
   cases (show v=.bl b from by simpa [Dn] using h);cases r
   rw[c9k];exact⟨_,Reads.bool b⟩
 | n,.int i,v,u,h,r,_=>by
   cases (show v=.int i from by simpa [Dn] using h)
   obtain⟨t,rfl⟩:=r
   rw[c9k];exact⟨_,Reads.int i t⟩
 | n,.str x,v,u,h,r,_=>by
   cases (show v=.str x from by simpa [Dn] using h)
   obtain⟨t,rfl⟩:=r
   rw[c9k];exact⟨_,Reads.str x t⟩
 | n,.bytes b,v,u,h,r,_=>by simp[Dn] at h
 | 0,.tuple ds,v,u,h,r,hk=>by simp[c7q] at hk
 | 0,.list ds,v,u,h,r,hk=>by simp[c7q] at hk
 | n+1,.tuple ds,v,u,h,r,hk=>by
   rw[Dn] at h
   obtain⟨a,xs,rfl,hs,hd⟩:=h
   cases r
   obtain⟨its,rv,⟨o,ho,hc,m,hdt⟩,hz⟩:=I.tuple hs
   obtain⟨as,q⟩:=a7l I n ds xs its hd rv (by simpa [c7q] using hk)
   rw[c9k]
   exact⟨as,reads_tuple_at ho hc hdt (by simpa using q)⟩
 | n+1,.list ds,v,u,h,r,hk=>by
   rw[Dn] at h
   obtain⟨a,xs,rfl,hs,hd⟩:=h
   cases r
   obtain⟨its,rv,pl,hz⟩:=I.list hs
   obtain⟨o,ho,hc,m,hdt⟩:=pl.isList
   obtain⟨as,q⟩:=a7l I n ds xs its hd rv (by simpa [c7q] using hk)
   rw[c9k]
   exact⟨_,reads_list_at ho hc hdt (by simpa using q)⟩
theorem a7l{pins:List (Addr×Obj)}{σ:L2.St}{H:Hp}{s:Shared}(I:Inv X pins σ H s):∀ (n:Nat) (ds:List c8z) (xs:List V) (us:List Value),b1k X.K H ds xs→Vals xs us→(∀ d∈ds,c7q n d=true)→∃ as,ReadsAll s.heap us (PySem.W.kqdPs ds) as
 | n,[],xs,us,h,r,_=>by
   cases (show xs=[] from by simpa [b1k] using h)
   cases r
   rw[PySem.W.kqdPs];exact⟨_,ReadsAll.nil⟩
 | n,d::ds,xs,us,h,r,hk=>by
   rw[b1k] at h
   obtain⟨y,ys,rfl,h1,h2⟩:=h
   cases r with
   | cons p q=>
     obtain⟨as,r1⟩:=a8g I n d y _ h1 p (hk d (.head _))
     obtain⟨bs,r2⟩:=a7l I n ds ys _ h2 q fun e he=>hk e (.tail _ he)
     rw[PySem.W.kqdPs]
     exact⟨_,ReadsAll.cons r1 r2⟩
end
theorem a7v{d:c8z}(h:c7q 8 d=true):SeqAt.shaped (c9k d)=true:=by
 have la:=PySem.W.kqd_lay 8 d h
 unfold SeqAt.shaped;rw[la.1,Bool.true_and];exact decide_eq_true (c6x la.2 (by decide))
def rEqD(K:c5t):R2:=fun x y H Q=>∃ d e,Dn K H d x∧Dn K H e y∧c7q 8 d=true∧c7q 8 e=true∧∀ b:Bool,(b=true↔d=e)→Q (.bl b) H
def rNeD(K:c5t):R2:=fun x y H Q=>∃ d e,Dn K H d x∧Dn K H e y∧c7q 8 d=true∧c7q 8 e=true∧∀ b:Bool,(b=true↔d=e)→Q (.bl (!b)) H
theorem op_eqD(hu:X.A.units+64<cLine):OpR X (compareOp .Eq) (rEqD X.K):=by
 intro pins s σ H x y v u Q I rx ry h
 obtain⟨d,e,hd,he,k1,k2,q⟩:=h
 obtain⟨as,r1⟩:=a8g I 8 d x v hd rx k1
 obtain⟨bs,r2⟩:=a8g I 8 e y u he ry k2
 exact eq_dataH r1 r2 (a7v k1) (a7v k2) hu ⟨.bl _,H,I,rfl,q _ (PySem.W.kqd_eqv 8 d e 8 k1 k2)⟩
theorem op_neD(hu:X.A.units+64<cLine):OpR X (compareOp .NotEq) (rNeD X.K):=by
 intro pins s σ H x y v u Q I rx ry h
 obtain⟨d,e,hd,he,k1,k2,q⟩:=h
 obtain⟨as,r1⟩:=a8g I 8 d x v hd rx k1
 obtain⟨bs,r2⟩:=a8g I 8 e y u he ry k2
 exact ne_dataH r1 r2 (a7v k1) (a7v k2) hu ⟨.bl _,H,I,rfl,q _ (PySem.W.kqd_eqv 8 d e 8 k1 k2)⟩
end
def ShV(H:Hp)(v:V)(q:Rat):Prop:=∃ a,v=.ref a∧H a=some (.tup [.int q.num,.int (q.den:Int)])
theorem ShV.same{H H':Hp}{v:V}{q:Rat}(h:ShV H v q)(e:Same H H'):ShV H' v q:=by
 obtain⟨a,rfl,h⟩:=h
 exact⟨a,rfl,e _ _ h⟩
def b7r(q:Rat):c8z:=.tuple [.int q.num,.int (q.den:Int)]
theorem b3s(q:Rat)(n:Nat):c7q (n+1) (b7r q)=true:=by
 cases n<;>simp[b7r,c7q]
theorem ShV.dn{K:c5t}{H:Hp}{v:V}{q:Rat}(h:ShV H v q):Dn K H (b7r q) v:=by
 obtain⟨a,rfl,h⟩:=h
 unfold b7r
 simp only[Dn,b1k]
 exact⟨a,_,rfl,SqT.of h,_,_,rfl,rfl,_,_,rfl,rfl,rfl⟩
theorem Same.new{H:Hp}{p:Addr}{o:HO}(h:H p=none):Same H (upd H p o):=fun b u e=>by
 rw[a1a (a0x e h)];exact e
end Cv
namespace Cv
open PySem PySem.Spec PyProof.Rows L2
structure a0k(K:c5t)(mg:Str→Option Value)(x:Str)(st:Stmt)(ps:List Str):Prop where
 ex:∃ (f:Addr) (fd:FuncData),Fun K x x st f fd∧mg x=some (.ref f)∧a9m K fd ps []
structure a0r(P:Program)(w:World)(K:c5t)(mg:Str→Option Value)(base:Heap)(CX:CXT)(k:Nat)(x:Str)(ps:List Str)(sp:Sp):Prop where
 ex:∃ (f:Addr) (fd:FuncData),FnOk P w K mg base CX k f fd ps sp∧mg x=some (.ref f)∧c5z K (.ref f)=true∧a9m K fd ps []∧
   ∃ (oc:Value) (od:Option Addr) (osl:Array (Option Value)),K.lookup f=some ⟨oc,od,.func fd,osl⟩
structure Blt(mg:Str→Option Value):Prop where
 len:mg "len" = none
 abs:mg "abs" = none
 range:mg "range" = none
 max:mg "max" = none
 min:mg "min" = none
 any:mg "any" = none
 all:mg "all" = none
 sum:mg "sum" = none
 isinstance:mg "isinstance" = none
 int:mg "int" = none
 bool:mg "bool" = none
 tuple:mg "tuple" = none
 list:mg "list" = none
 str:mg "str" = none
 ValueError:mg "ValueError" = none
 zip:mg "zip" = none
 reversed:mg "reversed" = none
 enumerate:mg "enumerate" = none
 sorted:mg "sorted" = none
 dict:mg "dict" = none
section
variable {P:Program} {w:World} {K:c5t} {mg:Str→Option Value} {base:Heap}
theorem a0k.mk'{x:Str}{st:Stmt}{ps:List Str}{f:Addr}{oc:Value}{od an:Option Addr}{osl:Array (Option Value)}{kV doc pm cdv ct:Value}(hm:mg x=some (.ref f))(l:K.lookup f=some ⟨oc,od,.func (c6b x x (a0s st) (a0p st) (a0d st) .none kV doc pm an cdv ct),osl⟩)(c:c6a K cdv x=true)(k:c5z K (.ref f)=true)(h:∀ (kV doc pm:Value) (an:Option Addr) (cdv ct:Value) (us:List Value),us.length=ps.length→bindArgs (c6b x x (a0s st) (a0p st) (a0d st) .none kV doc pm an cdv ct) ⟨us,[]⟩=pure (ps.zip us)):a0k K mg x st ps:=by
 have F:=fun_mk (st:=st) l c k
 exact⟨_,_,F,hm,F.binds h⟩
theorem def_ok{x:Str}{st:Stmt}{N ps:List Str}{k:Nat}{sp:Sp}(F:a0k K mg x st ps)(S:a0t N ps (a0d st))(len:∀ vs H Q E,sp vs H Q E→vs.length=ps.length)(hbody:∀ (f:Addr) (cdv:Value) (A:Around) (outer:List Env) (s:Shared) (H:Hp) (vs:List V) (Q:VK) (E:XK),Room k (A.deeper (envOfC x (a0d st) s.heap.objs.size f cdv))→sp vs H Q E→
     ∃ t,PSs (cxOf CX0 P w K mg base N x (a0d st) f cdv A outer s H E).nox (a0p st) t∧t { nx:=fun _ H'=>Q .non H',rt:=Q } (a7s N vs) H):a0r P w K mg base CX0 (k+1) x ps sp:=by
 obtain⟨f,fd,F,hm,hb⟩:=F.ex
 exact⟨f,fd,F.ok S len fun cdv A outer s H vs Q E hr h=>hbody f cdv A outer s H vs Q E hr h,hm,F.kp,hb,let ⟨oc,od,_,_,_,_,_,_,osl,_,l,_⟩:=F.ex;⟨oc,od,osl,l⟩⟩
end
section
variable {X:Cx} {CX:CXT} {k j:Nat} {ps:List Str} {sp:Sp} {E:XK} {x:Str} {p pos:Pos} {e:Expr} {es:List Expr} {t:TA}
def tFn(sp:Sp)(E:XK)(t:TA):TE:=fun σ H Q=>t σ H fun vs H1=>sp vs H1 Q E
theorem pe_fn(D:a0r X.prog X.w X.K X.mg X.base CX k x ps sp)(hr:Room j X.A)(hx:a4r CX X E)(ha:PA X (e::es) t)(hk:k≤j:=by decide)(hg:Gl X x:=by rfl)(hdb:(x == ("__debug__" : Str))=false:=by decide)(he:starEach (e::es) X.env=(false,eval e X.env)::starEach es X.env:=by rfl)(hpl:(backTo pos (starEach es X.env)).any (·.1)=false:=by rfl) :
   PE X (.Call (.Name x p) (e::es) [] pos) (tFn sp E t):=by
 obtain⟨f,fd,F,hm,kp,hb,_⟩:=D.ex
 intro pins s σ H Q I h
 have q:=pe_call (X:=X) (p:=p) (pos:=pos) F (hr.mono hk) hg hm kp hb .nil hx ha hdb he hpl
 refine q pins s σ H Q I ?_
 unfold tCall
 have e:(fun (vs:List V) (H1:Hp)=>sp (vs++[]) H1 Q E)=fun vs H1=>sp vs H1 Q E:=by
   funext vs H1
   rw[c7p]
 rw[e]
 exact h
end
end Cv
namespace Cv
open PySem PySem.Spec PyProof.Rows L2
section
variable {X:Cx}
def c5s(i j:Int):Prop:=CMul i j∨CMulB i j
theorem a1n:OpR X (binaryOp .Mult) (rI c5s fun i j=>.int (i*j)):=opI fun i j _ _ _ _ _ hc q=>by
 rcases hc with hc | ⟨n,m,h1,h2,h3⟩
 · exact mul_int q hc.ok
 · exact mul_int q (IntMulOk.of_le (PySem.intBits_le_iff.mpr h1.lt) (PySem.intBits_le_iff.mpr h2.lt) (by omega))
end
theorem mulL{i j:Int}(h1:-(2^64)<i)(h2:i<2^64):c5s i j:=.inl (.inl ⟨h1,h2⟩)
theorem mulR{i j:Int}(h1:-(2^64)<j)(h2:j<2^64):c5s i j:=.inl (.inr ⟨h1,h2⟩)
theorem mulB{n m:Nat}{i j:Int}(h1:Sz n i)(h2:Sz m j)(h:n+m≤100000000:=by decide):c5s i j:=.inr ⟨n,m,h1,h2,h⟩
def spGcd:Sp:=fun vs H Q _=>∃ a b:Int,vs=[.int a,.int b]∧Q (.int (c6o a b)) H
def a8p:Sp:=fun vs H Q _=>∃ t b:Int,vs=[.int t,.int b]∧b≠0∧Sz 9000 b∧∀ v H',Same H H'→ShV H' v (c6y t b)→Q v H'
def spBin(f:Rat→Rat→Rat)(ok:Rat→Prop):Sp:=fun vs H Q _=>∃ x y p q,vs=[x,y]∧ShV H x p∧ShV H y q∧Bd 4000 p∧Bd 4000 q∧ok q∧∀ v H',Same H H'→ShV H' v (f p q)→Q v H'
def spPlus:Sp:=spBin (fun p q=>p+q) fun _=>True
def c2a:Sp:=spBin (fun p q=>p - q) fun _=>True
def c1r:Sp:=spBin (fun p q=>p*q) fun _=>True
def b4k:Sp:=fun vs H Q _=>∃ x y z p q t,vs=[x,y,z]∧ShV H x p∧ShV H y q∧ShV H z t∧Bd 4000 p∧Bd 4000 q∧Bd 4000 t∧Bd 4000 (q - p)∧Bd 4000 (t*(q - p))∧
 ∀ v H',Same H H'→ShV H' v (p+t*(q - p))→Q v H'
def spCell(K:c5t):Sp:=fun vs H Q _=>∃ (a:Addr) (ns:List Int) (k:Int),vs=[.ref a,.int k]∧SqL K H a (ns.map V.int)∧0≤k∧∀ z,Q (.int z) H
def b8m:Sp:=fun vs H Q _=>∃ t b:Int,vs=[.int t,.int b]∧0<b∧Sz 9000 b∧∀ v H',Same H H'→ShV H' v (c6y t b)→Q v H'
def spLaw(K:c5t):Sp:=fun vs H Q _=>∃ (a:Addr) (ns:List Int),vs=[.ref a]∧SqL K H a (ns.map V.int)∧ns.length≤63∧∀ H',Q (.bl true) H'
theorem a4e{c:Prop}[Decidable c]{A B:Prop}(h1:c→A)(h2:¬ c→B):if decide c=true then A else B:=by
 by_cases h:c
 · rw[if_pos (decide_eq_true h)];exact h1 h
 · rw[if_neg (by simp[h])];exact h2 h
theorem ifT{b:Bool}{A B:Prop}(h:b=true)(k:A):if b=true then A else B:=by rw[if_pos h];exact k
theorem ifF{b:Bool}{A B:Prop}(h:b=false)(k:B):if b=true then A else B:=by rw[if_neg (by rw[h];decide)];exact k
theorem ifB{b:Bool}{A B:Prop}(h1:b=true→A)(h2:b=false→B):if b=true then A else B:=by
 cases b
 · exact ifF rfl (h2 rfl)
 · exact ifT rfl (h1 rfl)
end Cv
namespace Cv
open PySem PySem.Spec PyProof.Rows L2
theorem a0r.law{P:Program}{w:World}{K:c5t}{mg:Str→Option Value}{base:Heap}{CX:CXT}{k:Nat}{x:Str}{ps:List Str}{sp:Sp}{f:Addr}{fd:FuncData}{oc:Value}{od:Option Addr}{osl:Array (Option Value)}(D:a0r P w K mg base CX k x ps sp)(l:K.lookup f=some ⟨oc,od,.func fd,osl⟩)(hm:mg x=some (.ref f)):FnOk P w K mg base CX k f fd ps sp:=by
 obtain⟨f',fd',FO,hm',_,_,oc',od',osl',l'⟩:=D.ex
 have e:=hm.symm.trans hm'
 cases e
 have e2:=l.symm.trans l'
 have e3:Data.func fd=Data.func fd':=congrArg (fun (o:Obj)=>o.data) (c7z.inj e2)
 cases e3
 exact FO
theorem walk{l:PySem.W.OpenLaw}{k:Nat}{CX:CXT}{sp:c5t→Sp}{q:Program}{loose:List Str}{XP:(Str→Option Value)→Heap→Prop}{YP:World→Heap→Prop}{d:DefRec}{K:Params→c5t}{x:Str}(hn:l.most=some 63)(hdf:d.params.defaults=[])(hr:Room k callerA)(hY:∀ (w:World) (h:Heap),YP w h→(K w.params).In h)(F:∀ (w:World) (mg:Str→Option Value) (fa:Addr) (h:Heap),(K w.params).In h→h.Ns mainGlobals mg→mg d.name=some (.ref fa)→
     ∃ fd:FuncData,(∀ (s:Shared) (u:Value),BindsTo s fd ⟨[u],[]⟩ [(x,u)])∧∀ (P:Program) (base:Heap),(K w.params).In base→base.Ns mainGlobals mg→FnOk P w (K w.params) mg base CX k fa fd [x] (sp (K w.params)))(hsp:∀ (K:c5t) (H:Hp) (a:Addr) (ns:List Int),ns.length≤63→Only H→SqL K H a (ns.map V.int)→sp K [.ref a] H (fun v _=>v=.bl true) fun _ _ _=>False)(hCX:∀ (H:Hp) (s:Shared) (e:Value) (s':Shared),CX [] H s (fun _ _ _=>False) e s'→False) :
   PySem.W.WalkO q loose XP YP l.row.toRowW d [] (fun f vs=>PySem.call f vs):=
 L2.walk_of (n:=63) (k:=k) (x:=x) (CX:=fun _=>CX) (sp:=fun w=>sp (K w.params)) hn (by decide) hdf hr hY
   (fun w mg fa h a b c=>let ⟨fd,h1,h2⟩:=F w mg fa h a b c;⟨fd,h1,fun base=>h2 l.prog base⟩) (fun w H a ns=>hsp (K w.params) H a ns) fun _ H s e s'=>hCX H s e s'
end Cv
namespace Cv
open PySem PySem.Spec PyProof.Rows L2
theorem pl{j:Int}(h:0<j:=by decide):0<j:=h
theorem at_map(xs:List Int)(k:Nat)(h:k<xs.length):atI (xs.map V.int) (k:Int)=some (V.int (xs.getD k 0)):=by
 refine b3x ?_
 rw[c6c,c5v h]
 simp[c8x,c5v h]
theorem b7w(xs:List Int)(k:Int)(h0:0≤k)(h:k<(xs.length:Int)):atI (xs.map V.int) k=some (V.int (xs.getD k.toNat 0)):=by
 have e:k=((k.toNat:Nat):Int):=by omega
 have q:=at_map xs k.toNat (by omega)
 rw[← e] at q
 exact q
theorem b7m{xs:List Int}(h:∀ x∈xs,0≤x)(k:Nat):0≤xs.getD k 0:=by
 rw[c8x]
 cases e:xs[k]? with
 | none=>simp
 | some v=>exact h v (c6t e)
theorem a9g{α:Type}(xs:List α)(i:Int)(h0:0≤i)(h1:i<(xs.length:Int)):∃ v,atI xs i=some v∧v∈xs:=by
 have e:i=((i.toNat:Nat):Int):=by omega
 have hl:i.toNat<xs.length:=by omega
 refine⟨xs[i.toNat],?_,c7h hl⟩
 have q:=b3x (xs:=xs) (j:=i.toNat) (v:=xs[i.toNat]) (c5v hl)
 rw[← e] at q
 exact q
theorem p30:(10:Int)^(30:Int).toNat=1000000000000000000000000000000:=by decide
theorem pos30:(0:Int)<(10:Int)^(30:Int).toNat:=by rw[p30];decide
theorem a9h{n:Nat}{x:Int}{b:Nat}(h1:x.natAbs≤b)(h2:b<2^n):Sz n x:=⟨c7w h1 h2⟩
theorem gcd_abs(t b:Int):c6o (if t<0 then -t else t) b=c6o t b:=by
 split
 · rw[Int.neg_gcd]
 · rfl
theorem emod_gcd(a b:Int)(hb:0<b):c6o b (a % b)=c6o a b:=by
 have:=b9d a b
 rw[c9z a (by omega)] at this
 exact this
theorem c0s{a b:Int}(h:a≠b):(!decide (V.int a=V.int b))=true:=by simp[h]
theorem kit_ii(K:c5t):c5x K (.type "int") (.type "int")=some true:=rfl
theorem kit_ib(K:c5t):c5x K (.type "int") (.type "bool")=some false:=rfl
theorem kit_tt(K:c5t):c5x K (.type "tuple") (.type "tuple")=some true:=rfl
theorem kit_bb(K:c5t):c5x K (.type "bool") (.type "bool")=some true:=rfl
theorem kit_ll(K:c5t):c5x K (.type "list") (.type "list")=some true:=rfl
end Cv
namespace Cv
open PySem PySem.Spec PyProof.Rows L2
structure TrX(h B:Heap)(e:Addr)(cls fl:Value):Prop where
 ex:∃ (oe:Obj) (vs:Array Value) (T:Addr) (oT:Obj) (ts:Array Value),(h.get? e=some oe∧oe.cls=cls∧oe.data=.fields vs∧oe.dict=none)∧(vs[2]?=some .none∧vs[1]?=some (.ref T))∧(B.get? T=none∧T≠e)∧h.get? T=some oT∧oT.data=.fields ts∧ts[3]?=some fl
structure FlyX(B:Heap)(l:List Env)(e:Addr)(cls fl:Value)(h:Heap):Prop where
 stays:B.StaysIn h
 new:B.get? e=none
 frames:h.FunFrames B l
 tr:TrX h B e cls fl
theorem mf_dict(f:Array Value→Array Value)(o:Obj):(Obj.mapFields f o).dict=o.dict:=by
 unfold Obj.mapFields
 split<;>rfl
theorem FlyX.there{B h:Heap}{l:List Env}{e:Addr}{cls fl:Value}(x:FlyX B l e cls fl h):∃ o vs,h.get? e=some o∧o.cls=cls∧o.data=.fields vs∧vs[2]?=some .none∧o.dict=none:=by
 obtain⟨o,vs,_,_,_,⟨a,b,c,f⟩,⟨d,_⟩,_⟩:=x.tr.ex
 exact⟨o,vs,a,b,c,d,f⟩
section
variable {M:Model} {A:Around} {E:Value→Shared→Prop} {s:Shared} {B:Heap} {env:Env} {outer:List Env} {L e:Addr}
theorem entX{oe:Obj}{vs:Array Value}{hd:Value}{b:Bool}{Q:Unit→Shared→Prop}(hfr:A.frames=some (env::outer))(hf:env.frame=some L)(st:B.StaysIn s.heap)(ne:B.get? e=none)(ff:s.heap.FunFrames B (env::outer))(he:s.heap.get? e=some oe)(dt:oe.data=.fields vs)(dn:oe.dict=none)(v2:vs[2]?=some .none)(k:∀ h',FlyX B (env::outer) e oe.cls (rawInt L) h'→s.heap.UpToSlots h'→Q () { s with heap:=h' }) :
   wpAny M A (frameOf env >>= fun a=>entryPlaceOf L b >>= fun pl=>EntryCells.newEntry hd a .none (rawInt L) .none pl >>= fun t=>setField (.ref e) 1 t) Q E s:=by
 have v2s:2<vs.size:=(c8o.mp v2).1
 have nfr:e∉(env::outer).filterMap (·.frame):=by
   intro hm
   obtain⟨_,o,ho,q⟩:=ff.mem hm
   cases he.symm.trans ho
   exact q vs dt
 refine wpAny_bind (wpAny_frameOf_fun hfr ff hf fun h1 so=>?_)
 refine wpAny_bind (wpAny_entryPlaceOf fun pl ip=>?_)
 unfold EntryCells.newEntry newFields
 refine wpAny_bind (wpAny_newObj_type ?_ (ip.sizeOk5 _ _ _ _ _))
 have e1:h1.get? e=some oe:=(so.2.1 e nfr).trans he
 have st1:B.StaysIn h1:=fun c o q=>(so.2.1 c fun hm=>by rw[(ff.mem hm).1] at q;cases q).trans (st c o q)
 have t3:(([hd,Value.ref L,Value.none,rawInt L,Value.none]++(if pl.isEmpty then c6i 6 Value.none else pl)).toArray)[3]?=some (rawInt L):=by
   rw[List.getElem?_toArray];rfl
 have tT:h1.objs.size≠e:=Nat.ne_of_gt (Heap.lt_size e1)
 generalize hts:([hd,Value.ref L,Value.none,rawInt L,Value.none]++(if pl.isEmpty then c6i 6 Value.none else pl)).toArray=ts at t3 ⊢
 have e2:=Heap.get?_push_of_some (h:=h1) { cls:=.type "traceback",dict:=none,data:=.fields ts } e1
 refine wpAny_setField e2 dt (by omega) (k _ ?_ ?_)
 all_goals
   have d3:=Obj.data_mapFields dt (·.setIfInBounds 1 (Value.ref h1.objs.size))
   have e3:=Heap.get?_update_self (Obj.mapFields (·.setIfInBounds 1 (Value.ref h1.objs.size))) e2 (Obj.isFreed_of_fields d3)
   have up:∀ c o,c≠e→h1.get? c=some o→((h1.push { cls:=.type "traceback",dict:=none,data:=.fields ts }).update e (Obj.mapFields (·.setIfInBounds 1 (Value.ref h1.objs.size)))).get? c=some o:=fun c o q z=>by
     rw[Heap.get?_update_other _ _ (Ne.symm q)];exact Heap.get?_push_of_some _ z
   have nr:∀ c o,s.heap.get? c=some o→(∀ us,o.data≠.fields us)→c≠e:=fun c o z nf q=>by
     subst q;cases he.symm.trans z;exact nf vs dt
 · refine⟨fun c o z=>up c o (fun q=>by rw[q,ne] at z;cases z) (st1 c o z),ne,ff.of_keeps fun c o z nf=>?_,⟨_,_,h1.objs.size,_,_,⟨e3,Obj.cls_mapFields _ _,d3,(mf_dict _ _).trans dn⟩,⟨by rw[Array.getElem?_setIfInBounds_ne (by decide)];exact v2,by simp[show 1<vs.size by omega]⟩,⟨st1.fresh,tT⟩,(Heap.get?_update_other _ _ (Ne.symm tT)).trans (Heap.get?_push_size h1 rfl),rfl,t3⟩⟩
   obtain⟨sl,q⟩:=so.2.2 c o z
   exact⟨_,up c _ (nr c o z nf) q,rfl⟩
 · intro c o z nf
   obtain⟨sl,q⟩:=so.2.2 c o z
   exact⟨sl,up c _ (nr c o z nf) q⟩
theorem offX{l:List Env}{cls fl:Value}{Q:Unit→Shared→Prop}(x:FlyX B l e cls fl s.heap)(k:∀ h',FlyX B l e cls .none h'→s.heap.UpToSlots h'→Q () { s with heap:=h' }):wpAny M A (setFlight (.ref e) none) Q E s:=by
 obtain⟨oe,vs,T,oT,ts,⟨a1,a2,a3,a4⟩,⟨b1,b2⟩,⟨c1,c2⟩,d1,d2,d3⟩:=x.tr.ex
 have t3:3<ts.size:=(c8o.mp d3).1
 unfold setFlight
 refine wpAny_bind (wpAny_field a1 a3 b2 ?_)
 rw[if_pos (by simp:(Value.ref T != Value.none)=true)]
 refine wpAny_setField d1 d2 t3 (k _ ?_ ?_)
 all_goals
   have ot:∀ c,c≠T→(s.heap.update T (Obj.mapFields (·.setIfInBounds 3 ((none:Option Addr).elim Value.none fun f=>rawInt f)))).get? c=s.heap.get? c:=fun c q=>Heap.get?_update_other _ _ (Ne.symm q)
   have nr:∀ c o,s.heap.get? c=some o→(∀ us,o.data≠.fields us)→c≠T:=fun c o z nf q=>by
     subst q;cases d1.symm.trans z;exact nf ts d2
 · exact⟨fun c o z=>(ot c fun q=>by rw[q,c1] at z;cases z).trans (x.stays c o z),x.new,x.frames.of_keeps fun c o z nf=>⟨o,(ot c (nr c o z nf)).trans z,rfl⟩,
     ⟨oe,vs,T,_,_,⟨(ot e (Ne.symm c2)).trans a1,a2,a3,a4⟩,⟨b1,b2⟩,⟨c1,c2⟩,Heap.get?_update_self _ d1 (Obj.isFreed_of_fields (Obj.data_mapFields d2 _)),Obj.data_mapFields d2 _,by simp[t3]⟩⟩
 · exact fun c o z nf=>⟨o.slots,(ot c (nr c o z nf)).trans z⟩
theorem noteX{cls:Value}{Q:Unit→Shared→Prop}(hfr:A.frames=some (env::outer))(hf:env.frame=some L)(x:FlyX B (env::outer) e cls .none s.heap)(k:∀ h',FlyX B (env::outer) e cls (rawInt L) h'→s.heap.UpToSlots h'→Q () { s with heap:=h' }):wpAny M A (noteFrame (.ref e) env) Q E s:=by
 obtain⟨oe,vs,T,oT,ts,⟨a1,a2,a3,a4⟩,⟨b1,b2⟩,⟨c1,c2⟩,d1,d2,d3⟩:=x.tr.ex
 subst a2
 have t3:3<ts.size:=(c8o.mp d3).1
 unfold noteFrame
 simp only[hf]
 refine wpAny_bind (wpAny_field a1 a3 b2 ?_)
 rw[if_pos (by simp:(Value.ref T != Value.none)=true)]
 refine wpAny_bind (wpAny_field d1 d2 d3 ?_)
 rw[if_neg (by simp[rawInt]:¬ ((Value.none == rawInt L)=true))]
 refine wpAny_bind (wpAny_setField d1 d2 t3 ?_)
 have ot:∀ c,c≠T→(s.heap.update T (Obj.mapFields (·.setIfInBounds 3 Value.none))).get? c=s.heap.get? c:=fun c q=>Heap.get?_update_other _ _ (Ne.symm q)
 have nr:∀ c o,s.heap.get? c=some o→(∀ us,o.data≠.fields us)→c≠T:=fun c o z nf q=>by
   subst q;cases d1.symm.trans z;exact nf ts d2
 refine entX hfr hf (fun c o z=>(ot c fun q=>by rw[q,c1] at z;cases z).trans (x.stays c o z)) x.new (x.frames.of_keeps fun c o z nf=>⟨o,(ot c (nr c o z nf)).trans z,rfl⟩) ((ot e (Ne.symm c2)).trans a1) a3 a4 b1 fun h' f u=>k h' f ?_
 exact fun c o z nf=>u c o ((ot c (nr c o z nf)).trans z) nf
theorem FlyX.tail{cls fl:Value}{h:Heap}(x:FlyX B (env::outer) e cls fl h):FlyX B outer e cls fl h:=by
 obtain⟨a,b,⟨_,_,c⟩,d⟩:=x
 exact⟨a,b,c,d⟩
theorem leaveX{cls:Value}{Q:Unit→Shared→Prop}(hfr:A.frames=some (env::outer))(hf:env.frame=some L)(x:FlyX B (env::outer) e cls .none s.heap)(k:∀ h',FlyX B outer e cls .none h'→s.heap.UpToSlots h'→Q () { s with heap:=h' }):wpAny M A (leaving env (.ref e)) Q E s:=by
 unfold leaving
 exact wpAny_bind (noteX hfr hf x fun h1 f1 u1=>offX f1 fun h2 f2 u2=>k h2 f2.tail (u1.trans u2))
theorem madeX{h:Heap}{cls:Value}{args:List Value}{Q:Unit→Shared→Prop}(hfr:A.frames=some (env::outer))(hf:env.frame=some L)(st:B.StaysIn h)(ff:h.FunFrames B (env::outer))(hx:Heap.MadeExcOf h s.heap e cls args)(k:∀ h',FlyX B outer e cls .none h'→s.heap.UpToSlots h'→Q () { s with heap:=h' }):wpAny M A (leaving env (.ref e)) Q E s:=by
 obtain⟨t,he,_,_⟩:=hx.there
 have nb:B.get? e=none:=by
   cases q:B.get? e with
   | none=>rfl
   | some o=>have:=st e o q;rw[hx.new] at this;cases this
 unfold leaving noteFrame
 simp only[hf]
 refine wpAny_bind (wpAny_bind (wpAny_field he rfl (x:=.none) rfl ?_))
 rw[if_neg (by decide)]
 refine entX hfr hf (fun c o z=>hx.keeps c o (st c o z)) nb (ff.of_keeps fun c o z _=>⟨o,hx.keeps c o z,rfl⟩) he rfl rfl rfl fun h1 f1 u1=>?_
 exact offX f1 fun h2 f2 u2=>k h2 f2.tail (u1.trans u2)
end
end Cv
namespace Cv
open PySem PySem.Spec PyProof.Rows L2
structure UnB(fs:List Addr)(H H':Hp)(h B h':Heap):Prop where
 keep:∀ b o,h.get? b=some o→H b=none→b∉fs→B.get? b=some o
 slot:∀ b o,h.get? b=some o→H b=none→b∈fs→∃ sl,h'.get? b=some { o with slots:=sl }
 free:∀ b o,h.get? b=some o→H b=none→H' b=none
 there:∀ b o,h.get? b=some o→b∉fs→∃ o',B.get? b=some o'
 tups:∀ b xs,H b=some (.tup xs)→H' b=some (.tup xs)
 frzs:∀ b o u,H b=some (.frz o u)→H' b=some (.frz o u)
 tbls:∀ b ps,H b=some (.tbl ps)→∃ more,H' b=some (.tbl (ps++more))
theorem UnB.un{fs:List Addr}{H H':Hp}{h B h':Heap}(u:UnB fs H H' h B h')(hB:B.StaysIn h')(hf:∀ b∈fs,H b=none):Un fs [] H H' h h' where
 keep:=fun b o e n hb _=>hB b o (u.keep b o e n hb)
 slot:=fun b o e n hb _=>u.slot b o e n hb
 free:=fun b o e n _=>u.free b o e n
 there:=fun b o e _=>by
   by_cases hb:b∈fs
   · obtain⟨sl,q⟩:=u.slot b o e (hf b hb) hb
     exact⟨_,q⟩
   · obtain⟨o',q⟩:=u.there b o e hb
     exact⟨o',hB b o' q⟩
 tups:=u.tups
 frzs:=u.frzs
 tbls:=u.tbls
theorem UnB.on{fs:List Addr}{H H':Hp}{h B h' h'':Heap}(u:UnB fs H H' h B h')(hf:∀ b∈fs,∀ o,h.get? b=some o→∀ vs,o.data≠.fields vs)(up:h'.UpToSlots h''):UnB fs H H' h B h'' where
 keep:=u.keep
 slot:=fun b o e n hb=>by
   obtain⟨sl,q⟩:=u.slot b o e n hb
   obtain⟨sl',q'⟩:=up b _ q (hf b hb o e)
   exact⟨sl',q'⟩
 free:=u.free
 there:=u.there
 tups:=u.tups
 frzs:=u.frzs
 tbls:=u.tbls
def CXx(P:Program)(w:World):CXT:=fun outer H s E e s'=>∃ (x:Addr) (cls:Value) (H':Hp) (B:Heap),e=.ref x∧s'.os=s.os∧AllBare s'.gens∧UnB (frs outer) H H' s.heap B s'.heap∧
 HOk P w H' B∧FlyX B outer x cls .none s'.heap∧E cls none H'
theorem c3k{P:Program}{w:World}{X:Cx}:a4r (CXx P w) X E0:=fun _ _ _ _ _ _ _ ⟨_,_,_,_,_,_,_,_,_,_,h⟩=>h.elim
def c5q(X:Cx)(E:XK):Prop:=∀ (pins:List (Addr×Obj)) (σ:L2.St) (H:Hp) (s:Shared) (e:Addr) (h':Heap) (cls:Value) (vs:List Value),Inv X pins σ H s→Heap.MadeExcOf s.heap h' e cls vs→E cls none H→X.xe (.ref e) { s with heap:=h' }
section
variable {X:Cx} {pins:List (Addr×Obj)} {σ:L2.St} {H H':Hp} {s:Shared}
theorem fdata(I:Inv X pins σ H s):∀ b∈frs X.stack,∀ o,s.heap.get? b=some o→∀ vs,o.data≠.fields vs:=fun b hb o e vs=>by
 obtain⟨_,o',e',d⟩:=I.stack.mem hb
 rw[e] at e'
 cases e'
 exact d vs
theorem hok_hide(I:Inv X pins σ H s):HOk X.prog X.w H (c8b s.heap (frs X.stack)):=fun a o e=>
 (I.hok a o e).stay (fun b u hb q=>c8n _ q fun hm=>by
   have n:=I.stkFree b hm
   rcases hb with rfl | hb
   · rw[e] at n;cases n
   · rw[hb] at n;cases n) (fun _ q=>q) fun _ _ q=>q
theorem made_un(I:Inv X pins σ H s){e:Addr}{h':Heap}{cls:Value}{vs:List Value}(hx:Heap.MadeExcOf s.heap h' e cls vs):UnB (frs X.stack) H H s.heap (c8b s.heap (frs X.stack)) h' where
 keep:=fun b o q n hb=>c8n _ q hb
 slot:=fun b o q n hb=>⟨o.slots,hx.keeps b o q⟩
 free:=fun _ _ _ n=>n
 there:=fun b o q hb=>⟨o,c8n _ q hb⟩
 tups:=fun _ _ q=>q
 frzs:=fun _ _ _ q=>q
 tbls:=fun b ps q=>⟨#[],by rw[q];simp⟩
theorem out_un{B h':Heap}(I:Inv X pins σ H s)(hst:X.stack=X.env::X.outer)(hfr:X.env.frame=some X.env.locals)(hex:X.ex=[])(u:UnB (frs X.stack) H H' s.heap B h'):UnB X.fs X.H₀ H' X.s₀.heap B h':=by
 have hs:frs X.stack=X.env.locals::X.fs:=by
   rw[hst];unfold frs;rw[c9j,hfr];rfl
 have nx:∀ b,b∉X.ex:=fun b z=>by rw[hex] at z;cases z
 have ne:∀ b o,X.s₀.heap.get? b=some o→b≠X.env.locals:=fun b o e=>c6s (c6j (Heap.lt_size e) I.ok.above)
 have nin:∀ b o,X.s₀.heap.get? b=some o→b∉X.fs→b∉frs X.stack:=fun b o e hb z=>by
   rw[hs] at z
   rcases c6e.mp z with z | z
   · exact ne b o e z
   · exact hb z
 refine⟨fun b o e n hb=>?_,fun b o e n hb=>?_,fun b o e n=>?_,fun b o e hb=>?_,fun b xs q=>u.tups b xs (I.base.tups b xs q),fun b o xs q=>u.frzs b o xs (I.base.frzs b o xs q),fun b ps q=>?_⟩
 · exact u.keep b o (I.base.keep b o e n hb (nx b)) (I.base.free b o e n (nx b)) (nin b o e hb)
 · obtain⟨sl,q⟩:=I.base.slot b o e n hb (nx b)
   obtain⟨sl',q'⟩:=u.slot b _ q (I.base.free b o e n (nx b)) (by rw[hs];exact c7e _ hb)
   exact⟨sl',q'⟩
 · obtain⟨o',q⟩:=I.base.there b o e (nx b)
   exact u.free b o' q (I.base.free b o e n (nx b))
 · obtain⟨o',q⟩:=I.base.there b o e (nx b)
   exact u.there b o' q (nin b o e hb)
 · obtain⟨m1,e1⟩:=I.base.tbls b ps q
   obtain⟨m2,e2⟩:=u.tbls b _ e1
   exact⟨m1++m2,by rw[e2,c9l]⟩
end
section
variable {P:Program} {w:World} {K:c5t} {mg:Str→Option Value} {base:Heap} {N:List Str} {qual:Str} {scope:Scope} {f:Addr} {cd:Value} {A:Around} {outer:List Env} {s:Shared} {H:Hp} {E:XK}
theorem a1z:c5q (cxOf (CXx P w) P w K mg base N qual scope f cd A outer s H E) E:=by
 intro pins σ H1 s1 e h' cls vs I hx hE
 have hfr:(cxOf (CXx P w) P w K mg base N qual scope f cd A outer s H E).A.frames=some (cxOf (CXx P w) P w K mg base N qual scope f cd A outer s H E).stack:=I.ok.frames
 have st:(c8b s1.heap (frs (cxOf (CXx P w) P w K mg base N qual scope f cd A outer s H E).stack)).StaysIn s1.heap:=fun b o q=>d0c _ q
 have ff:s1.heap.FunFrames (c8b s1.heap (frs (cxOf (CXx P w) P w K mg base N qual scope f cd A outer s H E).stack)) (cxOf (CXx P w) P w K mg base N qual scope f cd A outer s H E).stack:=
   PySem.W.funFrames_hide I.stack fun env he b hb=>List.mem_filterMap.mpr ⟨env,he,hb⟩
 refine madeX hfr rfl st ff hx fun h'' x1 x4=>?_
 have u1:=made_un I hx
 have u2:UnB (frs (cxOf (CXx P w) P w K mg base N qual scope f cd A outer s H E).stack) H1 H1 s1.heap _ h'':=u1.on (fdata I) x4
 exact⟨e,cls,H1,_,rfl,I.os,I.bare,out_un I rfl rfl rfl u2,hok_hide I,x1,hE⟩
theorem a1p:a4r (CXx P w) (cxOf (CXx P w) P w K mg base N qual scope f cd A outer s H E) E:=by
 rintro pins σ H1 s1 e s' I ⟨x,cls,H',B,rfl,hos,hb,u,hok,hfl,hE⟩
 have hfr:(cxOf (CXx P w) P w K mg base N qual scope f cd A outer s H E).A.frames=some (cxOf (CXx P w) P w K mg base N qual scope f cd A outer s H E).stack:=I.ok.frames
 refine leaveX hfr rfl hfl fun h'' x1 x2=>?_
 have u2:UnB (frs (cxOf (CXx P w) P w K mg base N qual scope f cd A outer s H E).stack) H1 H' s1.heap B h'':=u.on (fdata I) x2
 exact⟨x,cls,H',B,rfl,hos.trans I.os,hb,out_un I rfl rfl rfl u2,hok,x1,hE⟩
end
section
variable {P:Program} {w:World} {K:c5t} {mg:Str→Option Value} {base:Heap}
theorem def_okX{x:Str}{st:Stmt}{N ps:List Str}{k:Nat}{sp:Sp}(F:a0k K mg x st ps)(S:a0t N ps (a0d st))(len:∀ vs H Q E,sp vs H Q E→vs.length=ps.length)(hbody:∀ (f:Addr) (cdv:Value) (A:Around) (outer:List Env) (s:Shared) (H:Hp) (vs:List V) (Q:VK) (E:XK),Room k (A.deeper (envOfC x (a0d st) s.heap.objs.size f cdv))→sp vs H Q E→
     ∃ t,PSs (cxOf (CXx P w) P w K mg base N x (a0d st) f cdv A outer s H E) (a0p st) t∧t { nx:=fun _ H'=>Q .non H',rt:=Q } (a7s N vs) H):a0r P w K mg base (CXx P w) (k+1) x ps sp:=by
 obtain⟨f,fd,F,hm,hb⟩:=F.ex
 obtain⟨oc,od,kV,doc,pm,an,cdv,ct,osl,rfl,lk,hcd⟩:=F.ex
 exact⟨f,_,fn_of lk hcd S len fun A outer s H vs Q E hr h=>hbody f cdv A outer s H vs Q E hr h,hm,F.kp,hb,oc,od,osl,lk⟩
end
abbrev mroV:List Value:=[.type "ValueError",.type "Exception",.type "BaseException",.type "object"]
structure XCls(K:c5t)(mg:Str→Option Value)(x:Str)(C:Addr):Prop where
 bound:mg x=some (.ref C)
 obj:∃ nm q N bs bm hdct sn sub ab col dd k0 k1 k2 k3 k5,K.lookup C=some (excClassObj nm q C N bs bm hdct sn sub ab col dd k0 k1 k2 k3 k5 "ValueError.__new__")∧
   d0g K N=true∧c5w K N "__init__" = some none∧d0h K mroV bm=true
theorem XCls.own{K:c5t}{mg:Str→Option Value}{x:Str}{C:Addr}{h:Heap}(c:XCls K mg x C)(X:K.In h):OwnCls x C mroV "ValueError.__new__" mg h:=by
 obtain⟨nm,q,N,bs,bm,hdct,sn,sub,ab,col,dd,k0,k1,k2,k3,k5,l,h1,h2,h3⟩:=c.obj
 exact⟨c.bound,bm,N,nm,q,bs,hdct,sn,sub,ab,col,dd,k0,k1,k2,k3,k5,_,X _ _ l,.of_isNs (PySem.W.isNs_of_in X h1),PySem.W.nsMap_none_of_in X h1 h2,PySem.W.tail_of_in X h3⟩
section
variable {X:Cx} {x:Str} {C:Addr} {np cpos pos:Pos} {E:XK} {e₀:Expr} {ta:TA}
def tRaise(E:XK)(C:Addr)(ta:TA):TS:=fun _ σ H=>ta σ H fun vs H1=>vs.length≤sizeLine∧E (.ref C) none H1
theorem ps_raise(th:c5q X E)(c:XCls X.K X.mg x C)(ha:PA X [e₀] ta)(hc:X.calm=true:=by rfl)(hg:Gl X x:=by rfl)(he:starEach [e₀] X.env=[(false,eval e₀ X.env)]:=by rfl)(hd:(x == ("__debug__" : Str))=false:=by decide):PS X (.Raise (some (.Call (.Name x np) [e₀] [] cpos)) none pos) (tRaise E C ta):=by
 intro pins s σ H D I h
 have O:OwnCls x C mroV "ValueError.__new__" X.mg s.heap:=c.own I.kIn
 obtain⟨tl,N,nm,q,bs,hdct,sn,sub,ab,col,dd,k0,k1,k2,k3,k5,mN,hC,hN,hni,T⟩:=O.obj
 obtain⟨tl',N',nm',q',bs',hdct',sn',sub',ab',col',dd',k0',k1',k2',k3',k5',mN',hC',hN',hni',T'⟩:=(c.own I.mod.kin).obj
 have FB:=PySem.F.excBase_ValueError
 refine wpAny_Raise_call_subT (C:=C) (nm:=nm') (q:=q') (N:=N') (bs:=bs') (bm:=tl') (hdct:=hdct') (sn:=sn') (sub:=sub') (ab:=ab') (col:=col') (dd:=dd') (k0:=k0') (k1:=k1') (k2:=k2') (k3:=k3') (k5:=k5')
   FB (mN:=mN') (T'.hasType FB.hasBase) (I.ok.hd hc) (by rw[he];rfl) hni' (b0z I hg c.bound ⟨rfl,?_⟩ hd)
 have h2:=ha cpos pins s σ H _ I h
 rw[he] at h2 ⊢
 exact Calls.evalArgs_plain (wpAny_mono h2 (fun us s2 ⟨vs,H2,I2,r,hz,hE⟩=>⟨rfl,(by rw[← r.length];exact hz),I2.bk _ _ hC',hN'.keeps I2.bk,T'.keeps I2.bk,fun h' e hm=>th pins σ H2 s2 e h' _ _ I2 hm hE⟩) fun _ _ y=>y)
end
theorem obj_some{P:Program}{w:World}{H:Hp}{h:Heap}{a:Addr}{o:HO}(x:a4n P w H h a o):∃ ob,h.get? a=some ob:=by
 induction o with
 | lst xs=>obtain⟨_,_,_,_,e⟩:=x;exact⟨_,e⟩
 | tup xs=>obtain⟨_,_,_,_,e,_⟩:=x;exact⟨_,e⟩
 | dK kvs=>obtain⟨_,_,_,_,_,_,_,e,_⟩:=x;exact⟨_,e⟩
 | dT kvs=>obtain⟨_,_,_,_,_,_,_,e,_⟩:=x;exact⟨_,e⟩
 | set S n=>obtain⟨_,_,_,_,e,_⟩:=x;exact⟨_,e⟩
 | ins C dx fs=>obtain⟨_,_,_,e,_⟩:=x;exact⟨_,e⟩
 | own y=>exact x
 | xd fs=>obtain⟨_,⟨_,_,_,e,_⟩,_⟩:=x;exact⟨_,e⟩
 | rng lo hi=>obtain⟨_,_,_,e⟩:=x;exact⟨_,e⟩
 | frz ob u _=>exact⟨_,x.1⟩
 | tbl ps=>exact⟨_,x⟩
 | met f y=>exact⟨_,x⟩
 | ext p=>exact x.2.1
abbrev tryX(X:Cx)(xe:Value→Shared→Prop)(pn:List (Addr×Obj)):Cx:={ X with xe:=xe,pn:=pn }
abbrev b1s(X:Cx)(x:Addr):Cx:={ X with A:=X.A.mark (some (.ref x)),calm:=false,xe:=fun _ _=>False }
section
variable {X:Cx} {pins pins':List (Addr×Obj)} {σ:L2.St} {H H':Hp} {s:Shared}
theorem toTry(I:Inv X pins σ H s)(xe:Value→Shared→Prop):Inv (tryX X xe (X.pn++pins)) pins σ H s:=
 ⟨⟨I.ok.mod,I.ok.kind,I.ok.glob,I.ok.blt,I.ok.above,I.ok.inj,I.ok.has,I.ok.cab,I.ok.hd,I.ok.frames,I.ok.stk,I.ok.exf,I.ok.bs,I.ok.bsz,I.ok.noex,I.ok.exfs,I.ok.funs,I.ok.frf⟩,
   I.os,I.bare,I.base,I.loc,I.cell,I.free,I.freeC,fun p hp=>I.pin p ((c7t.mp hp).elim id fun z=>c6q _ z),I.hok,I.len⟩
theorem c0g{xe:Value→Shared→Prop}(I:Inv (tryX X xe (X.pn++pins)) pins' σ H s):Inv X pins σ H s:=
 ⟨⟨I.ok.mod,I.ok.kind,I.ok.glob,I.ok.blt,I.ok.above,I.ok.inj,I.ok.has,I.ok.cab,I.ok.hd,I.ok.frames,I.ok.stk,I.ok.exf,I.ok.bs,I.ok.bsz,I.ok.noex,I.ok.exfs,I.ok.funs,I.ok.frf⟩,
   I.os,I.bare,I.base,I.loc,I.cell,I.free,I.freeC,fun p hp=>I.pin p (c9w _ hp),I.hok,I.len⟩
theorem c1c(I:Inv X pins σ H s)(x:Addr):Inv (b1s X x) pins σ H s:=
 ⟨⟨I.ok.mod,I.ok.kind,I.ok.glob,I.ok.blt,I.ok.above,I.ok.inj,I.ok.has,I.ok.cab,fun z=>absurd z c6k,I.ok.frames,I.ok.stk,I.ok.exf,I.ok.bs,I.ok.bsz,I.ok.noex,I.ok.exfs,I.ok.funs,I.ok.frf⟩,
   I.os,I.bare,I.base,I.loc,I.cell,I.free,I.freeC,I.pin,I.hok,I.len⟩
theorem ofSuite{x:Addr}(hd:X.calm=true→X.A.handled=none)(I:Inv (b1s X x) pins σ H s):Inv X pins σ H s:=
 ⟨⟨I.ok.mod,I.ok.kind,I.ok.glob,I.ok.blt,I.ok.above,I.ok.inj,I.ok.has,I.ok.cab,hd,I.ok.frames,I.ok.stk,I.ok.exf,I.ok.bs,I.ok.bsz,I.ok.noex,I.ok.exfs,I.ok.funs,I.ok.frf⟩,
   I.os,I.bare,I.base,I.loc,I.cell,I.free,I.freeC,I.pin,I.hok,I.len⟩
theorem c0l{h':Heap}{m':Str→Option Value}{tk:Nat}(I:Inv X pins σ H s)(hn:h'.Ns X.env.locals m')(hs:Heap.SameBut X.env.locals s.heap h'):Inv X pins (c6i X.N.length none) H { s with heap:=h',toks:=tk }:=by
 have old:∀ b o,X.s₀.heap.get? b=some o→b≠X.env.locals:=fun b o e=>c6s (c6j (Heap.lt_size e) I.ok.above)
 refine⟨I.ok,I.os,I.bare,⟨fun b o e n hb hx=>(hs.2 b (old b o e)).trans (I.base.keep b o e n hb hx),fun b o e n hb hx=>?_,I.base.free,fun b o e hx=>?_,I.base.tups,I.base.frzs,I.base.tbls⟩,
   ⟨m',hn,fun i y v _ e2 _=>?_⟩,fun y c e=>?_,I.free,I.freeC,fun p hp=>?_,fun b o e=>?_,c7a⟩
 · obtain⟨sl,q⟩:=I.base.slot b o e n hb hx
   exact⟨sl,(hs.2 b (old b o e)).trans q⟩
 · obtain⟨o',q⟩:=I.base.there b o e hx
   exact⟨o',(hs.2 b (old b o e)).trans q⟩
 · rw[c8u] at e2
   split at e2<;>cases e2
 · obtain⟨v,z⟩:=I.cell y c e
   exact⟨v,z.sameBut hs (I.cne y c e)⟩
 · obtain⟨e,n,ne,nf,d⟩:=I.pin p hp
   exact⟨(hs.2 p.1 ne).trans e,n,ne,nf,d⟩
 · refine (I.hok b o e).stay (fun c u hc q=>(hs.2 c fun z=>?_).trans q) (fun _ q=>q) fun _ _ q=>q
   have fr:=I.free
   rcases hc with hc | hc
   · rw[← z,hc,e] at fr;cases fr
   · rw[← z,hc] at fr;cases fr
end
def ExcO(x:Addr)(cls:Value):HO:=.ext fun h=>∃ o vs,h.get? x=some o∧o.cls=cls∧o.data=.fields vs∧vs[2]?=some .none∧o.dict=none
end Cv
namespace Cv
open PySem PySem.Spec PyProof.Rows L2
structure XNot(K:c5t)(C:Addr):Prop where
 hg:c6p K (.ref C) "__getattribute__" = some (some (.builtin "BaseException.__getattribute__"))
 hk:c6p K (.ref C) "__getattr__" = some none
 hd:(c8v K C).isSome=true
 ha:c6p K (.ref C) "__class__" = some (some (.builtin "object.__class__"))
 hn:c9h K (.builtin "object.__class__") "__get__" = some (some (.builtin "getset_descriptor.__get__"))
 ht:c9p K (.builtin "object.__class__")=some true
 hm:c8j K C (.type "object")=some true
 hb:c8j K C (.type "BaseException")=some true
theorem exc_cls{K:c5t}{x C:Addr}{prog:Program}{w:World}{A:Around}{E:Value→Shared→Prop}{s:Shared}{o:Obj}{Q:Option Value→Shared→Prop}(n:XNot K C)(KX:K.In s.heap)(I:PySem.W.InstAt s.heap x o C none)(hf:PySem.W.findObj K C none "__class__" = some (.bind (.builtin "getset_descriptor.__get__") (.builtin "object.__class__")))(h:Q (some (.ref C)) { s with toks:=s.toks+1 }):wpAny (model prog w) A (getAttr? (.ref x) "__class__") Q E s:=by
 obtain⟨hh,g,d,t,os⟩:=s
 have L0:=I.type (M:=model prog w)
 have L1:=PySem.W.looks_findIn (M:=model prog w) KX n.hg
 have L2:=PySem.W.looks_findIn (M:=model prog w) KX n.hk
 have L3:=PySem.W.looks_find (M:=model prog w) KX I hf
 have L4:=PySem.W.looks_mroIn (M:=model prog w) KX n.hb
 have hx2:(Value.builtin "BaseException.__getattribute__" == Value.builtin "object.__getattribute__")=false:=by decide +kernel
 have hx1:(onTheHeap (Value.ref C) && Value.builtin "BaseException.__getattribute__" == Value.builtin "object.__getattribute__")=false:=by rw[hx2];rfl
 have hb:=F.excAttr_ValueError.ga.bind (.ref x)
 unfold getAttr? getAttrBy? getAttrBy
 refine wpAny_bind (wpAny_mkText (wpAny_bind (wpAny_attempt (wpAny_holding (wpAny_bind (L0.at (wpAny_bind (L1.at ?_))))))))
 dsimp only
 rw[hx1,if_neg c6k]
 unfold getAttrByItsOwn hookBefore
 refine wpAny_bind (L2.at ?_)
 refine wpAny_bind (wpAny_attempt (wpAny_holding ?_))
 unfold callGetattribute boundAndCalled
 rw[Bool.false_and,if_neg c6k,hb]
 refine wpAny_bind (wpAny_pure ?_)
 refine wpAny_call (codeAny_call_builtin F.excAttr_ValueError.ga.plain F.entry_bexc_ga ?_)
 have hk:builtinKind "BaseException.__getattribute__" = some .slot:=by decide +kernel
 have hsp:splitId "BaseException.__getattribute__" = some ("BaseException","__getattribute__"):=by decide +kernel
 have hz:=F.args_bexc_ga (.ref x) (.str "__class__" t)
 simp only[checkBuiltinCall,hk,hsp]
 refine wpAny_bind ?_
 unfold isInstance
 refine wpAny_bind (L0.at (L4.at ?_))
 repeat wp_step
 refine wpAny_loadPart I.at_ (wpAny_pure ?_)
 rw[I.cls]
 refine wpAny_bind (L3.at ?_)
 unfold Builtin.ObjectAttr.bindTo
 dsimp only
 refine wpAny_bind (wpAny_holding (wpAny_call (PySem.W.class_get (s:={ heap:=hh,gens:=g,drawn:=d,toks:=t+1,os:=os }) (ox:=o) (od:=none) KX I n.hm ?_)))
 refine wpAny_pure ?_
 exact PySem.W.handed_on rfl (wpAny_pure h)
def XAt(x C:Addr)(h:Heap):Prop:=∃ o vs,h.get? x=some o∧o.cls=.ref C∧o.data=.fields vs∧vs[2]?=some .none∧o.dict=none
theorem XAt.inst{x C:Addr}{h:Heap}(p:XAt x C h):∃ o,PySem.W.InstAt h x o C none:=by
 obtain⟨o,vs,a,b,c,_,d⟩:=p
 exact⟨o,a,b,by unfold PySem.W.notCls;rw[c],by rw[d];exact True.intro⟩
theorem b3t{K:c5t}{C:Addr}(h:(c8v K C).isSome=true):∃ c d cd sl,K.lookup C=some ⟨c,d,.cls cd,sl⟩:=by
 obtain⟨cd,hc⟩:=Option.isSome_iff_exists.mp h
 unfold c8v at hc
 split at hc
 · exact⟨_,_,_,_,by assumption⟩
 · cases hc
theorem b8z{K:c5t}{x C:Addr}(n:XNot K C):PySem.W.KitX K (.ref x) (.ref C) (XAt x C) where
 ty:=fun _ _ _ p=>by obtain⟨o,I⟩:=p.inst;exact I.type
 it:=fun _ _ KX _=>by
   obtain⟨c,d,cd,sl,hk⟩:=b3t n.hd
   intro A' Q' E' s' kk q
   unfold isType loadHead
   exact wpAny_bind (wpAny_loadPart (kk _ _ (KX _ _ hk)) (wpAny_pure q))
 ne:=fun h tp dd its m sl KX e=>by
   obtain⟨c,d,cd,sl',hk⟩:=b3t n.hd
   refine Bool.eq_false_iff.mpr fun q=>?_
   cases Value.ref.inj (beq_iff_eq.mp q)
   cases (KX _ _ hk).symm.trans e
 ca:=fun {_ _ _ _ _ s} KX p q=>by
   obtain⟨o,I⟩:=p.inst
   obtain⟨c,d,cd,sl',hk⟩:=b3t n.hd
   have hf:PySem.W.findObj K C none "__class__" = some (.bind (.builtin "getset_descriptor.__get__") (.builtin "object.__class__")):=by
     have hc:c8v K C=some cd:=by unfold c8v;rw[hk]
     unfold PySem.W.findObj
     rw[hc,Option.bind_some,n.ha,Option.bind_some]
     simp[n.hn,n.ht]
   exact exc_cls n KX I hf q
section
variable {X:Cx}
def clsOf:V→Option Value
 | .ref a=>some (.ref a)
 | .ty n=>some (.type n)
 | _=>none
theorem c5j{y:V}{c v:Value}(e:clsOf y=some c)(r:RelV y v):v=c:=by
 cases y with
 | ref a=>cases e;exact r
 | ty n=>cases e;exact r
 | _=>cases e
theorem call_isx:a6a X (.builtin "isinstance") (fun xs H Q=>∃ x C y c b,xs=[.ref x,y]∧H x=some (ExcO x (.ref C))∧clsOf y=some c∧XNot X.K C∧c5x X.K (.ref C) c=some b∧Q (.bl b) H):=by
 intro pins s σ H xs us Q I r h
 obtain⟨x,C,y,c,b,rfl,hx,ry,n,e,q⟩:=h
 obtain⟨u,v,rfl,ru,rv⟩:=a7n r
 cases ru
 cases c5j ry rv
 have hO:XAt x C s.heap:=(I.hok x _ hx).1
 exact c7x (b8z n) I.kIn hO e (fun z=>nomatch z) fun tk=>⟨.bl b,H,I.tok tk,rfl,q⟩
end
end Cv
namespace Cv
open PySem PySem.Spec PyProof.Rows L2
theorem a9r(K:c5t)(a:Addr):c5x K (.ref a) (.ref a)=some true:=by
 unfold c5x
 rw[if_pos (beq_self_eq_true _)]
end Cv
namespace Cv
open PySem PySem.Spec PyProof.Rows L2
abbrev a2j(X:Cx)(scope:Scope)(cl:List (Str×Addr))(Nc:List Str)(C:Addr)(s0:Shared)(H0:Hp)(fp:List Addr):Cx where
 prog:=X.prog
 w:=X.w
 K:=X.K
 mg:=X.mg
 base:=X.base
 A:=X.A
 N:=Nc
 s₀:=s0
 H₀:=H0
 env:=compEnvC scope cl C X.env
 outer:=X.stack
 stack:=X.stack
 ex:=fp
 fn:=fun _=>false
 calm:=X.calm
 pn:=[]
 xe:=fun _ _=>False
def capd(σ:L2.St)(ix:List Nat):L2.St:=ix.map fun j=>(σ[j]?).getD none
end Cv
namespace Cv
open PySem PySem.Spec PyProof.Rows L2
theorem a9b{env:Env}:∀ (names:List (Str×NameKind)) (acc:List (Str×Addr)),(∀ y∈names,y.2=.free→∃ c,env.cells.lookup y.1=some c)→
   ∃ cl,(forIn names acc fun (x:Str×NameKind) (r:List (Str×Addr))=>if (x.2 == NameKind.free)=true then (do let c ← cellOf env x.1;pure (ForInStep.yield ((x.1,c)::r))) else pure (ForInStep.yield r):Sem (List (Str×Addr)))=pure cl∧
     ((∀ y c,acc.lookup y=some c→env.cells.lookup y=some c)→∀ y c,cl.lookup y=some c→env.cells.lookup y=some c)∧
     (∀ y,(∃ c,acc.lookup y=some c)→∃ c,cl.lookup y=some c)∧∀ y∈names,y.2=.free→∃ c,cl.lookup y.1=some c
 | [],acc,_=>⟨acc,by simp,fun h=>h,fun _ h=>h,fun _ h=>nomatch h⟩
 | (n,k)::r,acc,h=>by
   rw[List.forIn_cons]
   by_cases hk:k=.free
   · subst hk
     obtain⟨c,hc⟩:=h (n,.free) (.head _) rfl
     obtain⟨cl,e,h1,h2,h3⟩:=a9b (env:=env) r ((n,c)::acc) fun y hy=>h y (.tail _ hy)
     refine⟨cl,?_,fun ha=>h1 fun y d hd=>?_,fun y hy=>h2 y ?_,fun y hy hf=>?_⟩
     · have ec:cellOf env n=pure c:=by
         unfold cellOf
         have hc':env.cells.lookup n=some c:=hc
         rw[hc']
       simp only[ec]
       exact e
     · rw[c7y] at hd
       by_cases hy:y == n
       · rw[hy] at hd
         cases hd
         rw[eq_of_beq hy];exact hc
       · rw[Bool.not_eq_true] at hy
         rw[hy] at hd
         exact ha y d hd
     · rw[c7y]
       by_cases hyn:y == n
       · rw[hyn];exact⟨_,rfl⟩
       · rw[Bool.not_eq_true] at hyn
         rw[hyn];exact hy
     · rcases c6e.mp hy with rfl | hy
       · exact h2 n ⟨c,by rw[c7y];simp⟩
       · exact h3 y hy hf
   · obtain⟨cl,e,h1,h2,h3⟩:=a9b (env:=env) r acc fun y hy=>h y (.tail _ hy)
     refine⟨cl,?_,h1,h2,fun y hy hf=>?_⟩
     · have hk':(k == NameKind.free)=false:=by
         cases k<;>first | rfl | exact absurd rfl hk
       simp only[hk']
       exact e
     · rcases c6e.mp hy with rfl | hy
       · exact absurd hf hk
       · exact h3 y hy hf
theorem b2c{scope:Scope}{env:Env}(h:∀ y∈scope.names,y.2=.free→∃ c,env.cells.lookup y.1=some c) :
   ∃ cl,closureFor scope env=pure cl∧(∀ y c,cl.lookup y=some c→env.cells.lookup y=some c)∧∀ y∈scope.names,y.2=.free→∃ c,cl.lookup y.1=some c:=by
 obtain⟨cl,e,h1,_,h3⟩:=a9b (env:=env) scope.names [] h
 refine⟨cl,?_,h1 (fun _ _ z=>nomatch z),h3⟩
 unfold closureFor
 have:=congrArg (fun (m:Sem (List (Str×Addr)))=>m >>= fun r=>pure r) e
 first
   | exact e
   | simpa using e
   | (simp only[bind_pure] at this ⊢;exact this)
theorem a3e{env:Env}:∀ {names:List (Str×NameKind)} {y:Str} {k:NameKind},(∀ z∈names,z.2≠.cell)→
   (names.map fun (n,k)=>if (k == NameKind.free && env.scope.kind == .function && env.kindOf n == some .cell) then (n,NameKind.cell) else (n,k)).lookup y=some k→(k=.cell∨k=.free)→(y,NameKind.free)∈names
 | [],_,_,_,h,_=>by simp at h
 | (n,q)::r,y,k,hc,h,hk=>by
   rw[c6f] at h
   by_cases hy:y == n
   · have e:y=n:=eq_of_beq hy
     subst e
     by_cases ht:(q == NameKind.free && env.scope.kind == .function && env.kindOf y == some .cell)=true
     · have:q=.free:=by
         simp only[c6n] at ht
         exact eq_of_beq ht.1.1
       rw[this];exact .head _
     · simp only[ht] at h
       rw[c7y] at h
       simp at h
       subst h
       rcases hk with rfl | rfl
       · exact absurd rfl (hc _ (.head _))
       · exact .head _
   · rw[Bool.not_eq_true] at hy
     refine .tail _ (a3e (env:=env) (fun z hz=>hc z (.tail _ hz)) ?_ hk)
     by_cases ht:(q == NameKind.free && env.scope.kind == .function && env.kindOf n == some .cell)=true
     · simp only[ht] at h
       rw[c7y] at h
       have h':=h
       (simp[hy] at h';simpa using h')
     · simp only[ht] at h
       rw[c7y] at h
       have h':=h
       (simp[hy] at h';simpa using h')
section
variable {prog:Program} {w:World} {A:Around} {R:Result→Shared→Prop} {s:Shared}
theorem a7j{elt target iter:Expr}{scope:Scope}{pos:Pos}{it acc:Value}{env:Env}(I:Nat→Shared→Prop)(turn:∀ n s,I n s→wpAny (model prog w) A (pyNext it) (fun r s₁=>match r with
     | none=>R (.ok .next) s₁
     | some v=>wpAny (model prog w) A (letOwnedTupleGo target it v) (fun _ s₁'=>wpAny (model prog w) A (assign target env v) (fun _ s₂=>wpAny (model prog w) A (eval elt env) (fun x s₃=>
         wpAny (model prog w) A (call (.builtin "list.append") [acc,x]) (fun _ s₄=>∃ m,m<n∧I m s₄) (notedBy (model prog w) A env fun e s'=>R (.error e) s') s₃)
         (notedBy (model prog w) A env fun e s'=>R (.error e) s') s₂) (notedBy (model prog w) A env fun e s'=>R (.error e) s') s₁') (notedBy (model prog w) A env fun e s'=>R (.error e) s') s₁) (notedBy (model prog w) A env fun e s'=>R (.error e) s') s)(n:Nat)(h:I n s) :
   codeAny (model prog w) A (.compLoop (.ListComp elt [⟨target,iter,[],0⟩] scope pos) 0 it acc env) R s:=by
 refine codeAny_loop rfl I (fun n s hI=>?_) n h
 show wpAny _ _ ((compTurn (.ListComp elt [⟨target,iter,[],0⟩] scope pos) 0 it acc env).onRaise (fun x=>do noteFrame x env;theTreesLotGoes x)) _ _ s
 refine wpAny_noted ?_
 rw[compTurn_list1]
 refine wpAny_bind (wpAny_standAt (wpAny_bind (wpAny_mono (turn n s hI) (fun r s₁ h₁=>?_) fun _ _ h'=>h')))
 cases r with
 | none=>exact wpAny_pure h₁
 | some v=>
   refine wpAny_bind (wpAny_mono h₁ (fun _ s₁' h₁'=>?_) fun _ _ h'=>h')
   exact wpAny_bind (wpAny_mono h₁' (fun _ s₂ h₂=>wpAny_bind (wpAny_bind (wpAny_mono h₂ (fun x s₃ h₃=>wpAny_bind (wpAny_mono h₃
     (fun _ s₄ h₄=>wpAny_pure (wpAny_pure ⟨rfl,h₄⟩)) fun _ _ h'=>h')) fun _ _ h'=>h'))) fun _ _ h'=>h')
end
structure TB(P:Program)(w:World)(fp:List Addr)(it:Addr)(tn:Nat→Heap→Prop):Prop where
 obj:∀ i h,tn i h→∀ b∈fp,∃ o,h.get? b=some o∧∀ v,o.data≠.cell v
 keep:∀ i h h',tn i h→(∀ b∈fp,∀ o,h.get? b=some o→h'.get? b=some o)→tn i h'
 self:∀ (A:Around) (i:Nat) (s:Shared) (Q:Value→Shared→Prop) (E:Value→Shared→Prop),tn i s.heap→Q (.ref it) s→wpAny (model P w) A (pyIter (.ref it)) Q E s
structure c5p(Z:Cx)(tg:Expr)(J:It)(fp:List Addr)(it:Addr)(tn:Nat→Heap→Prop):Prop where
 tb:TB Z.prog Z.w fp it tn
 step:∀ {i pins s σ H} {E:Value→Shared→Prop},Inv Z pins σ H s→(∀ b∈fp,FpOk Z pins H b)→tn i s.heap→
   (J.stop i H→wpAny (model Z.prog Z.w) Z.A (pyNext (.ref it)) (fun r s1=>r=none∧Inv Z pins σ H s1) E s)∧
   (J.go i H→wpAny (model Z.prog Z.w) Z.A (pyNext (.ref it)) (fun r s1=>∃ u,r=some u∧wpAny (model Z.prog Z.w) Z.A (letOwnedTupleGo tg (.ref it) u) (fun _ s2=>∃ x H',Inv Z pins σ H' s2∧RelV x u∧J.yld i H x H'∧tn (i+1) s2.heap∧∀ b∈fp,H' b=none) E s1) E s)
theorem _root_.L2.Turn.tb{P:Program}{w:World}{K:c5t}{tg:Expr}{J:It}{fp:List Addr}{it:Addr}{tn:Nat→Heap→Prop}(T:Turn P w K tg J fp it tn):TB P w fp it tn:=⟨T.obj,T.keep,T.self⟩
theorem _root_.L2.Turn.z{Z:Cx}{tg:Expr}{J:It}{fp:List Addr}{it:Addr}{tn:Nat→Heap→Prop}(T:Turn Z.prog Z.w Z.K tg J fp it tn)(hc:Z.calm=true):c5p Z tg J fp it tn:=
 ⟨T.tb,fun I f st=>⟨fun h=>T.done Z rfl rfl rfl hc _ _ _ _ _ _ I f st h,fun h=>T.item Z rfl rfl rfl hc _ _ _ _ _ _ I f st h⟩⟩
def PIG(X:Cx)(TP:It→List Addr→Addr→(Nat→Heap→Prop)→Prop)(iter:Expr)(wi:TI):Prop:=
 ∀ (pins:List (Addr×Obj)) (s:Shared) (σ:L2.St) (H:Hp) (R:It→Hp→Prop),Inv X pins σ H s→wi σ H R→
   wpAny (model X.prog X.w) X.A (eval iter X.env) (fun v s1=>wpAny (model X.prog X.w) X.A (pyIter v) (fun itv s2=>∃ (it:Addr) (fp:List Addr) (tn:Nat→Heap→Prop) (J:It) (H':Hp),itv=.ref it∧Inv X pins σ H' s2∧TP J fp it tn∧tn 0 s2.heap∧(∀ b∈fp,FpOk X pins H' b)∧R J H') X.xe s1) X.xe s
def a9t(k:Nat)(J:It)(H1:Hp)(g:TG)(te:TE)(cs:L2.St)(Q:VK):Prop:=∀ D,H1 D=none→∃ W:Nat→Nat→List V→Hp→Prop,(∃ m,W 0 m [] (upd H1 D (.lst [])))∧
 ∀ i m ys H2,W i m ys H2→(J.stop i H2∧Q (.ref D) H2)∨(J.go i H2∧∀ x H',J.yld i H2 x H'→∀ own:L2.St,own.length=k→g x (own++cs) H' fun σ2 H4=>(∃ own':L2.St,own'.length=k∧σ2=own'++cs)∧
   te σ2 H4 fun v H3=>H3 D=some (.lst ys)∧ys.length<sizeLine∧∃ m',m' < m∧W (i+1) m' (ys++[v]) (upd H3 D (.lst (ys++[v]))))
def a5n(k:Nat)(wi:TI)(g:TG)(te:TE)(ix:List Nat):TE:=fun σ H Q=>wi σ H fun J H1=>a9t k J H1 g te (capd σ ix) Q
section
variable {X:Cx}
theorem b9j{TP:It→List Addr→Addr→(Nat→Heap→Prop)→Prop}{tg elt iter:Expr}{ifs:List Expr}{rest:List Comprehension}{os:List Str}{pos ipos:Pos}{scope:Scope}{wi:TI}{G:It→Hp→Addr→Prop}{caps:List (Nat×Str)}{pins:List (Addr×Obj)}{s:Shared}{σ:L2.St}{H:Hp}{Q:VK}{use:Option (Value→Sem Unit)}{R:Value→Shared→Prop}(hi:PIG X TP iter wi)(hT:∀ {J fp it tn},TP J fp it tn→TB X.prog X.w fp it tn)(hfree:∀ y∈scope.names,y.2=.free→X.env.kindOf y.1=some .cell)(hcap:∀ p∈caps,X.N[p.1]?=some p.2∧X.env.kindOf p.2=some .cell∧((relabel scope X.env).names.lookup p.2=some .cell∨(relabel scope X.env).names.lookup p.2=some .free))(hkind:scope.kind=.function)(hcell:∀ y∈scope.names,y.2≠.cell)(hnames:∀ y∈scope.names,y.2=.local→scope.names.lookup y.1=some .local)(hfs:∀ v,foldedSetIterable iter X.env v=pure v)(hfin:∀ D C H5 s6 m6,Inv X pins σ H5 s6→s6.heap.Ns C m6→FpOk X pins H5 C→Q (.ref D) H5→compPost (model X.prog X.w) X.A X.xe use R (.ref D) C (.ok .next) s6)(I:Inv X pins σ H s)(h:wi σ H fun J H1=>∀ D,H1 D=none→G J H1 D)(hloop:∀ cl C s3 fp it tn J H1 D s4,G J H1 D→TP J fp it tn→Inv (a2j X scope cl (os++caps.map (·.2)) C s3 (upd H1 D (.lst [])) fp) [] (c6i os.length none++capd σ (caps.map (·.1))) (upd H1 D (.lst [])) s4→tn 0 s4.heap→(∀ b∈fp,(upd H1 D (.lst [])) b=none)→
     (∀ H',(∀ b∈fp,H' b=none)→∀ b∈fp,FpOk (a2j X scope cl (os++caps.map (·.2)) C s3 (upd H1 D (.lst [])) fp) [] H' b)→(∀ σ' H5 s6,Inv (a2j X scope cl (os++caps.map (·.2)) C s3 (upd H1 D (.lst [])) fp) [] σ' H5 s6→Q (.ref D) H5→compPost (model X.prog X.w) X.A X.xe use R (.ref D) C (.ok .next) s6)→
     codeAny (model X.prog X.w) X.A (.compLoop (.ListComp elt (⟨tg,iter,ifs,0⟩ :: rest) scope pos) 0 (.ref it) (.ref D) (compEnvC scope cl C X.env)) (compPost (model X.prog X.w) X.A X.xe use R (.ref D) C) s4) :
   wpAny (model X.prog X.w) X.A (comprehension (.ListComp elt (⟨tg,iter,ifs,0⟩ :: rest) scope pos) scope X.env ipos (newList []) false (eval iter X.env) use) R X.xe s:=by
 obtain⟨cl,hclos,hcl,hin⟩:=b2c (scope:=scope) (env:=X.env) fun y hy hf=>I.ok.has y.1 (.inl (hfree y hy hf))
 have hhas:∀ y,((relabel scope X.env).names.lookup y=some .cell∨(relabel scope X.env).names.lookup y=some .free)→∃ c,cl.lookup y=some c:=fun y hy=>by
   rcases hy with hy | hy
   · exact hin (y,.free) (a3e (env:=X.env) hcell hy (.inl rfl)) rfl
   · exact hin (y,.free) (a3e (env:=X.env) hcell hy (.inr rfl)) rfl
 refine wpAny_comprehension_free (use:=use) rfl hfs hclos hkind hnames ?_
 refine thn (hi pins s σ H _ I h) fun v s1 h1=>thn h1 fun itv s2 h2=>?_
 obtain⟨it,fp,tn,J,H1,rfl,I2,TT,st2,f2,rd⟩:=h2
 have T:=hT TT
 refine wpAny_newObj_type ?_ (by show 0≤sizeLine;decide)
 have hD:H1 s2.heap.objs.size=none:=I2.hok.fresh (c6l _)
 have hG:=rd s2.heap.objs.size hD
 generalize eD:s2.heap.objs.size=D at hD hG
 have I3:Inv X pins σ (upd H1 D (.lst [])) { s2 with heap:=s2.heap.push { cls:=.type "list",data:=.seq ([]:List Value).toArray } }:=by
   subst eD
   exact I2.laid (t':=s2.toks) (fun b u e=>Heap.get?_push_of_some _ e) (c6l _) ⟨c8c _,[],0,.nil,Heap.get?_push_size _ rfl⟩
 generalize e3:({ s2 with heap:=s2.heap.push { cls:=.type "list",data:=.seq ([]:List Value).toArray } }:Shared)=s3 at I3
 have hs3:s3.heap.objs.size=D+1:=by rw[← e3,← eD];simp
 have k23:∀ b o,s2.heap.get? b=some o→s3.heap.get? b=some o:=fun b o e=>by rw[← e3];exact Heap.get?_push_of_some _ e
 refine wpAny_newFunctionEnv hcell (by intro y hy;simp at hy) (fun h4 hn4 hs4=>?_) hkind
 have k34:∀ b o,s3.heap.get? b=some o→h4.get? b=some o:=fun b o e=>(hs4.2 b (c6s (Heap.lt_size e))).trans (Heap.get?_push_of_some _ e)
 generalize eC:s3.heap.objs.size=C at hn4 hs4
 have hfpC:∀ b∈fp,b≠C:=fun b hb z=>by
   obtain⟨o,e,_⟩:=T.obj 0 _ st2 b hb
   have h1:=Heap.lt_size e
   rw[z,← eC,hs3,eD] at h1
   exact absurd h1 (Nat.not_lt.mpr (Nat.le_succ D))
 have hfps:∀ b∈fp,b∉frs X.stack:=fun b hb z=>by
   rcases c6e.mp (I2.stkSub b z) with q | q
   · exact (f2 b hb).2.1 q
   · exact (f2 b hb).2.2.1 q
 have hfpD:∀ b∈fp,b≠D:=fun b hb z=>by
   obtain⟨o,e,_⟩:=T.obj 0 _ st2 b hb
   have h1:=Heap.lt_size e
   rw[z,eD] at h1
   exact c8d _ h1
 have okc:(a2j X scope cl (os++caps.map (·.2)) C s3 (upd H1 D (.lst [])) fp).Ok:=by
   refine⟨I3.ok.mod,hkind,I3.ok.glob,I3.ok.blt,c9c eC,fun y z c h1 h2=>I3.ok.inj y z c (hcl y c h1) (hcl z c h2),fun y hy=>hhas y hy,fun y c hf=>absurd hf c6k,I3.ok.hd,I3.ok.frames,.inl rfl,
     fun b hb=>⟨hfpC b hb,fun y c e=>(f2 b hb).2.2.2.2.1 y c (hcl y c e)⟩,I3.bs,c6x I3.ok.bsz I3.sz,fun b o e hb=>?_,fun b hb=>hfps b hb,I3.stack,I3.stkFree⟩
   rcases (f2 b hb).2.2.2.1 with z | z
   · exact I3.ok.noex b o e z
   · exact c8d _ (c6j (Heap.lt_size (I3.ok.bs b o e).1) z)
 have capS:(capd σ (caps.map (·.1))).length=caps.length:=by unfold capd;rw[c5u,c5u]
 have Ic:Inv (a2j X scope cl (os++caps.map (·.2)) C s3 (upd H1 D (.lst [])) fp) [] (c6i os.length none++capd σ (caps.map (·.1))) (upd H1 D (.lst [])) { s3 with heap:=h4,toks:=s3.toks+([]:List (Str×Value)).length }:=by
   refine⟨okc,rfl,I3.bare,Un.kept k34,⟨_,hn4,fun i y v e1 e2 e3'=>?_⟩,fun y c e=>?_,I3.hok.fresh (c9c eC),fun y c e=>I3.freeC y c (hcl y c e),fun p hp=>absurd hp (by simp),I3.hok.kept k34,?_⟩
   · by_cases hik:i<os.length
     · rw[c7c (by rw[c7a];exact hik),c8u] at e2
       split at e2<;>cases e2
     · have e1':(caps.map (·.2))[i - os.length]?=some y:=by
         have z:(os++caps.map (·.2))[i]?=some y:=e1
         rw[c6v (by omega)] at z
         exact z
       have e2':(capd σ (caps.map (·.1)))[i - os.length]?=some (some v):=by
         rw[c6v (by rw[c7a];omega),c7a] at e2
         exact e2
       generalize i - os.length=i at e1' e2'
       rw[c6c] at e1'
       unfold capd at e2'
       rw[c6c,c6c] at e2'
       cases q:caps[i]? with
       | none=>rw[q] at e1';cases e1'
       | some p=>
         rw[q] at e1' e2'
         have ey:p.2=y:=c7z.inj e1'
         have ev:(σ[p.1]?).getD none=some v:=c7z.inj e2'
         have es:σ[p.1]?=some (some v):=by
           cases z:σ[p.1]? with
           | none=>rw[z] at ev;cases ev
           | some w'=>rw[z] at ev;exact congrArg some ev
         obtain⟨hN,hk,hv⟩:=hcap p (c6t q)
         obtain⟨m,_,hl⟩:=I3.loc
         obtain⟨u,r,lk⟩:=hl p.1 p.2 v hN es (.inr (.inl hk))
         rw[ey] at hk hv lk
         refine⟨u,r,.inr ⟨hv,?_⟩⟩
         obtain⟨c,hc'⟩:=hhas y hv
         rcases lk with⟨z,_⟩ | ⟨_,c2,z,ic⟩
         · rw[hk] at z;cases z
         · have ec:=(hcl y c hc').symm.trans z
           cases ec
           obtain⟨o,ho,hd⟩:=ic
           exact⟨c,hc',o,k34 _ _ ho,hd⟩
   · obtain⟨v,o,ho,hd⟩:=I3.cell y c (hcl y c e)
     exact⟨v,o,k34 _ _ ho,hd⟩
   · show (c6i os.length (none:Option V)++capd σ (caps.map fun p=>p.1)).length=(os++caps.map fun p=>p.2).length
     rw[c6m,c6m,c7a,capS,c5u]
 have fpc:∀ H',(∀ b∈fp,H' b=none)→∀ b∈fp,FpOk (a2j X scope cl (os++caps.map (·.2)) C s3 (upd H1 D (.lst [])) fp) [] H' b:=fun H' hn b hb=>
   ⟨hn b hb,hfpC b hb,hfps b hb,.inl hb,fun y c e=>(f2 b hb).2.2.2.2.1 y c (hcl y c e),fun p hp=>absurd hp (by simp)⟩
 have st4:tn 0 h4:=T.keep _ _ _ (T.keep _ _ _ st2 fun b _ o e=>k23 b o e) fun b _ o e=>k34 b o e
 have fp0:∀ b∈fp,(upd H1 D (.lst [])) b=none:=fun b hb=>by rw[a1a (hfpD b hb)];exact (f2 b hb).1
 have fin:∀ σ' H5 s6,Inv (a2j X scope cl (os++caps.map (·.2)) C s3 (upd H1 D (.lst [])) fp) [] σ' H5 s6→Q (.ref D) H5→compPost (model X.prog X.w) X.A X.xe use R (.ref D) C (.ok .next) s6:=fun σ' H5 s6 I6 qn=>by
   obtain⟨m6,hn6,_⟩:=I6.loc
   have hs':Heap.SameBut C s6.heap s6.heap:=⟨rfl,fun _ _=>rfl⟩
   generalize eh':s6.heap=h' at hs'
   have hs':Heap.SameBut C s6.heap h':=by rw[eh'];exact hs'
   have neC:∀ b o,s3.heap.get? b=some o→b≠C:=fun b o e=>c6s (eC ▸ Heap.lt_size e)
   have ns:∀ b o,s2.heap.get? b=some o→b≠D:=fun b o e=>c6s (eD ▸ Heap.lt_size e)
   have B:=I6.base
   have uu:Un (frs X.stack) fp H1 H5 s2.heap h':=by
     refine⟨fun b o e nn hb hf=>?_,fun b o e nn hb hf=>?_,fun b o e nn hf=>?_,fun b o e hf=>?_,fun b xs e=>?_,fun b o u' e=>?_,fun b ps e=>?_⟩
     · exact (hs'.2 b (neC b o (k23 b o e))).trans (B.keep b o (k23 b o e) (by show (upd H1 D _) b=none;rw[a1a (ns b o e)];exact nn) hb hf)
     · obtain⟨sl,z⟩:=B.slot b o (k23 b o e) (by show (upd H1 D _) b=none;rw[a1a (ns b o e)];exact nn) hb hf
       exact⟨sl,(hs'.2 b (neC b o (k23 b o e))).trans z⟩
     · exact B.free b o (k23 b o e) (by show (upd H1 D _) b=none;rw[a1a (ns b o e)];exact nn) hf
     · obtain⟨o',z⟩:=B.there b o (k23 b o e) hf
       exact⟨o',(hs'.2 b (neC b o (k23 b o e))).trans z⟩
     · exact B.tups b xs (by show (upd H1 D _) b=_;rw[a1a (a0x e hD)];exact e)
     · exact B.frzs b o u' (by show (upd H1 D _) b=_;rw[a1a (a0x e hD)];exact e)
     · exact B.tbls b ps (by show (upd H1 D _) b=_;rw[a1a (a0x e hD)];exact e)
   have hok':HOk X.prog X.w H5 h':=fun b o e=>by
     refine (I6.hok b o e).stay (fun c' u' hc' z=>(hs'.2 c' fun zz=>?_).trans z) (fun _ z=>z) fun _ _ z=>z
     have fr:H5 C=none:=I6.free
     rcases hc' with hc' | hc'
     · rw[← zz,hc',e] at fr;cases fr
     · rw[← zz,hc'] at fr;cases fr
   have ho6:s6.os=s2.os:=I6.os.trans (by show s3.os=s2.os;rw[← e3])
   subst eh'
   have hC2:s2.heap.objs.size≤C:=by rw[← eC,hs3,eD];exact Nat.le_succ D
   exact hfin D C H5 s6 m6 (I2.call' (s':=s6) (ch:=fp) ho6 uu hok' I6.bare (fun b hb=>⟨(f2 b hb).2.2.2.1,(f2 b hb).2.1,(f2 b hb).2.2.2.2.1,(f2 b hb).2.2.2.2.2⟩)) hn6 (I2.fpOk hC2 I6.free) qn
 have loop:=hloop cl C s3 fp it tn J H1 D _ hG TT Ic st4 fp0 fpc fin
 exact codeAny_compStart_list loop (T.self _ 0 _ _ _ st4 loop)
theorem lvl{Z:Cx}{tg:Expr}{g:TG}{i:Nat}{σ:L2.St}{fp:List Addr}{it:Addr}{tn:Nat→Heap→Prop}{J:It}{pn:List (Addr×Obj)}{H:Hp}{s:Shared}{E:Value→Shared→Prop}{N B:Shared→Prop}{Kt:L2.St→Hp→Prop}(hg:PG Z tg g)(hE:∀ v s,Z.xe v s→False)(T:c5p Z tg J fp it tn)(fpc:∀ H',(∀ b∈fp,H' b=none)→∀ b∈fp,FpOk Z pn H' b)(I:Inv Z pn σ H s)(st:tn i s.heap)(fr:∀ b∈fp,H b=none)(h:(J.stop i H∧∀ s',Inv Z pn σ H s'→N s')∨(J.go i H∧∀ x H',J.yld i H x H'→g x σ H' Kt))(k:∀ σ2 H4 h7 s',Kt σ2 H4→Inv Z (pn++b1z fp h7) σ2 H4 s'→(∀ {σ H5 s5},Inv Z (pn++b1z fp h7) σ H5 s5→Inv Z pn σ H5 s5∧tn (i+1) s5.heap∧∀ b∈fp,H5 b=none)→B s') :
   wpAny (model Z.prog Z.w) Z.A (pyNext (.ref it)) (fun r s1=>match r with
     | none=>N s1
     | some v=>wpAny (model Z.prog Z.w) Z.A (letOwnedTupleGo tg (.ref it) v) (fun _ s2=>wpAny (model Z.prog Z.w) Z.A (assign tg Z.env v) (fun _ s3=>B s3) E s2) E s1) E s:=by
 rcases h with⟨stop,q⟩ | ⟨go,step⟩
 · refine thn ((T.step I (fpc H fr) st).1 stop) fun r s6 ⟨hr,I6⟩=>?_
   subst hr
   exact q _ I6
 · refine thn ((T.step I (fpc H fr) st).2 go) fun r s6 ⟨u,hr,h6⟩=>?_
   subst hr
   refine (thn h6 fun _ s7 ⟨y,H7,I7,r7,y7,st7,fr7⟩=>?_)
   refine wpAny_mono (hg _ s7 _ H7 y u _ (I7.pinned (fpc H7 fr7) (T.tb.obj _ _ st7)) r7 (step y H7 y7)) (fun _ s8 ⟨σ8,H8,I8,q8⟩=>?_) fun _ _ z=>(hE _ _ z).elim
   refine k σ8 H8 s7.heap s8 q8 I8 fun {σ H5 s5} I5=>⟨I5.unpinned,T.tb.keep _ _ _ st7 fun b hb o e=>(I5.pin (b,o) (c6q _ (c6q _ (a5d hb e)))).1,fun b hb=>?_⟩
   obtain⟨o,e,_⟩:=T.tb.obj _ _ st7 b hb
   exact (I5.pin (b,o) (c6q _ (c6q _ (a5d hb e)))).2.1
theorem lvl_put{Z:Cx}{elt:Expr}{te:TE}{cp own:L2.St}{D:Addr}{ys:List V}{pn:List (Addr×Obj)}{H:Hp}{s:Shared}{E:Value→Shared→Prop}{F:Shared→Prop}{U:V→Hp→Prop}(he:PE Z elt te)(hE:∀ v s,Z.xe v s→False)(I:Inv Z pn (own++cp) H s)(q:te (own++cp) H fun v H3=>H3 D=some (.lst ys)∧ys.length<sizeLine∧U v H3)(k:∀ v H3 s',U v H3→Inv Z pn (own++cp) (upd H3 D (.lst (ys++[v]))) s'→F s') :
   wpAny (model Z.prog Z.w) Z.A (eval elt Z.env) (fun x s3=>wpAny (model Z.prog Z.w) Z.A (call (.builtin "list.append") [.ref D,x]) (fun _ s4=>F s4) E s3) E s:=by
 refine wpAny_mono (he _ s _ H _ I q) (fun xv s9 ⟨v9,H9,I9,r9,d9,l9,u9⟩=>?_) fun _ _ z=>(hE _ _ z).elim
 refine wpAny_mono (a5l (X:=Z) _ s9 _ H9 (.ref D) [v9] (.ref D) [xv] (fun _ H10=>H10=upd H9 D (.lst (ys++[v9]))) I9 rfl (.cons r9 .nil) ⟨D,ys,v9,rfl,rfl,d9,l9,rfl⟩) (fun _ s10 ⟨_,H10,I10,_,e10⟩=>?_) fun _ _ z=>(hE _ _ z).elim
 subst e10
 exact k v9 H9 s10 u9 I10
theorem b5x{Z:Cx}{tg elt iter:Expr}{pos:Pos}{scope:Scope}{g:TG}{te:TE}{no:Nat}{cp:L2.St}{fp:List Addr}{it D:Addr}{tn:Nat→Heap→Prop}{J:It}{H1:Hp}{s4:Shared}{Q:VK}{R0:Result→Shared→Prop}(hg:PG Z tg g)(he:PE Z elt te)(hE:∀ v s,Z.xe v s→False)(hG:∃ W:Nat→Nat→List V→Hp→Prop,(∃ m,W 0 m [] (upd H1 D (.lst [])))∧
 ∀ i m ys H2,W i m ys H2→(J.stop i H2∧Q (.ref D) H2)∨(J.go i H2∧∀ x H',J.yld i H2 x H'→∀ own:L2.St,own.length=no→g x (own++cp) H' fun σ2 H4=>(∃ own':L2.St,own'.length=no∧σ2=own'++cp)∧
   te σ2 H4 fun v H3=>H3 D=some (.lst ys)∧ys.length<sizeLine∧∃ m',m' < m∧W (i+1) m' (ys++[v]) (upd H3 D (.lst (ys++[v])))))(T:c5p Z tg J fp it tn)(Ic:Inv Z [] (c6i no none++cp) (upd H1 D (.lst [])) s4)(st4:tn 0 s4.heap)(fp0:∀ b∈fp,(upd H1 D (.lst [])) b=none)(fpc:∀ H',(∀ b∈fp,H' b=none)→∀ b∈fp,FpOk Z [] H' b)(fin:∀ σ' H5 s6,Inv Z [] σ' H5 s6→Q (.ref D) H5→R0 (.ok .next) s6) :
   codeAny (model Z.prog Z.w) Z.A (.compLoop (.ListComp elt [⟨tg,iter,[],0⟩] scope pos) 0 (.ref it) (.ref D) Z.env) R0 s4:=by
 obtain⟨W,⟨m0,w0⟩,turn⟩:=hG
 refine a7j (fun n s'=>∃ i ys own H',own.length=no∧Inv Z [] (own++cp) H' s'∧tn i s'.heap∧(∀ b∈fp,H' b=none)∧W i n ys H') ?_ m0 ⟨0,[],c6i no none,_,c7a,Ic,st4,fp0,w0⟩
 rintro n s5 ⟨i,ys,own,H5,ho5,I5,st5,fr5,w5⟩
 refine lvl hg hE T fpc I5 st5 fr5 ((turn i n ys H5 w5).imp (fun z=>⟨z.1,fun s' I6=>fin _ _ _ I6 z.2⟩) fun z=>⟨z.1,fun x H' y=>z.2 x H' y own ho5⟩) fun σ2 H4 h7 s' q8 I8 back=>?_
 obtain⟨⟨own1,ho8,rfl⟩,q8⟩:=q8
 refine lvl_put he hE I8 q8 fun v H3 s9 ⟨m9,lt9,w9⟩ I10=>?_
 exact⟨m9,lt9,i+1,ys++[v],own1,_,ho8,(back I10).1,(back I10).2.1,(back I10).2.2,w9⟩
theorem b5y{tg elt iter:Expr}{os:List Str}{pos ipos:Pos}{scope:Scope}{wi:TI}{g:TG}{te:TE}{caps:List (Nat×Str)}{pins:List (Addr×Obj)}{s:Shared}{σ:L2.St}{H:Hp}{Q:VK}{use:Option (Value→Sem Unit)}{R:Value→Shared→Prop}(hi:PI X tg iter wi)(hg:∀ cl C s0 H0 fp,PG (a2j X scope cl (os++caps.map (·.2)) C s0 H0 fp) tg g)(he:∀ cl C s0 H0 fp,PE (a2j X scope cl (os++caps.map (·.2)) C s0 H0 fp) elt te)(hfree:∀ y∈scope.names,y.2=.free→X.env.kindOf y.1=some .cell)(hcap:∀ p∈caps,X.N[p.1]?=some p.2∧X.env.kindOf p.2=some .cell∧((relabel scope X.env).names.lookup p.2=some .cell∨(relabel scope X.env).names.lookup p.2=some .free))(hkind:scope.kind=.function)(hcell:∀ y∈scope.names,y.2≠.cell)(hnames:∀ y∈scope.names,y.2=.local→scope.names.lookup y.1=some .local)(hc:X.calm=true)(hfs:∀ v,foldedSetIterable iter X.env v=pure v)(hfin:∀ D C H5 s6 m6,Inv X pins σ H5 s6→s6.heap.Ns C m6→FpOk X pins H5 C→Q (.ref D) H5→compPost (model X.prog X.w) X.A X.xe use R (.ref D) C (.ok .next) s6)(I:Inv X pins σ H s)(h:a5n os.length wi g te (caps.map (·.1)) σ H Q) :
   wpAny (model X.prog X.w) X.A (comprehension (.ListComp elt [⟨tg,iter,[],0⟩] scope pos) scope X.env ipos (newList []) false (eval iter X.env) use) R X.xe s:=by
 refine b9j (TP:=Turn X.prog X.w X.K tg) (os:=os) (caps:=caps) hi Turn.tb hfree hcap hkind hcell hnames hfs hfin I h (fun cl C s3 fp it tn J H1 D s4 hG T Ic st4 fp0 fpc fin=>?_)
 exact b5x (Z:=(a2j X scope cl (os++caps.map (·.2)) C s3 (upd H1 D (.lst [])) fp)) (hg _ _ _ _ _) (he _ _ _ _ _) (fun _ _ z=>z) hG (Turn.z T hc) Ic st4 fp0 fpc fin
theorem pe_compG{tg elt iter:Expr}{os:List Str}{pos:Pos}{scope:Scope}{wi:TI}{g:TG}{te:TE}{caps:List (Nat×Str)}(hi:PI X tg iter wi)(hg:∀ cl C s0 H0 fp,PG (a2j X scope cl (os++caps.map (·.2)) C s0 H0 fp) tg g)(he:∀ cl C s0 H0 fp,PE (a2j X scope cl (os++caps.map (·.2)) C s0 H0 fp) elt te)(hfree:∀ y∈scope.names,y.2=.free→X.env.kindOf y.1=some .cell)(hcap:∀ p∈caps,X.N[p.1]?=some p.2∧X.env.kindOf p.2=some .cell∧((relabel scope X.env).names.lookup p.2=some .cell∨(relabel scope X.env).names.lookup p.2=some .free))(hkind:scope.kind=.function)(hcell:∀ y∈scope.names,y.2≠.cell)(hnames:∀ y∈scope.names,y.2=.local→scope.names.lookup y.1=some .local)(hc:X.calm=true)(hfs:∀ v,foldedSetIterable iter X.env v=pure v) :
   PE X (.ListComp elt [⟨tg,iter,[],0⟩] scope pos) (a5n os.length wi g te (caps.map (·.1))):=by
 intro pins s σ H Q I h
 rw[eval_ListComp]
 refine b5y (Q:=Q) (use:=none) (R:=EP X pins σ Q) hi hg he hfree hcap hkind hcell hnames hc hfs (fun D C H5 s6 m6 I6 n6 f6 q6=>?_) I h
 refine⟨m6,n6,fun h' hs'=>⟨.ref D,H5,?_,rfl,q6⟩⟩
 exact I6.turned (t':=s6.toks) (fun b o hb e=>(hs'.2 b hb).trans e) f6.1 f6.2.1 f6.2.2.2.1 f6.2.2.2.2.1 f6.2.2.2.2.2
theorem ps_compG{tg elt iter:Expr}{os:List Str}{i:Nat}{y:Str}{py pos spos:Pos}{scope:Scope}{wi:TI}{g:TG}{te:TE}{caps:List (Nat×Str)}(hN:X.N.Nodup)(hy:X.N[i]?=some y)(hl:X.env.kindOf y=some .local)(hi:PI X tg iter wi)(hg:∀ cl C s0 H0 fp,PG (a2j X scope cl (os++caps.map (·.2)) C s0 H0 fp) tg g)(he:∀ cl C s0 H0 fp,PE (a2j X scope cl (os++caps.map (·.2)) C s0 H0 fp) elt te)(hfree:∀ y∈scope.names,y.2=.free→X.env.kindOf y.1=some .cell)(hcap:∀ p∈caps,X.N[p.1]?=some p.2∧X.env.kindOf p.2=some .cell∧((relabel scope X.env).names.lookup p.2=some .cell∨(relabel scope X.env).names.lookup p.2=some .free))(hkind:scope.kind=.function)(hcell:∀ y∈scope.names,y.2≠.cell)(hnames:∀ y∈scope.names,y.2=.local→scope.names.lookup y.1=some .local)(hc:X.calm=true)(hfs:∀ v,foldedSetIterable iter X.env v=pure v)(hsw:swapsWith (.ListComp elt [⟨tg,iter,[],0⟩] scope pos) (some (.Name y py)) spos.line X.env=pure true) :
   PS X (.Assign [.Name y py] (.ListComp elt [⟨tg,iter,[],0⟩] scope pos) spos) (tAsg (a5n os.length wi g te (caps.map (·.1))) (a3l i)):=by
 intro pins s σ H D I h
 rw[exec_Assign_Name_used _ _ _ _ hsw]
 refine wpAny_bind (wpAny_standAt (wpAny_bind ?_))
 show wpAny _ X.A (do let _ ← comprehension (.ListComp elt [⟨tg,iter,[],0⟩] scope pos) scope X.env _ (newList []) false (eval iter X.env) (some (assign (.Name y py) X.env))) _ _ s
 refine wpAny_bind (wpAny_mono (b5y (Q:=fun x H1=>a3l i x σ H1 D.nx) (use:=some (assign (.Name y py) X.env)) (R:=fun _ s'=>SP X pins D .next s') hi hg he hfree hcap hkind hcell hnames hc hfs (fun D' C H5 s6 m6 I6 n6 f6 q6=>?_) I h) (fun _ s' hq=>wpAny_pure (wpAny_pure hq)) fun _ _ e=>e)
 show wpAny _ X.A (assign (.Name y py) X.env (.ref D')) _ _ s6
 obtain⟨oC,es,ep,hoC,rC⟩:=n6
 have dC:∀ v,oC.data≠.cell v:=fun v z=>by
   first
     | (rw[rC.2.1] at z;cases z)
     | (obtain⟨_,hd,_⟩:=rC;rw[hd] at z;cases z)
     | (obtain⟨hd,_⟩:=rC;rw[hd] at z;cases z)
 have Ip:Inv X (pins++[(C,oC)]) σ H5 s6:=I6.pins_of fun p hp=>(c7t.mp hp).elim (fun z=>I6.pin p (c6q _ z)) fun z=>by
   have e:p=(C,oC):=by simpa using z
   subst e
   exact⟨hoC,f6.1,f6.2.1,f6.2.2.1,dC⟩
 refine wpAny_assign_Name (a7a Ip hN hy (.inl hl) (v:=.ref D') rfl (fun s7 I7=>?_) (.inr hl))
 have h7:=(I7.pin (C,oC) (c6q _ (c6q _ (by simp)))).1
 refine⟨m6,⟨oC,es,ep,h7,rC⟩,fun h' hs'=>⟨_,H5,?_,q6⟩⟩
 have I8:=I7.unpinned
 exact I8.turned (t':=s7.toks) (fun b o hb e=>(hs'.2 b hb).trans e) f6.1 f6.2.1 f6.2.2.2.1 f6.2.2.2.2.1 f6.2.2.2.2.2
end
end Cv
namespace Cv
open PySem PySem.Spec PyProof.Rows L2
def a6o(N:List Str)(sc scope:Scope)(caps:List (Nat×Str)):Bool:=
 decide (scope.kind=.function) && scope.names.all (fun y=>decide (y.2≠.cell) && (!decide (y.2=.free) || decide (sc.names.lookup y.1=some .cell)) && (!decide (y.2=.local) || decide (scope.names.lookup y.1=some .local))) &&
   caps.all fun p=>decide (N[p.1]?=some p.2) && decide (sc.names.lookup p.2=some .cell) && decide (scope.names.lookup p.2=some .free)
theorem a4q{env:Env}:∀ {names:List (Str×NameKind)} {y:Str},names.lookup y=some .free→
   (names.map fun (n,k)=>if (k == NameKind.free && env.scope.kind == .function && env.kindOf n == some .cell) then (n,NameKind.cell) else (n,k)).lookup y=some .cell∨
   (names.map fun (n,k)=>if (k == NameKind.free && env.scope.kind == .function && env.kindOf n == some .cell) then (n,NameKind.cell) else (n,k)).lookup y=some .free
 | [],_,h=>by simp at h
 | (n,q)::r,y,h=>by
   rw[c7y] at h
   rw[c6f]
   by_cases hy:y == n
   · rw[hy] at h
     cases h
     by_cases ht:(NameKind.free == NameKind.free && env.scope.kind == .function && env.kindOf n == some .cell)=true
     · left;simp only[ht];rw[c7y];simp[eq_of_beq hy]
     · right;simp only[ht];rw[c7y];simp[eq_of_beq hy]
   · rw[Bool.not_eq_true] at hy
     rw[hy] at h
     have ih:=a4q (env:=env) h
     by_cases ht:(q == NameKind.free && env.scope.kind == .function && env.kindOf n == some .cell)=true
     · simp only[ht];rw[c7y];simpa [hy] using ih
     · simp only[ht];rw[c7y];simpa [hy] using ih
section
variable {X:Cx}
theorem pe_compS{tg elt iter:Expr}{os:List Str}{pos:Pos}{scope:Scope}{wi:TI}{g:TG}{te:TE}{caps:List (Nat×Str)}(N:List Str)(sc:Scope)(hi:PI X tg iter wi)(hg:∀ cl C s0 H0 fp,PG (a2j X scope cl (os++caps.map (·.2)) C s0 H0 fp) tg g)(he:∀ cl C s0 H0 fp,PE (a2j X scope cl (os++caps.map (·.2)) C s0 H0 fp) elt te)(ok:a6o N sc scope caps=true)(hN:X.N=N:=by rfl)(hsc:X.env.scope=sc:=by rfl)(hc:X.calm=true:=by rfl)(hfs:∀ v,foldedSetIterable iter X.env v=pure v:=by intro _;rfl) :
   PE X (.ListComp elt [⟨tg,iter,[],0⟩] scope pos) (a5n os.length wi g te (caps.map (·.1))):=by
 subst hN hsc
 unfold a6o at ok
 simp only[c6n,c6g,decide_eq_true_eq,c7i,c9t,decide_eq_false_iff_not] at ok
 obtain⟨⟨h1,h2⟩,h3⟩:=ok
 refine pe_compG hi hg he (fun y hy hf=>?_) (fun p hp=>?_) h1 (fun y hy=>(h2 y hy).1.1) (fun y hy hl=>?_) hc hfs
 · rcases (h2 y hy).1.2 with z | z
   · exact absurd hf z
   · exact z
 · obtain⟨⟨a,b⟩,c⟩:=h3 p hp
   exact⟨a,b,a4q c⟩
 · rcases (h2 y hy).2 with z | z
   · exact absurd hl z
   · exact z
theorem ps_compS{tg elt iter:Expr}{os:List Str}{i:Nat}{y:Str}{py pos spos:Pos}{scope:Scope}{wi:TI}{g:TG}{te:TE}{caps:List (Nat×Str)}(N:List Str)(sc:Scope)(hNd:X.N.Nodup)(hy:X.N[i]?=some y)(hl:X.env.kindOf y=some .local)(hi:PI X tg iter wi)(hg:∀ cl C s0 H0 fp,PG (a2j X scope cl (os++caps.map (·.2)) C s0 H0 fp) tg g)(he:∀ cl C s0 H0 fp,PE (a2j X scope cl (os++caps.map (·.2)) C s0 H0 fp) elt te)(ok:a6o N sc scope caps=true)(hN:X.N=N:=by rfl)(hsc:X.env.scope=sc:=by rfl)(hc:X.calm=true:=by rfl)(hfs:∀ v,foldedSetIterable iter X.env v=pure v:=by intro _;rfl)(hsw:swapsWith (.ListComp elt [⟨tg,iter,[],0⟩] scope pos) (some (.Name y py)) spos.line X.env=pure true:=by rfl) :
   PS X (.Assign [.Name y py] (.ListComp elt [⟨tg,iter,[],0⟩] scope pos) spos) (tAsg (a5n os.length wi g te (caps.map (·.1))) (a3l i)):=by
 subst hN hsc
 unfold a6o at ok
 simp only[c6n,c6g,decide_eq_true_eq,c7i,c9t,decide_eq_false_iff_not] at ok
 obtain⟨⟨h1,h2⟩,h3⟩:=ok
 refine ps_compG hNd hy hl hi hg he (fun y hy hf=>?_) (fun p hp=>?_) h1 (fun y hy=>(h2 y hy).1.1) (fun y hy hl=>?_) hc hfs hsw
 · rcases (h2 y hy).1.2 with z | z
   · exact absurd hf z
   · exact z
 · obtain⟨⟨a,b⟩,c⟩:=h3 p hp
   exact⟨a,b,a4q c⟩
 · rcases (h2 y hy).2 with z | z
   · exact absurd hl z
   · exact z
end
def Tup(H H':Hp):Prop:=∀ b xs,H b=some (.tup xs)→H' b=some (.tup xs)
theorem _root_.L2.Same.tup{H H':Hp}(h:Same H H'):Tup H H':=fun b xs e=>h b _ e
theorem Tup.trans{H H1 H2:Hp}(a:Tup H H1)(b:Tup H1 H2):Tup H H2:=fun c xs e=>b c xs (a c xs e)
theorem Tup.lst{H:Hp}{D:Addr}{ys:List V}{o:HO}(h:H D=some (.lst ys)):Tup H (upd H D o):=fun b xs e=>by
 rw[a1a (fun z=>by rw[z,h] at e;cases e)];exact e
theorem ShV.tup{H H':Hp}{v:V}{q:Rat}(h:ShV H v q)(e:Tup H H'):ShV H' v q:=by
 obtain⟨a,rfl,h⟩:=h
 exact⟨a,rfl,e _ _ h⟩
def b2e(J:It)(H1:Hp)(n:Nat)(f:Nat→V):Prop:=∀ H2,Same H1 H2→∀ i,(i<n→J.go i H2∧∀ x H',J.yld i H2 x H'→H'=H2∧x=f i)∧(i=n→J.stop i H2)
def b6h(K:c5t)(J:It)(H1:Hp)(n:Nat)(f g:Nat→V):Prop:=∀ H2,Same H1 H2→∀ i,(i<n→J.go i H2∧∀ x H',J.yld i H2 x H'→Same H2 H'∧∃ a,x=.ref a∧SqT K H' a [f i,g i])∧(i=n→J.stop i H2)
theorem a7k(lo:Int)(n:Nat)(H1:Hp):b2e (Itr lo n) H1 n fun i=>.int (lo+i):=fun H2 _ i=>
 ⟨fun hi=>⟨hi,fun x H' y=>⟨y.1,y.2⟩⟩,fun e=>by subst e;exact c6l _⟩
theorem a2h{K:c5t}{a:Addr}{xs:List V}{H1:Hp}(h:SqL K H1 a xs):b2e (Itl K a) H1 xs.length fun i=>(xs[i]?).getD .non:=fun H2 s i=>
 ⟨fun hi=>⟨⟨xs,xs[i],s.seq h,by simp[hi]⟩,fun x H' y=>⟨y.1,by show x=(xs[i]?).getD .non;rw[y.2 xs (s.seq h)];rfl⟩⟩,fun e=>by subst e;exact⟨xs,s.seq h,c6l _⟩⟩
theorem a0j{n:Nat}(h:n≤100000):n<sizeLine:=c7w h (by rw[sizeLine_eq];decide)
section
variable {K:c5t} {J:It} {H1:Hp} {te:TE} {cs:L2.St} {Q:VK} {n:Nat}
theorem a6p{f:Nat→V}(hJ:b2e J H1 n f)(hn:n≤100000)(R:Nat→V→Hp→Prop)(hR:∀ i v H H',Tup H H'→R i v H→R i v H')(he:∀ i H2 (k:VK),i<n→Same H1 H2→(∀ v H3,Same H2 H3→R i v H3→k v H3)→te (some (f i)::cs) H2 k)(hq:∀ D ys H2,H1 D=none→Same H1 H2→H2 D=some (.lst ys)→ys.length=n→(∀ i v,ys[i]?=some v→R i v H2)→Q (.ref D) H2) :
   a9t 1 J H1 (a3l 0) te cs Q:=by
 intro D hD
 refine⟨fun i m ys H2=>m=n - i∧i≤n∧ys.length=i∧Same H1 H2∧H2 D=some (.lst ys)∧∀ j v,ys[j]?=some v→R j v H2,⟨n,by simp,c8c _,rfl,Same.new hD,a0h,fun j v e=>by simp at e⟩,?_⟩
 rintro i m ys H2 ⟨rfl,hi,hl,s2,d2,r2⟩
 by_cases hlt:i<n
 · refine .inr ⟨((hJ H2 s2 i).1 hlt).1,fun x H' y own ho=>?_⟩
   obtain⟨rfl,rfl⟩:=((hJ H2 s2 i).1 hlt).2 x H' y
   cases own with
   | nil=>cases ho
   | cons o1 r=>
     cases r with
     | cons _ _=>cases ho
     | nil=>
       refine⟨⟨[some (f i)],rfl,rfl⟩,he i _ _ hlt s2 fun v H3 s3 r3=>⟨s3 _ _ d2,a0j (by omega),n - (i+1),by omega,rfl,hlt,by rw[c6m,hl];rfl,fun b o e=>?_,a0h,fun j w e=>?_⟩⟩
       · rw[a1a (a0x e hD)];exact s3 _ _ (s2 _ _ e)
       · have t3:Tup H3 (upd H3 D (.lst (ys++[v]))):=Tup.lst (s3 _ _ d2)
         by_cases hj:j<ys.length
         · rw[c7c hj] at e
           exact hR _ _ _ _ (s3.tup.trans t3) (r2 j w e)
         · rw[c6v (by omega)] at e
           have hj0:j - ys.length=0:=by
             cases q:j - ys.length with
             | zero=>rfl
             | succ k=>rw[q] at e;simp at e
           rw[hj0] at e
           have e':v=w:=by simpa using e
           have hji:j=i:=by omega
           rw[← e',hji]
           exact hR _ _ _ _ t3 r3
 · have e:i=n:=by omega
   subst e
   exact .inl ⟨(hJ H2 s2 i).2 rfl,hq D ys H2 hD s2 d2 hl r2⟩
theorem comp2{f g:Nat→V}(hJ:b6h K J H1 n f g)(hn:n≤100000)(R:Nat→V→Hp→Prop)(hR:∀ i v H H',Tup H H'→R i v H→R i v H')(he:∀ i H2 (k:VK),i<n→Same H1 H2→(∀ v H3,Same H2 H3→R i v H3→k v H3)→te (some (f i)::some (g i)::cs) H2 k)(hq:∀ D ys H2,H1 D=none→Same H1 H2→H2 D=some (.lst ys)→ys.length=n→(∀ i v,ys[i]?=some v→R i v H2)→Q (.ref D) H2) :
   a9t 2 J H1 (gTup K 2 (b5r (a3l 0) (b5r (a3l 1) gNil))) te cs Q:=by
 intro D hD
 refine⟨fun i m ys H2=>m=n - i∧i≤n∧ys.length=i∧Same H1 H2∧H2 D=some (.lst ys)∧∀ j v,ys[j]?=some v→R j v H2,⟨n,by simp,c8c _,rfl,Same.new hD,a0h,fun j v e=>by simp at e⟩,?_⟩
 rintro i m ys H2 ⟨rfl,hi,hl,s2,d2,r2⟩
 by_cases hlt:i<n
 · refine .inr ⟨((hJ H2 s2 i).1 hlt).1,fun x H' y own ho=>?_⟩
   obtain⟨s2',a,rfl,ht⟩:=((hJ H2 s2 i).1 hlt).2 x H' y
   cases own with
   | nil=>cases ho
   | cons o1 r=>
     cases r with
     | nil=>cases ho
     | cons o2 r=>
       cases r with
       | cons _ _=>cases ho
       | nil=>
         refine⟨a,_,rfl,ht,rfl,_,_,rfl,_,_,rfl,rfl,⟨[some (f i),some (g i)],rfl,rfl⟩,he i _ _ hlt (s2.trans s2') fun v H3 s3 r3=>⟨s3 _ _ (s2' _ _ d2),a0j (by omega),n - (i+1),by omega,rfl,hlt,by rw[c6m,hl];rfl,fun b o e=>?_,a0h,fun j w e=>?_⟩⟩
         · rw[a1a (a0x e hD)];exact s3 _ _ (s2' _ _ (s2 _ _ e))
         · have t3:Tup H3 (upd H3 D (.lst (ys++[v]))):=Tup.lst (s3 _ _ (s2' _ _ d2))
           by_cases hj:j<ys.length
           · rw[c7c hj] at e
             exact hR _ _ _ _ ((s2'.trans s3).tup.trans t3) (r2 j w e)
           · rw[c6v (by omega)] at e
             have hj0:j - ys.length=0:=by
               cases q:j - ys.length with
               | zero=>rfl
               | succ k=>rw[q] at e;simp at e
             rw[hj0] at e
             have e':v=w:=by simpa using e
             have hji:j=i:=by omega
             rw[← e',hji]
             exact hR _ _ _ _ t3 r3
 · have e:i=n:=by omega
   subst e
   exact .inl ⟨(hJ H2 s2 i).2 rfl,hq D ys H2 hD s2 d2 hl r2⟩
end
section
variable {X:Cx}
theorem a0m(K:c5t)(h:X.K=K:=by rfl):IxR X (rIxL K):=by subst h;exact ix_list
theorem a1d(K:c5t)(h:X.K=K:=by rfl):IxR X (rIxT K):=by subst h;exact ix_tup
theorem b2k(K:c5t)(h:X.K=K:=by rfl):SlR X (rSlL K):=by subst h;exact sl_list
theorem op_eqDK(K:c5t)(hu:X.A.units+64<cLine)(h:X.K=K:=by rfl):OpR X (compareOp .Eq) (rEqD K):=by subst h;exact op_eqD hu
theorem c3q(K:c5t)(hu:X.A.units+64<cLine)(h:X.K=K:=by rfl):OpR X (compareOp .NotEq) (rNeD K):=by subst h;exact op_neD hu
theorem a2b(K:c5t)(h:X.K=K:=by rfl):a6a X (.builtin "len") (fun xs H Q=>∃ p ys,xs=[.ref p]∧(SqL K H p ys∨SqT K H p ys)∧Q (.int ys.length) H):=by subst h;exact b5z
theorem b6a(K:c5t)(h:X.K=K:=by rfl):a6a X (.builtin "isinstance") (fun xs H Q=>∃ x T t b,xs=[x,.ty T]∧TyOf K H x t∧c5x K t (.type T)=some b∧Q (.bl b) H):=by subst h;exact call_isi
theorem pg_tupK(K:c5t){es:List Expr}{k:Nat}{t:TGs}{n:Nat}{pos:Pos}(hc:X.calm=true)(h:PGs X es t)(hK:X.K=K:=by rfl)(hn:(assignEach es X.env).length=n:=by rfl)(hst:(assignEach es X.env).findIdx? (·.1)=none:=by rfl):PG X (.Tuple es k pos) (gTup K n t):=by subst hK;exact pg_tup hc h hn hst
end
end Cv
namespace Cv
open PySem PySem.Spec PyProof.Rows L2
section
variable {X:Cx} {pins:List (Addr×Obj)} {σ:L2.St} {H:Hp} {s:Shared} {h':Heap}
theorem c1a{t':Nat}{ch:List Addr}{a:Addr}{o:HO}(I:Inv X pins σ H s)(hf:∀ b∈ch,FpOk X pins H b)(k:∀ b o,b∉ch→s.heap.get? b=some o→h'.get? b=some o)(ha:s.heap.objs.size≤a)(new:a4n X.prog X.w (upd H a o) h' a o):Inv X pins σ (upd H a o) { s with heap:=h',toks:=t' }:=by
 have hna:H a=none:=I.hok.fresh ha
 have nit:∀ b u,H b=some u→b∉ch:=fun b u e z=>by rw[(hf b z).1] at e;cases e
 have up:∀ b u,H b=some u→upd H a o b=some u:=fun b u e=>by rw[a1a (a0x e hna)];exact e
 refine I.step (g':=s.gens) (d':=s.drawn) (ch:=ch) (fun b hb=>⟨(hf b hb).2.2.2.1,(hf b hb).2.1,(hf b hb).2.2.2.2.1,(hf b hb).2.2.2.2.2⟩) (fun b o _ _ hc e _=>k b o hc e) (fun b o _ _ hc e _=>⟨o.slots,k b o hc e⟩) (fun b o _ e n=>?_)
   (fun b o hc e=>⟨o,k b o hc e⟩) (fun _ _ e=>up _ _ e) (fun _ _ _ e=>up _ _ e) (fun b ps e=>⟨#[],by rw[up _ _ e];simp⟩) (fun m hm=>?_) (fun b u e=>?_) I.bare
 · rw[a1a (fun z=>by rw[z] at e;exact absurd (Heap.lt_size e) (Nat.not_lt.mpr ha))];exact n
 · obtain⟨o,es,ep,ho,r⟩:=hm
   exact⟨o,es,ep,k _ o (fun z=>(hf _ z).2.1 rfl) ho,r⟩
 · by_cases hb:b=a
   · subst hb
     rw[a0h] at e
     cases e
     exact new
   · rw[a1a hb] at e
     refine (I.hok b u e).stay (fun c v hc q=>k c v ?_ q) (fun _ q=>up _ _ q) fun _ _ q=>up _ _ q
     rcases hc with z | z
     · rw[z];exact nit b u e
     · exact nit c _ z
theorem turnedL{t':Nat}{ch:List Addr}(I:Inv X pins σ H s)(hf:∀ b∈ch,FpOk X pins H b)(k:∀ b o,b∉ch→s.heap.get? b=some o→h'.get? b=some o):Inv X pins σ H { s with heap:=h',toks:=t' }:=by
 have nit:∀ b u,H b=some u→b∉ch:=fun b u e z=>by rw[(hf b z).1] at e;cases e
 refine I.step (g':=s.gens) (d':=s.drawn) (ch:=ch) (fun b hb=>⟨(hf b hb).2.2.2.1,(hf b hb).2.1,(hf b hb).2.2.2.2.1,(hf b hb).2.2.2.2.2⟩) (fun b o _ _ hc e _=>k b o hc e) (fun b o _ _ hc e _=>⟨o.slots,k b o hc e⟩) (fun _ _ _ _ n=>n)
   (fun b o hc e=>⟨o,k b o hc e⟩) (fun _ _ e=>e) (fun _ _ _ e=>e) (fun b ps e=>⟨#[],by rw[e];simp⟩) (fun m hm=>?_) (fun b u e=>?_) I.bare
 · obtain⟨o,es,ep,ho,r⟩:=hm
   exact⟨o,es,ep,k _ o (fun z=>(hf _ z).2.1 rfl) ho,r⟩
 · refine (I.hok b u e).stay (fun c v hc q=>k c v ?_ q) (fun _ q=>q) fun _ _ q=>q
   rcases hc with z | z
   · rw[z];exact nit b u e
   · exact nit c _ z
end
def Itz(K:c5t)(l1 l2:Addr):It:=
 ⟨fun i H=>∃ xs ys x y,SqL K H l1 xs∧SqL K H l2 ys∧xs[i]?=some x∧ys[i]?=some y,
  fun i H v H'=>∃ T a b,v=.ref T∧H T=none∧H'=upd H T (.tup [a,b])∧(∀ xs,SqL K H l1 xs→xs[i]?=some a)∧∀ ys,SqL K H l2 ys→ys[i]?=some b,
  fun i H=>∃ xs ys,SqL K H l1 xs∧SqL K H l2 ys∧(xs[i]?=none∨ys[i]?=none)⟩
theorem turn_zip{P:Program}{w:World}{K:c5t}{elts:List Expr}{k0:Nat}{pos:Pos}{z TI TO i1 i2 l1 l2:Addr}(D:ZipApart z TI TO i1 i2 l1 l2):Turn P w K (.Tuple elts k0 pos) (Itz K l1 l2) [z,TI,TO,i1,i2] z
   (fun i h=>IsZip h z TI TO .none∧IsPair h TI (.ref i1) (.ref i2)∧(∃ a b,IsPair h TO a b)∧h.IsListIter i1 l1 i∧h.IsListIter i2 l2 i) where
 mem:=by simp
 obj:=fun i h st b hb=>by
   obtain⟨hz,hTI,⟨a,b',hTO⟩,⟨o1,e1,c1,d1⟩,⟨o2,e2,c2,d2⟩⟩:=st
   simp only[c6e,c6u,or_false] at hb
   rcases hb with rfl | rfl | rfl | rfl | rfl
   · exact⟨_,hz,fun v q=>by have q':Data.fields _=Data.cell v:=q;cases q'⟩
   · exact⟨_,hTI,fun v q=>by have q':Data.seq _ _=Data.cell v:=q;cases q'⟩
   · exact⟨_,hTO,fun v q=>by have q':Data.seq _ _=Data.cell v:=q;cases q'⟩
   · exact⟨_,e1,fun v q=>by rw[d1] at q;cases q⟩
   · exact⟨_,e2,fun v q=>by rw[d2] at q;cases q⟩
 keep:=fun i h h' st k=>by
   obtain⟨hz,hTI,⟨a,b,hTO⟩,h1,h2⟩:=st
   exact⟨k z (by simp) _ hz,k TI (by simp) _ hTI,⟨a,b,k TO (by simp) _ hTO⟩,h1.at fun o e=>k i1 (by simp) o e,h2.at fun o e=>k i2 (by simp) o e⟩
 item:=by
   intro X hP hw hK hc i pins s σ H E I hf st hg
   subst hP hw hK
   obtain⟨xs,ys,x,y,hq1,hq2,hx,hy⟩:=hg
   obtain⟨hz,hTI,⟨a,b,hTO⟩,h1,h2⟩:=st
   obtain⟨its1,rv1,p1,hz1⟩:=I.list hq1
   obtain⟨its2,rv2,p2,hz2⟩:=I.list hq2
   obtain⟨u1,hu1,ru1⟩:=rv1.get hx
   obtain⟨u2,hu2,ru2⟩:=rv2.get hy
   refine wpAny_pyNext_zip_item D hz hTI hTO h1 h2 p1.isList p2.isList (x:=u1) (y:=u2) (by simpa using hu1) (by simpa using hu2) fun h' a1 a2 a3 a4 a5 a6 a7=>?_
   refine⟨_,rfl,wpAny_letOwnedTupleGo_zip a1 fun h'' b1 b2=>?_⟩
   have hT:H s.heap.objs.size=none:=I.hok.fresh (c6l _)
   have neT:∀ {c o},s.heap.get? c=some o→c≠s.heap.objs.size:=fun e=>c6s (Heap.lt_size e)
   have kk:∀ b o,b∉[z,TI,TO,i1,i2]→s.heap.get? b=some o→h''.get? b=some o:=fun b o hb e=>by
     simp only[c6e,c6u,or_false,not_or] at hb
     exact b2.extBut b o hb.1 (a7 b o hb.1 hb.2.2.1 hb.2.2.2.1 hb.2.2.2.2 e)
   have tT:h''.get? s.heap.objs.size=some { cls:=.type "tuple",data:=.seq #[u1,u2] }:=b2.extBut _ _ (Ne.symm (neT hz)) a5
   have I1:=c1a (t':=s.toks) (a:=s.heap.objs.size) (o:=.tup [x,y]) (h':=h'') I hf kk (c6l _) ⟨by show 2≤sizeLine;decide,[u1,u2],.cons ru1 (.cons ru2 .nil),⟨_,tT,rfl,_,rfl⟩⟩
   refine⟨.ref s.heap.objs.size,_,I1,rfl,⟨s.heap.objs.size,x,y,rfl,hT,rfl,fun xs' hx'=>by rw[I.list_inj hx' hq1];exact hx,fun ys' hy'=>by rw[I.list_inj hy' hq2];exact hy⟩,?_,fun c hc=>?_⟩
   · exact⟨b1,b2.extBut _ _ D.TIz (a7 _ _ D.TIz D.TITO D.TIi1 D.TIi2 hTI),⟨_,_,b2.extBut _ _ D.TOz a2⟩,a3.extBut b2.extBut D.i1z,a4.extBut b2.extBut D.i2z⟩
   · have e0:=(hf c hc).1
     rw[a1a ?_]
     · exact e0
     · intro q
       obtain⟨o1,e1,_⟩:=h1
       obtain⟨o2,e2,_⟩:=h2
       simp only[c6e,c6u,or_false] at hc
       rcases hc with rfl | rfl | rfl | rfl | rfl
       · exact neT hz q
       · exact neT hTI q
       · exact neT hTO q
       · exact neT e1 q
       · exact neT e2 q
 done:=by
   intro X hP hw hK hc i pins s σ H E I hf st hg
   subst hP hw hK
   obtain⟨xs,ys,hq1,hq2,hend⟩:=hg
   obtain⟨hz,hTI,⟨a,b,hTO⟩,h1,h2⟩:=st
   obtain⟨its1,rv1,p1,hz1⟩:=I.list hq1
   obtain⟨its2,rv2,p2,hz2⟩:=I.list hq2
   refine wpAny_pyNext_zip_end (I.ok.hd hc) D hz hTI hTO h1 h2 p1.isList p2.isList (hend.imp (fun e=>by simpa using rv1.none_of e) fun e=>by simpa using rv2.none_of e) fun h' kk=>⟨rfl,turnedL (t':=s.toks) I hf fun b o hb e=>?_⟩
   simp only[c6e,c6u,or_false,not_or] at hb
   exact kk b o hb.1 hb.2.2.1 hb.2.2.2.1 hb.2.2.2.2 e
 self:=fun _ _ _ _ _ st h=>wpAny_pyIter_zip st.1 h
section
variable {X:Cx}
def iZip(K:c5t)(ta:TA):TI:=fun σ H R=>ta σ H fun vs H1=>∃ l1 l2,vs=[.ref l1,.ref l2]∧(∃ xs,SqL K H1 l1 xs)∧(∃ ys,SqL K H1 l2 ys)∧R (Itz K l1 l2) H1
theorem pi_zip{a b:Expr}{ta:TA}{p pos ppos:Pos}{elts:List Expr}{k0:Nat}(hg:Gl X "zip")(hm:X.mg "zip" = none)(ha:PA X [a,b] ta)(he:starEach [a,b] X.env=(false,eval a X.env)::starEach [b] X.env:=by rfl)(hpl:(backTo pos (starEach [b] X.env)).any (·.1)=false:=by rfl):PI X (.Tuple elts k0 ppos) (.Call (.Name "zip" p) [a,b] [] pos) (iZip X.K ta):=by
 intro pins s σ H R I h
 refine wpAny_Call_Name_kw (b1a I hg hm boot_zip ?_ (by decide) (by decide))
 refine c8l (thn (ha pos pins s σ H _ I h) fun us s1 ⟨vs,H1,I1,r1,q1⟩=>?_) he hpl
 obtain⟨l1,l2,rfl,⟨xs,hq1⟩,⟨ys,hq2⟩,q⟩:=q1
 obtain⟨u1,u2,rfl,e1,e2⟩:=a7n r1
 cases e1;cases e2
 obtain⟨its1,rv1,p1,hz1⟩:=I1.list hq1
 obtain⟨its2,rv2,p2,hz2⟩:=I1.list hq2
 have a1:l1<s1.heap.objs.size:=by obtain⟨_,e,_⟩:=p1.isList;exact Heap.lt_size e
 have a2:l2<s1.heap.objs.size:=by obtain⟨_,e,_⟩:=p2.isList;exact Heap.lt_size e
 refine call_zip_2 p1.isList p2.isList fun h' hz hTI hTO hi1 hi2 _ hk=>?_
 refine wpAny_pyIter_zip hz ?_
 refine⟨_,[s1.heap.objs.size+4,s1.heap.objs.size+2,s1.heap.objs.size+3,s1.heap.objs.size,s1.heap.objs.size+1],_,_,H1,rfl,I1.kept (t':=s1.toks) hk,turn_zip (zipApart_new a1 a2),⟨hz,hTI,⟨_,_,hTO⟩,hi1,hi2⟩,fun c hc=>?_,q⟩
 have hge:s1.heap.objs.size≤c:=by
   simp only[c6e,c6u,or_false] at hc
   rcases hc with rfl | rfl | rfl | rfl | rfl<;>omega
 exact I1.fpOk hge (I1.hok.fresh hge)
theorem a5z{K:c5t}{l1 l2:Addr}{xs ys:List V}{H1:Hp}(h1:SqL K H1 l1 xs)(h2:SqL K H1 l2 ys):b6h K (Itz K l1 l2) H1 (min xs.length ys.length) (fun i=>(xs[i]?).getD .non) (fun i=>(ys[i]?).getD .non):=fun H2 s i=>by
 refine⟨fun hi=>⟨⟨xs,ys,xs[i]'(by omega (config:={})),ys[i]'(by omega (config:={})),s.seq h1,s.seq h2,by simp[show i<xs.length by omega],by simp[show i<ys.length by omega]⟩,fun x H' y=>?_⟩,fun e=>⟨xs,ys,s.seq h1,s.seq h2,?_⟩⟩
 · obtain⟨T,a,b,rfl,hT,rfl,e1,e2⟩:=y
   refine⟨Same.new hT,T,rfl,?_⟩
   show SqT K _ T [(xs[i]?).getD .non,(ys[i]?).getD .non]
   rw[e1 xs (s.seq h1),e2 ys (s.seq h2)]
   exact SqT.of a0h
 · rcases Nat.le_total xs.length ys.length with h | h
   · exact .inl (c7k (by omega))
   · exact .inr (c7k (by omega))
theorem c5n(bs:List Bool):(List.range bs.length).all (fun i=>(bs[i]?).getD false)=bs.all id:=by
 rw[c9o,c6g,c6g]
 constructor
 · intro h b hb
   obtain⟨i,hi,rfl⟩:=c7u hb
   have:=h i (c9u.mpr hi)
   simpa [hi] using this
 · intro h i hi
   have hi':=c9u.mp hi
   have:=h bs[i] (c7h hi')
   simpa [hi'] using this
theorem c2s{bs:List Bool}{us:List Value}(r:Vals (bs.map V.bl) us):us=bs.map Value.bool:=by
 induction bs generalizing us with
 | nil=>cases r;rfl
 | cons b r' ih=>
   cases r with
   | cons p q=>rw[c6f,← ih q];cases p;rfl
theorem c5l(hc:X.calm=true):a6a X (.builtin "all") (fun xs H Q=>∃ (p:Addr) (bs:List Bool),xs=[.ref p]∧SqL X.K H p (bs.map V.bl)∧Q (.bl (bs.all id)) H):=by
 intro pins s σ H xs us Q I r h
 obtain⟨p,bs,rfl,hq,q⟩:=h
 obtain⟨u,rfl,ru⟩:=a4w r
 cases ru
 obtain⟨its,rv,pl,hz⟩:=I.list hq
 have e:=c2s rv
 subst e
 have a1:p<s.heap.objs.size:=by obtain⟨_,e,_⟩:=pl.isList;exact Heap.lt_size e
 have hne:p≠s.heap.objs.size:=c6s a1
 refine call_all_walk (wpAny_pyIter_list pl.isList ⟨_,_,_,_,_,_,fun i=>(bs[i]?).getD false,rfl,Walks.list (A:=X.A.in1) (show X.A.in1.handled=none from I.ok.hd hc) _ p hne _,⟨⟨_,Heap.get?_push_size _ rfl,rfl,rfl⟩,Heap.IsList.push pl.isList _⟩,fun i v s' Q' E' hv hQ=>?_,fun h' tk hk=>?_⟩)
 · have hv':(bs.map Value.bool)[i]?=some v:=by simpa using hv
   have hQ:Q' ((bs[i]?).getD false) s':=hQ
   rw[c6c] at hv'
   cases eb:bs[i]? with
   | none=>rw[eb] at hv';cases hv'
   | some b=>
     rw[eb] at hv' hQ
     cases hv'
     exact wpAny_truthy_bool hQ
 · have ea:(List.range (bs.map Value.bool).toArray.size).all (fun i=>(bs[i]?).getD false)=bs.all id:=by
     rw[← c5n bs];simp
   rw[ea]
   exact⟨.bl _,H,I.kept (h':=h') (t':=tk) (fun b o eb=>hk b o (by
     intro hm
     have:b=s.heap.objs.size:=by simpa using hm
     rw[this] at eb
     exact absurd (Heap.lt_size eb) (c8d _)) (Heap.get?_push_of_some _ eb)),rfl,q⟩
end
end Cv
namespace Cv
open PySem PySem.Spec PyProof.Rows L2
section
set_option autoImplicit true
@[irreducible] def PEi(X:Cx)(e:Expr)(t:TE):Prop:=PE X e t
@[irreducible] def PAi(X:Cx)(e:List Expr)(t:TA):Prop:=PA X e t
@[irreducible] def PTi(X:Cx)(e:Expr)(t:TT):Prop:=PT X e t
@[irreducible] def PWi(X:Cx)(e:Expr)(t:TT):Prop:=PW X e t
@[irreducible] def PSi(X:Cx)(e:Stmt)(t:TS):Prop:=PS X e t
@[irreducible] def PSsi(X:Cx)(e:List Stmt)(t:TS):Prop:=PSs X e t
@[irreducible] def PGi(X:Cx)(e:Expr)(t:TG):Prop:=PG X e t
@[irreducible] def PGsi(X:Cx)(e:List Expr)(t:TGs):Prop:=PGs X e t
@[irreducible] def PIi(X:Cx)(tg e:Expr)(t:TI):Prop:=PI X tg e t
@[irreducible] def POi(X:Cx)(e:Option Expr)(t:TO):Prop:=PO X e t
theorem pvI(i:Nat){x:Str}{pos:Pos}(hN:X.N[i]?=some x:=by rfl)(hv:Vis X.env.scope x:=by first | exact Or.inl rfl | exact Or.inr (Or.inl rfl) | exact Or.inr (Or.inr rfl))(hd:(x == ("__debug__" : Str))=false:=by decide)(hcd:(x == ("__classdict__" : Str))=false:=by decide):PEi X (.Name x pos) (tVar i):=by with_unfolding_all exact pv (i:=i) (hN:=hN) (hv:=hv) (hd:=hd) (hcd:=hcd)
theorem a0b{i j pos}:PEi X (.Constant (.int i) j pos) (tC (.int i)):=by with_unfolding_all exact pe_int
theorem b4y{b j pos}:PEi X (.Constant (.bool b) j pos) (tC (.bl b)):=by with_unfolding_all exact pe_bl
theorem pe_nonI{j pos}:PEi X (.Constant .none j pos) (tC .non):=by with_unfolding_all exact pe_non
theorem a0f{x j pos}:PEi X (.Constant (.str x) j pos) (tC (.str x)):=by with_unfolding_all exact pe_str
theorem a1m{x:Str}{v:V}{u:Value}{pos:Pos}(hg:Gl X x)(hm:X.mg x=some u)(r:RelV v u)(hd:(x == ("__debug__" : Str))=false:=by decide):PEi X (.Name x pos) (tC v):=by with_unfolding_all exact pe_glob (hg:=hg) (hm:=hm) (r:=r) (hd:=hd)
theorem b2w{x:Str}{v:V}{u:Value}{pos:Pos}(hg:Gl X x)(hm:X.mg x=none)(hv:bootBuiltins x=some u)(r:RelV v u)(hn:x ≠ "__name__":=by decide)(hd:(x == ("__debug__" : Str))=false:=by decide):PEi X (.Name x pos) (tC v):=by with_unfolding_all exact pe_bltn (hg:=hg) (hm:=hm) (hv:=hv) (r:=r) (hn:=hn) (hd:=hd)
theorem a0i{op:Operator}{r:R2}(ho:OpR X (binaryOp op) r)(ha:PEi X a ta)(hb:PEi X b tb):PEi X (.BinOp a op b pos) (tOp r ta tb):=by with_unfolding_all exact pe_op (ho:=ho) (ha:=ha) (hb:=hb)
theorem b4x{op:UnaryOp}{r:V→Hp→VK→Prop}(ho:UnR X (unaryOp op) r)(ha:PEi X a ta):PEi X (.UnaryOp op a pos) (tUn r ta):=by with_unfolding_all exact pe_un (ho:=ho) (ha:=ha)
theorem a7g{op:CmpOp}{r:R2}(ho:OpR X (compareOp op) r)(ha:PEi X a ta)(hb:PEi X b tb)(hm:behindInMarks op b=false):PEi X (.Compare a [op] [b] pos) (tOp r ta tb):=by with_unfolding_all exact pe_cmpR (ho:=ho) (ha:=ha) (hb:=hb) (hm:=hm)
theorem pe_andI{rest:List Expr}(ha:PEi X a ta)(hb:PEi X (.BoolOp .And (b::rest) pos) tb):PEi X (.BoolOp .And (a::b::rest) pos) (tAndV ta tb):=by with_unfolding_all exact pe_and (ha:=ha) (hb:=hb)
theorem pe_oneI{op}{t:TE}(h:PEi X a t):PEi X (.BoolOp op [a] pos) t:=by with_unfolding_all exact pe_one (h:=h)
theorem b0p{c:Expr}(hc:PTi X c tA)(ha:PEi X a ta)(hb:PEi X b tb):PEi X (.IfExp c a b pos) (tIf tA ta tb):=by with_unfolding_all exact pe_ifExp (hc:=hc) (ha:=ha) (hb:=hb)
theorem a0u(D:a0r X.prog X.w X.K X.mg X.base CX k x ps sp)(hr:Room j X.A)(hx:a4r CX X E)(ha:PAi X (e::es) t)(hk:k≤j:=by decide)(hg:Gl X x:=by rfl)(hdb:(x == ("__debug__" : Str))=false:=by decide)(he:starEach (e::es) X.env=(false,eval e X.env)::starEach es X.env:=by rfl)(hpl:(backTo pos (starEach es X.env)).any (·.1)=false:=by rfl):PEi X (.Call (.Name x p) (e::es) [] pos) (tFn sp E t):=by with_unfolding_all exact pe_fn (D:=D) (hr:=hr) (hx:=hx) (ha:=ha) (hk:=hk) (hg:=hg) (hdb:=hdb) (he:=he) (hpl:=hpl)
theorem a0z{id:String}(hc:a6a X (.builtin id) r)(hg:Gl X x)(hm:X.mg x=none)(hv:bootBuiltins x=some (.builtin id))(ha:PAi X (e::es) t)(hn:x ≠ "__name__":=by decide)(hdb:(x == ("__debug__" : Str))=false:=by decide)(he:starEach (e::es) X.env=(false,eval e X.env)::starEach es X.env:=by rfl)(hpl:(backTo pos (starEach es X.env)).any (·.1)=false:=by rfl):PEi X (.Call (.Name x p) (e::es) [] pos) (tCB r t):=by with_unfolding_all exact pe_callB (hc:=hc) (hg:=hg) (hm:=hm) (hv:=hv) (ha:=ha) (hn:=hn) (hdb:=hdb) (he:=he) (hpl:=hpl)
theorem a4a(hc:a6a X (.type T) r)(hg:Gl X x)(hm:X.mg x=none)(hv:bootBuiltins x=some (.type T))(ha:PAi X (e::es) t)(hn:x ≠ "__name__":=by decide)(hdb:(x == ("__debug__" : Str))=false:=by decide)(he:starEach (e::es) X.env=(false,eval e X.env)::starEach es X.env:=by rfl)(hpl:(backTo pos (starEach es X.env)).any (·.1)=false:=by rfl):PEi X (.Call (.Name x p) (e::es) [] pos) (tCB r t):=by with_unfolding_all exact c3j (hc:=hc) (hg:=hg) (hm:=hm) (hv:=hv) (ha:=ha) (hn:=hn) (hdb:=hdb) (he:=he) (hpl:=hpl)
theorem a5p{id:String}(pa:PlainAttrs T)(slot:Slot T name id)(hty:typeOf (.builtin id)=pure (.type "method_descriptor"))(hm:MtR X id r)(ho:PEi X o to)(ha:PAi X (e::es) t)(hbase:attributeBase o name X.env (eval o X.env)=eval o X.env:=by rfl)(hfew:((backTo cpos (starEach (e::es) X.env)).all (fun x=>!x.1) && (backToKw cpos (keywordEach [] X.env)).all (fun x=>x.1.isSome)
 && decide ((e::es).length+([]:List Keyword).length+(if ([]:List Keyword).isEmpty then 0 else 1)<30))=true:=by rfl)(hline:(apos.endLine == cpos.line)=true:=by rfl)(hs:starEach (e::es) X.env=(false,eval e X.env)::starEach es X.env:=by rfl)(hplain:(backTo cpos (starEach es X.env)).any (·.1)=false:=by rfl):PEi X (.Call (.Attribute o name apos) (e::es) [] cpos) (tBM X.K T r to t):=by with_unfolding_all exact pe_bm (pa:=pa) (slot:=slot) (hty:=hty) (hm:=hm) (ho:=ho) (ha:=ha) (hbase:=hbase) (hfew:=hfew) (hline:=hline) (hs:=hs) (hplain:=hplain)
theorem b6y{id:String}(pa:PlainAttrs T)(slot:Slot T name id)(hty:typeOf (.builtin id)=pure (.type "method_descriptor"))(hm:MtR X id r)(ho:PEi X o to)(hbase:attributeBase o name X.env (eval o X.env)=eval o X.env:=by rfl)(hline:(apos.endLine == cpos.line)=true:=by rfl):PEi X (.Call (.Attribute o name apos) [] [] cpos) (tBM0 X.K T r to):=by with_unfolding_all exact pe_bm0 (pa:=pa) (slot:=slot) (hty:=hty) (hm:=hm) (ho:=ho) (hbase:=hbase) (hline:=hline)
theorem a0l{r:R2}(hr:IxR X r)(ha:PEi X a ta)(hb:PEi X b tb)(hs:c5r b):PEi X (.Subscript a b pos) (tOp r ta tb):=by with_unfolding_all exact pe_ix (hr:=hr) (ha:=ha) (hb:=hb) (hs:=hs)
theorem a6t{lo hi:Option Expr}{r:V→Option Int→Option Int→Hp→VK→Prop}(hr:SlR X r)(he:PEi X e te)(hl:POi X lo tl)(hu:POi X hi th):PEi X (.Subscript e (.Slice lo hi none p2) pos) (tSl r te tl th):=by with_unfolding_all exact pe_slice (hr:=hr) (he:=he) (hl:=hl) (hu:=hu)
theorem a1h{x1}(h:PAi X es t):PEi X (.Tuple es x1 pos) (tTup t):=by with_unfolding_all exact pe_tup (h:=h)
theorem a1f(h:PAi X es t):PEi X (.List es pos) (tLst t):=by with_unfolding_all exact pe_lst (h:=h)
theorem a1o{tg elt iter:Expr}{os:List Str}{pos:Pos}{scope:Scope}{wi:TI}{g:TG}{te:TE}{caps:List (Nat×Str)}(N:List Str)(sc:Scope)(hi:PIi X tg iter wi)(hg:∀ cl C s0 H0 fp,PGi (a2j X scope cl (os++caps.map (·.2)) C s0 H0 fp) tg g)(he:∀ cl C s0 H0 fp,PEi (a2j X scope cl (os++caps.map (·.2)) C s0 H0 fp) elt te)(ok:a6o N sc scope caps=true)(hN:X.N=N:=by rfl)(hsc:X.env.scope=sc:=by rfl)(hc:X.calm=true:=by rfl)(hfs:∀ v,foldedSetIterable iter X.env v=pure v:=by intro _;rfl):PEi X (.ListComp elt [⟨tg,iter,[],0⟩] scope pos) (a5n os.length wi g te (caps.map (·.1))):=by with_unfolding_all exact pe_compS (N:=N) (sc:=sc) (hi:=hi) (hg:=hg) (he:=he) (ok:=ok) (hN:=hN) (hsc:=hsc) (hc:=hc) (hfs:=hfs)
theorem a0c   : PAi X [] tNil:=by with_unfolding_all exact pa_nil
theorem a0a(ha:PEi X e te)(hr:PAi X es t)(hs:starEach (e::es) X.env=(false,eval e X.env)::starEach es X.env:=by rfl):PAi X (e::es) (tCons te t):=by with_unfolding_all exact pa_cons (ha:=ha) (hr:=hr) (hs:=hs)
theorem a0v{op:CmpOp}{r:R2}(ho:OpR X (compareOp op) r)(ha:PEi X a ta)(hb:PEi X b tb)(hm:behindInMarks op b=false):PTi X (.Compare a [op] [b] pos) (tTest (tOp r ta tb)):=by with_unfolding_all exact pt_cmpR (ho:=ho) (ha:=ha) (hb:=hb) (hm:=hm)
theorem b0m{op op':CmpOp}{r r':R2}(ho:OpR X (compareOp op) r)(ho':OpR X (compareOp op') r')(ha:PEi X a ta)(hb:PEi X b tb)(hc:PEi X c tc)(hm:lastMarks [op,op'] [b,c]=false:=by with_unfolding_all rfl):PTi X (.Compare a [op,op'] [b,c] pos) (tTest (tChain r r' ta tb tc)):=by with_unfolding_all exact pt_chain (ho:=ho) (ho':=ho') (ha:=ha) (hb:=hb) (hc:=hc) (hm:=hm)
theorem a5r(ha:PTi X a tA):PTi X (.UnaryOp .Not a pos) (tNot tA):=by with_unfolding_all exact pt_not (ha:=ha)
theorem a6i{e:Expr}{t:TE}(h:PEi X e t)(he:∀ whole,isTrue e X.env whole=(do let v ← whole;standAt e.pos;holding [v] (truthy v)):=by intro _;rfl):PTi X e (tB t):=by with_unfolding_all exact pt_val (h:=h) (he:=he)
theorem a8k{X:Cx}{e:Expr}{t:TT}(h:PWi X e t):PTi X e t:=by with_unfolding_all exact L2.PW.pt (h:=h)
theorem b2v(ha:PTi X a tA):PWi X (.BoolOp .And [a] pos) tA:=by with_unfolding_all exact pw_and1 (ha:=ha)
theorem a8w(ha:PTi X a tA):PWi X (.BoolOp .Or [a] pos) tA:=by with_unfolding_all exact pw_or1 (ha:=ha)
theorem b6t{rest:List Expr}(ha:PTi X a tA)(hb:PWi X (.BoolOp .And (b::rest) pos) tB'):PWi X (.BoolOp .And (a::b::rest) pos) (tAnd tA tB'):=by with_unfolding_all exact pw_and (ha:=ha) (hb:=hb)
theorem b1y{rest:List Expr}(ha:PTi X a tA)(hb:PWi X (.BoolOp .Or (b::rest) pos) tB'):PWi X (.BoolOp .Or (a::b::rest) pos) (tOr tA tB'):=by with_unfolding_all exact pw_or (ha:=ha) (hb:=hb)
theorem a0y   : PSsi X [] tNext:=by with_unfolding_all exact pss_nil
theorem a0e{st:Stmt}{rest:List Stmt}(h1:PSi X st t)(h2:PSsi X rest u):PSsi X (st::rest) (tSeq t u):=by with_unfolding_all exact pss_cons (h1:=h1) (h2:=h2)
theorem a0g{st:Stmt}(h1:PSi X st t):PSsi X [st] t:=by with_unfolding_all exact pss_one (h1:=h1)
theorem a6j(he:PEi X e te)(hs:swapsWith e none pos.line X.env=pure false:=by rfl):PSi X (.Expr e pos) (tDrop te):=by with_unfolding_all exact ps_expr (he:=he) (hs:=hs)
theorem a0o(he:PEi X e te):PSi X (.Return (some e) pos) (tRet te):=by with_unfolding_all exact ps_ret (he:=he)
theorem a1j{c:Expr}{a b:List Stmt}{tc:TT}(hc:PTi X c tc)(ha:PSsi X a t)(hb:PSsi X b u):PSi X (.If c a b pos) (tIfS tc t u):=by with_unfolding_all exact ps_if (hc:=hc) (ha:=ha) (hb:=hb)
theorem c2x{st:Stmt}  : PSi X st tNever:=by with_unfolding_all exact ps_never
theorem a4s{tg e:Expr}{te:TE}{g:TG}(he:PEi X e te)(hg:PGi X tg g)(hs:swapsWithSole [tg] e pos.line X.env=pure false:=by rfl)(hw:swappedStores [tg] e X.env=pure none:=by rfl)(h1:(assignEach [tg] X.env).map (·.2)=[assign tg X.env]:=by rfl):PSi X (.Assign [tg] e pos) (tAsg te g):=by with_unfolding_all exact ps_asg (he:=he) (hg:=hg) (hs:=hs) (hw:=hw) (h1:=h1)
theorem a0n{i:Nat}{x:Str}{e:Expr}{te:TE}{pos':Pos}(hN:X.N.Nodup)(hi:X.N[i]?=some x)(hx:Loc X.env.scope x)(he:PEi X e te)(hs:swapsWith e (some (.Name x pos')) pos.line X.env=pure false:=by rfl)(hf:X.fn x=true∨X.env.scope.names.lookup x=some .local:=by first | exact .inl rfl | exact .inr rfl | assumption):PSi X (.Assign [.Name x pos'] e pos) (tAsg te (a3l i)):=by with_unfolding_all exact ps_set (hN:=hN) (hi:=hi) (hx:=hx) (he:=he) (hs:=hs) (hf:=hf)
theorem b6u{i j:Nat}{x y:Str}{a b:Expr}{ta:TA}{px py pt:Pos}{kt k2 pt2}(hc:X.calm=true)(hN:X.N.Nodup)(hi:X.N[i]?=some x)(hj:X.N[j]?=some y)(hij:i≠j)(hx:X.env.scope.names.lookup x=some .local)(hy:X.env.scope.names.lookup y=some .local)(ha:PAi X [a,b] ta)(hw:swappedStores [.Tuple [.Name x px,.Name y py] kt pt] (.Tuple [a,b] k2 pt2) X.env=pure (some [x,y]))(hs:swapsWithSole [.Tuple [.Name x px,.Name y py] kt pt] (.Tuple [a,b] k2 pt2) pos.line X.env=pure false:=by rfl):PSi X (.Assign [.Tuple [.Name x px,.Name y py] kt pt] (.Tuple [a,b] k2 pt2) pos) (tPar i j ta):=by with_unfolding_all exact ps_par (hc:=hc) (hN:=hN) (hi:=hi) (hj:=hj) (hij:=hij) (hx:=hx) (hy:=hy) (ha:=ha) (hw:=hw) (hs:=hs)
theorem a7z{c:Expr}{body:List Stmt}{tc:TT}{tb:TS}(hp:PassesOwn (model X.prog X.w) X.A X.env X.xe)(hc:PTi X c tc)(hb:PSsi X body tb):PSi X (.While c body [] pos) (c1d tc tb):=by with_unfolding_all exact ps_while (hp:=hp) (hc:=hc) (hb:=hb)
theorem a5j{iter:Expr}{body:List Stmt}{wi:TI}{g:TG}{tb:TS}{pos:Pos}(hp:PassesOwn (model X.prog X.w) X.A X.env X.xe)(hc:X.calm=true)(hi:PIi X tg iter wi)(hg:PGi X tg g)(hb:PSsi X body tb)(hs:∀ x,foldedSetIterable iter X.env x=pure x:=by intro _;rfl):PSi X (.For tg iter body [] pos) (tFor wi g tb):=by with_unfolding_all exact ps_for (hp:=hp) (hc:=hc) (hi:=hi) (hg:=hg) (hb:=hb) (hs:=hs)
theorem b0n{tg elt iter:Expr}{os:List Str}{i:Nat}{y:Str}{py pos spos:Pos}{scope:Scope}{wi:TI}{g:TG}{te:TE}{caps:List (Nat×Str)}(N:List Str)(sc:Scope)(hNd:X.N.Nodup)(hy:X.N[i]?=some y)(hl:X.env.kindOf y=some .local)(hi:PIi X tg iter wi)(hg:∀ cl C s0 H0 fp,PGi (a2j X scope cl (os++caps.map (·.2)) C s0 H0 fp) tg g)(he:∀ cl C s0 H0 fp,PEi (a2j X scope cl (os++caps.map (·.2)) C s0 H0 fp) elt te)(ok:a6o N sc scope caps=true)(hN:X.N=N:=by rfl)(hsc:X.env.scope=sc:=by rfl)(hc:X.calm=true:=by rfl)(hfs:∀ v,foldedSetIterable iter X.env v=pure v:=by intro _;rfl)(hsw:swapsWith (.ListComp elt [⟨tg,iter,[],0⟩] scope pos) (some (.Name y py)) spos.line X.env=pure true:=by rfl):PSi X (.Assign [.Name y py] (.ListComp elt [⟨tg,iter,[],0⟩] scope pos) spos) (tAsg (a5n os.length wi g te (caps.map (·.1))) (a3l i)):=by with_unfolding_all exact ps_compS (N:=N) (sc:=sc) (hNd:=hNd) (hy:=hy) (hl:=hl) (hi:=hi) (hg:=hg) (he:=he) (ok:=ok) (hN:=hN) (hsc:=hsc) (hc:=hc) (hfs:=hfs) (hsw:=hsw)
theorem a2a(th:c5q X E)(c:XCls X.K X.mg x C)(ha:PAi X [e₀] ta)(hc:X.calm=true:=by rfl)(hg:Gl X x:=by rfl)(he:starEach [e₀] X.env=[(false,eval e₀ X.env)]:=by rfl)(hd:(x == ("__debug__" : Str))=false:=by decide):PSi X (.Raise (some (.Call (.Name x np) [e₀] [] cpos)) none pos) (tRaise E C ta):=by with_unfolding_all exact ps_raise (th:=th) (c:=c) (ha:=ha) (hc:=hc) (hg:=hg) (he:=he) (hd:=hd)
theorem a0q{i:Nat}{x:Str}(hN:X.N.Nodup)(hi:X.N[i]?=some x)(hx:Loc X.env.scope x)(hf:X.fn x=true∨X.env.scope.names.lookup x=some .local:=by first | exact .inl rfl | exact .inr rfl | assumption):PGi X (.Name x pos) (a3l i):=by with_unfolding_all exact pg_name (hN:=hN) (hi:=hi) (hx:=hx) (hf:=hf)
theorem a2n   : PGsi X [] gNil:=by with_unfolding_all exact pgs_nil
theorem a1b{e:Expr}{es:List Expr}{t:TG}{u:TGs}(h1:PGi X e t)(h2:PGsi X es u)(hs:(assignEach (e::es) X.env).map (·.2)=assign e X.env::(assignEach es X.env).map (·.2):=by rfl):PGsi X (e::es) (b5r t u):=by with_unfolding_all exact pgs_cons (h1:=h1) (h2:=h2) (hs:=hs)
theorem a3d(K:c5t){es:List Expr}{k:Nat}{t:TGs}{n:Nat}{pos:Pos}(hc:X.calm=true)(h:PGsi X es t)(hK:X.K=K:=by rfl)(hn:(assignEach es X.env).length=n:=by rfl)(hst:(assignEach es X.env).findIdx? (·.1)=none:=by rfl):PGi X (.Tuple es k pos) (gTup K n t):=by with_unfolding_all exact pg_tupK (K:=K) (hc:=hc) (h:=h) (hK:=hK) (hn:=hn) (hst:=hst)
theorem b6w{o i:Expr}{to ti:TE}{t:TSet}(ho:PEi X o to)(hi:PEi X i ti)(hs:PSet X t)(ha:∀ v,assign (.Subscript o i pos) X.env v=(do
 let ov ← holding [v] (eval o X.env)
 let iv ← holding [v,ov] (eval i X.env)
 standAt pos
 holding [v,ov,iv] (setItem ov iv v)
 release [v,ov,iv] []):=by intro _;rfl):PGi X (.Subscript o i pos) (gSub to ti t):=by with_unfolding_all exact pg_sub (ho:=ho) (hi:=hi) (hs:=hs) (ha:=ha)
theorem pi_listI{l:Expr}{tl:TE}(hl:PEi X l tl):PIi X tg l (iList X.K tl):=by with_unfolding_all exact pi_list (hl:=hl)
theorem a3z{a:Expr}{ta:TA}{p pos:Pos}(hg:Gl X "range")(hm:X.mg "range" = none)(ha:PAi X [a] ta)(hs:starEach [a] X.env=[(false,eval a X.env)]:=by rfl):PIi X tg (.Call (.Name "range" p) [a] [] pos) (iRng1 ta):=by with_unfolding_all exact c3d (hg:=hg) (hm:=hm) (ha:=ha) (hs:=hs)
theorem b9u{a b:Expr}{ta:TA}{p pos:Pos}(hg:Gl X "range")(hm:X.mg "range" = none)(ha:PAi X [a,b] ta)(hs:starEach [a,b] X.env=[(false,eval a X.env),(false,eval b X.env)]:=by rfl)(hs2:starEach [b] X.env=[(false,eval b X.env)]:=by rfl):PIi X tg (.Call (.Name "range" p) [a,b] [] pos) (iRng2 ta):=by with_unfolding_all exact c3c (hg:=hg) (hm:=hm) (ha:=ha) (hs:=hs) (hs2:=hs2)
theorem b0o{a b:Expr}{ta:TA}{p pos ppos:Pos}{elts:List Expr}{k0:Nat}(hg:Gl X "zip")(hm:X.mg "zip" = none)(ha:PAi X [a,b] ta)(he:starEach [a,b] X.env=(false,eval a X.env)::starEach [b] X.env:=by rfl)(hpl:(backTo pos (starEach [b] X.env)).any (·.1)=false:=by rfl):PIi X (.Tuple elts k0 ppos) (.Call (.Name "zip" p) [a,b] [] pos) (iZip X.K ta):=by with_unfolding_all exact pi_zip (hg:=hg) (hm:=hm) (ha:=ha) (he:=he) (hpl:=hpl)
theorem a8b   : POi X none c1f:=by with_unfolding_all exact po_none
theorem a8a(h:PEi X e te):POi X (some e) (tPart te):=by with_unfolding_all exact po_some (h:=h)
theorem a1c{P:Program}{w:World}{K:c5t}{mg:Str→Option Value}{base:Heap}{x:Str}{st:Stmt}{N ps:List Str}{k:Nat}{sp:Sp}(F:a0k K mg x st ps)(S:a0t N ps (a0d st))(len:∀ vs H Q E,sp vs H Q E→vs.length=ps.length)(hbody:∀ (f:Addr) (cdv:Value) (A:Around) (outer:List Env) (s:Shared) (H:Hp) (vs:List V) (Q:VK) (E:XK),Room k (A.deeper (envOfC x (a0d st) s.heap.objs.size f cdv))→sp vs H Q E→
 ∃ t,PSsi (cxOf CX0 P w K mg base N x (a0d st) f cdv A outer s H E).nox (a0p st) t∧t { nx:=fun _ H'=>Q .non H',rt:=Q } (a7s N vs) H):a0r P w K mg base CX0 (k+1) x ps sp:=by with_unfolding_all exact def_ok (F:=F) (S:=S) (len:=len) (hbody:=hbody)
theorem a2w{P:Program}{w:World}{K:c5t}{mg:Str→Option Value}{base:Heap}{x:Str}{st:Stmt}{N ps:List Str}{k:Nat}{sp:Sp}(F:a0k K mg x st ps)(S:a0t N ps (a0d st))(len:∀ vs H Q E,sp vs H Q E→vs.length=ps.length)(hbody:∀ (f:Addr) (cdv:Value) (A:Around) (outer:List Env) (s:Shared) (H:Hp) (vs:List V) (Q:VK) (E:XK),Room k (A.deeper (envOfC x (a0d st) s.heap.objs.size f cdv))→sp vs H Q E→
 ∃ t,PSsi (cxOf (CXx P w) P w K mg base N x (a0d st) f cdv A outer s H E) (a0p st) t∧t { nx:=fun _ H'=>Q .non H',rt:=Q } (a7s N vs) H):a0r P w K mg base (CXx P w) (k+1) x ps sp:=by with_unfolding_all exact def_okX (F:=F) (S:=S) (len:=len) (hbody:=hbody)
end
end Cv
namespace Cv
open PySem PySem.Spec PyProof.Rows L2
theorem b7n:entryFor table "proto.unchain" = some Builtin.«proto.unchain»:=entryFor_of_fast (by kernel_rfl)
section
variable {prog:Program} {w:World} {A:Around} {E:Value→Shared→Prop} {s:Shared}
theorem raiseH{x e C:Addr}{oe:Obj}{es:Array Value}{α:Type}{Q:α→Shared→Prop}(hh:A.handled=some (.ref x))(hx:XAt x C s.heap)(he:s.heap.get? e=some oe)(de:oe.data=.fields es)(d2:2<es.size)(hne:x≠e)(k:E (.ref e) { s with heap:=s.heap.update e (Obj.mapFields (·.setIfInBounds 2 (.ref x))) }):wpAny (model prog w) A (raiseNew (.ref e):Sem α) Q E s:=by
 obtain⟨o,vs,a,b,c,d,_⟩:=hx
 unfold raiseNew
 refine wpAny_bind (wpAny_handled ?_)
 rw[hh]
 dsimp only
 have nb:(Value.ref x != Value.ref e)=true:=by
   rw[bne_iff_ne];intro q;cases q;exact hne rfl
 rw[if_pos nb]
 refine wpAny_bind (wpAny_holding (wpAny_runValue (codeAny_builtin b7n ?_)))
 unfold Builtin.«proto.unchain»
 dsimp only
 refine wpAny_bind (wpAny_field a c d ?_)
 rw[if_pos (by decide)]
 refine wpAny_pure ?_
 refine wpAny_bind (show wpAny _ _ (setField (.ref e) 2 (.ref x)) _ _ _ from wpAny_setField he de d2 ?_)
 exact wpAny_throw k
end
end Cv
namespace Cv
open PySem PySem.Spec PyProof.Rows L2
theorem c4p{c:Bool}{body:TS}{D:Ends}{σ:L2.St}{H:Hp}(S:L2.St→Hp→Prop)(h:∀ σ' H',S σ' H'→D.nx σ' H')(h1:∀ N:L2.St→Hp→Prop,(∀ σ' H',S σ' H'→N σ' H')→c=true→body { D with nx:=N } σ H)(h2:c=false→S σ H):if c=true then body D σ H else tNext D σ H:=by
 cases c with
 | true=>rw[if_pos rfl];exact h1 D.nx h rfl
 | false=>rw[if_neg c6k];exact h σ H (h2 rfl)
theorem uln0{α:Type}{P:List α→Prop}(h:P []):∀ us:List α,us.length=0→P us
 | [],_=>h
theorem ulnS{α:Type}{n:Nat}{P:List α→Prop}(h:∀ a,∀ us:List α,us.length=n→P (a::us)):∀ us:List α,us.length=n+1→P us
 | [],e=>nomatch e
 | a::us,e=>h a us (Nat.succ.inj e)
@[elab_as_elim] theorem uln1{α:Type}{P:List α→Prop}(h:∀ a,P [a])(us:List α)(hl:us.length=1):P us:=(ulnS fun a=>uln0 (h a)) us hl
@[elab_as_elim] theorem uln2{α:Type}{P:List α→Prop}(h:∀ a b,P [a,b])(us:List α)(hl:us.length=2):P us:=(ulnS fun a=>ulnS fun b=>uln0 (h a b)) us hl
@[elab_as_elim] theorem uln3{α:Type}{P:List α→Prop}(h:∀ a b c,P [a,b,c])(us:List α)(hl:us.length=3):P us:=(ulnS fun a=>ulnS fun b=>ulnS fun c=>uln0 (h a b c)) us hl
@[elab_as_elim] theorem uln4{α:Type}{P:List α→Prop}(h:∀ a b c d,P [a,b,c,d])(us:List α)(hl:us.length=4):P us:=(ulnS fun a=>ulnS fun b=>ulnS fun c=>ulnS fun d=>uln0 (h a b c d)) us hl
end Cv
namespace Cv
open PySem PySem.Spec PyProof.Rows L2
section
variable {X:Cx}
theorem b2d(K:c5t)(hc:X.calm=true)(h:X.K=K:=by rfl):a6a X (.builtin "all") (fun xs H Q=>∃ (p:Addr) (bs:List Bool),xs=[.ref p]∧SqL K H p (bs.map V.bl)∧Q (.bl (bs.all id)) H):=by subst h;exact c5l hc
theorem a6w(K:c5t)(h:X.K=K:=by rfl):a6a X (.builtin "isinstance") (fun xs H Q=>∃ x C y c b,xs=[.ref x,y]∧H x=some (ExcO x (.ref C))∧clsOf y=some c∧XNot K C∧c5x K (.ref C) c=some b∧Q (.bl b) H):=by subst h;exact call_isx
end
end Cv
namespace Cv
open PySem PySem.Spec PyProof.Rows L2
def PtV(H:Hp)(v:V)(x y:Rat):Prop:=∃ a vx vy,v=.ref a∧H a=some (.tup [vx,vy])∧ShV H vx x∧ShV H vy y
theorem PtV.same{H H':Hp}{v:V}{x y:Rat}(h:PtV H v x y)(e:Same H H'):PtV H' v x y:=by
 obtain⟨a,vx,vy,rfl,h,h1,h2⟩:=h
 exact⟨a,vx,vy,rfl,e _ _ h,h1.same e,h2.same e⟩
end Cv
namespace Cv
open PySem PySem.Spec PyProof.Rows L2
def RwV(H:Hp)(v:V)(t b:Int):Prop:=∃ a,v=.ref a∧H a=some (.tup [.int t,.int b])
theorem RwV.same{H H':Hp}{v:V}{t b:Int}(h:RwV H v t b)(e:Same H H'):RwV H' v t b:=by
 obtain⟨a,rfl,h⟩:=h
 exact⟨a,rfl,e _ _ h⟩
end Cv
namespace Cv
open PySem PySem.Spec PyProof.Rows L2
theorem a6z{H:Hp}{p b:Addr}{o x:HO}(h:H p=none)(e:H b=some x):upd H p o b=some x:=by rw[a1a (a0x e h)];exact e
theorem Bd.zero':Bd 1 (0:Rat):=⟨⟨by decide⟩,⟨by decide⟩⟩
theorem Bd.one':Bd 1 (1:Rat):=⟨⟨by decide⟩,⟨by decide⟩⟩
theorem PtV.tup{H H':Hp}{v:V}{x y:Rat}(h:PtV H v x y)(e:Tup H H'):PtV H' v x y:=by
 obtain⟨a,vx,vy,rfl,h,h1,h2⟩:=h
 exact⟨a,vx,vy,rfl,e _ _ h,h1.tup e,h2.tup e⟩
theorem RwV.tup{H H':Hp}{v:V}{x y:Int}(h:RwV H v x y)(e:Tup H H'):RwV H' v x y:=by
 obtain⟨a,rfl,h⟩:=h
 exact⟨a,rfl,e _ _ h⟩
theorem SqL.same'{K:c5t}{H H':Hp}{a:Addr}{xs:List V}(h:SqL K H a xs)(e:Same H H'):SqL K H' a xs:=e.seq h
theorem at0{α:Type}(x:α)(xs:List α):atI (x::xs) 0=some x:=b3x (j:=0) rfl
end Cv
namespace Cv
open PySem PySem.Spec PyProof.Rows L2
def RwQ(H:Hp)(v:V)(r:Rat)(n:Nat):Prop:=∃ t b:Int,RwV H v t b∧0<b∧(t:Rat)=r*(b:Rat)∧Sz n t∧Sz n b
theorem RwQ.same{H H':Hp}{v:V}{r:Rat}{n:Nat}(h:RwQ H v r n)(e:Same H H'):RwQ H' v r n:=by
 obtain⟨t,b,h1,h2⟩:=h
 exact⟨t,b,h1.same e,h2⟩
theorem mulN{n m:Nat}{i j:Int}(h1:Sz n i)(h2:Sz m j)(h:n+m≤100000000):c5s i j:=mulB h1 h2 h
end Cv
namespace Cv
abbrev Pt:=Rat×Rat
def Ov(D:Int)(n:Nat)(x:Rat):Prop:=∃ m:Int,x*(D:Rat)=(m:Rat)∧Sz n m
theorem Ov.mono{D:Int}{n k:Nat}{x:Rat}(h:Ov D n x)(hk:n≤k):Ov D k x:=by
 obtain⟨m,e,z⟩:=h
 exact⟨m,e,z.mono hk⟩
theorem Ov.bd{D:Int}{n d:Nat}{x:Rat}(h:Ov D n x)(hD:D≠0)(hd:Sz d D):Bd (max n d) x:=by
 obtain⟨m,e,z⟩:=h
 rw[b5v hD e]
 exact Bd.of z hd hD
def OvP(D:Int)(n:Nat)(p:Pt):Prop:=Ov D n p.1∧Ov D n p.2
end Cv
namespace Cv
open PySem PySem.Spec PyProof.Rows L2
structure PtsV(H:Hp)(vs:List V)(ps:List Pt):Prop where
 len:vs.length=ps.length
 get:∀ (i:Nat) v p,vs[i]?=some v→ps[i]?=some p→PtV H v p.1 p.2
theorem PtsV.tup{H H':Hp}{vs:List V}{ps:List Pt}(h:PtsV H vs ps)(t:Tup H H'):PtsV H' vs ps:=⟨h.len,fun i v p e1 e2=>(h.get i v p e1 e2).tup t⟩
theorem PtsV.same{H H':Hp}{vs:List V}{ps:List Pt}(h:PtsV H vs ps)(t:Same H H'):PtsV H' vs ps:=h.tup t.tup
theorem PtsV.at{H:Hp}{vs:List V}{ps:List Pt}(h:PtsV H vs ps){i:Nat}{p:Pt}(hp:ps[i]?=some p):∃ v,vs[i]?=some v∧PtV H v p.1 p.2:=by
 have hi:i<ps.length:=(c6h.mp hp).1
 have e:vs[i]?=some (vs[i]'(by rw[h.len];exact hi)):=c5v _
 exact⟨_,e,h.get i _ p e hp⟩
theorem a8j{α:Type}{xs:List α}{j:Nat}{i:Int}{v:α}(e:i=(j:Int))(h:xs[j]?=some v):atI xs i=some v:=by subst e;exact b3x h
end Cv
namespace Cv
open PySem PySem.Spec PyProof.Rows L2
theorem cut_from{α:Type}(f:α→V)(xs:List α)(k:Nat)(h:k≤xs.length):cutV (xs.map f) (some (k:Int)) none=(xs.drop k).map f:=by
 unfold cutV
 have e:HT.sIx (xs.map f).length 0 (some (k:Int))=k:=by
   have:=HT.sIx_nat (xs.map f).length 0 k
   rw[c5u] at this
   rw[c5u]
   exact this.trans (by omega)
 rw[e,HT.sIx_none,← List.map_drop]
 refine c8w ?_
 rw[c5u,c9y,c5u]
 omega
theorem c5g{α:Type}(f:α→V)(xs:List α)(k:Int)(n:Nat)(e:k=(n:Int))(h:n≤xs.length):cutV (xs.map f) (some k) none=(xs.drop n).map f:=by subst e;exact cut_from f xs n h
theorem low_gcd{t b x:Int}(hx:0≤x)(e:c6o x 0=c6o t b):x=(c6o t b:Int):=by
 rw[Int.gcd_zero] at e
 omega
theorem b5a{B m:Int}{n:Nat}(hB:B≠0)(h:Sz n m):Ov B n (c6y m B):=by
 refine⟨m,?_,h⟩
 rw[Rat.divInt_eq_div]
 have hb':(B:Rat)≠0:=by
   intro z
   exact hB (by exact_mod_cast z)
 grind
theorem getD_bnd{T:List Int}{lo hi:Int}(h:∀ x∈T,lo≤x∧x≤hi){j:Nat}(hj:j<T.length):lo≤T.getD j 0∧T.getD j 0≤hi:=by
 rw[c8x,c5v hj]
 exact h _ (c7h hj)
theorem tab(T:List Int)(lo hi i:Int)(h:∀ x∈T,lo≤x∧x≤hi)(h0:0≤i)(h1:i<(T.length:Int)):∃ v:Int,atI (T.map V.int) i=some (.int v)∧lo≤v∧v≤hi:=
 ⟨_,b7w T i h0 h1,getD_bnd h (by omega)⟩
theorem p29:(10:Int)^(29:Int).toNat=100000000000000000000000000000:=by decide
theorem p9:(10:Int)^(9:Int).toNat=1000000000:=by decide
end Cv
namespace Cv
open PySem PySem.Spec PyProof.Rows L2
structure Mp where
 a:Rat
 b:Rat
 c:Rat
 d:Rat
 e:Rat
 f:Rat
def MpV(H:Hp)(v:V)(m:Mp):Prop:=∃ x v0 v1 v2 v3 v4 v5,v=.ref x∧H x=some (.tup [v0,v1,v2,v3,v4,v5])∧ShV H v0 m.a∧ShV H v1 m.b∧ShV H v2 m.c∧ShV H v3 m.d∧ShV H v4 m.e∧ShV H v5 m.f
theorem MpV.tup{H H':Hp}{v:V}{m:Mp}(h:MpV H v m)(t:Tup H H'):MpV H' v m:=by
 obtain⟨x,v0,v1,v2,v3,v4,v5,rfl,h,h0,h1,h2,h3,h4,h5⟩:=h
 exact⟨x,v0,v1,v2,v3,v4,v5,rfl,t _ _ h,h0.tup t,h1.tup t,h2.tup t,h3.tup t,h4.tup t,h5.tup t⟩
theorem MpV.same{H H':Hp}{v:V}{m:Mp}(h:MpV H v m)(t:Same H H'):MpV H' v m:=h.tup t.tup
theorem b2t{H H':Hp}{D:Addr}{o:HO}(h:H D=none)(s:Same H H'):Same H (upd H' D o):=fun b u e=>by rw[a1a (a0x e h)];exact s b u e
end Cv
namespace Cv
def a2m:List Int→Int
 | []=>1
 | b::r=>b*a2m r
theorem b4t(xs ys:List Int):a2m (xs++ys)=a2m xs*a2m ys:=by
 induction xs with
 | nil=>simp[a2m]
 | cons x r ih=>simp only[List.cons_append,a2m,ih,Int.mul_assoc]
theorem a8x(xs:List Int)(y:Int):a2m (xs++[y])=a2m xs*y:=by rw[b4t];simp[a2m]
theorem b4s{xs:List Int}(h:∀ x∈xs,0<x):0<a2m xs:=by
 induction xs with
 | nil=>decide
 | cons x r ih=>exact Int.mul_pos (h x (.head _)) (ih fun y hy=>h y (.tail _ hy))
def axR(tops bs:List Int):List Rat:=tops.map fun x=>c6y x (a2m bs)
theorem c4m{y x u:Int}(hc:c6o y x=1)(h:y∣x*u):y∣u:=by
 have h2:y.natAbs∣x.natAbs*u.natAbs:=by rw[← Int.natAbs_mul];exact c8y.mpr h
 exact c8y.mp (Nat.Coprime.dvd_of_dvd_mul_left hc h2)
theorem b5q(a b:Int)(hb:0<b):∃ g x y:Int,(c6o a b:Int)=g∧0<g∧a=g*x∧b=g*y∧c6o x y=1∧0<y∧a.fdiv g=x∧b.fdiv g=y:=by
 have g0:0<(c6o a b:Int):=by
   have:=Int.gcd_pos_of_ne_zero_right a (show b≠0 by omega)
   omega
 obtain⟨x,hx⟩ : (c6o a b:Int)∣a:=Int.gcd_dvd_left ..
 obtain⟨y,hy⟩ : (c6o a b:Int)∣b:=Int.gcd_dvd_right ..
 have hc:c6o x y=1:=by
   have h1:c6o a b=c6o ((c6o a b:Int)*x) ((c6o a b:Int)*y):=by rw[← hx,← hy]
   rw[Int.gcd_mul_left,c6w] at h1
   have h2:0<c6o a b:=by omega
   have h3:c6o a b*1=c6o a b*c6o x y:=by rw[Nat.mul_one];exact h1
   exact (Nat.eq_of_mul_eq_mul_left h2 h3).symm
 generalize (c6o a b:Int)=g at g0 hx hy
 have hyp:0<y:=by
   rw[hy] at hb
   rcases Int.lt_trichotomy y 0 with h | h | h
   · have:=Int.mul_neg_of_pos_of_neg g0 h;omega
   · rw[h,Int.mul_zero] at hb;omega
   · exact h
 refine⟨g,x,y,rfl,g0,hx,hy,hc,hyp,?_,?_⟩
 · rw[c7r _ (Int.le_of_lt g0),hx]
   exact c9i _ (by omega)
 · rw[c7r _ (Int.le_of_lt g0),hy]
   exact c9i _ (by omega)
theorem c3n{top below b:Int}(hb:0<b)(hbe:0<below)(hg:c6o top below=1) :
   c6o (top.fdiv (c6o top b)) (below*b.fdiv (c6o top b))=1∧0<below*b.fdiv (c6o top b)∧top.fdiv (c6o top b)*b=top*b.fdiv (c6o top b)∧0<(c6o top b:Int)∧(c6o top b:Int)∣b:=by
 obtain⟨g,x,y,eg,g0,hx,hy,hc,hyp,ex,ey⟩:=b5q top b hb
 rw[eg,ex,ey]
 refine⟨?_,Int.mul_pos hbe hyp,?_,g0,⟨y,hy⟩⟩
 · have h1:c6o x below=1:=by
     have d1:((c6o x below:Nat):Int)∣top:=Int.dvd_trans (Int.gcd_dvd_left ..) ⟨g,by rw[hx];exact Int.mul_comm ..⟩
     have d2:((c6o x below:Nat):Int)∣below:=Int.gcd_dvd_right ..
     have d3:c6o x below∣c6o top below:=Nat.dvd_gcd (by simpa using c8y.mpr d1) (by simpa using c8y.mpr d2)
     rw[hg] at d3
     exact Nat.dvd_one.mp d3
   show Nat.gcd x.natAbs (below*y).natAbs=1
   rw[Int.natAbs_mul]
   exact Nat.Coprime.mul_right (show Nat.Coprime x.natAbs below.natAbs from h1) (show Nat.Coprime x.natAbs y.natAbs from hc)
 · rw[hx,hy];grind
theorem c0j{top below P T:Int}(hb:0<below)(hP:0<P)(hg:c6o top below=1)(e:top*P=T*below):(c6y T P).num=top∧((c6y T P).den:Int)=below:=by
 have hc:Nat.Coprime top.natAbs below.natAbs:=hg
 have hc':Nat.Coprime top.natAbs below.toNat:=by
   have:below.toNat=below.natAbs:=by omega
   rw[this];exact hc
 have q:(⟨top,below.toNat,by omega,hc'⟩ : Rat)=c6y T P:=by
   rw[Rat.mk_eq_divInt]
   have e2:((below.toNat:Nat):Int)=below:=by omega
   rw[e2]
   exact (Rat.divInt_eq_divInt_iff (by omega) (by omega)).mpr e
 rw[← q]
 exact⟨rfl,by show ((below.toNat:Nat):Int)=below;omega⟩
theorem c4z{q:Rat}{D:Int}{n:Nat}(h:Ov D n q):(q.den:Int)∣D:=by
 obtain⟨m,e,_⟩:=h
 have h1:=b8v q
 have hd:=b7q q
 have e2:(q.num:Rat)*(D:Rat)=(m:Rat)*((q.den:Int):Rat):=by rw[h1,← e];grind
 have e3:q.num*D=m*q.den:=by exact_mod_cast e2
 have hr:c6o q.den q.num=1:=by rw[Int.gcd_comm];exact q.reduced
 exact c4m hr ⟨m,by rw[e3];exact Int.mul_comm ..⟩
theorem lcm_step{W d D:Int}(hd:0<d)(h1:W∣D)(h2:d∣D):d∣W*d.fdiv (c6o W d)∧W*d.fdiv (c6o W d)∣D∧0<d.fdiv (c6o W d)∧0<(c6o W d:Int)∧(c6o W d:Int)∣d:=by
 obtain⟨g,x,y,eg,g0,hx,hy,hc,hyp,ex,ey⟩:=b5q W d hd
 rw[eg,ey]
 refine⟨⟨x,by rw[hx,hy];grind⟩,?_,hyp,g0,⟨y,hy⟩⟩
 obtain⟨u,hu⟩:=h1
 obtain⟨v,hv⟩:=h2
 have e:x*u=y*v:=by
   have:g*(x*u)=g*(y*v):=by rw[← Int.mul_assoc,← Int.mul_assoc,← hx,← hy,← hu,hv]
   exact Int.eq_of_mul_eq_mul_left (by omega) this
 obtain⟨w,hw⟩:=c4m (y:=y) (x:=x) (u:=u) (by rw[Int.gcd_comm];exact hc) ⟨v,e⟩
 exact⟨w,by rw[hu,hw];grind⟩
theorem a9x{n:Nat}{x D:Int}(hD:D≠0)(h:x∣D)(z:Sz n D):Sz n x:=z.le (Nat.le_of_dvd (by omega) (c8y.mpr h))
end Cv
namespace Cv
open PySem PySem.Spec PyProof.Rows L2
structure ShL(H:Hp)(vs:List V)(qs:List Rat):Prop where
 len:vs.length=qs.length
 get:∀ (i:Nat) v q,vs[i]?=some v→qs[i]?=some q→ShV H v q
theorem ShL.tup{H H':Hp}{vs:List V}{qs:List Rat}(h:ShL H vs qs)(t:Tup H H'):ShL H' vs qs:=⟨h.len,fun i v q e1 e2=>(h.get i v q e1 e2).tup t⟩
theorem ShL.same{H H':Hp}{vs:List V}{qs:List Rat}(h:ShL H vs qs)(t:Same H H'):ShL H' vs qs:=h.tup t.tup
theorem ShL.atV{H:Hp}{vs:List V}{qs:List Rat}(h:ShL H vs qs){i:Nat}{v:V}(hv:vs[i]?=some v):∃ q,qs[i]?=some q∧ShV H v q:=by
 have hi:i<vs.length:=(c6h.mp hv).1
 have e:qs[i]?=some (qs[i]'(by rw[← h.len];exact hi)):=c5v _
 exact⟨_,e,h.get i v _ hv e⟩
theorem PtsV.atV{H:Hp}{vs:List V}{ps:List Pt}(h:PtsV H vs ps){i:Nat}{v:V}(hv:vs[i]?=some v):∃ p,ps[i]?=some p∧PtV H v p.1 p.2:=by
 have hi:i<vs.length:=(c6h.mp hv).1
 have e:ps[i]?=some (ps[i]'(by rw[← h.len];exact hi)):=c5v _
 exact⟨_,e,h.get i v _ hv e⟩
def AxV(H:Hp)(v:V)(n:Nat)(tops bs:List Int):Prop:=∃ a lt lb,v=.ref a∧H a=some (.tup [.ref lt,.ref lb])∧H lt=some (.lst (tops.map V.int))∧H lb=some (.lst (bs.map V.int))∧(∀ x∈tops,Sz n x)∧(∀ b∈bs,0<b∧Sz 9000 b)∧bs.length≤100∧tops.length≤1000
theorem AxV.same{H H':Hp}{v:V}{n:Nat}{tops bs:List Int}(h:AxV H v n tops bs)(s:Same H H'):AxV H' v n tops bs:=by
 obtain⟨a,lt,lb,e,h1,h2,h3,h4⟩:=h
 exact⟨a,lt,lb,e,s _ _ h1,s _ _ h2,s _ _ h3,h4⟩
def b8q(K:c5t):Sp:=fun vs H Q _=>∃ (a:Addr) (ws:List V) (qs:List Rat) (D:Int),vs=[.ref a]∧SqL K H a ws∧ShL H ws qs∧0<D∧Sz 9000 D∧(∀ q∈qs,(q.den:Int)∣D)∧qs.length≤40∧
 ∀ (l:Addr) (bs:List Int) (H':Hp),Same H H'→H' l=some (.lst (bs.map V.int))→(∀ b∈bs,0<b∧Sz 9000 b)→(∀ q∈qs,(q.den:Int)∣a2m bs)→a2m bs∣D→bs.length≤qs.length→Q (.ref l) H'
def b4g(K:c5t):Sp:=fun vs H Q _=>∃ (a:Addr) (bs:List Int),vs=[.ref a]∧SqL K H a (bs.map V.int)∧(∀ b∈bs,0<b∧Sz 9000 b)∧bs.length≤100∧Q (.int (a2m bs)) H
def c2c(K:c5t):Sp:=fun vs H Q _=>∃ (a:Addr) (ws:List V) (qs:List Rat) (D:Int) (m:Nat),vs=[.ref a]∧SqL K H a ws∧ShL H ws qs∧0<D∧Sz 9000 D∧(∀ q∈qs,(q.den:Int)∣D∧Bd m q)∧m≤9000∧qs.length≤40∧
 ∀ v tops bs H',Same H H'→AxV H' v (m+9000) tops bs→axR tops bs=qs→bs.length≤qs.length→Q v H'
def c2d(K:c5t):Sp:=fun vs H Q _=>∃ (a:Addr) (ws:List V) (ps:List Pt) (D:Int) (m:Nat),vs=[.ref a]∧SqL K H a ws∧PtsV H ws ps∧0<D∧Sz 9000 D∧(∀ p∈ps,((p.1.den:Int)∣D∧Bd m p.1)∧(p.2.den:Int)∣D∧Bd m p.2)∧m≤9000∧ps.length≤40∧
 ∀ c x y t1 b1 t2 b2 H',Same H H'→H' c=some (.tup [x,y])→AxV H' x (m+9000) t1 b1→AxV H' y (m+9000) t2 b2→axR t1 b1=ps.map (·.1)→axR t2 b2=ps.map (·.2)→b1.length≤ps.length→b2.length≤ps.length→Q (.ref c) H'
def b4h(K:c5t):Sp:=fun vs H Q _=>∃ (top:Int) (a:Addr) (bs:List Int),vs=[.int top,.ref a]∧SqL K H a (bs.map V.int)∧(∀ b∈bs,0<b∧Sz 9000 b)∧bs.length≤100∧∀ v H',Same H H'→ShV H' v (c6y top (a2m bs))→Q v H'
def a8q:Sp:=fun vs H Q _=>∃ x y n t1 b1 t2 b2,vs=[x,y]∧AxV H x n t1 b1∧AxV H y n t2 b2∧t1.length=t2.length∧
 ∀ (l:Addr) (us:List V) (ps:List Pt) (H':Hp),Same H H'→H l=none→H' l=some (.lst us)→PtsV H' us ps→ps.map (·.1)=axR t1 b1→ps.map (·.2)=axR t2 b2→Q (.ref l) H'
theorem prod_sz{bs:List Int}(h:∀ b∈bs,0<b∧Sz 9000 b):Sz (9000*bs.length+1) (a2m bs):=by
 induction bs with
 | nil=>exact⟨by decide⟩
 | cons b r ih=>
   show Sz _ (b*a2m r)
   exact ((h b (.head _)).2.mul (ih fun c hc=>h c (.tail _ hc))).mono (by rw[c6z];omega)
theorem top_of{q:Rat}{W:Int}(hW:0<W)(h:(q.den:Int)∣W):c6y (q.num*W.fdiv q.den) W=q:=by
 have hd:0<(q.den:Int):=by have:=q.den_pos;omega
 obtain⟨w,hw⟩:=h
 have e:W.fdiv q.den=w:=by
   rw[c7r _ (Int.le_of_lt hd)]
   conv=>lhs;rw[hw]
   exact c9i _ (by omega)
 rw[e]
 symm
 refine b5v (by omega) ?_
 have h1:=b8v q
 rw[hw]
 simp only[Rat.intCast_mul]
 rw[h1];grind
theorem b8t{n:Nat}{W d:Int}(hW:0<W)(hd:0<d)(h:d∣W)(z:Sz n W):Sz n (W.fdiv d):=by
 obtain⟨w,hw⟩:=h
 have e:W.fdiv d=w:=by
   rw[c7r _ (Int.le_of_lt hd)]
   conv=>lhs;rw[hw]
   exact c9i _ (by omega)
 rw[e]
 exact a9x (by omega) ⟨d,by rw[hw];exact Int.mul_comm ..⟩ z
theorem c4l{bs:List Int}{i:Nat}{x:V}(h:(bs.map V.int)[i]?=some x):∃ b,bs[i]?=some b∧x=.int b:=by
 rw[c6c] at h
 cases e:bs[i]? with
 | none=>rw[e] at h;cases h
 | some b=>rw[e] at h;cases h;exact⟨b,rfl,rfl⟩
theorem b4b{α:Type}{bs:List α}{i:Nat}{b:α}(h:bs[i]?=some b):bs.take (i+1)=bs.take i++[b]:=by rw[List.take_succ,h];rfl
theorem a6m(t b:List Int):(axR t b).length=t.length:=by unfold axR;rw[c5u]
theorem ints_of{α:Type}{ys:List V}{qs:List α}{f:α→Int}(hl:ys.length=qs.length)(h:∀ (i:Nat) v,ys[i]?=some v→∀ q,qs[i]?=some q→v=.int (f q)):ys=(qs.map f).map V.int:=by
 refine c8s fun i=>?_
 rw[c6c,c6c]
 cases e:ys[i]? with
 | none=>
   have:qs[i]?=none:=c7k (by have:=c9e.mp e;omega)
   rw[this];rfl
 | some v=>
   have hi:i<qs.length:=by have:=(c6h.mp e).1;omega
   have e2:qs[i]?=some qs[i]:=c5v hi
   rw[h i v e _ e2,e2];rfl
theorem axR_tops{qs:List Rat}{bs:List Int}(hb:0<a2m bs)(h:∀ q∈qs,(q.den:Int)∣a2m bs):axR (qs.map fun q=>q.num*(a2m bs).fdiv q.den) bs=qs:=by
 unfold axR
 rw[List.map_map]
 conv=>rhs;rw[← List.map_id qs]
 refine List.map_congr_left fun q hq=>?_
 exact top_of hb (h q hq)
theorem ShL.map{H:Hp}{ys:List V}{ps:List Pt}{f:Pt→Rat}(hl:ys.length=ps.length)(h:∀ (i:Nat) v,ys[i]?=some v→∀ p,ps[i]?=some p→ShV H v (f p)):ShL H ys (ps.map f):=by
 refine⟨by rw[hl,c5u],fun i v q e1 e2=>?_⟩
 rw[c6c] at e2
 cases e3:ps[i]? with
 | none=>rw[e3] at e2;cases e2
 | some p=>rw[e3] at e2;cases e2;exact h i v e1 p e3
theorem c4n{t:List Int}{i:Nat}{x:Int}(h:t[i]?=some x):((t.map V.int)[i]?).getD V.non=.int x:=by rw[c6c,h];rfl
theorem pts_zip{H:Hp}{us:List V}{t1 b1 t2 b2:List Int}(hl:us.length=t1.length)(h12:t1.length=t2.length)(h:∀ (i:Nat) v,us[i]?=some v→∀ x y,t1[i]?=some x→t2[i]?=some y→PtV H v (c6y x (a2m b1)) (c6y y (a2m b2))):∃ ps:List Pt,PtsV H us ps∧ps.map (·.1)=axR t1 b1∧ps.map (·.2)=axR t2 b2:=by
 refine⟨(axR t1 b1).zip (axR t2 b2),⟨?_,fun i v p e1 e2=>?_⟩,?_,?_⟩
 · rw[List.length_zip,a6m,a6m,hl];omega
 · rw[List.getElem?_zip_eq_some] at e2
   obtain⟨a1,a2⟩:=e2
   unfold axR at a1 a2
   rw[c6c] at a1 a2
   cases c1:t1[i]? with
   | none=>rw[c1] at a1;cases a1
   | some x=>
     cases c2:t2[i]? with
     | none=>rw[c2] at a2;cases a2
     | some y=>
       rw[c1] at a1;rw[c2] at a2
       have g1:c6y x (a2m b1)=p.1:=by simpa using a1
       have g2:c6y y (a2m b2)=p.2:=by simpa using a2
       rw[← g1,← g2]
       exact h i v e1 x y c1 c2
 · exact List.map_fst_zip (by rw[a6m,a6m];omega)
 · exact List.map_snd_zip (by rw[a6m,a6m];omega)
end Cv
namespace Cv
open PySem PySem.Spec PyProof.Rows L2
def sm(f:Nat→Rat):Nat→Rat
 | 0=>0
 | n+1=>sm f n+f n
theorem b2b{K:c5t}{J:It}{H1:Hp}{n:Nat}{f f':Nat→V}{g:TG}{tb:TS}{D:Ends}{σ:L2.St}(hJ:b6h K J H1 n f f')(Pv:Nat→L2.St→Hp→Prop)(h0:Pv 0 σ H1)(hS:∀ i σ H,Pv i σ H→Same H1 H)(hs:∀ i a σ H H',i<n→Pv i σ H→Same H H'→SqT K H' a [f i,f' i]→g (.ref a) σ H' fun σ2 H2=>tb { D with nx:=Pv (i+1),ct:=Pv (i+1),bk:=D.nx } σ2 H2)(hd:∀ σ H,Pv n σ H→D.nx σ H) :
   ∃ W:Nat→Nat→L2.St→Hp→Prop,(∃ m,W 0 m σ H1)∧∀ i m σ H,W i m σ H→
     (J.stop i H∧D.nx σ H)∨(J.go i H∧∃ N:L2.St→Hp→Prop,(∀ σ' H',N σ' H'→∃ m',m' < m∧W (i+1) m' σ' H')∧∀ x H',J.yld i H x H'→g x σ H' fun σ2 H2=>tb { D with nx:=N,ct:=N,bk:=D.nx } σ2 H2):=by
 refine⟨fun i m σ H=>m=n - i∧i≤n∧Pv i σ H,⟨n,by simp,c8c _,h0⟩,?_⟩
 rintro i m σ H ⟨rfl,hi,p⟩
 have q:=hJ H (hS i σ H p) i
 by_cases hlt:i<n
 · refine .inr ⟨(q.1 hlt).1,Pv (i+1),fun σ' H' p'=>⟨n - (i+1),by omega,rfl,hlt,p'⟩,fun x H' y=>?_⟩
   obtain⟨s,a,rfl,ht⟩:=(q.1 hlt).2 x H' y
   exact hs i a σ H H' hlt p s ht
 · have e:i=n:=by omega
   subst e
   exact .inl ⟨q.2 rfl,hd σ H p⟩
end Cv
namespace Cv
open PySem PySem.Spec PyProof.Rows L2
def TK(K:c5t)(H:Hp)(a:Addr)(xs:List V):Prop:=H a=some (.tup xs)∨∃ (o:Obj) (its:Array Value) (n:Nat),K.lookup a=some o∧o.cls=.type "tuple" ∧ o.data=.seq its n∧its.size≤sizeLine∧Vals xs its.toList
theorem TK.of{K:c5t}{H:Hp}{a:Addr}{xs:List V}(h:H a=some (.tup xs)):TK K H a xs:=.inl h
theorem TK.sq{K:c5t}{H:Hp}{a:Addr}{xs:List V}(h:TK K H a xs):SqT K H a xs:=by
 rcases h with h | h
 · exact SqT.of h
 · exact .inr h
theorem TK.tup{K:c5t}{H H':Hp}{a:Addr}{xs:List V}(h:TK K H a xs)(t:Tup H H'):TK K H' a xs:=by
 rcases h with h | h
 · exact .inl (t _ _ h)
 · exact .inr h
structure ShK(K:c5t)(H:Hp)(v:V)(q:Rat):Prop where
 ex:∃ a,v=.ref a∧TK K H a [.int q.num,.int (q.den:Int)]
structure PtK(K:c5t)(H:Hp)(v:V)(x y:Rat):Prop where
 ex:∃ a vx vy,v=.ref a∧TK K H a [vx,vy]∧ShK K H vx x∧ShK K H vy y
structure PtsK(K:c5t)(H:Hp)(vs:List V)(ps:List Pt):Prop where
 len:vs.length=ps.length
 get:∀ (i:Nat) v p,vs[i]?=some v→ps[i]?=some p→PtK K H v p.1 p.2
section
variable {K:c5t} {H H':Hp} {v:V} {q x y:Rat} {vs:List V} {ps:List Pt}
theorem ShK.tup(h:ShK K H v q)(t:Tup H H'):ShK K H' v q:=by obtain⟨a,rfl,h⟩:=h;exact⟨a,rfl,h.tup t⟩
theorem ShK.same(h:ShK K H v q)(t:Same H H'):ShK K H' v q:=h.tup t.tup
theorem ShV.k(h:ShV H v q):ShK K H v q:=by obtain⟨a,rfl,h⟩:=h;exact⟨a,rfl,.inl h⟩
theorem PtK.tup(h:PtK K H v x y)(t:Tup H H'):PtK K H' v x y:=by obtain⟨a,vx,vy,rfl,h,h1,h2⟩:=h;exact⟨a,vx,vy,rfl,h.tup t,h1.tup t,h2.tup t⟩
theorem PtK.same(h:PtK K H v x y)(t:Same H H'):PtK K H' v x y:=h.tup t.tup
theorem PtV.k(h:PtV H v x y):PtK K H v x y:=by obtain⟨a,vx,vy,rfl,h,h1,h2⟩:=h;exact⟨a,vx,vy,rfl,.inl h,h1.k,h2.k⟩
theorem PtsK.tup(h:PtsK K H vs ps)(t:Tup H H'):PtsK K H' vs ps:=⟨h.len,fun i v p e1 e2=>(h.get i v p e1 e2).tup t⟩
theorem PtsK.same(h:PtsK K H vs ps)(t:Same H H'):PtsK K H' vs ps:=h.tup t.tup
theorem PtsV.k(h:PtsV H vs ps):PtsK K H vs ps:=⟨h.len,fun i v p e1 e2=>(h.get i v p e1 e2).k⟩
end
theorem ovp_bd4{D:Int}{n d:Nat}{p:Pt}(hD:0<D)(zD:Sz d D)(h:OvP D n p)(k:Nat)(h1:n≤k)(h2:d≤k):Bd k p.1∧Bd k p.2:=
 ⟨(h.1.bd (by omega) zD).mono (by omega),(h.2.bd (by omega) zD).mono (by omega)⟩
theorem kPoint{K:c5t}{H:Hp}{A B C:Addr}{dA dB dC:Option Addr}{sA sB sC:Array (Option Value)}{nA nB nC:Nat}{t1 t2 t3 t4:Tok}(lA:K.lookup A=some ⟨.type "tuple",dA,.seq #[.ref B,.ref C] nA,sA⟩)(lB:K.lookup B=some ⟨.type "tuple",dB,.seq #[.int 0 t1,.int 1 t2] nB,sB⟩)(lC:K.lookup C=some ⟨.type "tuple",dC,.seq #[.int 0 t3,.int 1 t4] nC,sC⟩):PtK K H (.ref A) 0 0:=
 ⟨A,.ref B,.ref C,rfl,.inr ⟨_,_,_,lA,rfl,rfl,by show 2≤sizeLine;decide,.cons rfl (.cons rfl .nil)⟩,
  ⟨B,rfl,.inr ⟨_,_,_,lB,rfl,rfl,by show 2≤sizeLine;decide,.cons ⟨_,rfl⟩ (.cons ⟨_,rfl⟩ .nil)⟩⟩,
  ⟨C,rfl,.inr ⟨_,_,_,lC,rfl,rfl,by show 2≤sizeLine;decide,.cons ⟨_,rfl⟩ (.cons ⟨_,rfl⟩ .nil)⟩⟩⟩
end Cv
namespace Cv
open PySem PySem.Spec PyProof.Rows L2
section
variable {prog:Program} {w:World} {A:Around} {E:Value→Shared→Prop}
theorem b5w{it t:Addr}{itz:Array Value}(hne:t≠it):∀ (n i:Nat) (s:Shared) (Q:List Value→Shared→Prop),s.heap.IsListIter it t i→s.heap.IsList t itz→i+n≤itz.size→
   (∀ h',h'.IsListIter it t (i+n)→Heap.SameBut it s.heap h'→Q ((itz.toList.drop i).take n) { s with heap:=h' })→wpAny (model prog w) A (draw (.ref it) n) Q E s
 | 0,i,s,Q,hit,_,_,hQ=>by
   show wpAny _ _ (pure []) Q E s
   exact wpAny_pure (by simpa using hQ s.heap hit (Heap.SameBut.refl ..))
 | n+1,i,s,Q,hit,ht,hle,hQ=>by
   have hl9:i<itz.size:=by omega
   show wpAny _ _ (pyNext (.ref it) >>= _) Q E s
   refine wpAny_bind (wpAny_pyNext_list_item hit ht (x:=itz[i]) (by simp[hl9]) fun hA hiA hsA=>?_)
   refine wpAny_bind (wpAny_holding (b5w hne n (i+1) _ _ hiA (ht.extBut hsA.extBut hne) (by omega) fun hB hiB hsB=>wpAny_pure ?_))
   have hd:itz.toList.drop i=itz[i]::itz.toList.drop (i+1):=by simp[List.drop_eq_getElem_cons,hl9]
   have:=hQ hB (by rw[show i+(n+1)=i+1+n by omega];exact hiB) (hsA.trans hsB)
   rw[hd,List.take_succ_cons] at this
   exact this
variable {s:Shared}
end
end Cv
namespace Cv
open PySem PySem.Spec PyProof.Rows L2
abbrev Pl:=Int×Int
structure PlsV(H:Hp)(vs:List V)(pl:List Pl):Prop where
 len:vs.length=pl.length
 get:∀ (i:Nat) v p,vs[i]?=some v→pl[i]?=some p→RwV H v p.1 p.2
section
variable {H H':Hp} {vs:List V} {pl:List Pl}
theorem PlsV.at(h:PlsV H vs pl){i:Nat}{p:Pl}(hp:pl[i]?=some p):∃ a,vs[i]?=some (.ref a)∧H a=some (.tup [.int p.1,.int p.2]):=by
 have hi:i<pl.length:=(c6h.mp hp).1
 have e:vs[i]?=some (vs[i]'(by rw[h.len];exact hi)):=c5v _
 obtain⟨a,e2,h2⟩:=h.get i _ p e hp
 exact⟨a,by rw[e,e2],h2⟩
theorem b4u{n:Nat}:∀ {ys:List V},(∀ (i:Nat) v,ys[i]?=some v→∃ x y:Int,RwV H v x y∧Sz n x∧Sz n y)→∃ pl:List Pl,PlsV H ys pl∧∀ p∈pl,Sz n p.1∧Sz n p.2
 | [],_=>⟨[],⟨rfl,fun i v p e=>by simp at e⟩,fun _ h=>nomatch h⟩
 | y::ys,h=>by
   obtain⟨a,b,hp,z1,z2⟩:=h 0 y rfl
   obtain⟨pl,hP,hO⟩:=b4u (ys:=ys) fun i v e=>h (i+1) v e
   refine⟨(a,b)::pl,⟨by rw[c6z,c6z,hP.len],fun i v q e1 e2=>?_⟩,fun q hq=>?_⟩
   · cases i with
     | zero=>cases e1;cases e2;exact hp
     | succ i=>exact hP.get i v q e1 e2
   · rcases c6e.mp hq with rfl | hq
     · exact⟨z1,z2⟩
     · exact hO q hq
end
theorem c2z{K:c5t}{a:Addr}{ws:List V}{pl:List Pl}{H1:Hp}(h:SqL K H1 a ws)(hP:PlsV H1 ws pl):b6h K (Itl K a) H1 pl.length (fun i=>.int ((pl[i]?).getD (0,0)).1) (fun i=>.int ((pl[i]?).getD (0,0)).2):=fun H2 s i=>by
 refine⟨fun hi=>?_,fun e=>⟨ws,s.seq h,by rw[hP.len];omega⟩⟩
 obtain⟨b,e1,hb⟩:=hP.at (c5v hi)
 refine⟨⟨ws,_,s.seq h,e1⟩,fun x H' y=>?_⟩
 obtain⟨rfl,y2⟩:=y
 have:=y2 ws (s.seq h)
 rw[e1] at this
 refine⟨L2.Same.refl _,b,(c7z.inj this).symm,SqT.of ?_⟩
 show H' b=some (.tup [.int ((pl[i]?).getD (0,0)).1,.int ((pl[i]?).getD (0,0)).2])
 rw[c5v hi]
 exact s _ _ hb
structure WayV(H:Hp)(v:V)(B kd:Int):Prop where
 ex:∃ (a s b:Addr) (sx sy bx by_:Int),v=.ref a∧H a=some (.tup [.int B,.int kd,.ref s,.ref b])∧H s=some (.tup [.int sx,.int sy])∧H b=some (.tup [.int bx,.int by_])∧1≤B∧B≤1000000007∧sx.natAbs≤20∧sy.natAbs≤20∧bx.natAbs≤3∧by_.natAbs≤3
theorem WayV.same{H H':Hp}{v:V}{B kd:Int}(h:WayV H v B kd)(t:Same H H'):WayV H' v B kd:=by
 obtain⟨a,s,b,sx,sy,bx,by_,rfl,h1,h2,h3,r⟩:=h
 exact⟨a,s,b,sx,sy,bx,by_,rfl,t _ _ h1,t _ _ h2,t _ _ h3,r⟩
def a5t:Sp:=fun vs H Q _=>∃ c:Int,∃ n:Nat,vs=[.int c,.int (n:Int)]∧n≤1000∧∀ (l:Addr) (xs:List Int) (H':Hp),Same H H'→H l=none→H' l=some (.lst (xs.map V.int))→xs.length=n→(∀ x∈xs,0≤x∧x≤2147483647)→Q (.ref l) H'
def spWay:Sp:=fun vs H Q _=>∃ c:Int,vs=[.int c]∧∀ v B kd H',Same H H'→WayV H' v B kd→Q v H'
def c1x:Sp:=fun vs H Q _=>∃ (c:Int) (w:V) (B kd:Int),vs=[.int c,w]∧WayV H w B kd∧∀ v x y H',Same H H'→RwV H' v x y→Sz 110 x→Sz 110 y→Q v H'
def a6s(B:Int)(pl:List Pl):List Pt:=pl.map fun p=>(c6y p.1 B,c6y p.2 B)
def b8p(K:c5t):Sp:=fun vs H Q _=>∃ (a:Addr) (ws:List V) (pl:List Pl) (B:Int),vs=[.ref a,.int B]∧SqL K H a ws∧PlsV H ws pl∧1≤B∧Sz 9000 B∧pl.length≤1000∧∀ (l:Addr) (us:List V) (H':Hp),Same H H'→H l=none→H' l=some (.lst us)→PtsV H' us (a6s B pl)→Q (.ref l) H'
theorem p25:(10:Int)^(25:Int).toNat=10000000000000000000000000:=by decide
theorem c0n{J:It}{H1:Hp}{n:Nat}{f:Nat→V}{g:TG}{tb:TS}{D:Ends}{σ:L2.St}(hJ:b2e J H1 n f)(Pv:Nat→L2.St→Hp→Prop)(h0:Pv 0 σ H1)(hS:∀ i σ H,Pv i σ H→Same H1 H)(hs:∀ i σ H,i<n→Pv i σ H→g (f i) σ H fun σ2 H2=>tb { D with nx:=Pv (i+1),ct:=Pv (i+1),bk:=D.nx } σ2 H2)(hd:∀ σ H,Pv n σ H→D.nx σ H) :
   ∃ W:Nat→Nat→L2.St→Hp→Prop,(∃ m,W 0 m σ H1)∧∀ i m σ H,W i m σ H→
     (J.stop i H∧D.nx σ H)∨(J.go i H∧∃ N:L2.St→Hp→Prop,(∀ σ' H',N σ' H'→∃ m',m' < m∧W (i+1) m' σ' H')∧∀ x H',J.yld i H x H'→g x σ H' fun σ2 H2=>tb { D with nx:=N,ct:=N,bk:=D.nx } σ2 H2):=by
 refine⟨fun i m σ H=>m=n - i∧i≤n∧Pv i σ H,⟨n,by simp,c8c _,h0⟩,?_⟩
 rintro i m σ H ⟨rfl,hi,p⟩
 have q:=hJ H (hS i σ H p) i
 by_cases hlt:i<n
 · refine .inr ⟨(q.1 hlt).1,Pv (i+1),fun σ' H' p'=>⟨n - (i+1),by omega,rfl,hlt,p'⟩,fun x H' y=>?_⟩
   obtain⟨rfl,rfl⟩:=(q.1 hlt).2 x H' y
   exact hs i σ H' hlt p
 · have e:i=n:=by omega
   subst e
   exact .inl ⟨q.2 rfl,hd σ H p⟩
theorem c2v(B:Int)(pl:List Pl):(a6s B pl).length=pl.length:=by unfold a6s;simp
theorem ptsOf_ov{B:Int}{pl:List Pl}{n:Nat}(hB:0<B)(h:∀ p∈pl,Sz n p.1∧Sz n p.2):∀ p∈a6s B pl,OvP B n p:=fun p hp=>by
 unfold a6s at hp
 obtain⟨q,hq,rfl⟩:=c7d.mp hp
 exact⟨b5a (by omega) (h q hq).1,b5a (by omega) (h q hq).2⟩
end Cv
namespace Cv
open PySem PySem.Spec PyProof.Rows L2
section
variable {X:Cx}
theorem b6b:a6a X (.builtin "divmod") (fun xs H Q=>∃ i j,xs=[.int i,.int j]∧(0<j∧Sz 9000 j)∧∀ p,H p=none→Q (.ref p) (upd H p (.tup [.int (i / j),.int (i % j)]))):=by
 intro pins s σ H xs us Q I r h
 obtain⟨i,j,rfl,⟨h1,h2⟩,q⟩:=h
 obtain⟨u,w',rfl,⟨t,rfl⟩,⟨t',rfl⟩⟩:=a7n r
 have hp:j.natAbs≠0:=by omega
 refine divmod_int (by omega) ?_ (.inl (PyProof.noPylong_of_log2 ((Nat.log2_lt hp).mpr h2.lt)))
 rw[c7r i (by omega),c9z i (by omega)]
 have hn:H s.heap.objs.size=none:=I.hok.fresh (c6l _)
 refine⟨.ref s.heap.objs.size,_,?_,rfl,q _ hn⟩
 refine I.laid (fun b o e=>Heap.get?_push_of_some _ e) (c6l _) ⟨by simp only[c6z,List.length_nil];rw[sizeLine_eq];decide,[.int (i / j) s.toks,.int (i % j) (s.toks+1)],.cons ⟨_,rfl⟩ (.cons ⟨_,rfl⟩ .nil),?_⟩
 exact⟨_,Heap.get?_push_size s.heap rfl,rfl,0,rfl⟩
theorem a8h:a6a X (.type "int") (fun xs H Q=>∃ x n,xs=[.str x]∧PySem.intText? x=some n∧x.length≤640∧Q (.int n) H):=by
 intro pins s σ H xs us Q I r h
 obtain⟨x,n,rfl,h1,h2,q⟩:=h
 obtain⟨u,rfl,t,rfl⟩:=a4w r
 exact PySem.W.KIN.call_text h1 h2 ⟨.int n,H,I.tok _,⟨_,rfl⟩,q⟩
theorem c4c:MtR X "str.startswith" (fun x vs H Q=>∃ a b,x=.str a∧vs=[.str b]∧Q (.bl (Txt.startswith a b)) H):=by
 intro pins s σ H x vs v us Q I rx rv h
 obtain⟨a,b,rfl,rfl,q⟩:=h
 obtain⟨t,rfl⟩:=rx
 obtain⟨u,rfl,t',rfl⟩:=a4w rv
 exact SC.startswith ⟨.bl _,H,I,rfl,q⟩
theorem mt_zfill:MtR X "str.zfill" (fun x vs H Q=>∃ a i,x=.str a∧vs=[.int i]∧PadOk i=true∧Q (.str (Txt.zfill a i)) H):=by
 intro pins s σ H x vs v us Q I rx rv h
 obtain⟨a,i,rfl,rfl,hp,q⟩:=h
 obtain⟨t,rfl⟩:=rx
 obtain⟨u,rfl,t',rfl⟩:=a4w rv
 refine call_gives F.slot_str_zfill (typeIs_str _ _ _) F.entry_str_zfill (F.args_str_zfill_2 _ _) (gives_str_zfill a i t t' (PadOk.parts hp).1 (PadOk.parts hp).2) ?_
 exact post_val_or_made (fits_zfilled (PadOk.parts hp).2) fun t' k=>⟨.str _,H,I.tok _,⟨_,rfl⟩,q⟩
theorem c1h:∀ {ts:List Str} {us:List Value},Vals (ts.map V.str) us→∃ l:List (Str×Tok),l.map (·.1)=ts∧us=strValues l
 | [],_,.nil=>⟨[],rfl,rfl⟩
 | t::ts,_,.cons r rs=>by
   obtain⟨tk,rfl⟩:=r
   obtain⟨l,h1,h2⟩:=c1h rs
   exact⟨(t,tk)::l,by rw[c6f,h1],by rw[h2];rfl⟩
theorem a9u:∀ (l:List (Str×Tok)),Vals ((l.map (·.1)).map V.str) (strValues l)
 | []=>.nil
 | (x,t)::l=>.cons ⟨t,rfl⟩ (a9u l)
theorem mt_join:MtR X "str.join" (fun x vs H Q=>∃ (a:Str) (p:Addr) (ts:List Str),x=.str a∧vs=[.ref p]∧SqL X.K H p (ts.map V.str)∧JoinOk a ts=true∧Q (.str (Txt.join a ts)) H):=by
 intro pins s σ H x vs v us Q I rx rv h
 obtain⟨a,p,ts,rfl,rfl,hq,hj,q⟩:=h
 obtain⟨t,rfl⟩:=rx
 obtain⟨u,rfl,ru⟩:=a4w rv
 cases ru
 obtain⟨its,r,pl,hz⟩:=I.list hq
 obtain⟨l,h1,rfl⟩:=c1h r
 exact SC.join pl.isList h1 hj fun t' k=>⟨.str _,H,I.tok _,⟨_,rfl⟩,q⟩
end
section
variable {X:Cx}
theorem c3l(x y:Str):(Builtin.Str.partsBetween x (Builtin.Str.occurrences x y 0 x.length (x.length+1)) y.length).length≤x.length+2:=by
 have h:=StrLaws.occ_length_le x y 0 x.length (x.length+1)
 rw[StrLaws.partsBetween_eq]
 have:∀ (cuts:List Nat) (a:Nat),(StrLaws.partsFrom x y.length a cuts).length=cuts.length+1:=by
   intro cuts
   induction cuts with
   | nil=>intro a;rfl
   | cons c cuts ih=>intro a;simp[StrLaws.partsFrom,ih]
 rw[this];omega
theorem b8x:MtR X "str.split" (fun x vs H Q=>∃ a b,x=.str a∧vs=[.str b]∧(b.length == 0)=false∧a.length≤50000∧∀ p,H p=none→Q (.ref p) (upd H p (.lst ((Txt.split a b).map V.str)))):=by
 intro pins s σ H x vs v us Q I rx rv h
 obtain⟨x,y,rfl,rfl,hy,hl,q⟩:=h
 obtain⟨t,rfl⟩:=rx
 obtain⟨u,rfl,t',rfl⟩:=a4w rv
 have z1:x.length≤sizeLine:=c6d (a0j (by omega))
 have z2:(Builtin.Str.partsBetween x (Builtin.Str.occurrences x y 0 x.length (x.length+1)) y.length).length≤sizeLine:=c6d (a0j (by have:=c3l x y;omega))
 have hn:H s.heap.objs.size=none:=I.hok.fresh (c6l _)
 have fin:∀ (l:List (Str×Tok)) (k:Nat),l.map (·.1)=Txt.split x y→l.length≤sizeLine→EP X pins σ Q (.ref s.heap.objs.size) { s with heap:=s.heap.push { cls:=.type "list",data:=.seq (strValues l).toArray },toks:=k }:=fun l k hl hz=>by
   refine⟨.ref s.heap.objs.size,_,I.lnew (ys:=(Txt.split x y).map V.str) (by rw[← hl];exact a9u l) (by rw[← hl,c5u,c5u];exact hz),rfl,q _ hn⟩
 cases h1:(decide (x.length<y.length) || decide (Builtin.Str.strKind x<Builtin.Str.strKind y))
 · cases hf:(Builtin.Str.occurrences x y 0 x.length (x.length+1)).isEmpty
   · refine call_meets F.slot_str_split (typeIs_str _ _ _) F.entry_str_split (F.args_str_split_2 _ _) (meets_str_split_sep x y t t' h1 hy hf z1 z2) ?_
     show wants _ _ _ { s with toks:=_,heap:=s.heap.push { cls:=.type "list",data:=.seq (strsFrom s.toks (Builtin.Str.partsBetween x (Builtin.Str.occurrences x y 0 x.length (x.length+1)) y.length)).toArray } }
     rw[strsFrom_eq]
     exact fin (numbered s.toks _) _ ((numbered_texts _ _).trans ((if_neg (ne_true_of_eq_false h1)).trans (if_neg (ne_true_of_eq_false hf))).symm) (by rw[← c5u (f:=(·.1)),numbered_texts];exact z2)
   · exact call_meets F.slot_str_split (typeIs_str _ _ _) F.entry_str_split (F.args_str_split_2 _ _) (meets_str_split_not_found x y t t' h1 hy hf) (fin [(x,t)] s.toks ((if_neg (ne_true_of_eq_false h1)).trans (if_pos hf)).symm (by show 1≤sizeLine;decide))
 · exact call_meets F.slot_str_split (typeIs_str _ _ _) F.entry_str_split (F.args_str_split_2 _ _) (meets_str_split_cannot_occur x y t t' h1) (fin [(x,t)] s.toks (if_pos h1).symm (by show 1≤sizeLine;decide))
def rSlS:V→Option Int→Option Int→Hp→VK→Prop:=fun x lo hi H Q=>∃ z,x=.str z∧z.length≤50000∧Q (.str (StrLaws.sliceText z lo hi)) H
theorem sl_str:SlR X rSlS:=by
 intro pins s σ H x v vl vu lo hi sl Q I rx hs pl pu h
 obtain⟨z,rfl,hz,q⟩:=h
 obtain⟨t,rfl⟩:=rx
 refine⟨"str",_,F.slot_str_getitem.lookup,typeIs_str s z t,?_⟩
 obtain⟨l,rfl,el⟩ : ∃ l:Option (Int×Tok),vl=partValue l∧l.map (·.1)=lo:=by
   cases pl with
   | none=>exact⟨none,rfl,rfl⟩
   | int i t=>exact⟨some (i,t),rfl,rfl⟩
 obtain⟨u,rfl,eu⟩ : ∃ l:Option (Int×Tok),vu=partValue l∧l.map (·.1)=hi:=by
   cases pu with
   | none=>exact⟨none,rfl,rfl⟩
   | int i t=>exact⟨some (i,t),rfl,rfl⟩
 refine wpAny_getItem_str_slice (l:=l) (u:=u) (st:=none) hs rfl ?_
 unfold StrLaws.sliceText at q
 unfold sliceMade slicePicked
 rw[el,eu]
 show Made.post (if ((1:Int) == 1 && (Builtin.Str.strSliceIndices lo hi 1 z.length).length == z.length)=true then _ else _) _ s
 by_cases c:((1:Int) == 1 && (Builtin.Str.strSliceIndices lo hi 1 z.length).length == z.length)=true
 · rw[if_pos c] at q ⊢
   exact⟨.str z,H,I,⟨t,rfl⟩,q⟩
 · rw[if_neg c] at q ⊢
   refine⟨?_,.str _,H,I.tok _,⟨_,rfl⟩,q⟩
   have h1:=indices_len_le lo hi z.length
   have h2:=List.length_filterMap_le (fun j=>z.cps[j]?) (Builtin.Str.strSliceIndices lo hi 1 z.length)
   have h3:z.length<sizeLine:=a0j (by omega)
   show (List.toArray _).size≤sizeLine
   rw[c7f]
   exact c6x h2 (c6x h1 (c6d h3))
def Its(x:Str):It:=⟨fun i _=>i<x.cps.size,fun i H v H'=>H'=H∧∃ c,x.cps[i]?=some c∧v=.str ⟨#[c]⟩,fun i _=>x.cps.size≤i⟩
theorem b8c{P:Program}{w:World}{K:c5t}{tg:Expr}(it:Addr)(x:Str)(t:Tok)(ty:String)(hn:["enumerate","zip","dict_itemiterator","dict_reverseitemiterator","odict_iterator","itertools.zip_longest","itertools.pairwise"].contains ty=false)(W:∀ A':Around,A'.handled=none→Walks P w A' it [it] [it] x.cps.size (SignAt x) (fun i h=>h.IsStrIter it ty x t i))(hend:∀ (A:Around) (i:Nat) (s:Shared) (Q:Option Value→Shared→Prop) (E:Value→Shared→Prop),A.handled=none→s.heap.IsStrIter it ty x t i→x.cps[i]?=none→(∀ h',Heap.ExtBut it s.heap h'→Q none { s with heap:=h' })→wpAny (model P w) A (pyNext (.ref it)) Q E s)(hself:∀ (A:Around) (i:Nat) (s:Shared) (Q:Value→Shared→Prop) (E:Value→Shared→Prop),s.heap.IsStrIter it ty x t i→Q (.ref it) s→wpAny (model P w) A (pyIter (.ref it)) Q E s) :
   Turn P w K tg (Its x) [it] it (fun i h=>h.IsStrIter it ty x t i) where
 mem:=by simp
 obj:=fun i h st b hb=>by
   have e:b=it:=by simpa using hb
   subst e
   obtain⟨o,e,c,d⟩:=st
   exact⟨o,e,fun v z=>by rw[d] at z;cases z⟩
 keep:=fun i h h' st k=>by
   obtain⟨o,e,r⟩:=st
   exact⟨o,k it (by simp) o e,r⟩
 item:=by
   intro X hP hw hK hc i pins s σ H E I hf st hg
   subst hP hw hK
   obtain⟨f0,f1,f2,f3,f4,f5⟩:=hf it (by simp)
   refine (W X.A (I.ok.hd hc)).item i s _ _ hg st fun v h' tk hv st' kk=>?_
   obtain⟨c,u,hc',rfl⟩:=hv
   have I1:Inv X pins σ H { s with heap:=h',toks:=tk }:=I.turned (fun b o hb e=>kk b o (by simpa using hb) e) f0 f1 f3 f4 f5
   obtain⟨o,e,c',d⟩:=id st'
   exact⟨_,rfl,go_of (s:={ s with heap:=h',toks:=tk }) e c' d hn ⟨.str ⟨#[c]⟩,H,I1,⟨u,rfl⟩,⟨rfl,c,hc',rfl⟩,st',fun b hb=>(hf b hb).1⟩⟩
 done:=by
   intro X hP hw hK hc i pins s σ H E I hf st hg
   subst hP hw hK
   obtain⟨f0,f1,f2,f3,f4,f5⟩:=hf it (by simp)
   have hg':x.cps.size≤i:=hg
   exact hend X.A i s _ _ (I.ok.hd hc) st (by simp;omega) fun h' eb=>⟨rfl,I.turned (t':=s.toks) (fun b o hb e=>eb b o hb e) f0 f1 f3 f4 f5⟩
 self:=fun A i s Q E st h=>hself A i s Q E st h
def iStr(tl:TE):TI:=fun σ H R=>tl σ H fun x H1=>∃ z,x=.str z∧R (Its z) H1
theorem pi_str{tg l:Expr}{tl:TE}(hl:PE X l tl):PI X tg l (iStr tl):=by
 intro pins s σ H R I h
 refine thn (hl pins s σ H _ I h) fun v s1 ⟨x,H1,I1,r1,q1⟩=>?_
 obtain⟨z,rfl,q⟩:=q1
 obtain⟨t,rfl⟩:=r1
 have fp:∀ b∈[s1.heap.objs.size],FpOk X pins H1 b:=fun b hb=>by
   have e:b=s1.heap.objs.size:=by simpa using hb
   subst e
   exact I1.fpOk (c6l _) (I1.hok.fresh (c6l _))
 cases ha:z.cps.all (· < 128)
 · refine wpAny_pyIter_wide ha ?_
   refine⟨s1.heap.objs.size,[s1.heap.objs.size],_,_,H1,rfl,I1.kept (t':=s1.toks) fun b o e=>Heap.get?_push_of_some _ e,b8c _ z t "str_iterator" (by decide) (fun A' hA=>Walks.strWide hA _ z t) (fun A i s Q E hh st hx k=>wpAny_pyNext_wide_end hh st hx k) (fun A i s Q E st k=>wpAny_pyIter_striter_wide st k),⟨_,Heap.get?_push_size _ rfl,rfl,rfl⟩,fp,q⟩
 · refine wpAny_pyIter_ascii ha ?_
   refine⟨s1.heap.objs.size,[s1.heap.objs.size],_,_,H1,rfl,I1.kept (t':=s1.toks) fun b o e=>Heap.get?_push_of_some _ e,b8c _ z t "str_ascii_iterator" (by decide) (fun A' hA=>Walks.strAscii hA _ z t) (fun A i s Q E hh st hx k=>wpAny_pyNext_ascii_end hh st hx k) (fun A i s Q E st k=>wpAny_pyIter_striter_ascii st k),⟨_,Heap.get?_push_size _ rfl,rfl,rfl⟩,fp,q⟩
theorem a8c(x:Str)(H1:Hp):b2e (Its x) H1 x.cps.size fun i=>.str ⟨#[x.cps.getD i 0]⟩:=fun H2 _ i=>
 ⟨fun hi=>⟨hi,fun v H' y=>⟨y.1,by
   obtain⟨_,c,h1,rfl⟩:=y
   have:x.cps.getD i 0=c:=by
     rw[c9v,h1];rfl
   show V.str ⟨#[c]⟩=V.str ⟨#[x.cps.getD i 0]⟩
   rw[this]⟩⟩,fun e=>by subst e;exact c6l _⟩
end
section
variable {X:Cx}
theorem kit_ss(K:c5t):c5x K (.type "str") (.type "str")=some true:=rfl
theorem b6v{tg l:Expr}{tl:TE}(hl:PEi X l tl):PIi X tg l (iStr tl):=by with_unfolding_all exact pi_str (hl:=hl)
theorem a8e(K:c5t)(hK:X.K=K:=by rfl):MtR X "str.join" (fun x vs H Q=>∃ (a:Str) (p:Addr) (ts:List Str),x=.str a∧vs=[.ref p]∧SqL K H p (ts.map V.str)∧JoinOk a ts=true∧Q (.str (Txt.join a ts)) H):=by subst hK;exact mt_join
end
end Cv
namespace Cv
open PySem PySem.Spec PyProof.Rows L2
def dg(m:Nat):List Nat:=(Nat.toDigits 10 m).map Char.toNat
def tN(i:Int):Str:=Str.ofString (toString i)
theorem a9w(m:Nat):(tN (m:Int)).cps.toList=dg m:=PySem.W.KIN.signs_num m
theorem str_ext{a b:Str}(h:a.cps.toList=b.cps.toList):a=b:=by
 cases a;cases b
 simp at h
 rw[h]
theorem b7t(a b:Str):(a++b).cps.toList=a.cps.toList++b.cps.toList:=by
 show (a.cps++b.cps).toList=_
 simp
theorem tN_neg(m:Nat):(tN (-((m+1:Nat):Int))).cps.toList=45::dg (m+1):=by
 have e:toString (-((m+1:Nat):Int)) = "-" ++ toString (m+1):=rfl
 unfold tN
 rw[e,signs_ofString]
 show ("-" ++ Nat.repr (m+1)).toList.map Char.toNat=_
 rw[String.toList_append,c9d,Nat.toList_repr]
 rfl
theorem b7p{n d:Nat}(hn:0<n)(hd:d<10):dg (10*n+d)=dg n++[48+d]:=by
 unfold dg
 rw[← Nat.toDigits_append_toDigits (by decide) hn hd,c9d,Nat.toDigits_of_lt_base hd]
 congr 1
 have:∀ d:Nat,d<10→[Nat.digitChar d].map Char.toNat=[48+d]:=by decide
 exact this d hd
theorem dg_lt{d:Nat}(hd:d<10):dg d=[48+d]:=by
 unfold dg
 rw[Nat.toDigits_of_lt_base hd]
 have:∀ d:Nat,d<10→[Nat.digitChar d].map Char.toNat=[48+d]:=by decide
 exact this d hd
def padD:Nat→Nat→List Nat
 | 0,_=>[]
 | k+1,d=>padD k (d / 10)++[48+d % 10]
theorem b4z:∀ k,padD k 0=c6i k 48
 | 0=>rfl
 | k+1=>by
   rw[padD,b4z k,List.replicate_succ']
theorem dg_pow:∀ (k n d:Nat),0<n→d<10^k→dg (10^k*n+d)=dg n++padD k d
 | 0,n,d,hn,hd=>by
   have:d=0:=by simpa using hd
   subst this
   simp[padD]
 | k+1,n,d,hn,hd=>by
   have hd':d / 10<10^k:=by rw[Nat.pow_succ] at hd;omega
   have e:10^(k+1)*n+d=10*(10^k*n+d / 10)+d % 10:=by rw[Nat.pow_succ,Nat.mul_comm (10^k) 10,Nat.mul_assoc];omega
   have hp:0<10^k*n+d / 10:=c6j (Nat.mul_pos (Nat.pow_pos (by decide)) hn) (Nat.le_add_right _ _)
   rw[e,b7p hp (Nat.mod_lt _ (by decide)),dg_pow k n (d / 10) hn hd',padD,c8r]
theorem b7a:∀ (k d:Nat),d<10^k→1≤k→padD k d=c6i (k - (dg d).length) 48++dg d
 | 0,d,_,h=>by omega
 | k+1,d,hd,_=>by
   by_cases h:d<10
   · rw[padD,dg_lt h,Nat.div_eq_of_lt h,b4z,Nat.mod_eq_of_lt h];simp
   · have hd':d / 10<10^k:=by rw[Nat.pow_succ] at hd;omega
     have hk:1≤k:=by
       cases k with
       | zero=>simp at hd';omega
       | succ k=>omega
     have e:dg d=dg (d / 10)++[48+d % 10]:=by
       have:=b7p (n:=d / 10) (d:=d % 10) (by omega) (Nat.mod_lt _ (by decide))
       rwa [Nat.div_add_mod] at this
     rw[padD,b7a k (d / 10) hd' hk,e,c6m,List.length_singleton,c8r]
     congr 2
     omega
theorem a9a(m:Nat):1≤(dg m).length:=by
 unfold dg
 rw[c5u]
 exact PySem.toDigits_len_ge 10 m
theorem b1h{k m:Nat}(hk:1≤k)(h:m<10^k):(dg m).length≤k:=by
 unfold dg
 rw[c5u]
 exact toDigits_len_pow (by decide) hk h
theorem a7i(m:Nat):∀ c∈dg m,48≤c∧c≤57:=fun c hc=>by
 unfold dg at hc
 obtain⟨ch,h1,h2⟩:=c7d.mp hc
 have r:=digit_range (Nat.isDigit_of_mem_toDigits (by decide) (by decide) h1)
 rw[← h2]
 exact r
theorem dg_head:∀ (m:Nat),0<m→∃ c r,dg m=c::r∧49≤c∧c≤57:=by
 intro m
 induction m using Nat.strongRecOn with
 | _ m ih=>
   intro h
   by_cases h10:m<10
   · exact⟨48+m,[],dg_lt h10,by omega,by omega⟩
   · obtain⟨c,r,e,h1,h2⟩:=ih (m / 10) (by omega) (by omega)
     have:=b7p (n:=m / 10) (d:=m % 10) (by omega) (Nat.mod_lt _ (by decide))
     rw[Nat.div_add_mod,e] at this
     exact⟨c,_,this,h1,h2⟩
theorem b8e{m:Nat}(h:(dg m).length≤640):PySem.intText? (tN (m:Int))=some (m:Int):=by
 have hc:=a9w m
 have hd:PySem.NumText.AllDigits (tN (m:Int)).cps.toList:=by
   rw[hc]
   intro c hc'
   exact a7i m c hc'
 have hne:(tN (m:Int)).cps.toList≠[]:=by
   rw[hc]
   intro e
   have:=a9a m
   rw[e] at this
   simp at this
 have e:=PySem.intText_digits hd hne (by rw[Str.length,← c7v,hc];omega)
 rw[hc] at e
 have v:PySem.NumText.digitsVal (dg m)=m:=PySem.W.KIN.val_back m
 rw[v] at e
 exact e
structure Sep(sep:Str)(c m:Nat):Prop where
 at_:sep.cps.toList[m]?=some c
 pre:∀ j,j<m→sep.cps.toList[j]?≠some c
 len:1≤sep.length
def jn(sep:List Nat):List (List Nat)→List Nat
 | []=>[]
 | [p]=>p
 | p::q::r=>p++sep++jn sep (q::r)
theorem a6l(sep:Str):∀ ts:List Str,(Str.join sep ts).cps.toList=jn sep.cps.toList (ts.map (·.cps.toList))
 | []=>rfl
 | [p]=>rfl
 | p::q::r=>by
   have ih:=a6l sep (q::r)
   show (p++sep++Str.join sep (q::r)).cps.toList=_
   rw[b7t,b7t,ih]
   rfl
theorem at_cps{x y:Str}{k:Nat}(h:StrLaws.At x y x.length k):∀ j (c:Nat),y.cps.toList[j]?=some c→x.cps.toList[k+j]?=some c:=fun j c hj=>by
 have h2:=h.2
 rw[StrLaws.subAt_eq] at h2
 have e:(x.cps.toList.drop k).take y.length=y.cps.toList:=by simpa using h2
 have hj':j<y.length:=by
   have:=(c6h.mp hj).1
   simpa [Str.length] using this
 rw[← e,List.getElem?_take_of_lt hj',List.getElem?_drop] at hj
 exact hj
theorem cps_at{x y:Str}{k:Nat}(h:k+y.length≤x.length)(e:(x.cps.toList.drop k).take y.length=y.cps.toList):StrLaws.At x y x.length k:=by
 refine⟨h,?_⟩
 rw[StrLaws.subAt_eq,e]
 simp
theorem not_at{x sep:Str}{c m a:Nat}{p rest:List Nat}(S:Sep sep c m)(hp:c∉p)(hx:x.cps.toList.drop a=p++rest)(hr:∀ j,j<m→rest[j]?≠some c){k:Nat}(h1:a≤k)(h2:k<a+p.length):¬ StrLaws.At x sep x.length k:=fun h=>by
 have e:=at_cps h m c S.at_
 have e2:(x.cps.toList.drop a)[k - a+m]?=some c:=by rw[List.getElem?_drop,show a+(k - a+m)=k+m by omega];exact e
 rw[hx] at e2
 by_cases hlt:k - a+m<p.length
 · rw[c7c hlt] at e2
   exact hp (c6t e2)
 · rw[c6v (by omega)] at e2
   exact hr _ (by omega) e2
theorem no_at{x sep:Str}{c m a:Nat}{p:List Nat}(S:Sep sep c m)(hp:c∉p)(hx:x.cps.toList.drop a=p){k:Nat}(h1:a≤k):¬ StrLaws.At x sep x.length k:=fun h=>by
 have e:=at_cps h m c S.at_
 have e2:(x.cps.toList.drop a)[k - a+m]?=some c:=by rw[List.getElem?_drop,show a+(k - a+m)=k+m by omega];exact e
 rw[hx] at e2
 exact hp (c6t e2)
theorem b2x{x sep:Str}{c m:Nat}(S:Sep sep c m):∀ (ps:List (List Nat)) (a:Nat) (cuts:List Nat) (f:Nat),ps≠[]→(∀ p∈ps,c∉p)→a≤x.length→x.cps.toList.drop a=jn sep.cps.toList ps→
   StrLaws.ChainG x sep x.length a cuts f→(∀ k,f≤k→¬ StrLaws.At x sep x.length k)→(StrLaws.partsFrom x sep.length a cuts).map (·.cps.toList)=ps
 | [],a,cuts,f,h,_,_,_,_,_=>absurd rfl h
 | [p],a,cuts,f,_,hf,ha,hx,hc,_=>by
   have hp:=hf p (by simp)
   cases cuts with
   | cons c0 r=>exact absurd hc.2.1 (no_at S hp hx hc.1)
   | nil=>
     show [(Builtin.Str.strSub x a x.length).cps.toList]=[p]
     rw[StrLaws.strSub_toList,hx]
     have:p.length≤x.length - a:=by
       have:=congrArg c8f hx
       rw[c9y,c7v] at this
       show (jn sep.cps.toList [p]).length≤x.cps.size - a
       omega
     show [p.take (x.length - a)]=[p]
     rw[c8w this]
 | p::q::r,a,cuts,f,_,hf,ha,hx,hc,hend=>by
   have hp:=hf p (by simp)
   have hx':x.cps.toList.drop a=p++(sep.cps.toList++jn sep.cps.toList (q::r)):=by rw[hx];show p++sep.cps.toList++_=_;rw[c8r]
   have sl:sep.cps.toList.length=sep.length:=by simp[Str.length]
   have hlen:=congrArg c8f hx'
   rw[c9y,c6m,c6m,c7v,sl] at hlen
   have hxl:x.cps.size=x.length:=rfl
   rw[hxl] at hlen
   have hm:m<sep.cps.toList.length:=(c6h.mp S.at_).1
   have hat:StrLaws.At x sep x.length (a+p.length):=by
     refine cps_at (by omega) ?_
     rw[← List.drop_drop,hx',List.drop_left',← sl,List.take_left']
     · rfl
     · rfl
   have hnot:∀ k,a≤k→k<a+p.length→¬ StrLaws.At x sep x.length k:=fun k h1 h2=>not_at S hp hx' (fun j hj=>by rw[c7c (by omega)];exact S.pre j hj) h1 h2
   cases cuts with
   | nil=>
     have e:f=a:=hc
     subst e
     exact absurd hat (hend _ (by omega))
   | cons c0 r'=>
     obtain⟨h1,h2,h3,h4⟩:=hc
     have e0:c0=a+p.length:=by
       rcases Nat.lt_trichotomy c0 (a+p.length) with z | z | z
       · exact absurd h2 (hnot c0 h1 z)
       · exact z
       · exact absurd hat (h3 _ (by omega) z)
     subst e0
     have hd:x.cps.toList.drop (a+p.length+sep.length)=jn sep.cps.toList (q::r):=by
       rw[← List.drop_drop,← List.drop_drop,hx',List.drop_left',← sl,List.drop_left']
       · rfl
       · rfl
     have ih:=b2x S (q::r) (a+p.length+sep.length) r' f (by simp) (fun p' h'=>hf p' (c7e _ h')) (by omega) hd h4 hend
     show (Builtin.Str.strSub x a (a+p.length)).cps.toList::(StrLaws.partsFrom x sep.length (a+p.length+sep.length) r').map (·.cps.toList)=_
     rw[ih,StrLaws.strSub_toList,hx',show a+p.length - a=p.length by omega,List.take_left']
     rfl
theorem kind_ge(x:Str):1≤Builtin.Str.strKind x:=by
 unfold Builtin.Str.strKind
 split
 · decide
 · split<;>decide
theorem split_jn{x sep:Str}{c m:Nat}(S:Sep sep c m)(hk:Builtin.Str.strKind sep=1){ps:List (List Nat)}(hne:ps≠[])(hf:∀ p∈ps,c∉p)(hx:x.cps.toList=jn sep.cps.toList ps):(Txt.split x sep).map (·.cps.toList)=ps:=by
 obtain⟨f,hc,hend⟩:=StrLaws.occ_tight x sep S.len
 have key:=b2x S ps 0 _ f hne hf (c8c _) (by rw[List.drop_zero];exact hx) hc hend
 have one:∀ h:StrLaws.ChainG x sep x.length 0 [] f,[x].map (·.cps.toList)=ps:=fun h=>by
   have:=b2x S ps 0 [] f hne hf (c8c _) (by rw[List.drop_zero];exact hx) h hend
   rw[← this]
   show [x.cps.toList]=[(Builtin.Str.strSub x 0 x.length).cps.toList]
   rw[StrLaws.sub_whole]
 have kx:=kind_ge x
 unfold Txt.split
 by_cases h1:(decide (x.length<sep.length) || decide (Builtin.Str.strKind x<Builtin.Str.strKind sep))=true
 · rw[if_pos h1]
   have hl:x.length<sep.length:=by
     simp only[c7i,decide_eq_true_eq] at h1
     omega
   refine one ?_
   cases he:Builtin.Str.occurrences x sep 0 x.length (x.length+1) with
   | nil=>rw[he] at hc;exact hc
   | cons c0 r=>
     rw[he] at hc
     have:=hc.2.1.1
     omega
 · rw[if_neg h1]
   by_cases h2:(Builtin.Str.occurrences x sep 0 x.length (x.length+1)).isEmpty=true
   · rw[if_pos h2]
     refine one ?_
     rw[List.isEmpty_iff.mp h2] at hc
     exact hc
   · rw[if_neg h2,StrLaws.partsBetween_eq]
     exact key
end Cv
namespace Cv
open PySem PySem.Spec PyProof.Rows L2
section
variable {X:Cx}
theorem a1r(K:c5t){tg l:Expr}{tl:TE}(hl:PEi X l tl)(hK:X.K=K:=by rfl):PIi X tg l (iList K tl):=by subst hK;exact pi_listI hl
end
end Cv
namespace Cv
open PySem PySem.Spec PyProof.Rows L2
structure ClsK(K:c5t)(mg:Str→Option Value)(x:Str)(C:Addr):Prop where
 cl:Cls K C
 makes:PySem.W.makesIn K C=true
 kp:c5z K (.ref C)=true
 at_:mg x=some (.ref C)
structure b1r(K:c5t)(C:Addr)(m q:Str)(st:Stmt)(ps:List Str):Prop where
 ex:∃ (f:Addr) (fd:FuncData),Fun K m q st f fd∧Meth K C m f∧a9m K fd ps []
structure a8l(P:Program)(w:World)(K:c5t)(mg:Str→Option Value)(base:Heap)(CX:CXT)(k:Nat)(C:Addr)(m:Str)(ps:List Str)(sp:Sp):Prop where
 ex:∃ (f:Addr) (fd:FuncData),FnOk P w K mg base CX k f fd ps sp∧Meth K C m f∧a9m K fd ps []
section
variable {P:Program} {w:World} {K:c5t} {mg:Str→Option Value} {base:Heap}
theorem b1r.mk'{C:Addr}{m q:Str}{st:Stmt}{ps:List Str}{f:Addr}{oc:Value}{od an:Option Addr}{osl:Array (Option Value)}{kV doc pm cdv ct:Value}(hm:c6p K (.ref C) m=some (some (.ref f)))(hi:d0f K (.ref f)=true)(l:K.lookup f=some ⟨oc,od,.func (c6b m q (a0s st) (a0p st) (a0d st) .none kV doc pm an cdv ct),osl⟩)(c:c6a K cdv q=true)(k:c5z K (.ref f)=true)(h:∀ (kV doc pm:Value) (an:Option Addr) (cdv ct:Value) (us:List Value),us.length=ps.length→bindArgs (c6b m q (a0s st) (a0p st) (a0d st) .none kV doc pm an cdv ct) ⟨us,[]⟩=pure (ps.zip us)):b1r K C m q st ps:=by
 have F:=fun_mk (st:=st) l c k
 exact⟨_,_,F,⟨hm,hi,k⟩,F.binds h⟩
theorem mth_ok{C:Addr}{m q:Str}{st:Stmt}{N ps:List Str}{k:Nat}{sp:Sp}(F:b1r K C m q st ps)(S:a0t N ps (a0d st))(len:∀ vs H Q E,sp vs H Q E→vs.length=ps.length)(hbody:∀ (f:Addr) (cdv:Value) (A:Around) (outer:List Env) (s:Shared) (H:Hp) (vs:List V) (Q:VK) (E:XK),Room k (A.deeper (envOfC q (a0d st) s.heap.objs.size f cdv))→sp vs H Q E→
     ∃ t,PSsi (cxOf CX0 P w K mg base N q (a0d st) f cdv A outer s H E).nox (a0p st) t∧t { nx:=fun _ H'=>Q .non H',rt:=Q } (a7s N vs) H):a8l P w K mg base CX0 (k+1) C m ps sp:=by
 obtain⟨f,fd,F,hm,hb⟩:=F.ex
 refine⟨f,fd,F.ok S len fun cdv A outer s H vs Q E hr h=>?_,hm,hb⟩
 obtain⟨t,h1,h2⟩:=hbody f cdv A outer s H vs Q E hr h
 exact⟨t,by unfold PSsi at h1;exact h1,h2⟩
theorem mth_okX{C:Addr}{m q:Str}{st:Stmt}{N ps:List Str}{k:Nat}{sp:Sp}(F:b1r K C m q st ps)(S:a0t N ps (a0d st))(len:∀ vs H Q E,sp vs H Q E→vs.length=ps.length)(hbody:∀ (f:Addr) (cdv:Value) (A:Around) (outer:List Env) (s:Shared) (H:Hp) (vs:List V) (Q:VK) (E:XK),Room k (A.deeper (envOfC q (a0d st) s.heap.objs.size f cdv))→sp vs H Q E→
     ∃ t,PSsi (cxOf (CXx P w) P w K mg base N q (a0d st) f cdv A outer s H E) (a0p st) t∧t { nx:=fun _ H'=>Q .non H',rt:=Q } (a7s N vs) H):a8l P w K mg base (CXx P w) (k+1) C m ps sp:=by
 obtain⟨f,fd,F,hm,hb⟩:=F.ex
 obtain⟨oc,od,kV,doc,pm,an,cdv,ct,osl,rfl,lk,hcd⟩:=F.ex
 refine⟨f,_,fn_of lk hcd S len fun A outer s H vs Q E hr h=>?_,hm,hb⟩
 obtain⟨t,h1,h2⟩:=hbody f cdv A outer s H vs Q E hr h
 exact⟨t,by unfold PSsi at h1;exact h1,h2⟩
end
section
variable {X:Cx} {CX:CXT} {k j:Nat} {ps:List Str} {sp:Sp} {E:XK} {x m:Str} {p pos apos:Pos} {o e:Expr} {es:List Expr} {t:TA} {ta:TE} {C:Addr}
def tMk(C:Addr)(sp:Sp)(E:XK)(t:TA):TE:=fun σ H Q=>t σ H fun vs H1=>∀ x dx,H1 x=none→H1 dx=none→dx≠x→
 sp (.ref x::vs) (upd (upd H1 dx (.own x)) x (.ins C dx [])) (fun v H2=>v=.non∧Q (.ref x) H2) E
def tMth(C:Addr)(m:Str)(sp:Sp)(E:XK)(ta:TE)(t:TA):TE:=fun σ H Q=>ta σ H fun x H1=>∃ a dx fs,x=.ref a∧H1 a=some (.ins C dx fs)∧fs.lookup m=none∧t σ H1 fun vs H2=>sp (x::vs) H2 Q E
theorem pe_mth{pl:Sem Bool}(T:ClsK X.K X.mg x C)(D:a8l X.prog X.w X.K X.mg X.base CX k C m ps sp)(he:PE X o ta)(hr:Room j X.A)(hx:a4r CX X E)(ha:PA X (e::es) t)(hk:k≤j:=by decide)(hst:starEach (e::es) X.env=(false,eval e X.env)::starEach es X.env:=by rfl)(hpl:(backTo pos (starEach es X.env)).any (·.1)=false:=by rfl)(ht:eval (.Call (.Attribute o m apos) (e::es) [] pos) X.env=(do
     let ov ← eval o X.env
     standAt apos.atName
     let (f,first) ← holding [ov] (getMethod ov m pl)
     callWith pos f first (backTo pos (starEach (e::es) X.env)) (backToKw pos (keywordEach [] X.env))):=by rfl) :
   PE X (.Call (.Attribute o m apos) (e::es) [] pos) (tMth C m sp E ta t):=by
 obtain⟨f,fd,F,hm,hb⟩:=D.ex
 intro pins s σ H Q I h
 refine pe_meth (X:=X) (pos:=pos) (apos:=apos) (pl:=pl) he T.cl hm F (hr.mono hk) hb .nil hx ha hst hpl ht pins s σ H Q I ?_
 unfold tMth at h
 unfold tMeth
 simp only[c7p]
 exact h
theorem b6x{pl:Sem Bool}(T:ClsK X.K X.mg x C)(D:a8l X.prog X.w X.K X.mg X.base CX k C m ps sp)(he:PEi X o ta)(hr:Room j X.A)(hx:a4r CX X E)(ha:PAi X (e::es) t)(hk:k≤j:=by decide)(hst:starEach (e::es) X.env=(false,eval e X.env)::starEach es X.env:=by rfl)(hpl:(backTo pos (starEach es X.env)).any (·.1)=false:=by rfl)(ht:eval (.Call (.Attribute o m apos) (e::es) [] pos) X.env=(do
   let ov ← eval o X.env
   standAt apos.atName
   let (f,first) ← holding [ov] (getMethod ov m pl)
   callWith pos f first (backTo pos (starEach (e::es) X.env)) (backToKw pos (keywordEach [] X.env))):=by rfl) :
 PEi X (.Call (.Attribute o m apos) (e::es) [] pos) (tMth C m sp E ta t):=by with_unfolding_all exact pe_mth (pl:=pl) T D he hr hx ha hk hst hpl ht
theorem c3f{f:Str}(he:PEi X e ta)(hb:attributeBase e f X.env (eval e X.env)=eval e X.env:=by rfl):PEi X (.Attribute e f pos) (tFld X.K ta f):=by with_unfolding_all exact pe_fld he hb
theorem ps_fldI{f:Str}{pos':Pos}{value:Expr}{tv:TE}(ha:PEi X o ta)(hv:PEi X value tv)(hs:swapsWith value (some (.Attribute o f pos')) pos.line X.env=pure false:=by rfl):PSi X (.Assign [.Attribute o f pos'] value pos) (sFld X.K ta tv f):=by with_unfolding_all exact ps_fld ha hv hs
end
section
variable {X:Cx}
theorem a9e{K:c5t}{t:Value}:∀ {cs:List Value},(∀ c∈cs,c5x K t c=some false)→PySem.W.kitAny K t cs=some false
 | [],_=>rfl
 | c::r,h=>by
   unfold PySem.W.kitAny
   rw[h c (.head _)]
   exact a9e fun c' hc=>h c' (.tail _ hc)
theorem b3y:∀ {as:List Addr} {us:List Value},Vals (as.map V.ref) us→us=as.map Value.ref
 | [],us,h=>by cases h;rfl
 | a::as,us,h=>by
   cases h with
   | cons r t=>cases r;rw[b3y t];rfl
theorem c5k:a6a X (.builtin "isinstance") (fun xs H Q=>∃ (x C p:Addr) (as:List Addr),xs=[.ref x,.ref p]∧H x=some (ExcO x (.ref C))∧H p=some (.tup (as.map V.ref))∧XNot X.K C∧(∀ c∈as,c5x X.K (.ref C) (.ref c)=some false)∧Q (.bl false) H):=by
 intro pins s σ H xs us Q I r h
 obtain⟨x,C,p,as,rfl,hx,hp,n,e,q⟩:=h
 obtain⟨u,v,rfl,ru,rv⟩:=a7n r
 cases ru
 cases rv
 have hO:XAt x C s.heap:=(I.hok x _ hx).1
 obtain⟨_,its,vz,ht⟩:=I.hok p _ hp
 obtain⟨⟨oc,od,odt,osl⟩,eo,c1,n',c2⟩:=ht
 have ei:its=as.map Value.ref:=b3y vz
 subst ei
 cases c1
 cases c2
 refine PySem.W.kia_tup (b8z n) I.kIn hO eo (a9e fun c hc=>?_) (fun z=>nomatch z) fun tk=>⟨.bl false,H,I.tok tk,rfl,q⟩
 obtain⟨a,ha,rfl⟩:=c7d.mp hc
 exact e a ha
end
end Cv
namespace Cv
def SzQ(n:Nat)(c:List Pl):Prop:=∀ p∈c,Sz n p.1∧Sz n p.2
end Cv
namespace Cv
open PySem PySem.Spec PyProof.Rows L2
def b8j(K:c5t):Sp:=fun vs H Q _=>∃ (c:Int) (m:Nat) (w:V) (B kd:Int),vs=[.int c,.int (m:Int),w]∧m≤100∧WayV H w B kd∧
 ∀ (l:Addr) (us:List V) (pl:List Pl) (H':Hp),Same H H'→H l=none→H' l=some (.lst us)→PlsV H' us pl→pl.length=m→SzQ 110 pl→Q (.ref l) H'
end Cv
namespace Cv
open PySem PySem.Spec PyProof.Rows L2
theorem WayV.tup{H H':Hp}{v:V}{B kd:Int}(h:WayV H v B kd)(t:Tup H H'):WayV H' v B kd:=by
 obtain⟨a,s,b,sx,sy,bx,by_,rfl,h1,h2,h3,r⟩:=h
 exact⟨a,s,b,sx,sy,bx,by_,rfl,t _ _ h1,t _ _ h2,t _ _ h3,r⟩
end Cv
namespace Cv
open PySem PySem.Spec PyProof.Rows L2
theorem same_ins{H:Hp}{x dx C:Addr}(hx:H x=none)(hdx:H dx=none):Same H (L2.upd (L2.upd H dx (.own x)) x (.ins C dx [])):=fun b o e=>by rw[a1a (a0x e hx),a1a (a0x e hdx)];exact e
end Cv
namespace Cv
open PySem PySem.Spec PyProof.Rows L2
def cp(x:Str):List Nat:=x.cps.toList
theorem a1q(a b:Str):cp (a++b)=cp a++cp b:=b7t a b
theorem a1x(a:Str):(cp a).length=a.length:=by unfold cp;simp[Str.length]
theorem a2p{a b:Str}(h:cp a=cp b):a=b:=str_ext h
def tSh(q:Rat):Str:=if q.den=1 then tN q.num else tN q.num ++ "/" ++ tN (q.den:Int)
def tPt(p:Pt):Str:=tSh p.1 ++ "," ++ tSh p.2
def tCv(ps:List Pt):Str:=Str.join " " (ps.map tPt)
def FgN(k:Nat)(i:Int):Prop:=i.natAbs<10^k
def Fg(k:Nat)(q:Rat):Prop:=q.num.natAbs<10^k∧q.den<10^k
theorem nat_or(i:Int):(∃ m:Nat,i=(m:Int))∨∃ m:Nat,i=-((m+1:Nat):Int):=by
 rcases Int.lt_or_le i 0 with h | h
 · right;exact⟨i.natAbs - 1,by omega⟩
 · left;exact⟨i.toNat,by omega⟩
theorem b6n(i:Int):cp (tN i)=if i<0 then 45::dg i.natAbs else dg i.natAbs:=by
 rcases nat_or i with⟨m,rfl⟩ | ⟨m,rfl⟩
 · rw[if_neg (by omega),c6w];exact a9w m
 · rw[if_pos (by omega),Int.natAbs_neg,c6w];exact tN_neg m
theorem c1g(i:Int):∀ c∈cp (tN i),c=45∨(48≤c∧c≤57):=fun c hc=>by
 rw[b6n] at hc
 split at hc
 · rcases c6e.mp hc with h | h
   · exact .inl h
   · exact .inr (a7i _ c h)
 · exact .inr (a7i _ c hc)
theorem a8o{k:Nat}{i:Int}(hk:1≤k)(h:FgN k i):(tN i).length≤k+1:=by
 have d:=b1h hk h
 rw[← a1x,b6n]
 split
 · rw[c6z];omega
 · omega
theorem b8d(q:Rat):∀ c∈cp (tSh q),c=45∨c=47∨(48≤c∧c≤57):=fun c hc=>by
 unfold tSh at hc
 split at hc
 · rcases c1g _ c hc with h | h
   · exact .inl h
   · exact .inr (.inr h)
 · rw[a1q,a1q] at hc
   simp only[c7t] at hc
   rcases hc with (h | h) | h
   · rcases c1g _ c h with h | h
     · exact .inl h
     · exact .inr (.inr h)
   · have:cp ("/" : Str)=[47]:=rfl
     rw[this] at h
     exact .inr (.inl (c7b.mp h))
   · rcases c1g _ c h with h | h
     · exact .inl h
     · exact .inr (.inr h)
theorem a2e(a b:Str):(a++b).length=a.length+b.length:=by rw[← a1x,a1q,c6m,a1x,a1x]
theorem a9v{k:Nat}{q:Rat}(hk:1≤k)(h:Fg k q):(tSh q).length≤2*k+3:=by
 unfold tSh
 have a:=a8o hk (show FgN k q.num from h.1)
 have b:=a8o hk (show FgN k (q.den:Int) from by unfold FgN;rw[c6w];exact h.2)
 split
 · omega
 · rw[a2e,a2e]
   have:("/" : Str).length=1:=rfl
   omega
theorem c1e(p:Pt):∀ c∈cp (tPt p),c=44∨c=45∨c=47∨(48≤c∧c≤57):=fun c hc=>by
 unfold tPt at hc
 rw[a1q,a1q] at hc
 simp only[c7t] at hc
 rcases hc with (h | h) | h
 · exact .inr (b8d _ c h)
 · have:cp ("," : Str)=[44]:=rfl
   rw[this] at h
   exact .inl (c7b.mp h)
 · exact .inr (b8d _ c h)
def FgP(k:Nat)(p:Pt):Prop:=Fg k p.1∧Fg k p.2
theorem b4d{k:Nat}{p:Pt}(hk:1≤k)(h:FgP k p):(tPt p).length≤4*k+7:=by
 unfold tPt
 have a:=a9v hk h.1
 have b:=a9v hk h.2
 rw[a2e,a2e]
 have:("," : Str).length=1:=rfl
 omega
theorem c4h{sep:Str}{B:Nat}{ts:List Str}(h:∀ t∈ts,t.length≤B):(Str.join sep ts).length≤ts.length*B+ts.length*sep.length:=by
 have a:=StrLaws.join_length_le sep ts
 have b:=StrLaws.sumLen_le ts h
 omega
theorem tCv_ln{k:Nat}{ps:List Pt}(hk:1≤k)(h:∀ p∈ps,FgP k p):(tCv ps).length≤ps.length*(4*k+8):=by
 unfold tCv
 have:=c4h (sep := " ") (ts:=ps.map tPt) (B:=4*k+7) fun t ht=>by obtain⟨p,hp,rfl⟩:=c7d.mp ht;exact b4d hk (h p hp)
 rw[c5u] at this
 have e:(" " : Str).length=1:=rfl
 rw[e,← Nat.mul_add] at this
 exact this
theorem b1c{sep:Str}{B:Nat}{ts:List Str}(h:∀ t∈ts,t.length≤B)(h2:ts.length*B+ts.length*sep.length≤16777216):JoinOk sep ts=true:=by
 unfold JoinOk
 rw[StrLaws.joinFits h h2];rfl
theorem a7q(sep:Str)(ts:List Str):Txt.join sep ts=Str.join sep ts:=StrLaws.glued_eq_join sep ts
theorem sepS{sep:Str}{c:Nat}(h:sep.cps.toList=[c]):Sep sep c 0:=⟨by rw[h];rfl,fun j h=>by omega,by
 have:=congrArg c8f h
 rw[c7v,List.length_singleton] at this
 show 1≤sep.cps.size
 exact c9c this.symm⟩
theorem kSl:Builtin.Str.strKind "/" = 1:=by decide +kernel
theorem kCm:Builtin.Str.strKind "," = 1:=by decide +kernel
theorem kBl:Builtin.Str.strKind " " = 1:=by decide +kernel
theorem a7t{x sep:Str}{c m:Nat}(S:Sep sep c m)(hk:Builtin.Str.strKind sep=1){ts:List Str}(hne:ts≠[])(hf:∀ t∈ts,c∉cp t)(hx:x=Str.join sep ts):Txt.split x sep=ts:=by
 have:=split_jn (x:=x) S hk (ps:=ts.map cp) (by simpa using hne) (fun p hp=>by obtain⟨t,ht,rfl⟩:=c7d.mp hp;exact hf t ht) (by rw[hx];exact a6l sep ts)
 have inj:∀ (as bs:List Str),as.map (·.cps.toList)=bs.map cp→as=bs:=by
   intro as
   induction as with
   | nil=>intro bs h;cases bs with | nil=>rfl | cons b bs=>simp at h
   | cons a as ih=>
     intro bs h
     cases bs with
     | nil=>simp at h
     | cons b bs=>
       simp only[c6f,List.cons.injEq] at h
       rw[a2p (show cp a=cp b from h.1),ih bs h.2]
 exact inj _ _ this
theorem split_sl(q:Rat):Txt.split (tSh q) "/" = if q.den=1 then [tN q.num] else [tN q.num,tN (q.den:Int)]:=by
 have nf:∀ i:Int,47∉cp (tN i):=fun i h=>by rcases c1g i 47 h with z | z<;>omega
 unfold tSh
 split
 · exact a7t (sepS (c:=47) rfl) kSl (by simp) (fun t ht=>by rw[c7b.mp ht];exact nf _) rfl
 · refine a7t (sepS (c:=47) rfl) kSl (by simp) (fun t ht=>?_) rfl
   simp only[c6e,c6u,or_false] at ht
   rcases ht with rfl | rfl<;>exact nf _
theorem split_cm(p:Pt):Txt.split (tPt p) "," = [tSh p.1,tSh p.2]:=by
 have nf:∀ q:Rat,44∉cp (tSh q):=fun i h=>by rcases b8d i 44 h with z | z | z<;>omega
 refine a7t (sepS (c:=44) rfl) kCm (by simp) (fun t ht=>?_) rfl
 simp only[c6e,c6u,or_false] at ht
 rcases ht with rfl | rfl<;>exact nf _
def c1v:Sp:=fun vs H Q _=>∃ n:Int,vs=[.int n]∧FgN 1000 n∧∀ H',Same H H'→Q (.str (tN n)) H'
def c1t:Sp:=fun vs H Q _=>∃ (v:V) (q:Rat),vs=[v]∧ShV H v q∧Fg 1000 q∧∀ H',Same H H'→Q (.str (tSh q)) H'
def c1u:Sp:=fun vs H Q _=>∃ (v:V) (x y:Rat),vs=[v]∧PtV H v x y∧FgP 1000 (x,y)∧∀ H',Same H H'→Q (.str (tPt (x,y))) H'
def c1w:Sp:=fun vs H Q _=>∃ (a:Addr) (ws:List V) (ps:List Pt),vs=[.ref a]∧H a=some (.lst ws)∧PtsV H ws ps∧(∀ p∈ps,FgP 1000 p)∧ps.length≤100∧∀ H',Same H H'→Q (.str (tCv ps)) H'
theorem c3m(x:Str)(m:Nat):cp (Builtin.Str.padded x m 0 48)=c6i m 48++cp x:=by
 unfold Builtin.Str.padded cp
 simp
theorem zf_cp{d:Nat}(h:d<10^64):cp (Txt.zfill (tN (d:Int)) 64)=padD 64 d:=by
 have hc:cp (tN (d:Int))=dg d:=a9w d
 have hl:(tN (d:Int)).length=(dg d).length:=by rw[← a1x,hc]
 have l64:=b1h (by decide) h
 have lp:=a9a d
 rw[b7a 64 d h (by decide)]
 unfold Txt.zfill
 by_cases e:(64:Int)≤((tN (d:Int)).length:Int)
 · rw[if_pos e,hc,show 64 - (dg d).length=0 by omega];rfl
 · rw[if_neg e]
   have h0:∃ c,(tN (d:Int)).cps[0]?=some c∧48≤c:=by
     cases e2:dg d with
     | nil=>rw[e2] at lp;simp at lp
     | cons c r=>
       refine⟨c,?_,(a7i d c (by rw[e2];simp)).1⟩
       have:(tN (d:Int)).cps.toList[0]?=some c:=by
         show (cp (tN (d:Int)))[0]?=some c
         rw[hc,e2];rfl
       simpa using this
   obtain⟨c,hc0,h48⟩:=h0
   have z:zfilled (tN (d:Int)) ((64:Int).toNat - (tN (d:Int)).length)=Builtin.Str.padded (tN (d:Int)) ((64:Int).toNat - (tN (d:Int)).length) 0 48:=by
     unfold zfilled
     rw[hc0]
     split
     · rename_i h1;cases h1;omega
     · rename_i h1;cases h1;omega
     · rfl
   rw[z,c3m,hc,hl];rfl
theorem a8f{i:Int}(h:i.natAbs<10^300):i.natAbs.log2<1920:=by
 by_cases e:i.natAbs=0
 · rw[e];decide
 · refine (Nat.log2_lt e).mpr (Nat.lt_trans h ?_)
   exact c7w (Nat.pow_le_pow_left (show 10≤2^4 by decide) 300) (by rw[← Nat.pow_mul];exact Nat.pow_lt_pow_right (by decide) (by decide))
theorem szP:Sz 9000 10000000000000000000000000000000000000000000000000000000000000000:=(show Sz 220 _ from ⟨by decide⟩).mono (by decide)
theorem P64:(10000000000000000000000000000000000000000000000000000000000000000:Int)=((10^64:Nat):Int):=by decide
theorem c1i{α:Type}{ys:List V}{ps:List α}{f:α→Str}(hl:ys.length=ps.length)(h:∀ (i:Nat) v,ys[i]?=some v→∀ p,ps[i]?=some p→v=.str (f p)):ys=(ps.map f).map V.str:=by
 refine c8s fun i=>?_
 rw[c6c,c6c]
 by_cases hi:i<ys.length
 · have e:ys[i]?=some ys[i]:=c5v hi
   have e2:ps[i]?=some (ps[i]'(by omega (config:={}))):=c5v _
   rw[e,h i _ e _ e2,e2];rfl
 · rw[c7k (by omega),c7k (by omega)];rfl
theorem b4f(x:Str):Txt.startswith x "-" = decide ((cp x)[0]?=some 45):=by
 unfold Txt.startswith
 rw[StrLaws.subAt_eq,List.drop_zero]
 have e1:("-" : Str).length=1:=rfl
 have e2:("-" : Str).cps.toList=[45]:=rfl
 rw[e1,e2]
 have hl:=a1x x
 unfold cp at *
 cases h:x.cps.toList with
 | nil=>rw[h] at hl;simp at hl;simp[← hl]
 | cons c r=>
   rw[h] at hl
   simp at hl
   simp[← hl]
   cases e:decide (c=45) with
   | true=>simpa using e
   | false=>simpa using e
theorem b9m(i:Int):Txt.startswith (tN i) "-" = decide (i<0):=by
 rw[b4f,b6n]
 by_cases h:i<0
 · rw[if_pos h];simp[h]
 · rw[if_neg h]
   have:(dg i.natAbs)[0]?≠some 45:=fun e=>by have:=a7i _ _ (c6t e);omega
   simp[h,this]
theorem tail_neg{i:Int}(h:i<0):StrLaws.sliceText (tN i) (some 1) none=tN (-i):=by
 have hc:=b6n i
 rw[if_pos h] at hc
 have hl:(tN i).cps.toList.length=(dg i.natAbs).length+1:=by
   show (cp (tN i)).length=_
   rw[hc];rfl
 rw[StrLaws.sliceText_from ⟨by decide,by rw[hl];omega⟩]
 refine a2p ?_
 rw[b6n,if_neg (by omega),Int.natAbs_neg]
 show List.take _ (List.drop 1 (cp (tN i)))=_
 rw[hc,hl]
 show List.take _ (dg i.natAbs)=_
 rw[c8w (by omega)]
theorem fig_in{c:Nat}(h1:48≤c)(h2:c≤57):(!(Builtin.Str.occurrences ("0123456789" : Str) ⟨#[c]⟩ 0 ("0123456789" : Str).length 1).isEmpty)=true:=by
 rw[StrLaws.found_one]
 have e:("0123456789" : Str).cps.toList=[48,49,50,51,52,53,54,55,56,57]:=rfl
 rw[e]
 refine decide_eq_true ?_
 simp only[c6e,c6u,or_false]
 omega
theorem dg_at{x:Str}{m i:Nat}(hx:cp x=dg m)(hi:i<x.cps.size):48≤x.cps.getD i 0∧x.cps.getD i 0≤57:=by
 refine a7i m _ ?_
 rw[← hx]
 unfold cp
 rw[c9v,Array.getElem?_eq_getElem hi]
 simp
theorem b2g{c d:Nat}:(V.str ⟨#[c]⟩=V.str ⟨#[d]⟩)↔c=d:=by simp
theorem bls_true{ys:List V}(h:∀ (i:Nat) v,ys[i]?=some v→v=.bl true):ys=(c6i ys.length true).map V.bl:=by
 refine c8s fun i=>?_
 rw[c6c,c8u]
 by_cases hi:i<ys.length
 · rw[c5v hi,h i _ (c5v hi),if_pos hi];rfl
 · rw[c7k (by omega),if_neg hi];rfl
theorem all_rep(n:Nat):(c6i n true).all id=true:=by
 rw[c6g];intro b hb;rw[List.eq_of_mem_replicate hb];rfl
theorem fg_sz{m:Nat}(h:m<10^100):Sz 9000 (m:Int):=by
 refine (show Sz 400 (m:Int) from ⟨?_⟩).mono (by decide)
 rw[c6w]
 exact c6j h (by rw[show (400:Nat)=4*100 by decide,Nat.pow_mul];exact Nat.pow_le_pow_left (by decide) 100)
end Cv
namespace Cv
open PySem PySem.Spec PyProof.Rows L2
def spLTxS:Sp:=fun vs H Q _=>∃ (v:V) (q:Rat),vs=[v]∧ShV H v q∧Fg 300 q∧Q (.str (tSh q)) H
def spLTxC(K:c5t):Sp:=fun vs H Q _=>∃ (a:Addr) (ws:List V) (ps:List Pt),vs=[.ref a]∧H a=some (.lst ws)∧PtsV H ws ps∧(∀ p∈ps,FgP 300 p)∧ps.length≤100∧∀ H',Same H H'→Q (.str (tCv ps)) H'
theorem c4u{j k:Nat}{q:Rat}(h:Fg j q)(hk:j≤k):Fg k q:=⟨c6j h.1 (c9x (by decide) hk),c6j h.2 (c9x (by decide) hk)⟩
theorem b9i{j k:Nat}{p:Pt}(h:FgP j p)(hk:j≤k):FgP k p:=⟨c4u h.1 hk,c4u h.2 hk⟩
theorem fg_bd{q:Rat}(h:Bd 300 q):Fg 100 q:=by
 have e:(2:Nat)^300≤10^100:=by rw[show (300:Nat)=3*100 by decide,Nat.pow_mul];exact Nat.pow_le_pow_left (by decide) 100
 refine⟨c6j h.num.lt e,?_⟩
 have:=h.den.lt
 rw[c6w] at this
 exact c6j this e
end Cv
namespace Cv
open PySem PySem.Spec PyProof.Rows L2
section
variable {prog:Program} {w:World} {A:Around} {E:Value→Shared→Prop} {s:Shared}
theorem b6m{t:Addr}{x:Value}{xs:List Value}{Q:List Value→Shared→Prop}(hh:A.handled=none)(ht:s.heap.IsList t (x::xs).toArray)(hz:xs.length<sizeLine)(hQ:∀ (h':Heap) (tk:Nat),(∀ b o,s.heap.get? b=some o→h'.get? b=some o)→Q [x,.ref h'.objs.size] { s with heap:=h'.push { cls:=.type "list",data:=.seq xs.toArray },toks:=tk }) :
   wpAny (model prog w) A (unpackItems (.ref t) 2 (some 1)) Q E s:=by
 have hl9:t≠s.heap.objs.size:=by obtain⟨o,ho,_⟩:=ht;exact c6s (Heap.lt_size ho)
 have hlt:t<s.heap.objs.size:=by obtain⟨o,ho,_⟩:=ht;exact Heap.lt_size ho
 unfold unpackItems
 refine wpAny_bind ?_
 unfold notIterableAtAll
 refine wpAny_bind (wpAny_specialOf ht.typeIs F.slot_list_iter.lookup ?_)
 refine wpAny_pure ?_
 simp only[if_false,Bool.false_eq_true]
 refine wpAny_bind (wpAny_holding (wpAny_pyIter_list ht ?_))
 refine wpAny_bind (wpAny_holding (b5w hl9 1 0 _ _ ⟨_,Heap.get?_push_size _ rfl,rfl,rfl⟩ (Heap.IsList.push ht _) (by simp) fun hA hiA hsA=>?_))
 rw[if_neg (by simp)]
 have htA:hA.IsList t (x::xs).toArray:=(Heap.IsList.push ht _).extBut hsA.extBut hl9
 have szA:s.heap.objs.size<hA.objs.size:=by obtain⟨o,ho,_⟩:=hiA;exact Heap.lt_size ho
 refine wpAny_bind (wpAny_holding (PySem.W.kun_collect (T := "list_iterator") (.inr (.inr (.inl rfl))) (Walks.list (A:=A.in1) hh s.heap.objs.size t hl9 (x::xs).toArray) (k:=1) ?_ (by simp) ⟨hiA,htA⟩ szA (Nat.lt_trans hlt szA) (fun hB tk kB=>?_) ?_))
 · rintro i u ⟨⟨o,h1,h2,_⟩,_⟩
   exact⟨o,h1,h2⟩
 · rw[if_neg (by simp)]
   refine wpAny_bind (wpAny_newList ?_)
   refine wpAny_pure ?_
   have q:=hQ hB tk fun b o e=>kB b o (c6s (Heap.lt_size e)) (hsA.extBut b o (c6s (Heap.lt_size e)) (Heap.get?_push_of_some _ e))
   simpa using q
 · simp;omega
theorem b7y{env:Env}{elts:List Expr}{x1}{pos:Pos}{t:Addr}{x:Value}{xs:List Value}{Q:Unit→Shared→Prop}(hh:A.handled=none)(ht:s.heap.IsList t (x::xs).toArray)(hz:xs.length<sizeLine)(hn:(assignEach elts env).length=2)(hstar:(assignEach elts env).findIdx? (·.1)=some 1)(h:∀ (h':Heap) (tk:Nat),(∀ b o,s.heap.get? b=some o→h'.get? b=some o)→wpAny (model prog w) A (assignInOrder ((assignEach elts env).map (·.2)) [x,.ref h'.objs.size]) Q E { s with heap:=h'.push { cls:=.type "list",data:=.seq xs.toArray },toks:=tk }) :
   wpAny (model prog w) A (assign (.Tuple elts x1 pos) env (.ref t)) Q E s:=by
 rw[arm_assign_Tuple]
 refine wpAny_bind (wpAny_standAt ?_)
 unfold unpack
 rw[hn,hstar]
 exact wpAny_bind (wpAny_holding (b6m hh ht hz h))
end
section
variable {X:Cx}
def gStar(K:c5t)(t:TGs):TG:=fun v σ H Q=>∃ a x xs,v=.ref a∧SqL K H a (x::xs)∧xs.length≤100000∧∀ l,H l=none→t [x,.ref l] σ (upd H l (.lst xs)) Q
theorem pg_star(K:c5t){es:List Expr}{k:Nat}{t:TGs}{pos:Pos}(hc:X.calm=true)(h:PGs X es t)(hK:X.K=K:=by rfl)(hn:(assignEach es X.env).length=2:=by rfl)(hst:(assignEach es X.env).findIdx? (·.1)=some 1:=by rfl):PG X (.Tuple es k pos) (gStar K t):=by
 subst hK
 intro pins s σ H v u Q I r hw
 obtain⟨a,x,xs,rfl,hs,hz,q⟩:=hw
 cases r
 obtain⟨its,rv,p,_⟩:=I.list hs
 cases rv with
 | @cons _ y _ ys ry rys=>
   have hl:ys.length=xs.length:=rys.length.symm
   refine b7y (I.ok.hd hc) p.isList (c7w (c9c hl) (a0j hz)) hn hst fun h' tk kk=>?_
   have I1:Inv X pins σ H { s with heap:=h',toks:=tk }:=I.kept kk
   have I2:=I1.lnew (t':=tk) rys (c6d (a0j hz))
   exact h pins _ σ _ [x,.ref h'.objs.size] _ Q I2 (.cons ry (.cons rfl .nil)) (q _ I1.fresh)
theorem pgs_star{e:Expr}{es:List Expr}{t:TG}{u:TGs}{p:Pos}(h1:PG X e t)(h2:PGs X es u)(hs:(assignEach (.Starred e p::es) X.env).map (·.2)=assign e X.env::(assignEach es X.env).map (·.2):=by rfl):PGs X (.Starred e p::es) (b5r t u):=by
 intro pins s σ H vs us Q I r h
 obtain⟨v,vr,e1,h⟩:=h
 subst e1
 cases r with
 | cons r rr=>
   rw[hs]
   refine assignInOrder_cons (thn (h1 pins s σ H _ _ _ I r h) fun _ s1 ⟨σ1,H1,I1,q1⟩=>?_)
   exact h2 pins s1 σ1 H1 _ _ Q I1 rr q1
theorem b8u(K:c5t){es:List Expr}{k:Nat}{t:TGs}{pos:Pos}(hc:X.calm=true)(h:PGsi X es t)(hK:X.K=K:=by rfl)(hn:(assignEach es X.env).length=2:=by rfl)(hst:(assignEach es X.env).findIdx? (·.1)=some 1:=by rfl):PGi X (.Tuple es k pos) (gStar K t):=by with_unfolding_all exact pg_star (K:=K) (hc:=hc) (h:=h) (hK:=hK) (hn:=hn) (hst:=hst)
theorem b4w{e:Expr}{es:List Expr}{t:TG}{u:TGs}{p:Pos}(h1:PGi X e t)(h2:PGsi X es u)(hs:(assignEach (.Starred e p::es) X.env).map (·.2)=assign e X.env::(assignEach es X.env).map (·.2):=by rfl):PGsi X (.Starred e p::es) (b5r t u):=by with_unfolding_all exact pgs_star (h1:=h1) (h2:=h2) (hs:=hs)
end
section
variable {X:Cx} {CX:CXT} {j:Nat} {E:XK} {x:Str} {p pos:Pos} {e:Expr} {es:List Expr} {t:TA}
def DefBy(P:Program)(w:World)(K:c5t)(mg:Str→Option Value)(base:Heap)(CX:CXT)(k:Nat)(f:Addr)(sp:Sp):Prop:=∃ x ps,a0r P w K mg base CX k x ps sp∧mg x=some (.ref f)
def tFv(P:Program)(w:World)(K:c5t)(mg:Str→Option Value)(base:Heap)(CX:CXT)(j i:Nat)(E:XK)(t:TA):TE:=fun σ H Q=>∃ f sp k,σ[i]?=some (some (.ref f))∧DefBy P w K mg base CX k f sp∧k≤j∧t σ H fun vs H1=>sp vs H1 Q E
theorem pe_fv{i:Nat}(hn:PE X (.Name x p) (tVar i))(hr:Room j X.A)(hx:a4r CX X E)(ha:PA X (e::es) t)(he:starEach (e::es) X.env=(false,eval e X.env)::starEach es X.env:=by rfl)(hpl:(backTo pos (starEach es X.env)).any (·.1)=false:=by rfl) :
   PE X (.Call (.Name x p) (e::es) [] pos) (tFv X.prog X.w X.K X.mg X.base CX j i E t):=by
 intro pins s σ H Q I h
 obtain⟨f,sp,k,hf,⟨y,ps,D,hy⟩,hk,h⟩:=h
 obtain⟨f',fd,F,hm,kp,hb,_⟩:=D.ex
 have e1:=hm.symm.trans hy
 cases e1
 refine wpAny_Call_Name_kw (thn (hn pins s σ H (fun v H1=>v=.ref f∧H1=H) I ⟨_,hf,rfl,rfl⟩) fun u s1 ⟨v,H1,I1,r1,e1,e2⟩=>?_)
 subst e1 e2
 cases r1
 refine d0d (h₀:=X.base) I.ok.mod.kin kp (thn (ha pos pins s1 σ H1 _ I1 h) fun us s2 ⟨vs,H2,I2,r,q⟩=>⟨I2.kIn,?_⟩) he hpl
 exact c2m F (hr.mono hk) hb .nil hx I2 r (by rw[c7p];exact q)
end
end Cv
namespace Cv
open PySem PySem.Spec PyProof.Rows L2
theorem a8r:∀ {l:List Str},sortedS l=true→l.Pairwise fun a b=>decide (b.cps.toList<a.cps.toList)=false
 | [],_=>.nil
 | [x],_=>List.pairwise_singleton _ _
 | x::y::r,h=>by
   have h':(!Spec.ltCps y.cps.toList x.cps.toList && risingS y r)=true:=h
   rw[ltCps_eq] at h'
   simp only[c6n,c9t] at h'
   have p:=a8r (l:=y::r) h'.2
   refine List.pairwise_cons.mpr ⟨fun z hz=>?_,p⟩
   rcases c6e.mp hz with rfl | hz
   · exact h'.1
   · have q:=(List.pairwise_cons.mp p).1 z hz
     have q2:=h'.1
     cases e:decide (z.cps.toList<x.cps.toList) with
     | false=>rfl
     | true=>
       rcases PyProof.Rows.strKind.negTrans z.cps.toList y.cps.toList x.cps.toList e with u | u
       · exact absurd (q.symm.trans u) (by decide)
       · exact absurd (q2.symm.trans u) (by decide)
theorem b9n{a b:List Str}(h:a.Perm b)(h1:sortedS a=true)(h2:sortedS b=true):a=b:=
 List.Perm.eq_of_pairwise (fun x y _ _ e1 e2=>a2p (PyProof.Rows.strKind.total _ _ e2 e1)) (a8r h1) (a8r h2) h
section
variable {prog:Program} {w:World} {A:Around} {E:Value→Shared→Prop} {s:Shared}
theorem c1j:∀ {vs:List Value} {ss:List Str},vs.length=ss.length→(∀ (i:Nat) v,vs[i]?=some v→∃ x t,ss[i]?=some x∧v=.str x t)→StrsAre vs ss
 | [],[],_,_=>.nil
 | v::vs,y::ys,hl,h=>by
   obtain⟨x,t,e1,e2⟩:=h 0 v rfl
   cases e1
   rw[e2]
   exact .cons _ _ (c1j (by simpa using hl) fun i u hu=>h (i+1) u hu)
theorem b4e{kvs:List (Key×Value)}{ss:List Str}{acc:Array Value}(hk:kvs.map (·.1)=ss.map Sum.inr)(hi:ItemsOf (fun i v=>∃ k x,kvs[i]?=some (k,x)∧(a2i prog w).is k v=true) acc kvs.length):StrsAre acc.toList ss:=by
 have hl:kvs.length=ss.length:=by have:=congrArg c8f hk;simpa using this
 refine c1j (by rw[c7v,hi.1,hl]) fun i v e=>?_
 obtain⟨k,x,e1,e2⟩:=hi.2 i v (by rw[← c9s];exact e)
 have e3:(kvs.map (·.1))[i]?=some k:=by rw[c6c,e1];rfl
 rw[hk,c6c] at e3
 obtain⟨y,e4,rfl⟩:=c9n.mp e3
 obtain⟨t,e5⟩:=Value.isStrOf_shape (x:=y) (v:=v) e2
 exact⟨y,t,e4,e5⟩
theorem b6q{d:Addr}{kvs:List (Key×Value)}{ss:List Str}{Q:Value→Shared→Prop}(hh:A.handled=none)(hd:(d == sysModules)=false)(D:s.heap.DictOf (a2i prog w) d kvs)(hn:kvs.length<64)(hk:kvs.map (·.1)=ss.map Sum.inr)(hQ:∀ (hA h':Heap) (tk:Nat) (out:Array Value) (n:Nat) (ss':List Str),(∀ b o,s.heap.get? b=some o→hA.get? b=some o)→(∀ b o,hA.get? b=some o→h'.get? b=some o)→h'.get? hA.objs.size=some { cls:=.type "list",data:=.seq out n }→StrsAre out.toList ss'→ss'.Perm ss→sortedS ss'=true→
     Q (.ref hA.objs.size) { s with heap:=h',toks:=tk }):wpAny (model prog w) A (call (.builtin "sorted") [.ref d]) Q E s:=by
 obtain⟨o,es,ep,h1,h2,h3,h4,h5,h6⟩:=id D
 refine wpAny_call (codeAny_call_builtin plain_sorted entry_sorted ?_)
 have hz:=args_sorted1 (.ref d)
 have hc:checkBuiltinCall "sorted" ⟨[.ref d],[]⟩=pure ():=by
   simp only[checkBuiltinCall,kind_sorted]
   unfold argsOk at hz
   revert hz
   generalize Manifest.signature? "sorted" = sg
   intro hz
   cases sg with
   | none=>rfl
   | some sig=>exact hz
 refine wpAny_of_eq hc ?_
 unfold Builtin.sorted
 refine wpAny_bind (wpAny_pure ?_)
 refine wpAny_bind (PySem.W.kdu_collect (PySem.W.kdl_dict (knd:=a2i prog w) (kvs:=kvs) (ep:=ep) hd) hh ⟨o,es,h1,h2,h3,h4,h5,h6⟩ (c6d (a0j (by omega))) fun hA tk acc kA hi=>?_)
 have sa:=b4e hk hi
 have hal:acc.toList.length<64:=by rw[c7v,hi.1];exact hn
 refine wpAny_bind (wpAny_newList ?_ (c6d (a0j (by omega))))
 refine wpAny_bind (wpAny_holding ?_)
 have hS:(hA.push { cls:=.type "list",data:=.seq acc.toList.toArray }).get? hA.objs.size=some { cls:=.type "list",data:=.seq acc.toList.toArray }:=Heap.get?_push_size _ rfl
 refine wpAny_call_entry slot_list_sort ⟨_,hS,rfl⟩ entry_list_sort (list_sort_treeK strKind_oneLt hS sa.keysOf (fun v1 v2 r e=>keyKind_strs (by rw[← e];exact sa)) hal fun st' p1 p2=>⟨_,rfl,?_⟩) (args_list_sort _)
 obtain⟨ss',q1,q2,q3⟩:=sorted_out_str sa p1 p2
 refine wpAny_pure ?_
 have a1:∀ b o,hA.get? b=some o→(sortedHeap (hA.push { cls:=.type "list",data:=.seq acc.toList.toArray }) hA.objs.size acc.toList (Array.map (fun x=>x.snd) (arrOf st'))).get? b=some o:=fun b o e=>by
   have e1:=Heap.get?_push_of_some (o:={ cls:=.type "list",data:=.seq acc.toList.toArray }) e
   rw[sortedHeap_old (c6s (Heap.lt_size e)) (Heap.lt_size e1)]
   exact e1
 obtain⟨n,a2⟩:=sortedHeap_at (out:=Array.map (fun x=>x.snd) (arrOf st')) hS
 exact hQ hA _ tk (Array.map (fun x=>x.snd) (arrOf st')) n ss' kA a1 a2 q1 q2 q3
end
end Cv
namespace Cv
open PySem PySem.Spec PyProof.Rows L2
def DKn(P:Program)(w:World)(K:c5t)(a:Addr)(kvs:List (Key×V)):Prop:=∀ h,K.In h→(a == sysModules)=false∧∃ vs,KV kvs vs∧h.DictOf (a2i P w) a vs
def DGx(P:Program)(w:World)(K:c5t)(H:Hp)(a:Addr)(y:V)(o:Option V):Prop:=DGet H a y o∨∃ kvs k,DKn P w K a kvs∧y=kV k∧o=valV kvs k
section
variable {X:Cx} {pins:List (Addr×Obj)} {σ:L2.St} {H:Hp} {s:Shared} {a:Addr} {y v:V} {u:Value} {o:Option V}
theorem c0r(I:Inv X pins σ H s)(g:DGx X.prog X.w X.K H a y o):s.TypeIs (.ref a) "dict":=by
 rcases g with g | ⟨kvs,k,D,_,_⟩
 · exact b7o I g
 · obtain⟨_,vs,_,dd⟩:=D _ I.kIn
   exact dd.typeIs
theorem dgx_get{A:Around}{E:Value→Shared→Prop}{Q:Value→Shared→Prop}(hu:A.units+1<cLine)(I:Inv X pins σ H s)(g:DGx X.prog X.w X.K H a y (some v))(ry:RelV y u)(h:∀ w' s',Inv X pins σ H s'→RelV v w'→Q w' s') :
   wpAny (model X.prog X.w) A (getItem (.ref a) u) Q E s:=by
 rcases g with g | ⟨kvs,k,D,ey,l⟩
 · exact c5f hu I g ry h
 · subst ey
   obtain⟨hd,vs,rel,dd⟩:=D _ I.kIn
   obtain⟨w',hw,rw'⟩:=RelO.some_of (v:=v) (o:=valueAt vs k) (by rw[l];exact rel.val k)
   exact wpAny_getItem_of (c0k ry) dd.mapOf hw (h w' _ (I.tok _) rw')
theorem c4y{A:Around}{E:Value→Shared→Prop}{Q:Value→Shared→Prop}(hu:A.units+1<cLine)(I:Inv X pins σ H s)(g:DGx X.prog X.w X.K H a y o)(ry:RelV y u)(h:∀ s',Inv X pins σ H s'→Q (.bool (!o.isSome)) s') :
   wpAny (model X.prog X.w) A (compareOp .NotIn u (.ref a)) Q E s:=by
 rcases g with g | ⟨kvs,k,D,ey,l⟩
 · exact d_notIn hu I g ry h
 · subst ey
   obtain⟨hd,vs,rel,dd⟩:=D _ I.kIn
   refine wpAny_notIn_of (c0k ry) hd dd.mapOf ?_
   rw[← (rel.val k).isSome_eq,← l]
   exact h _ (I.tok _)
end
section
variable {X:Cx} (P:Program) (w:World) (K:c5t)
def rNotInD:R2:=fun x y H Q=>∃ a o,y=.ref a∧DGx P w K H a x o∧Q (.bl (!o.isSome)) H
def rIxD:R2:=fun x y H Q=>∃ a v,x=.ref a∧DGx P w K H a y (some v)∧Q v H
theorem b5b(hu:X.A.units+64<cLine)(hP:X.prog=P:=by rfl)(hw:X.w=w:=by rfl)(hK:X.K=K:=by rfl):OpR X (compareOp .NotIn) (rNotInD P w K):=by
 subst hP hw hK
 intro pins s σ H x y v u Q I rx ry h
 obtain⟨a,o,rfl,g,q⟩:=h
 cases ry
 exact c4y (c7w (by omega) hu) I g rx fun s' I'=>⟨.bl _,H,I',rfl,q⟩
theorem a8z(hu:X.A.units+64<cLine)(hP:X.prog=P:=by rfl)(hw:X.w=w:=by rfl)(hK:X.K=K:=by rfl):IxR X (rIxD P w K):=by
 subst hP hw hK
 intro value slice pins s σ H x y v u Q I rx ry h hs
 obtain⟨a,z,rfl,g,q⟩:=h
 cases rx
 have hT:=c0r I g
 unfold subscriptTail
 refine wpAny_bind ?_
 rw[getitemInPython_of_ne hT.not_modules]
 refine wpAny_bind (wpAny_specialOf hT PySem.F.slot_dict_getitem.lookup ?_)
 have fin:wpAny (model X.prog X.w) X.A (subscripted slice false (.ref a) u) (fun r s₃=>wpAny (model X.prog X.w) X.A (letTemporaryGo value (.ref a) r >>= fun _=>pure r) (EP X pins σ Q) X.xe s₃) X.xe s:=by
   rw[hs]
   exact wpAny_operating (dgx_get (c7w (by omega) hu) I g ry fun w' s3 I3 rw'=>wpAny_bind (wpAny_letTemporaryGo (wpAny_pure ⟨z,H,I3,rw',q⟩)))
 first
   | exact wpAny_pure (wpAny_bind fin)
   | exact wpAny_bind (wpAny_pure (wpAny_bind fin))
   | exact wpAny_bind fin
def rSetD:TSet:=fun o i v H Q=>∃ a H',o=.ref a∧DPut H a i v H'∧Q H'
theorem b2l(hu:X.A.units+64<cLine):PSet X rSetD:=by
 intro pins s σ H o i v ov iv u Q I ro ri rv h
 obtain⟨a,H',rfl,g,q⟩:=h
 cases ro
 exact c5e (c7w (by omega) hu) I g ri rv fun s' I'=>⟨H',I',q⟩
end
section
variable {X:Cx} {pos:Pos}
theorem pe_dnewI:PEi X (.Dict [] [] pos) tDNewK:=by with_unfolding_all exact pe_dnewK
theorem a9y:∀ {vs:List Value} {ss:List Str},StrsAre vs ss→Vals (ss.map V.str) vs
 | _,_,.nil=>.nil
 | _,_,.cons y t h=>.cons ⟨t,rfl⟩ (a9y h)
theorem c0w(hc:X.calm=true:=by rfl):a6a X (.builtin "sorted") (fun xs H Q=>∃ (a:Addr) (kvs:List (Key×V)) (ss:List Str),xs=[.ref a]∧Rd H a (.dK kvs)∧kvs.map (·.1)=ss.map Sum.inr∧kvs.length<64∧
   ∀ (l:Addr) (ss':List Str),H l=none→ss'.Perm ss→sortedS ss'=true→Q (.ref l) (upd H l (.lst (ss'.map V.str)))):=by
 intro pins s σ H xs us Q I rv h
 obtain⟨a,kvs,ss,rfl,hR,hk,hn,q⟩:=h
 obtain⟨u,rfl,rfl⟩:=a4w rv
 obtain⟨z,hd,vs,rel,dd⟩:=c0q I.hok hR
 have ek:vs.map (·.1)=ss.map Sum.inr:=by rw[← hk];exact rel.keys.symm
 refine b6q (I.ok.hd hc) hd dd (by rw[← rel.length];exact hn) ek fun hA h' tk out n ss' k1 k2 e1 e2 e3 e4=>?_
 have I1:Inv X pins σ H { s with heap:=hA,toks:=tk }:=I.kept k1
 have hl:ss'.length=kvs.length:=by
   have:=congrArg c8f hk
   rw[c5u,c5u] at this
   rw[e3.length_eq,this]
 refine⟨.ref hA.objs.size,_,I1.laid (a:=hA.objs.size) (o:=.lst (ss'.map V.str)) (t':=tk) k2 (c6l _) ⟨by rw[c5u,hl];exact c6d (a0j (by omega)),out.toList,n,a9y e2,e1⟩,rfl,q _ ss' I1.fresh e3 e4⟩
def a8m(a:Str):List Str:=if (Builtin.Str.spaceWords a (a.length+1) == [(0,a.length)])=true then [a] else wordsOf a
theorem b5m:MtR X "str.split" (fun x vs H Q=>∃ a,x=.str a∧vs=[]∧a.length≤50000∧(Builtin.Str.spaceWords a (a.length+1)).length≤50000∧(a8m a).length≤50000∧∀ p,H p=none→Q (.ref p) (upd H p (.lst ((a8m a).map V.str)))):=by
 intro pins s σ H x vs v us Q I rx rv h
 obtain⟨x,rfl,rfl,hl,hw,hw2,q⟩:=h
 obtain⟨t,rfl⟩:=rx
 cases rv
 have hn:H s.heap.objs.size=none:=I.hok.fresh (c6l _)
 have fin:∀ (l:List (Str×Tok)) (k:Nat),l.map (·.1)=a8m x→EP X pins σ Q (.ref s.heap.objs.size) { s with heap:=s.heap.push { cls:=.type "list",data:=.seq (strValues l).toArray },toks:=k }:=fun l k hl=>by
   refine⟨.ref s.heap.objs.size,_,I.lnew (ys:=(a8m x).map V.str) (by rw[← hl];exact a9u l) (c6d (a0j (by rw[c5u];omega))),rfl,q _ hn⟩
 refine call_meets F.slot_str_split (typeIs_str _ _ _) F.entry_str_split (F.args_str_split_1 _) (meets_str_split_space x t (c6d (a0j (by omega))) (c6d (a0j (by omega)))) ?_
 cases hb:(Builtin.Str.spaceWords x (x.length+1) == [(0,x.length)])
 · rw[if_neg (by simp)]
   show wants _ _ _ { s with toks:=_,heap:=s.heap.push { cls:=.type "list",data:=.seq (strsFrom s.toks (wordsOf x)).toArray } }
   rw[strsFrom_eq]
   exact fin (numbered s.toks _) _ ((numbered_texts _ _).trans (by unfold a8m;rw[hb];rfl))
 · rw[if_pos rfl]
   exact fin [(x,t)] s.toks (by unfold a8m;rw[hb];rfl)
end
end Cv
namespace Cv
open PySem PySem.Spec PyProof.Rows L2
section
variable {X:Cx} {CX:CXT} {j:Nat} {E:XK} {x:Str} {p pos:Pos} {e:Expr} {es:List Expr} {t:TA}
theorem pe_fvI{i:Nat}(hn:PEi X (.Name x p) (tVar i))(hr:Room j X.A)(hx:a4r CX X E)(ha:PAi X (e::es) t)(he:starEach (e::es) X.env=(false,eval e X.env)::starEach es X.env:=by rfl)(hpl:(backTo pos (starEach es X.env)).any (·.1)=false:=by rfl) :
 PEi X (.Call (.Name x p) (e::es) [] pos) (tFv X.prog X.w X.K X.mg X.base CX j i E t):=by with_unfolding_all exact pe_fv (hn:=hn) (hr:=hr) (hx:=hx) (ha:=ha) (he:=he) (hpl:=hpl)
end
end Cv
namespace Cv
open PySem PySem.Spec PyProof.Rows L2
def Nm(s:Str):Prop:=1≤s.length∧s.length≤12∧∀ c∈cp s,97≤c∧c≤122
inductive Wd | nm (s:Str) | sh (q:Rat) | pt (p:Pt)
def Wd.tx:Wd→Str | .nm s=>s | .sh q=>tSh q | .pt p=>tPt p
theorem let_dec(c:Nat):(!(Builtin.Str.occurrences ("abcdefghijklmnopqrstuvwxyz" : Str) ⟨#[c]⟩ 0 ("abcdefghijklmnopqrstuvwxyz" : Str).length 1).isEmpty)=decide (97≤c∧c≤122):=by
 rw[StrLaws.found_one]
 have e:("abcdefghijklmnopqrstuvwxyz" : Str).cps.toList=[97,98,99,100,101,102,103,104,105,106,107,108,109,110,111,112,113,114,115,116,117,118,119,120,121,122]:=rfl
 rw[e]
 refine decide_eq_decide.mpr ?_
 simp only[c6e,c6u,or_false]
 omega
def a6q:Sp:=fun _ _ _ _=>False
def b5s:List (Str×Str):=[("tell","name"),("names",""),("point","name share"),("cut","name share new new"),("stretch","name share share new"),("turn","name"),("raise","name"),("lower","name"),("least","name"),("speed","name new"),("move","name share share share share share share"),("same","name name"),("hull","name"),("box","name"),("part","name name"),("meet","name name level"),("join","name name")]
def a3m:List (Key×V):=b5s.map fun p=>(.inr p.1,.str p.2)
def KD(first:Str)(n:Nat)(ks:List Str):Prop:=(first = "curve" ∧ 2≤n∧n≤13∧ks=("new" : Str)::c6i (n - 1) ("point" : Str))∨(first ≠ "curve" ∧ ∃ f,valV a3m (.inr first)=some (.str f)∧a8m f=ks∧ks.length=n∧f.length≤1000∧(Builtin.Str.spaceWords f (f.length+1)).length≤1000)
def rowT(first:Str)(ds:List Wd):Str:=Str.join " " (first::ds.map Wd.tx)
section
variable {α:Type}
def getA(cs:List (Str×α))(n:Str):Option α:=(cs.find? fun c=>decide (c.1=n)).map (·.2)
def putA(cs:List (Str×α))(n:Str)(x:α):List (Str×α):=if (cs.any fun c=>decide (c.1=n))=true then cs.map (fun c=>if c.1=n then (c.1,x) else c) else cs++[(n,x)]
def KvR(R:V→α→Prop):List (Key×V)→List (Str×α)→Prop:=Paired fun kv c=>kv.1=.inr c.1∧R kv.2 c.2
theorem KvR.mono{R S:V→α→Prop}{kvs:List (Key×V)}{cs:List (Str×α)}(h:KvR R kvs cs)(f:∀ v x,R v x→S v x):KvR S kvs cs:=Paired.mapP h fun _ _ z=>⟨z.1,f _ _ z.2⟩
theorem KvR.keys{R:V→α→Prop}{kvs:List (Key×V)}{cs:List (Str×α)}(h:KvR R kvs cs):kvs.map (·.1)=(cs.map (·.1)).map Sum.inr:=by
 unfold KvR at h
 induction h with
 | nil=>rfl
 | cons h t ih=>rw[c6f,c6f,c6f,ih,h.1]
theorem KvR.length{R:V→α→Prop}{kvs:List (Key×V)}{cs:List (Str×α)}(h:KvR R kvs cs):kvs.length=cs.length:=by
 have:=congrArg c8f h.keys
 simpa using this
theorem KvR.val{R:V→α→Prop}{kvs:List (Key×V)}{cs:List (Str×α)}(h:KvR R kvs cs)(n:Str):(getA cs n=none∧valV kvs (.inr n)=none)∨∃ x v,getA cs n=some x∧valV kvs (.inr n)=some v∧R v x:=by
 unfold KvR at h
 induction h with
 | nil=>exact .inl ⟨rfl,rfl⟩
 | @cons p q ps qs h t ih=>
   by_cases e:q.1=n
   · refine .inr ⟨q.2,p.2,?_,a7o (by rw[h.1,e]),h.2⟩
     simp[getA,c8g,e]
   · have e1:getA (q::qs) n=getA qs n:=by simp[getA,c8g,e]
     rw[e1,a7p (by rw[h.1];intro z;exact e (Sum.inr.inj z))]
     exact ih
theorem KvR.there{R:V→α→Prop}{kvs:List (Key×V)}{cs:List (Str×α)}(h:KvR R kvs cs){n:Str}{x:α}(e:getA cs n=some x):∃ v,valV kvs (.inr n)=some v∧R v x:=by
 rcases h.val n with⟨e1,_⟩ | ⟨y,v,e1,e2,e3⟩
 · rw[e] at e1;cases e1
 · rw[e] at e1;cases e1;exact⟨v,e2,e3⟩
theorem KvR.put{R:V→α→Prop}{kvs:List (Key×V)}{cs:List (Str×α)}(h:KvR R kvs cs)(n:Str){v:V}{x:α}(hv:R v x):KvR R (putK kvs (.inr n) v) (putA cs n x):=by
 have e:(kvs.any fun kv=>decide (kv.1=.inr n))=(cs.any fun c=>decide (c.1=n)):=by
   unfold KvR at h
   induction h with
   | nil=>rfl
   | cons h t ih=>
     rw[c9f,c9f,ih,h.1]
     congr 1
     exact decide_eq_decide.mpr ⟨fun z=>Sum.inr.inj z,fun z=>by rw[z]⟩
 unfold putK putA
 rw[e]
 by_cases q:(cs.any fun c=>decide (c.1=n))=true
 · rw[if_pos q,if_pos q]
   clear q e
   unfold KvR at h ⊢
   induction h with
   | nil=>exact .nil
   | @cons p r ps rs h t ih=>
     rw[c6f,c6f]
     refine .cons ?_ ih
     by_cases z:r.1=n
     · rw[if_pos (by rw[h.1,z]),if_pos z];exact⟨h.1,hv⟩
     · rw[if_neg (by rw[h.1];intro y;exact z (Sum.inr.inj y)),if_neg z];exact h
 · rw[if_neg q,if_neg q]
   exact Paired.snoc h ⟨rfl,hv⟩
theorem b7k(cs:List (Str×α))(n:Str)(x:α):(putA cs n x).length≤cs.length+1:=by
 unfold putA
 split
 · rw[c5u];omega
 · rw[c6m];simp
theorem getA_pos{c:Str×α}{cs:List (Str×α)}{n:Str}(e:c.1=n):getA (c::cs) n=some c.2:=by simp[getA,c8g,e]
theorem b9c{c:Str×α}{cs:List (Str×α)}{n:Str}(e:¬ c.1=n):getA (c::cs) n=getA cs n:=by simp[getA,c8g,e]
theorem b9l(n:Str):∀ cs:List (Str×α),(cs.any fun c=>decide (c.1=n))=(getA cs n).isSome
 | []=>rfl
 | c::cs=>by
   rw[c9f]
   by_cases e:c.1=n
   · rw[getA_pos e,decide_eq_true e];rfl
   · rw[b9c e,decide_eq_false e,Bool.false_or];exact b9l n cs
end
def Ex(d:Addr)(H H':Hp):Prop:=∀ b o,b≠d→H b=some o→H' b=some o
def CvV(H:Hp)(v:V)(ps:List Pt):Prop:=∃ (l:Addr) (ws:List V),v=.ref l∧H l=some (.lst ws)∧PtsV H ws ps
def a5s(H:Hp)(d:Addr)(cs:List (Str×List Pt)):Prop:=∃ kvs,H d=some (.dK kvs)∧KvR (CvV H) kvs cs∧cs.length≤40
end Cv
namespace Cv
open PySem PySem.Spec PyProof.Rows L2
def b6j(w:World)(es:Array DictEntry)(kvs:List (Key×V)):Prop:=Paired (fun (e:DictEntry) (kv:Key×V)=>b5o kv.1 e.key=true∧e.hash=keyH w kv.1∧RelV kv.2 e.val) es.toList kvs
theorem c0p{P:Program}{w:World}{es:List DictEntry}{kvs:List (Key×V)}(h:Paired (fun (e:DictEntry) (kv:Key×V)=>b5o kv.1 e.key=true∧e.hash=keyH w kv.1∧RelV kv.2 e.val) es kvs) :
   ∃ vs,KV kvs vs∧Pairs (a2i P w) es vs∧vs.map (·.1)=kvs.map (·.1)∧∀ e∈es,∃ k,(a2i P w).is k e.key=true∧e.hash=(a2i P w).hash k:=by
 induction h with
 | nil=>exact⟨[],.nil,.nil,rfl,fun e he=>nomatch he⟩
 | @cons e kv es kvs h t ih=>
   obtain⟨vs,h1,h2,h3,h4⟩:=ih
   refine⟨(kv.1,e.val)::vs,.cons ⟨rfl,h.2.2⟩ h1,.cons h.1 rfl h2,by rw[c6f,c6f,h3],fun e' he=>?_⟩
   rcases c6e.mp he with rfl | he
   · exact⟨kv.1,h.1,h.2.1⟩
   · exact h4 e' he
theorem dkn_of{P:Program}{w:World}{K:c5t}{a:Addr}{es:Array DictEntry}{ep:Nat}{kvs:List (Key×V)}(l:K.lookup a=some ⟨.type "dict",none,.dict es ep,#[]⟩)(h:b6j w es kvs)(hn:(kvs.map (·.1)).Nodup)(ha:(a == sysModules)=false):DKn P w K a kvs:=fun hp KX=>by
 obtain⟨vs,h1,h2,h3,h4⟩:=c0p (P:=P) h
 exact⟨ha,vs,h1,⟨.type "dict",none,.dict es ep,#[]⟩,es,ep,KX _ _ l,⟨rfl,rfl,rfl⟩,rfl,fun e he=>h4 e (Array.mem_toList_iff.mpr he),h2,by rw[h3];exact hn⟩
section
variable {X:Cx} {CX:CXT} {k j:Nat} {ps:List Str} {sp:Sp} {E:XK} {x:Str} {C:Addr} {p pos:Pos}
theorem pe_mk0(T:ClsK X.K X.mg x C)(D:a8l X.prog X.w X.K X.mg X.base CX k C "__init__" ps sp)(hr:Room j X.A)(hx:a4r CX X E)(hk:k+1≤j:=by decide)(hg:Gl X x:=by rfl)(hdb:(x == ("__debug__" : Str))=false:=by decide):PE X (.Call (.Name x p) [] [] pos) (tMk C sp E tNil):=by
 obtain⟨f,fd,F,hm,hb⟩:=D.ex
 intro pins s σ H Q I h
 have q:=pe_make0 (X:=X) (p:=p) (pos:=pos) ⟨T.makes,hm.at_,hm.fn,T.kp⟩ F (hr.mono hk) hg T.at_ hb .nil hx hdb
 refine q pins s σ H Q I ?_
 exact h
theorem pe_mk0I(T:ClsK X.K X.mg x C)(D:a8l X.prog X.w X.K X.mg X.base CX k C "__init__" ps sp)(hr:Room j X.A)(hx:a4r CX X E)(hk:k+1≤j:=by decide)(hg:Gl X x:=by rfl)(hdb:(x == ("__debug__" : Str))=false:=by decide):PEi X (.Call (.Name x p) [] [] pos) (tMk C sp E tNil):=by with_unfolding_all exact pe_mk0 T D hr hx hk hg hdb
end
section
variable {X:Cx}
def tTrD(t:TE):TT:=fun σ H Q=>t σ H fun x H1=>∃ (a:Addr) (kvs:List (Key×V)),x=.ref a∧Rd H1 a (.dK kvs)∧Q (!kvs.isEmpty) H1
theorem pt_dict{e:Expr}{t:TE}(h:PE X e t)(he:∀ whole,isTrue e X.env whole=(do let v ← whole;standAt e.pos;holding [v] (truthy v)):=by intro _;rfl):PT X e (tTrD t):=by
 intro pins s σ H Q I hw
 refine isTrue_plain (thn (h pins s σ H _ I hw) fun v s1 ⟨x,H1,I1,r1,q1⟩=>?_) (he _)
 obtain⟨a,kvs,rfl,hR,q⟩:=q1
 cases r1
 exact d_truth I1 hR fun s' I'=>⟨H1,I',q⟩
theorem pt_dictI{e:Expr}{t:TE}(h:PEi X e t)(he:∀ whole,isTrue e X.env whole=(do let v ← whole;standAt e.pos;holding [v] (truthy v)):=by intro _;rfl):PTi X e (tTrD t):=by with_unfolding_all exact pt_dict (h:=h) (he:=he)
end
end Cv
namespace Cv
open PySem PySem.Spec PyProof.Rows L2
theorem Ex.of_same{d:Addr}{H H':Hp}(s:Same H H'):Ex d H H':=fun b o _ e=>s b o e
theorem Ex.trans{d:Addr}{H H1 H2:Hp}(a:Ex d H H1)(b:Ex d H1 H2):Ex d H H2:=fun c o n e=>b c o n (a c o n e)
theorem Ex.put{d:Addr}{H:Hp}{o:HO}:Ex d H (upd H d o):=fun b u n e=>by rw[a1a n];exact e
theorem Ex.tup{d:Addr}{H H':Hp}{kvs:List (Key×V)}(h:Ex d H H')(hd:H d=some (.dK kvs)):Tup H H':=fun a xs e=>h a _ (b0w e hd (fun z=>nomatch z)) e
theorem Ex.lst{d l:Addr}{H H':Hp}{kvs:List (Key×V)}{ws:List V}(h:Ex d H H')(hd:H d=some (.dK kvs))(e:H l=some (.lst ws)):H' l=some (.lst ws):=h l _ (b0w e hd (fun z=>nomatch z)) e
theorem CvV.same{H H':Hp}{v:V}{ps:List Pt}(h:CvV H v ps)(s:Same H H'):CvV H' v ps:=by
 obtain⟨l,ws,e,hl,hP⟩:=h
 exact⟨l,ws,e,s _ _ hl,hP.same s⟩
theorem CvV.ex{d:Addr}{H H':Hp}{v:V}{ps:List Pt}{kvs:List (Key×V)}(h:CvV H v ps)(s:Ex d H H')(hd:H d=some (.dK kvs)):CvV H' v ps:=by
 obtain⟨l,ws,e,hl,hP⟩:=h
 exact⟨l,ws,e,s.lst hd hl,hP.tup (s.tup hd)⟩
theorem a5s.same{H H':Hp}{d:Addr}{cs:List (Str×List Pt)}(h:a5s H d cs)(s:Same H H'):a5s H' d cs:=by
 obtain⟨kvs,hd,hK,hl⟩:=h
 exact⟨kvs,s _ _ hd,hK.mono fun v x r=>r.same s,hl⟩
theorem a5s.put{H:Hp}{d l:Addr}{cs:List (Str×List Pt)}{kvs:List (Key×V)}{n:Str}{ws:List V}{ps:List Pt}(hd:H d=some (.dK kvs))(hK:KvR (CvV H) kvs cs)(hc:cs.length<40)(hl:H l=some (.lst ws))(hP:PtsV H ws ps) :
   a5s (upd H d (.dK (putK kvs (.inr n) (.ref l)))) d (putA cs n ps):=by
 refine⟨_,a0h,((hK.mono fun v x r=>r.ex Ex.put hd).put n (CvV.ex ⟨l,ws,rfl,hl,hP⟩ Ex.put hd)),?_⟩
 have:=b7k cs n ps
 omega
def b3p(d:Addr):List (Str×V):=putF "kept" (.ref d) []
theorem b3o(d:Addr):(b3p d).lookup ("kept" : Str)=some (.ref d):=by
 unfold b3p
 rw[a6k,if_pos rfl]
theorem kept_no(d:Addr){m:Str}(h:¬ m = "kept"):(b3p d).lookup m=none:=by
 unfold b3p
 rw[a6k,if_neg h];rfl
def a4v(C:Addr)(H:Hp)(x d:Addr)(cs:List (Str×List Pt)):Prop:=(∃ dx,H x=some (.ins C dx (b3p d)))∧a5s H d cs
theorem a4v.same{C:Addr}{H H':Hp}{x d:Addr}{cs:List (Str×List Pt)}(h:a4v C H x d cs)(s:Same H H'):a4v C H' x d cs:=by
 obtain⟨⟨dx,hx⟩,hD⟩:=h
 exact⟨⟨dx,s _ _ hx⟩,hD.same s⟩
theorem a4v.own{C:Addr}{H H':Hp}{x d:Addr}{cs cs':List (Str×List Pt)}(h:a4v C H x d cs)(s:Ex d H H')(h':a5s H' d cs'):a4v C H' x d cs':=by
 obtain⟨⟨dx,hx⟩,kvs,hd,_⟩:=h
 exact⟨⟨dx,s _ _ (b0w hx hd (fun z=>nomatch z)) hx⟩,h'⟩
def c2b(C:Addr):Sp:=fun vs H Q _=>∃ x dx,vs=[.ref x]∧H x=some (.ins C dx [])∧∀ (d:Addr) (H1:Hp),Same H H1→H d=none→H1 d=some (.dK [])→Q .non (upd H1 x (.ins C dx (b3p d)))
def b8o:Sp:=fun vs H Q _=>∃ (d lt:Addr) (cs:List (Str×List Pt)) (n:Str) (ws:List V) (ps:List Pt),vs=[.ref d,.ref lt]∧a5s H d cs∧cs.length<40∧H lt=some (.lst (.str n::ws))∧PtsV H ws ps∧ps.length≤100∧∀ H',Ex d H H'→a5s H' d (putA cs n ps)→Q (.str "ok") H'
def b2h:Sp:=fun vs H Q _=>∃ (d lt:Addr) (cs:List (Str×List Pt)) (n:Str) (ps:List Pt),vs=[.ref d,.ref lt]∧a5s H d cs∧H lt=some (.lst [.str n])∧getA cs n=some ps∧(∀ p∈ps,FgP 1000 p)∧ps.length≤100∧∀ H',Same H H'→Q (.str (tCv ps)) H'
def b2i:Sp:=fun vs H Q _=>∃ (d lt:Addr) (cs:List (Str×List Pt)),vs=[.ref d,.ref lt]∧a5s H d cs∧((cs=[]∧∀ H',Same H H'→Q (.str "none") H')∨(cs≠[]∧(∀ c∈cs,c.1.length≤12)∧∀ ss' H',Same H H'→ss'.Perm (cs.map (·.1))→sortedS ss'=true→Q (.str (Str.join " " ss')) H'))
end Cv
namespace Cv
open PySem PySem.Spec PyProof.Rows L2
theorem Same.ex_left{d:Addr}{H H' H'':Hp}(s:Same H H')(e:Ex d H' H''):Ex d H H'':=fun b o n h=>e b o n (s b o h)
end Cv
namespace Cv
open PySem PySem.Spec PyProof.Rows L2
def spLTxP:Sp:=fun vs H Q _=>∃ (v:V) (x y:Rat),vs=[v]∧PtV H v x y∧FgP 300 (x,y)∧Q (.str (tPt (x,y))) H
theorem let_at{i:Int}(h0:0≤i)(h1:i<26):∃ c,atI ("abcdefghijklmnopqrstuvwxyz" : Str).cps.toList i=some c∧97≤c∧c≤122:=by
 have hl:∀ j,j<26→("abcdefghijklmnopqrstuvwxyz" : Str).cps.toList[j]?=some (97+j):=by decide +kernel
 refine⟨97+i.toNat,?_,by omega,by omega⟩
 exact a8j (j:=i.toNat) (by omega) (hl _ (by omega))
def Lt(s:Str):Prop:=∀ c∈cp s,97≤c∧c≤122
theorem lt_empty:Lt "":=fun c h=>by rw[show cp ("" : Str)=[] from rfl] at h;cases h
theorem c4d{s:Str}{c:Nat}(h:Lt s)(hc:97≤c∧c≤122):Lt (s++⟨#[c]⟩):=fun d hd=>by
 rw[a1q] at hd
 rcases c7t.mp hd with hd | hd
 · exact h d hd
 · have:d=c:=by simpa [cp] using hd
   rw[this];exact hc
theorem b8y(s:Str)(c:Nat):(s++(⟨#[c]⟩ : Str)).length=s.length+1:=by rw[a2e];rfl
theorem jn_nil:∀ ls:List (List Nat),jn [] ls=ls.flatten
 | []=>rfl
 | [a]=>by simp[jn]
 | a::b::r=>by
   show a++[]++jn [] (b::r)=_
   rw[jn_nil (b::r)];simp
theorem c3t{ts:List Str}(h:∀ t∈ts,∃ c,t=⟨#[c]⟩∧97≤c∧c≤122):(Str.join "" ts).length=ts.length∧Lt (Str.join "" ts):=by
 have e:cp (Str.join "" ts)=(ts.map cp).flatten:=by
   exact (a6l "" ts).trans (jn_nil _)
 constructor
 · rw[← a1x,e]
   clear e
   induction ts with
   | nil=>rfl
   | cons t r ih=>
     obtain⟨c,rfl,_⟩:=h t (by simp)
     rw[c6f,c9g,c6m,ih fun t ht=>h t (by simp[ht])]
     show 1+_=_
     rw[c6z];omega
 · intro d hd
   rw[e] at hd
   obtain⟨l,hl,hd⟩:=List.mem_flatten.mp hd
   obtain⟨t,ht,rfl⟩:=c7d.mp hl
   obtain⟨c,rfl,hc⟩:=h t ht
   have:d=c:=by simpa [cp] using hd
   rw[this];exact hc
theorem nm_slice{s:Str}{j:Int}(h:Lt s)(h0:1≤j)(h1:j≤(s.length:Int))(h12:j≤12):Nm (StrLaws.sliceText s none (some j)):=by
 have hl:s.cps.toList.length=s.length:=a1x s
 rw[StrLaws.sliceText_to ⟨by omega,by rw[hl];exact h1⟩]
 have e:cp (⟨(List.take (j - 0).toNat (List.drop 0 s.cps.toList)).toArray⟩ : Str)=(cp s).take j.toNat:=by
   show (List.take (j - 0).toNat (List.drop 0 s.cps.toList))=_
   rw[List.drop_zero]
   congr 1
   omega
 refine⟨?_,?_,fun c hc=>h c (List.mem_of_mem_take (by rw[← e];exact hc))⟩
 · rw[← a1x,e,c8i,a1x];omega
 · rw[← a1x,e,c8i,a1x];omega
theorem c3s:∀ {ys:List V},(∀ (i:Nat) v,ys[i]?=some v→∃ c,v=.str ⟨#[c]⟩∧97≤c∧c≤122)→∃ ts:List Str,ys=ts.map V.str∧∀ t∈ts,∃ c,t=⟨#[c]⟩∧97≤c∧c≤122
 | [],_=>⟨[],rfl,fun t h=>nomatch h⟩
 | v::ys,h=>by
   obtain⟨c,rfl,hc⟩:=h 0 v rfl
   obtain⟨ts,rfl,ht⟩:=c3s fun i v e=>h (i+1) v e
   exact⟨⟨#[c]⟩ :: ts,rfl,fun t hh=>by
     rcases c6e.mp hh with rfl | hh
     · exact⟨c,rfl,hc⟩
     · exact ht t hh⟩
end Cv
namespace Cv
open PySem PySem.Spec PyProof.Rows L2
abbrev Bk:=Int×List Pl
structure Gd(b:Bk):Prop where
 b1:1≤b.1
 b2:b.1≤1000000007
 n1:1≤b.2.length
 n6:b.2.length≤6
 sz:SzQ 110 b.2
def Ex2(d b:Addr)(H H':Hp):Prop:=∀ a o,a≠d→a≠b→H a=some o→H' a=some o
theorem Ex2.of_l{d b:Addr}{H H':Hp}(s:Ex d H H'):Ex2 d b H H':=fun c o n _ e=>s c o n e
section
variable {b:Bk}
theorem Gd.zB(h:Gd b):Sz 31 b.1:=⟨by show _<2^31;have:=h.b1;have:=h.b2;omega⟩
theorem Gd.ov(h:Gd b):∀ p∈a6s b.1 b.2,OvP b.1 110 p:=ptsOf_ov (by have:=h.b1;omega) h.sz
theorem Gd.bd(h:Gd b):∀ p∈a6s b.1 b.2,Bd 110 p.1∧Bd 110 p.2:=fun p hp=>ovp_bd4 (by have:=h.b1;omega) h.zB (h.ov p hp) 110 (by decide) (by decide)
theorem Gd.fg(h:Gd b):∀ p∈a6s b.1 b.2,FgP 100 p:=fun p hp=>⟨fg_bd ((h.bd p hp).1.mono (by decide)),fg_bd ((h.bd p hp).2.mono (by decide))⟩
end
theorem c2p{n:Str}{ps:List Pt}(h:1≤ps.length) : "curve " ++ n ++ " " ++ tCv ps=rowT "curve" (.nm n::ps.map .pt):=by
 refine a2p ?_
 cases ps with
 | nil=>simp at h
 | cons p r=>
   have e1:cp (tCv (p::r))=jn [32] (((p::r).map tPt).map cp):=a6l " " _
   have e2:cp (rowT "curve" (.nm n::(p::r).map .pt))=jn [32] ((("curve" : Str)::(Wd.nm n::(p::r).map .pt).map Wd.tx).map cp):=a6l " " _
   rw[e2,a1q,a1q,a1q,e1]
   have e3:((p::r).map Wd.pt).map Wd.tx=(p::r).map tPt:=by rw[List.map_map];rfl
   rw[c6f (f:=Wd.tx),e3]
   show [99,117,114,118,101,32]++cp n++[32]++jn [32] (cp (tPt p)::(r.map tPt).map cp)=[99,117,114,118,101]++[32]++(cp n++[32]++jn [32] (cp (tPt p)::(r.map tPt).map cp))
   simp
theorem Ex2.lst{d b l:Addr}{H H':Hp}{k1 k2:List (Key×V)}{ws:List V}(h:Ex2 d b H H')(hd:H d=some (.dK k1))(hb:H b=some (.dK k2))(e:H l=some (.lst ws)):H' l=some (.lst ws):=h l _ (b0w e hd (fun z=>nomatch z)) (b0w e hb (fun z=>nomatch z)) e
theorem a5s.at{H:Hp}{d:Addr}{cs:List (Str×List Pt)}(h:a5s H d cs):∃ kvs,H d=some (.dK kvs):=by obtain⟨k,h,_⟩:=h;exact⟨k,h⟩
theorem a4v.made{C:Addr}{H2 H3:Hp}{x dx d:Addr}(hx:H2 x=some (.ins C dx []))(hd0:H2 d=none)(hd:H3 d=some (.dK [])):a4v C (upd H3 x (.ins C dx (b3p d))) x d []:=
 ⟨⟨dx,a0h⟩,[],by rw[a1a (Ne.symm (a0x hx hd0))];exact hd,.nil,by decide⟩
theorem SqL.ex2{K:c5t}{d b l:Addr}{H H':Hp}{k1 k2:List (Key×V)}{xs:List V}(q:SqL K H l xs)(h:Ex2 d b H H')(hd:H d=some (.dK k1))(hb:H b=some (.dK k2)):SqL K H' l xs:=by
 rcases q with (e | ⟨o,e⟩) | q
 · exact .inl (.inl (h.lst hd hb e))
 · exact .inl (.inr ⟨o,h _ _ (b0w e hd (fun z=>nomatch z)) (b0w e hb (fun z=>nomatch z)) e⟩)
 · exact .inr q
end Cv
namespace Cv
open PySem PySem.Spec PyProof.Rows L2
section
variable {M:Model} {A:Around} {E:Value→Shared→Prop} {s:Shared} {B:Heap} {env:Env} {outer:List Env} {L e:Addr}
theorem setX{l:List Env}{cls fl:Value}{Q:Unit→Shared→Prop}(fr:Option Addr)(x:FlyX B l e cls fl s.heap)(k:∀ h' fl',FlyX B l e cls fl' h'→s.heap.UpToSlots h'→Q () { s with heap:=h' }):wpAny M A (setFlight (.ref e) fr) Q E s:=by
 obtain⟨oe,vs,T,oT,ts,⟨a1,a2,a3,a4⟩,⟨b1,b2⟩,⟨c1,c2⟩,d1,d2,d3⟩:=x.tr.ex
 have t3:3<ts.size:=(c8o.mp d3).1
 unfold setFlight
 refine wpAny_bind (wpAny_field a1 a3 b2 ?_)
 rw[if_pos (by simp:(Value.ref T != Value.none)=true)]
 refine wpAny_setField d1 d2 t3 (k _ (fr.elim Value.none fun f=>rawInt f) ?_ ?_)
 all_goals
   have ot:∀ c,c≠T→(s.heap.update T (Obj.mapFields (·.setIfInBounds 3 (fr.elim Value.none fun f=>rawInt f)))).get? c=s.heap.get? c:=fun c q=>Heap.get?_update_other _ _ (Ne.symm q)
   have nr:∀ c o,s.heap.get? c=some o→(∀ us,o.data≠.fields us)→c≠T:=fun c o z nf q=>by
     subst q;cases d1.symm.trans z;exact nf ts d2
 · exact⟨fun c o z=>(ot c fun q=>by rw[q,c1] at z;cases z).trans (x.stays c o z),x.new,x.frames.of_keeps fun c o z nf=>⟨o,(ot c (nr c o z nf)).trans z,rfl⟩,
     ⟨oe,vs,T,_,_,⟨(ot e (Ne.symm c2)).trans a1,a2,a3,a4⟩,⟨b1,b2⟩,⟨c1,c2⟩,Heap.get?_update_self _ d1 (Obj.isFreed_of_fields (Obj.data_mapFields d2 _)),Obj.data_mapFields d2 _,by simp[t3]⟩⟩
 · exact fun c o z nf=>⟨o.slots,(ot c (nr c o z nf)).trans z⟩
theorem noteA{cls fl:Value}{Q:Unit→Shared→Prop}(hfr:A.frames=some (env::outer))(hf:env.frame=some L)(x:FlyX B (env::outer) e cls fl s.heap)(k:∀ h' fl',FlyX B (env::outer) e cls fl' h'→s.heap.UpToSlots h'→Q () { s with heap:=h' }):wpAny M A (noteFrame (.ref e) env) Q E s:=by
 obtain⟨oe,vs,T,oT,ts,⟨a1,a2,a3,a4⟩,⟨b1,b2⟩,⟨c1,c2⟩,d1,d2,d3⟩:=x.tr.ex
 subst a2
 have t3:3<ts.size:=(c8o.mp d3).1
 unfold noteFrame
 simp only[hf]
 refine wpAny_bind (wpAny_field a1 a3 b2 ?_)
 rw[if_pos (by simp:(Value.ref T != Value.none)=true)]
 refine wpAny_bind (wpAny_field d1 d2 d3 ?_)
 by_cases hm:(fl == rawInt L)=true
 · rw[if_pos hm]
   exact wpAny_pure (k s.heap fl x fun c o z nf=>⟨o.slots,z⟩)
 rw[if_neg hm]
 refine wpAny_bind (wpAny_setField d1 d2 t3 ?_)
 have ot:∀ c,c≠T→(s.heap.update T (Obj.mapFields (·.setIfInBounds 3 Value.none))).get? c=s.heap.get? c:=fun c q=>Heap.get?_update_other _ _ (Ne.symm q)
 have nr:∀ c o,s.heap.get? c=some o→(∀ us,o.data≠.fields us)→c≠T:=fun c o z nf q=>by
   subst q;cases d1.symm.trans z;exact nf ts d2
 refine entX hfr hf (fun c o z=>(ot c fun q=>by rw[q,c1] at z;cases z).trans (x.stays c o z)) x.new (x.frames.of_keeps fun c o z nf=>⟨o,(ot c (nr c o z nf)).trans z,rfl⟩) ((ot e (Ne.symm c2)).trans a1) a3 a4 b1 fun h' f u=>k h' _ f ?_
 exact fun c o z nf=>u c o ((ot c (nr c o z nf)).trans z) nf
theorem leaveA{cls fl:Value}{Q:Unit→Shared→Prop}(hfr:A.frames=some (env::outer))(hf:env.frame=some L)(x:FlyX B (env::outer) e cls fl s.heap)(k:∀ h',FlyX B outer e cls .none h'→s.heap.UpToSlots h'→Q () { s with heap:=h' }):wpAny M A (leaving env (.ref e)) Q E s:=by
 unfold leaving
 exact wpAny_bind (noteA hfr hf x fun h1 _ f1 u1=>offX f1 fun h2 f2 u2=>k h2 f2.tail (u1.trans u2))
end
def b2f(X:Cx)(E:XK):Prop:=∀ (x:Addr) (cls fl:Value) (H':Hp) (B:Heap) (s':Shared),X.Ok→s'.os=X.s₀.os→AllBare s'.gens→UnB X.fs X.H₀ H' X.s₀.heap B s'.heap→HOk X.prog X.w H' B→FlyX B X.stack x cls fl s'.heap→E cls none H'→X.xe (.ref x) s'
section
variable {P:Program} {w:World} {K:c5t} {mg:Str→Option Value} {base:Heap} {N:List Str} {qual:Str} {scope:Scope} {f:Addr} {cd:Value} {A:Around} {outer:List Env} {s:Shared} {H:Hp} {E:XK}
theorem c4s:b2f (cxOf (CXx P w) P w K mg base N qual scope f cd A outer s H E) E:=by
 intro x cls fl H' B s' ok hos hb u hok hfl hE
 have hfr:(cxOf (CXx P w) P w K mg base N qual scope f cd A outer s H E).A.frames=some (cxOf (CXx P w) P w K mg base N qual scope f cd A outer s H E).stack:=ok.frames
 refine leaveA hfr rfl hfl fun h'' x1 x2=>?_
 refine⟨x,cls,H',B,rfl,hos,hb,u.on (fun b hb o e vs=>?_) x2,hok,x1,hE⟩
 obtain⟨_,o',e',d⟩:=ok.funs.mem hb
 rw[e] at e'
 cases e'
 exact d vs
end
abbrev a2u(X:Cx)(E:XK)(scope:Scope)(cl:List (Str×Addr))(Nc:List Str)(C:Addr)(s0:Shared)(H0:Hp)(fp:List Addr):Cx where
 prog:=X.prog
 w:=X.w
 K:=X.K
 mg:=X.mg
 base:=X.base
 A:=X.A
 N:=Nc
 s₀:=s0
 H₀:=H0
 env:=compEnvC scope cl C X.env
 outer:=X.stack
 stack:=X.stack
 ex:=fp
 fn:=fun _=>false
 calm:=X.calm
 pn:=[]
 xe:=fun e s'=>∃ H s,s.os=s0.os∧Un (frs X.stack) fp H0 H s0.heap s.heap∧H C=none∧(∃ m,s.heap.Ns C m)∧CXx X.prog X.w X.stack H s E e s'
theorem b6z{X:Cx}{E:XK}{scope:Scope}{cl:List (Str×Addr)}{Nc:List Str}{C:Addr}{s0:Shared}{H0:Hp}{fp:List Addr}:a4r (CXx X.prog X.w) (a2u X E scope cl Nc C s0 H0 fp) E:=fun pins σ H s e s' I h=>by
 obtain⟨m,hm,_⟩:=I.loc
 exact⟨H,s,I.os,I.base,I.free,⟨m,hm⟩,h⟩
theorem b1e{B:Heap}{C b:Addr}(h:B.get? b=none):(c8b B [C]).get? b=none:=by
 cases q:(c8b B [C]).get? b with
 | none=>rfl
 | some o=>rw[d0c _ q] at h;cases h
theorem b1g{B h h':Heap}{C:Addr}{oc:Obj}(hB:B.get? C=some oc)(sb:Heap.SameBut C h h'):∀ {l:List Env},h.FunFrames B l→h'.FunFrames (c8b B [C]) l
 | [],_=>trivial
 | env::_,⟨hk,⟨L,o,hf,hn,ho,hd⟩,hr⟩=>⟨hk,⟨L,o,hf,b1e hn,(sb.2 L (fun z=>by rw[z,hB] at hn;cases hn)).trans ho,hd⟩,b1g hB sb hr⟩
section
variable {X:Cx}
theorem comp_err{E:XK}{scope:Scope}{cl:List (Str×Addr)}{Nc:List Str}{C D:Addr}{s3:Shared}{H3:Hp}{fp:List Addr}{pins:List (Addr×Obj)}{σ:L2.St}{use:Option (Value→Sem Unit)}{R:Value→Shared→Prop}(hX:b2f X E)(hst:X.stack=X.env::X.outer)(hex:X.ex=[])(I3:Inv X pins σ H3 s3)(hC:s3.heap.objs.size≤C)(hfp:∀ b∈fp,X.s₀.heap.objs.size≤b):∀ e s',(a2u X E scope cl Nc C s3 H3 fp).xe e s'→notedBy (model X.prog X.w) X.A (compEnvC scope cl C X.env) (fun e s''=>compPost (model X.prog X.w) X.A X.xe use R (.ref D) C (.error e) s'') e s':=by
 rintro e s' ⟨H,s,hos,hU,hCn,⟨m,hm⟩,x,cls,H',B,rfl,hos',hb,u,hok,hfl,hE⟩
 have hfr:X.env.frame=some X.env.locals:=by
   rcases I3.ok.stk with z | z
   · have:=congrArg c8f (hst.symm.trans z)
     simp at this
   · exact z.2
 have nx:∀ b,b∉X.ex:=fun b z=>by rw[hex] at z;cases z
 have hs:frs X.stack=X.env.locals::X.fs:=by
   rw[hst];unfold frs;rw[c9j,hfr];rfl
 have hCs:C∉frs X.stack:=fun z=>by
   obtain⟨_,o,q,_⟩:=I3.stack.mem z
   exact absurd (c6j (Heap.lt_size q) hC) (c8d _)
 obtain⟨oc,es,ep,hoc,hdd,hod⟩:=id hm
 have hBC:=u.keep C oc hoc hCn hCs
 have ne:∀ b o,X.s₀.heap.get? b=some o→b≠X.env.locals:=fun b o e=>c6s (c6j (Heap.lt_size e) I3.ok.above)
 have nin:∀ b o,X.s₀.heap.get? b=some o→b∉X.fs→b∉frs X.stack:=fun b o e hb z=>by
   rw[hs] at z
   rcases c6e.mp z with z | z
   · exact ne b o e z
   · exact hb z
 have nfp:∀ b o,X.s₀.heap.get? b=some o→b∉fp:=fun b o e z=>absurd (c6j (Heap.lt_size e) (hfp b z)) (c8d _)
 have nC:∀ b o,X.s₀.heap.get? b=some o→b≠C:=fun b o e=>c6s (c6j (Heap.lt_size e) (c6x I3.sz hC))
 have uB:UnB X.fs X.H₀ H' X.s₀.heap B s'.heap:=by
   refine⟨fun b o e n hb=>?_,fun b o e n hb=>?_,fun b o e n=>?_,fun b o e hb=>?_,fun b xs q=>u.tups b xs (hU.tups b xs (I3.base.tups b xs q)),fun b o xs q=>u.frzs b o xs (hU.frzs b o xs (I3.base.frzs b o xs q)),fun b ps q=>?_⟩
   · have q1:=I3.base.keep b o e n hb (nx b)
     have n1:=I3.base.free b o e n (nx b)
     exact u.keep b o (hU.keep b o q1 n1 (nin b o e hb) (nfp b o e)) (hU.free b o q1 n1 (nfp b o e)) (nin b o e hb)
   · obtain⟨sl,q1⟩:=I3.base.slot b o e n hb (nx b)
     have n1:=I3.base.free b o e n (nx b)
     have hb':b∈frs X.stack:=by rw[hs];exact c7e _ hb
     obtain⟨sl2,q2⟩:=hU.slot b _ q1 n1 hb' (nfp b o e)
     obtain⟨sl3,q3⟩:=u.slot b _ q2 (hU.free b _ q1 n1 (nfp b o e)) hb'
     exact⟨sl3,q3⟩
   · obtain⟨o1,q1⟩:=I3.base.there b o e (nx b)
     have n1:=I3.base.free b o e n (nx b)
     obtain⟨o2,q2⟩:=hU.there b o1 q1 (nfp b o e)
     exact u.free b o2 q2 (hU.free b o1 q1 n1 (nfp b o e))
   · obtain⟨o1,q1⟩:=I3.base.there b o e (nx b)
     obtain⟨o2,q2⟩:=hU.there b o1 q1 (nfp b o e)
     exact u.there b o2 q2 (nin b o e hb)
   · obtain⟨m1,e1⟩:=I3.base.tbls b ps q
     obtain⟨m2,e2⟩:=hU.tbls b _ e1
     obtain⟨m3,e3⟩:=u.tbls b _ e2
     exact⟨m1++m2++m3,by rw[e3,c9l,c9l,c9l]⟩
 have hf0:∀ b∈X.fs,∀ o,X.s₀.heap.get? b=some o→∀ vs,o.data≠.fields vs:=fun b hb o e vs=>by
   obtain⟨_,o',e',d⟩:=I3.ok.funs.mem hb
   rw[e] at e'
   cases e'
   exact d vs
 have hA:X.A.frames=some (X.env::X.outer):=by rw[I3.ok.frames,hst]
 rw[hst] at hfl
 show wpAny _ _ (noteFrame (.ref x) X.env) _ _ s'
 refine noteA hA hfr hfl fun h1 fl1 f1 up1=>?_
 have fin:∃ m,h1.Ns C m∧∀ h',Heap.SameBut C h1 h'→∀ cenv:Env,cenv.locals=C→wpAny (model X.prog X.w) X.A (PySem.passOn "comprehension.variables-let-go" (.ref x) cenv:Sem Value) (fun _ _=>False) X.xe { s' with heap:=h' }:=by
   refine⟨m,⟨oc,es,ep,f1.stays C oc hBC,hdd,hod⟩,fun h' sb cenv _=>?_⟩
   have ocd:∀ vs,oc.data≠.fields vs:=fun vs z=>by rw[hdd] at z;cases z
   obtain⟨oe,vs,T,oT,ts,⟨a1,a2,a3,a4⟩,⟨b1,b2⟩,⟨c1,c2⟩,d1,d2,d3⟩:=f1.tr.ex
   have hC1:=f1.stays C oc hBC
   have xC:x≠C:=fun z=>by rw[z,hC1] at a1;cases a1;exact ocd vs a3
   have TC:T≠C:=fun z=>by rw[z,hC1] at d1;cases d1;exact ocd ts d2
   have f2:FlyX (c8b B [C]) (X.env::X.outer) x cls fl1 h':=by
     refine⟨fun c o z=>?_,?_,?_,⟨oe,vs,T,oT,ts,⟨(sb.2 x xC).trans a1,a2,a3,a4⟩,⟨b1,b2⟩,⟨?_,c2⟩,(sb.2 T TC).trans d1,d2,d3⟩⟩
     · have hc:c≠C:=fun q=>by rw[q,PySem.W.hideAll_none [C] (by simp)] at z;cases z
       exact (sb.2 c hc).trans (f1.stays c o (d0c _ z))
     · exact b1e f1.new
     · exact b1g hBC sb f1.frames
     · exact b1e c1
   unfold PySem.passOn
   refine wpAny_bind (wpAny_field ((sb.2 x xC).trans a1) a3 b2 ?_)
   rw[if_neg (by simp)]
   refine wpAny_bind (setX _ f2 fun h2 fl2 f3 up2=>?_)
   refine wpAny_throw ?_
   refine hX x cls fl2 H' (c8b B [C]) _ I3.ok (hos'.trans (hos.trans I3.os)) hb ?_ ?_ (by rw[hst];exact f3) hE
   · have u1:=(uB.on hf0 up1)
     have u2:UnB X.fs X.H₀ H' X.s₀.heap (c8b B [C]) h':=⟨fun b o e n hb=>c8n _ (u1.keep b o e n hb) (by simpa using nC b o e),fun b o e n hb=>by
         obtain⟨sl,q⟩:=u1.slot b o e n hb
         exact⟨sl,(sb.2 b (nC b o e)).trans q⟩,u1.free,fun b o e hb=>by
         obtain⟨o',q⟩:=u1.there b o e hb
         exact⟨o',c8n _ q (by simpa using nC b o e)⟩,u1.tups,u1.frzs,u1.tbls⟩
     exact u2.on hf0 up2
   · have hC':H' C=none:=u.free C oc hoc hCn
     exact fun a o e=>(hok a o e).stay (fun b v hb q=>c8n _ q (fun hmm=>by
       have n:=c7b.mp hmm
       subst n
       rcases hb with rfl | hb
       · rw[e] at hC';cases hC'
       · rw[hb] at hC';cases hC')) (fun _ q=>q) fun _ _ q=>q
 cases use<;>exact fin
theorem c0u{tg elt iter:Expr}{os:List Str}{pos ipos:Pos}{scope:Scope}{wi:TI}{g:TG}{te:TE}{caps:List (Nat×Str)}{pins:List (Addr×Obj)}{s:Shared}{σ:L2.St}{H:Hp}{Q:VK}{use:Option (Value→Sem Unit)}{R:Value→Shared→Prop}{E:XK}(hX:b2f X E)(hst:X.stack=X.env::X.outer)(hex:X.ex=[])(hi:PI X tg iter wi)(hg:∀ cl C s0 H0 fp,PG (a2u X E scope cl (os++caps.map (·.2)) C s0 H0 fp) tg g)(he:∀ cl C s0 H0 fp,PE (a2u X E scope cl (os++caps.map (·.2)) C s0 H0 fp) elt te)(hfree:∀ y∈scope.names,y.2=.free→X.env.kindOf y.1=some .cell)(hcap:∀ p∈caps,X.N[p.1]?=some p.2∧X.env.kindOf p.2=some .cell∧((relabel scope X.env).names.lookup p.2=some .cell∨(relabel scope X.env).names.lookup p.2=some .free))(hkind:scope.kind=.function)(hcell:∀ y∈scope.names,y.2≠.cell)(hnames:∀ y∈scope.names,y.2=.local→scope.names.lookup y.1=some .local)(hc:X.calm=true)(hfs:∀ v,foldedSetIterable iter X.env v=pure v)(hfin:∀ D C H5 s6 m6,Inv X pins σ H5 s6→s6.heap.Ns C m6→FpOk X pins H5 C→Q (.ref D) H5→compPost (model X.prog X.w) X.A X.xe use R (.ref D) C (.ok .next) s6)(I:Inv X pins σ H s)(h:a5n os.length wi g te (caps.map (·.1)) σ H Q) :
   wpAny (model X.prog X.w) X.A (comprehension (.ListComp elt [⟨tg,iter,[],0⟩] scope pos) scope X.env ipos (newList []) false (eval iter X.env) use) R X.xe s:=by
 obtain⟨cl,hclos,hcl,hin⟩:=b2c (scope:=scope) (env:=X.env) fun y hy hf=>I.ok.has y.1 (.inl (hfree y hy hf))
 have hhas:∀ y,((relabel scope X.env).names.lookup y=some .cell∨(relabel scope X.env).names.lookup y=some .free)→∃ c,cl.lookup y=some c:=fun y hy=>by
   rcases hy with hy | hy
   · exact hin (y,.free) (a3e (env:=X.env) hcell hy (.inl rfl)) rfl
   · exact hin (y,.free) (a3e (env:=X.env) hcell hy (.inr rfl)) rfl
 refine wpAny_comprehension_free (use:=use) rfl hfs hclos hkind hnames ?_
 refine thn (hi pins s σ H _ I h) fun v s1 h1=>thn h1 fun itv s2 h2=>?_
 obtain⟨it,fp,tn,J,H1,rfl,I2,T,st2,f2,rd⟩:=h2
 refine wpAny_newObj_type ?_ (by show 0≤sizeLine;decide)
 have hD:H1 s2.heap.objs.size=none:=I2.hok.fresh (c6l _)
 obtain⟨W,⟨m0,w0⟩,turn⟩:=rd s2.heap.objs.size hD
 generalize eD:s2.heap.objs.size=D at hD w0 turn
 have I3:Inv X pins σ (upd H1 D (.lst [])) { s2 with heap:=s2.heap.push { cls:=.type "list",data:=.seq ([]:List Value).toArray } }:=by
   subst eD
   exact I2.laid (t':=s2.toks) (fun b u e=>Heap.get?_push_of_some _ e) (c6l _) ⟨c8c _,[],0,.nil,Heap.get?_push_size _ rfl⟩
 generalize e3:({ s2 with heap:=s2.heap.push { cls:=.type "list",data:=.seq ([]:List Value).toArray } }:Shared)=s3 at I3
 have hs3:s3.heap.objs.size=D+1:=by rw[← e3,← eD];simp
 have k23:∀ b o,s2.heap.get? b=some o→s3.heap.get? b=some o:=fun b o e=>by rw[← e3];exact Heap.get?_push_of_some _ e
 refine wpAny_newFunctionEnv hcell (by intro y hy;simp at hy) (fun h4 hn4 hs4=>?_) hkind
 have k34:∀ b o,s3.heap.get? b=some o→h4.get? b=some o:=fun b o e=>(hs4.2 b (c6s (Heap.lt_size e))).trans (Heap.get?_push_of_some _ e)
 generalize eC:s3.heap.objs.size=C at hn4 hs4
 have hfpC:∀ b∈fp,b≠C:=fun b hb z=>by
   obtain⟨o,e,_⟩:=T.obj 0 _ st2 b hb
   have h1:=Heap.lt_size e
   rw[z,← eC,hs3,eD] at h1
   exact absurd h1 (Nat.not_lt.mpr (Nat.le_succ D))
 have hfps:∀ b∈fp,b∉frs X.stack:=fun b hb z=>by
   rcases c6e.mp (I2.stkSub b z) with q | q
   · exact (f2 b hb).2.1 q
   · exact (f2 b hb).2.2.1 q
 have hfpD:∀ b∈fp,b≠D:=fun b hb z=>by
   obtain⟨o,e,_⟩:=T.obj 0 _ st2 b hb
   have h1:=Heap.lt_size e
   rw[z,eD] at h1
   exact c8d _ h1
 have okc:(a2u X E scope cl (os++caps.map (·.2)) C s3 (upd H1 D (.lst [])) fp).Ok:=by
   refine⟨I3.ok.mod,hkind,I3.ok.glob,I3.ok.blt,c9c eC,fun y z c h1 h2=>I3.ok.inj y z c (hcl y c h1) (hcl z c h2),fun y hy=>hhas y hy,fun y c hf=>absurd hf c6k,I3.ok.hd,I3.ok.frames,.inl rfl,
     fun b hb=>⟨hfpC b hb,fun y c e=>(f2 b hb).2.2.2.2.1 y c (hcl y c e)⟩,I3.bs,c6x I3.ok.bsz I3.sz,fun b o e hb=>?_,fun b hb=>hfps b hb,I3.stack,I3.stkFree⟩
   rcases (f2 b hb).2.2.2.1 with z | z
   · exact I3.ok.noex b o e z
   · exact c8d _ (c6j (Heap.lt_size (I3.ok.bs b o e).1) z)
 have capS:(capd σ (caps.map (·.1))).length=caps.length:=by unfold capd;rw[c5u,c5u]
 have Ic:Inv (a2u X E scope cl (os++caps.map (·.2)) C s3 (upd H1 D (.lst [])) fp) [] (c6i os.length none++capd σ (caps.map (·.1))) (upd H1 D (.lst [])) { s3 with heap:=h4,toks:=s3.toks+([]:List (Str×Value)).length }:=by
   refine⟨okc,rfl,I3.bare,Un.kept k34,⟨_,hn4,fun i y v e1 e2 e3'=>?_⟩,fun y c e=>?_,I3.hok.fresh (c9c eC),fun y c e=>I3.freeC y c (hcl y c e),fun p hp=>absurd hp (by simp),I3.hok.kept k34,?_⟩
   · by_cases hik:i<os.length
     · rw[c7c (by rw[c7a];exact hik),c8u] at e2
       split at e2<;>cases e2
     · have e1':(caps.map (·.2))[i - os.length]?=some y:=by
         have z:(os++caps.map (·.2))[i]?=some y:=e1
         rw[c6v (by omega)] at z
         exact z
       have e2':(capd σ (caps.map (·.1)))[i - os.length]?=some (some v):=by
         rw[c6v (by rw[c7a];omega),c7a] at e2
         exact e2
       generalize i - os.length=i at e1' e2'
       rw[c6c] at e1'
       unfold capd at e2'
       rw[c6c,c6c] at e2'
       cases q:caps[i]? with
       | none=>rw[q] at e1';cases e1'
       | some p=>
         rw[q] at e1' e2'
         have ey:p.2=y:=c7z.inj e1'
         have ev:(σ[p.1]?).getD none=some v:=c7z.inj e2'
         have es:σ[p.1]?=some (some v):=by
           cases z:σ[p.1]? with
           | none=>rw[z] at ev;cases ev
           | some w'=>rw[z] at ev;exact congrArg some ev
         obtain⟨hN,hk,hv⟩:=hcap p (c6t q)
         obtain⟨m,_,hl⟩:=I3.loc
         obtain⟨u,r,lk⟩:=hl p.1 p.2 v hN es (.inr (.inl hk))
         rw[ey] at hk hv lk
         refine⟨u,r,.inr ⟨hv,?_⟩⟩
         obtain⟨c,hc'⟩:=hhas y hv
         rcases lk with⟨z,_⟩ | ⟨_,c2,z,ic⟩
         · rw[hk] at z;cases z
         · have ec:=(hcl y c hc').symm.trans z
           cases ec
           obtain⟨o,ho,hd⟩:=ic
           exact⟨c,hc',o,k34 _ _ ho,hd⟩
   · obtain⟨v,o,ho,hd⟩:=I3.cell y c (hcl y c e)
     exact⟨v,o,k34 _ _ ho,hd⟩
   · show (c6i os.length (none:Option V)++capd σ (caps.map fun p=>p.1)).length=(os++caps.map fun p=>p.2).length
     rw[c6m,c6m,c7a,capS,c5u]
 have fpc:∀ H',(∀ b∈fp,H' b=none)→∀ b∈fp,FpOk (a2u X E scope cl (os++caps.map (·.2)) C s3 (upd H1 D (.lst [])) fp) [] H' b:=fun H' hn b hb=>
   ⟨hn b hb,hfpC b hb,hfps b hb,.inl hb,fun y c e=>(f2 b hb).2.2.2.2.1 y c (hcl y c e),fun p hp=>absurd hp (by simp)⟩
 have st4:tn 0 h4:=T.keep _ _ _ (T.keep _ _ _ st2 fun b _ o e=>k23 b o e) fun b _ o e=>k34 b o e
 have fp0:∀ b∈fp,(upd H1 D (.lst [])) b=none:=fun b hb=>by rw[a1a (hfpD b hb)];exact (f2 b hb).1
 have onErr:∀ e s',(a2u X E scope cl (os++caps.map (·.2)) C s3 (upd H1 D (.lst [])) fp).xe e s'→notedBy (model X.prog X.w) X.A (compEnvC scope cl C X.env) (fun e s''=>compPost (model X.prog X.w) X.A X.xe use R (.ref D) C (.error e) s'') e s':=by
   refine comp_err hX hst hex I3 (c9c eC) (fun b hb=>?_)
   rcases (f2 b hb).2.2.2.1 with z | z
   · rw[hex] at z;cases z
   · exact z
 have loop:codeAny (model X.prog X.w) X.A (.compLoop (.ListComp elt [⟨tg,iter,[],0⟩] scope pos) 0 (.ref it) (.ref D) (compEnvC scope cl C X.env)) (compPost (model X.prog X.w) X.A X.xe use R (.ref D) C)
     { s3 with heap:=h4,toks:=s3.toks+([]:List (Str×Value)).length }:=by
   refine a7j (fun n s'=>∃ i ys own H',own.length=os.length∧Inv (a2u X E scope cl (os++caps.map (·.2)) C s3 (upd H1 D (.lst [])) fp) [] (own++capd σ (caps.map (·.1))) H' s'∧tn i s'.heap∧(∀ b∈fp,H' b=none)∧W i n ys H') ?_ m0 ⟨0,[],c6i os.length none,_,c7a,Ic,st4,fp0,w0⟩
   rintro n s5 ⟨i,ys,own,H5,ho5,I5,st5,fr5,w5⟩
   rcases turn i n ys H5 w5 with⟨stop,qn⟩ | ⟨go,step⟩
   · refine thn (T.done (a2u X E scope cl (os++caps.map (·.2)) C s3 (upd H1 D (.lst [])) fp) rfl rfl rfl hc i [] s5 _ H5 _ I5 (fpc H5 fr5) st5 stop) fun r s6 ⟨hr,I6⟩=>?_
     subst hr
     obtain⟨m6,hn6,_⟩:=I6.loc
     have hs':Heap.SameBut C s6.heap s6.heap:=⟨rfl,fun _ _=>rfl⟩
     generalize eh':s6.heap=h' at hs'
     have hs':Heap.SameBut C s6.heap h':=by rw[eh'];exact hs'
     have neC:∀ b o,s3.heap.get? b=some o→b≠C:=fun b o e=>c6s (eC ▸ Heap.lt_size e)
     have ns:∀ b o,s2.heap.get? b=some o→b≠D:=fun b o e=>c6s (eD ▸ Heap.lt_size e)
     have B:=I6.base
     have uu:Un (frs X.stack) fp H1 H5 s2.heap h':=by
       refine⟨fun b o e nn hb hf=>?_,fun b o e nn hb hf=>?_,fun b o e nn hf=>?_,fun b o e hf=>?_,fun b xs e=>?_,fun b o u' e=>?_,fun b ps e=>?_⟩
       · exact (hs'.2 b (neC b o (k23 b o e))).trans (B.keep b o (k23 b o e) (by show (upd H1 D _) b=none;rw[a1a (ns b o e)];exact nn) hb hf)
       · obtain⟨sl,z⟩:=B.slot b o (k23 b o e) (by show (upd H1 D _) b=none;rw[a1a (ns b o e)];exact nn) hb hf
         exact⟨sl,(hs'.2 b (neC b o (k23 b o e))).trans z⟩
       · exact B.free b o (k23 b o e) (by show (upd H1 D _) b=none;rw[a1a (ns b o e)];exact nn) hf
       · obtain⟨o',z⟩:=B.there b o (k23 b o e) hf
         exact⟨o',(hs'.2 b (neC b o (k23 b o e))).trans z⟩
       · exact B.tups b xs (by show (upd H1 D _) b=_;rw[a1a (a0x e hD)];exact e)
       · exact B.frzs b o u' (by show (upd H1 D _) b=_;rw[a1a (a0x e hD)];exact e)
       · exact B.tbls b ps (by show (upd H1 D _) b=_;rw[a1a (a0x e hD)];exact e)
     have hok':HOk X.prog X.w H5 h':=fun b o e=>by
       refine (I6.hok b o e).stay (fun c' u' hc' z=>(hs'.2 c' fun zz=>?_).trans z) (fun _ z=>z) fun _ _ z=>z
       have fr:H5 C=none:=I6.free
       rcases hc' with hc' | hc'
       · rw[← zz,hc',e] at fr;cases fr
       · rw[← zz,hc'] at fr;cases fr
     have ho6:s6.os=s2.os:=I6.os.trans (by show s3.os=s2.os;rw[← e3])
     subst eh'
     have hC2:s2.heap.objs.size≤C:=by rw[← eC,hs3,eD];exact Nat.le_succ D
     exact hfin D C H5 s6 m6 (I2.call' (s':=s6) (ch:=fp) ho6 uu hok' I6.bare (fun b hb=>⟨(f2 b hb).2.2.2.1,(f2 b hb).2.1,(f2 b hb).2.2.2.2.1,(f2 b hb).2.2.2.2.2⟩)) hn6 (I2.fpOk hC2 I6.free) qn
   · refine thn (T.item (a2u X E scope cl (os++caps.map (·.2)) C s3 (upd H1 D (.lst [])) fp) rfl rfl rfl hc i [] s5 _ H5 _ I5 (fpc H5 fr5) st5 go) fun r s6 ⟨u,hr,h6⟩=>?_
     subst hr
     refine (thn h6 fun _ s7 ⟨y,H7,I7,r7,y7,st7,fr7⟩=>?_)
     have I7':=I7.pinned (fpc H7 fr7) (T.obj _ _ st7)
     refine wpAny_mono (hg cl C s3 _ fp _ s7 _ H7 y u _ I7' r7 (step y H7 y7 own ho5)) (fun _ s8 ⟨σ8,H8,I8,⟨own',ho8,e8⟩,q8⟩=>?_) onErr
     subst e8
     refine wpAny_mono (he cl C s3 _ fp _ s8 _ H8 _ I8 q8) (fun xv s9 ⟨v9,H9,I9,r9,d9,l9,m9,lt9,w9⟩=>?_) onErr
     refine wpAny_mono (a5l (X:=(a2u X E scope cl (os++caps.map (·.2)) C s3 (upd H1 D (.lst [])) fp)) _ s9 _ H9 (.ref D) [v9] (.ref D) [xv] (fun _ H10=>H10=upd H9 D (.lst (ys++[v9]))) I9 rfl (.cons r9 .nil) ⟨D,ys,v9,rfl,rfl,d9,l9,rfl⟩) (fun _ s10 ⟨_,H10,I10,_,e10⟩=>?_) onErr
     subst e10
     refine⟨m9,lt9,i+1,ys++[v9],own',_,ho8,I10.unpinned,T.keep _ _ _ st7 fun b hb o e=>(I10.pin (b,o) (c6q _ (c6q _ (a5d hb e)))).1,fun b hb=>?_,w9⟩
     obtain⟨o,e,_⟩:=T.obj _ _ st7 b hb
     exact (I10.pin (b,o) (c6q _ (c6q _ (a5d hb e)))).2.1
 exact codeAny_compStart_list loop (T.self _ 0 _ _ _ st4 loop)
theorem c3i{tg elt iter:Expr}{os:List Str}{pos:Pos}{scope:Scope}{wi:TI}{g:TG}{te:TE}{caps:List (Nat×Str)}{E:XK}(hX:b2f X E)(hst:X.stack=X.env::X.outer)(hex:X.ex=[])(hi:PI X tg iter wi)(hg:∀ cl C s0 H0 fp,PG (a2u X E scope cl (os++caps.map (·.2)) C s0 H0 fp) tg g)(he:∀ cl C s0 H0 fp,PE (a2u X E scope cl (os++caps.map (·.2)) C s0 H0 fp) elt te)(hfree:∀ y∈scope.names,y.2=.free→X.env.kindOf y.1=some .cell)(hcap:∀ p∈caps,X.N[p.1]?=some p.2∧X.env.kindOf p.2=some .cell∧((relabel scope X.env).names.lookup p.2=some .cell∨(relabel scope X.env).names.lookup p.2=some .free))(hkind:scope.kind=.function)(hcell:∀ y∈scope.names,y.2≠.cell)(hnames:∀ y∈scope.names,y.2=.local→scope.names.lookup y.1=some .local)(hc:X.calm=true)(hfs:∀ v,foldedSetIterable iter X.env v=pure v) :
   PE X (.ListComp elt [⟨tg,iter,[],0⟩] scope pos) (a5n os.length wi g te (caps.map (·.1))):=by
 intro pins s σ H Q I h
 rw[eval_ListComp]
 refine c0u (Q:=Q) (use:=none) (R:=EP X pins σ Q) hX hst hex hi hg he hfree hcap hkind hcell hnames hc hfs (fun D C H5 s6 m6 I6 n6 f6 q6=>?_) I h
 refine⟨m6,n6,fun h' hs'=>⟨.ref D,H5,?_,rfl,q6⟩⟩
 exact I6.turned (t':=s6.toks) (fun b o hb e=>(hs'.2 b hb).trans e) f6.1 f6.2.1 f6.2.2.2.1 f6.2.2.2.2.1 f6.2.2.2.2.2
theorem pe_compX{tg elt iter:Expr}{os:List Str}{pos:Pos}{scope:Scope}{wi:TI}{g:TG}{te:TE}{caps:List (Nat×Str)}(N:List Str)(sc:Scope){E:XK}(hX:b2f X E)(hi:PI X tg iter wi)(hg:∀ cl C s0 H0 fp,PG (a2u X E scope cl (os++caps.map (·.2)) C s0 H0 fp) tg g)(he:∀ cl C s0 H0 fp,PE (a2u X E scope cl (os++caps.map (·.2)) C s0 H0 fp) elt te)(ok:a6o N sc scope caps=true)(hN:X.N=N:=by rfl)(hsc:X.env.scope=sc:=by rfl)(hc:X.calm=true:=by rfl)(hfs:∀ v,foldedSetIterable iter X.env v=pure v:=by intro _;rfl)(hst:X.stack=X.env::X.outer:=by rfl)(hex:X.ex=[]:=by rfl) :
   PE X (.ListComp elt [⟨tg,iter,[],0⟩] scope pos) (a5n os.length wi g te (caps.map (·.1))):=by
 subst hN hsc
 unfold a6o at ok
 simp only[c6n,c6g,decide_eq_true_eq,c7i,c9t,decide_eq_false_iff_not] at ok
 obtain⟨⟨h1,h2⟩,h3⟩:=ok
 refine c3i hX hst hex hi hg he (fun y hy hf=>?_) (fun p hp=>?_) h1 (fun y hy=>(h2 y hy).1.1) (fun y hy hl=>?_) hc hfs
 · rcases (h2 y hy).1.2 with z | z
   · exact absurd hf z
   · exact z
 · obtain⟨⟨a,b⟩,c⟩:=h3 p hp
   exact⟨a,b,a4q c⟩
 · rcases (h2 y hy).2 with z | z
   · exact absurd hl z
   · exact z
theorem c3g{tg elt iter:Expr}{os:List Str}{pos:Pos}{scope:Scope}{wi:TI}{g:TG}{te:TE}{caps:List (Nat×Str)}(N:List Str)(sc:Scope){E:XK}(hX:b2f X E)(hi:PIi X tg iter wi)(hg:∀ cl C s0 H0 fp,PGi (a2u X E scope cl (os++caps.map (·.2)) C s0 H0 fp) tg g)(he:∀ cl C s0 H0 fp,PEi (a2u X E scope cl (os++caps.map (·.2)) C s0 H0 fp) elt te)(ok:a6o N sc scope caps=true)(hN:X.N=N:=by rfl)(hsc:X.env.scope=sc:=by rfl)(hc:X.calm=true:=by rfl)(hfs:∀ v,foldedSetIterable iter X.env v=pure v:=by intro _;rfl)(hst:X.stack=X.env::X.outer:=by rfl)(hex:X.ex=[]:=by rfl) :
 PEi X (.ListComp elt [⟨tg,iter,[],0⟩] scope pos) (a5n os.length wi g te (caps.map (·.1))):=by with_unfolding_all exact pe_compX (N:=N) (sc:=sc) (hX:=hX) (hi:=hi) (hg:=hg) (he:=he) (ok:=ok) (hN:=hN) (hsc:=hsc) (hc:=hc) (hfs:=hfs) (hst:=hst) (hex:=hex)
end
end Cv
namespace Cv
open PySem PySem.Spec PyProof.Rows L2
def b1j(CX:CXT)(X:Cx)(E:L2.St→XK):Prop:=∀ (pins:List (Addr×Obj)) (σ:L2.St) (H:Hp) (s:Shared) (e:Value) (s':Shared),Inv X pins σ H s→CX X.stack H s (E σ) e s'→X.xe e s'
def tTryS(K:c5t)(n:Nat)(SC:Addr)(tb:(L2.St→XK)→TS)(ts:Addr→TS):TS:=fun D σ H=>∃ Ex:L2.St→XK,tb Ex D σ H∧∀ cls x H' (σ':L2.St),Ex σ' cls none H'→H' x=none→σ'.length=σ.length→
 c7m K cls (.ref SC)=some true∧ts x { nx:=fun _ _=>False,rt:=D.rt } (σ'.set n (some (.ref x))) (upd H' x (ExcO x cls))
section
variable {X:Cx}
theorem ps_tryS{n:Nat}{nm c:Str}{SC:Addr}{body:List Stmt}{b0:Stmt}{suite:List Stmt}{np hpos pos:Pos}{tb:(L2.St→XK)→TS}{ts:Addr→TS}(cb:X.mg c=some (.ref SC))(hN:X.N.Nodup)(hb:∀ xe pn Ex,b1j (CXx X.prog X.w) (tryX X xe pn) Ex→PSs (tryX X xe pn) body (tb Ex))(hs:∀ x,PSs (b1s X x) (b0::suite) (ts x))(hi:X.N[n]?=some nm:=by rfl)(hx:X.env.scope.names.lookup nm=some .local:=by rfl)(hg:Gl X c:=by rfl)(hst:X.stack=X.env::X.outer:=by rfl)(hfr:X.env.frame=some X.env.locals:=by rfl)(hd:(c == ("__debug__" : Str))=false:=by decide) :
   PS X (.Try body [.ExceptHandler (some (.Name c np)) (some nm) (b0::suite) hpos] [] [] pos) (tTryS X.K n SC tb ts):=by
 intro pins s σ H D I hread
 obtain⟨Ex,hbd,hcat⟩:=hread
 refine wpAny_Try_except ?_
 have hp:b1j (CXx X.prog X.w) (tryX X (fun e s₁=>wpAny (model X.prog X.w) X.A (noteFrame e X.env) (fun _ s₂=>wpAny (model X.prog X.w) X.A (setFlight e none) (fun _ s₃=>
     wpAny (model X.prog X.w) X.A (handleBy e X.env [.ExceptHandler (some (.Name c np)) (some nm) (b0::suite) hpos]) (SP X pins D) X.xe s₃) X.xe s₂) X.xe s₁) (X.pn++pins)) Ex:=by
   rintro pins' σ1 H1 s1 e s' J ⟨x,cls,H',B,rfl,hos,hba,u,hok,hfl,hE⟩
   show wpAny (model X.prog X.w) X.A (noteFrame (.ref x) X.env) _ _ s'
   have hfl':FlyX B (X.env::X.outer) x cls .none s'.heap:=by rw[← hst];exact hfl
   have hfr':X.A.frames=some (X.env::X.outer):=by rw[← hst];exact J.ok.frames
   have hBx:B.get? x=none:=hfl.new
   have hHx:H' x=none:=by
     cases q:H' x with
     | none=>rfl
     | some o=>
       obtain⟨ob,z⟩:=obj_some (hok x o q)
       rw[hBx] at z;cases z
   have hnew:∀ o,s1.heap.get? x=some o→False:=fun o e=>by
     by_cases hm:x∈frs X.stack
     · obtain⟨_,o',e',d⟩:=J.stack.mem hm
       obtain⟨sl,q⟩:=u.slot x o' e' (J.stkFree x hm) hm
       obtain⟨oe,vs,he,_,hde,_⟩:=hfl.there
       rw[q] at he
       cases he
       exact d vs hde
     · obtain⟨o',q⟩:=u.there x o e hm
       rw[hBx] at q;cases q
   have un6:∀ h6,B.StaysIn h6→s'.heap.UpToSlots h6→Un (frs X.stack) [] H1 H' s1.heap h6:=fun h6 hB up=>(u.on (fdata J) up).un hB J.stkFree
   have back:∀ h6,B.StaysIn h6→s'.heap.UpToSlots h6→Inv X pins σ1 H' { s' with heap:=h6 }:=fun h6 hB up=>
     c0g (J.call' (s':={ s' with heap:=h6 }) (ch:=[]) hos (un6 h6 hB up) (hok.kept hB) hba fun b z=>nomatch z)
   refine noteX hfr' hfr hfl' fun h4 held up4=>?_
   refine offX held fun h5 fl5 up5=>?_
   have up45:=up4.trans up5
   have I5:=back h5 fl5.stays up45
   have cat:=hcat cls x H' σ1 hE hHx (J.len.trans I.len.symm)
   refine wpAny_handleBy_cons (codeAny_handlers_test ?_) (by intro q;cases q)
   refine b0z (X:=b1s X x) (c1c I5 x) hg cb ?_ hd
   obtain⟨oe,_,he,hcl,_⟩:=fl5.there
   have LT:PySem.W.Looks (model X.prog X.w) h5 (typeOf (.ref x)) cls:=by
     subst hcl
     exact (PySem.W.Looks.ld he).andThen .now
   refine (PySem.W.exm_one (M:=model X.prog X.w) I5.kIn LT cat.1).here ?_
   refine codeAny_handlers_suite_as ?_
   refine offX fl5 fun h6 fl6 up6=>?_
   have up456:=up45.trans up6
   have hok6:HOk X.prog X.w H' h6:=hok.kept fl6.stays
   obtain⟨oe6,vs6,he6,hcl6,hd6,hn6⟩:=fl6.there
   have I6:Inv X pins σ1 (upd H' x (ExcO x cls)) { s' with heap:=h6 }:=by
     have u6:=un6 h6 fl6.stays up456
     refine c0g (J.call' (s':={ s' with heap:=h6 }) (ch:=[]) hos ⟨u6.keep,u6.slot,fun b o e nn hx'=>?_,u6.there,fun b xs q=>?_,fun b o v q=>?_,fun b ps q=>?_⟩ (fun b o q=>?_) hba fun b z=>nomatch z)
     · rw[a1a (fun z=>by rw[z] at e;exact hnew o e)];exact u6.free b o e nn hx'
     · rw[a1a (a0x (u6.tups b xs q) hHx)];exact u6.tups b xs q
     · rw[a1a (a0x (u6.frzs b o v q) hHx)];exact u6.frzs b o v q
     · obtain⟨more,z⟩:=u6.tbls b ps q
       exact⟨more,by rw[a1a (a0x z hHx)];exact z⟩
     · by_cases hbx:b=x
       · subst hbx
         rw[a0h] at q
         cases q
         exact⟨⟨oe6,vs6,he6,hcl6,hd6,hn6⟩,⟨oe6,he6⟩,fun h1 h2 ⟨o1,v1,e1,c1⟩ k=>⟨o1,v1,k o1 e1,c1⟩⟩
       · rw[a1a hbx] at q
         exact (hok6 b o q).stay (fun _ _ _ z=>z) (fun c' z=>by rw[a1a (a0x z hHx)];exact z) fun c' ys z=>by rw[a1a (a0x z hHx)];exact z
   refine a7a (X:=b1s X x) (c1c I6 x) hN hi (.inl hx) (v:=.ref x) rfl (fun s7 I7=>?_) (.inr hx)
   refine wpAny_mono (hs x pins s7 _ _ _ I7 cat.2) (fun f s8 h8=>?_) fun _ _ hf=>hf.elim
   have hcls:(X.env.scope.kind == .class || (X.env.scope.kind == .module && X.env.locals != X.env.globals))=false:=by rw[I.ok.kind];rfl
   cases f with
   | ret v=>
     obtain⟨v',σ8,H8,J8,rv,q8⟩:=h8
     obtain⟨m,hn,_⟩:=J8.loc
     refine wpAny_nameGoes hx hn hcls fun h' m' hn' hsb=>?_
     exact⟨v',_,H8,c0l (ofSuite I.ok.hd J8) hn' hsb,rv,q8⟩
   | next=>obtain⟨_,_,_,q8⟩:=h8;exact q8.elim
   | brk=>obtain⟨_,_,_,q8⟩:=h8;exact q8.elim
   | cont=>obtain⟨_,_,_,q8⟩:=h8;exact q8.elim
 refine wpAny_mono (hb _ _ Ex hp pins s σ H D (toTry I _) hbd) (fun f s1 h1=>?_) fun _ _ h=>h
 cases f with
 | next=>obtain⟨σ',H',J,d⟩:=h1;exact wpAny_execs_nil ⟨σ',H',c0g J,d⟩
 | brk=>obtain⟨σ',H',J,d⟩:=h1;exact⟨σ',H',c0g J,d⟩
 | cont=>obtain⟨σ',H',J,d⟩:=h1;exact⟨σ',H',c0g J,d⟩
 | ret v=>obtain⟨v',σ',H',J,r,d⟩:=h1;exact⟨v',σ',H',c0g J,r,d⟩
theorem c2w{n:Nat}{nm c:Str}{SC:Addr}{body:List Stmt}{b0:Stmt}{suite:List Stmt}{np hpos pos:Pos}{tb:(L2.St→XK)→TS}{ts:Addr→TS}(cb:X.mg c=some (.ref SC))(hN:X.N.Nodup)(hb:∀ xe pn Ex,b1j (CXx X.prog X.w) (tryX X xe pn) Ex→PSsi (tryX X xe pn) body (tb Ex))(hs:∀ x,PSsi (b1s X x) (b0::suite) (ts x))(hi:X.N[n]?=some nm:=by rfl)(hx:X.env.scope.names.lookup nm=some .local:=by rfl)(hg:Gl X c:=by rfl)(hst:X.stack=X.env::X.outer:=by rfl)(hfr:X.env.frame=some X.env.locals:=by rfl)(hd:(c == ("__debug__" : Str))=false:=by decide):PSi X (.Try body [.ExceptHandler (some (.Name c np)) (some nm) (b0::suite) hpos] [] [] pos) (tTryS X.K n SC tb ts):=by with_unfolding_all exact ps_tryS (cb:=cb) (hN:=hN) (hb:=hb) (hs:=hs) (hi:=hi) (hx:=hx) (hg:=hg) (hst:=hst) (hfr:=hfr) (hd:=hd)
end
end Cv
namespace Cv
open PySem PySem.Spec PyProof.Rows L2
def c0x(K:c5t)(H:Hp)(v:V):Prop:=∃ t,TyOf K H v t∧c5x K t (.type "str")=some false
inductive BdF (x:Str):Prop
 | none (h:x.length=0)
 | many (h:100<x.length)
 | sign (h1:1≤x.length) (h2:x.length≤100) (h:∃ c∈cp x,¬ (48≤c∧c≤57))
 | nought (h1:2≤x.length) (h2:x.length≤100) (h:∀ c∈cp x,48≤c∧c≤57) (h0:(cp x)[0]?=some 48)
inductive BdW (x:Str):Prop
 | fig (h:(cp x)[0]?≠some 45) (b:BdF x)
 | neg (y:Str) (h:cp x=45::cp y) (b:BdF y)
 | nought (h:cp x=[45,48])
inductive BdS (x:Str):Prop
 | many (h:2<(Txt.split x "/").length)
 | top (a:Str) (r:List Str) (h:Txt.split x "/" = a::r) (ha:a.length≤50000) (b:BdW a)
 | bot (i:Int) (y:Str) (h:Txt.split x "/" = [tN i,y]) (hi:FgN 100 i) (hy:y.length≤50000) (b:BdF y)
 | low (i:Int) (m:Nat) (h:Txt.split x "/" = [tN i,tN (m:Int)]) (hi:FgN 100 i) (hm:m<10^100) (b:m<2∨¬ ((c6y i m).num=i∧((c6y i m).den:Int)=m))
inductive BdP (x:Str):Prop
 | many (h:(Txt.split x ",").length≠2)
 | one (a y:Str) (h:Txt.split x "," = [a,y]) (ha:a.length≤50000) (b:BdS a)
 | two (q:Rat) (y:Str) (h:Txt.split x "," = [tSh q,y]) (hq:Fg 100 q) (hy:y.length≤50000) (b:BdS y)
def c1y(K:c5t)(CN:Addr):Sp:=fun vs H Q E=>∃ (v:V) (y:Str),vs=[v,.str y]∧((∃ x:Str,v=.str x∧(y.length == 0)=false∧x.length≤50000∧∀ p,H p=none→Q (.ref p) (upd H p (.lst ((Txt.split x y).map V.str))))∨(c0x K H v∧∀ H',Same H H'→E (.ref CN) none H'))
def spRdF(CN:Addr):Sp:=fun vs H Q E=>∃ x:Str,vs=[.str x]∧x.length≤50000∧((∃ m:Nat,x=tN (m:Int)∧m<10^100∧∀ H',Same H H'→Q (.int (m:Int)) H')∨(BdF x∧∀ H',Same H H'→E (.ref CN) none H'))
def spRdW(CN:Addr):Sp:=fun vs H Q E=>∃ x:Str,vs=[.str x]∧x.length≤50000∧((∃ i:Int,x=tN i∧FgN 100 i∧∀ H',Same H H'→Q (.int i) H')∨(BdW x∧∀ H',Same H H'→E (.ref CN) none H'))
def spRdS(K:c5t)(CN:Addr):Sp:=fun vs H Q E=>∃ v:V,vs=[v]∧((∃ q:Rat,v=.str (tSh q)∧Fg 100 q∧∀ v H',Same H H'→ShV H' v q→Q v H')∨(∃ x:Str,v=.str x∧x.length≤50000∧BdS x∧∀ H',Same H H'→E (.ref CN) none H')∨(c0x K H v∧∀ H',Same H H'→E (.ref CN) none H'))
def spRdP(K:c5t)(CN:Addr):Sp:=fun vs H Q E=>∃ v:V,vs=[v]∧((∃ p:Pt,v=.str (tPt p)∧FgP 100 p∧∀ v H',Same H H'→PtV H' v p.1 p.2→Q v H')∨(∃ x:Str,v=.str x∧x.length≤50000∧BdP x∧∀ H',Same H H'→E (.ref CN) none H')∨(c0x K H v∧∀ H',Same H H'→E (.ref CN) none H'))
def fgB(c:Nat):Bool:=decide (48≤c∧c≤57)
theorem fig_dec(c:Nat):(!(Builtin.Str.occurrences ("0123456789" : Str) ⟨#[c]⟩ 0 ("0123456789" : Str).length 1).isEmpty)=fgB c:=by
 rw[StrLaws.found_one]
 have e:("0123456789" : Str).cps.toList=[48,49,50,51,52,53,54,55,56,57]:=rfl
 rw[e]
 unfold fgB
 refine decide_eq_decide.mpr ?_
 simp only[c6e,c6u,or_false]
 omega
theorem bls_map{ys:List V}{f:Nat→Bool}{xs:List Nat}(hl:ys.length=xs.length)(h:∀ (i:Nat) v,ys[i]?=some v→∀ c,xs[i]?=some c→v=.bl (f c)):ys=(xs.map f).map V.bl:=by
 refine c8s fun i=>?_
 rw[c6c,c6c]
 by_cases hi:i<ys.length
 · have e2:xs[i]?=some (xs[i]'(by omega (config:={}))):=c5v _
   rw[c5v hi,e2,h i _ (c5v hi) _ e2];rfl
 · rw[c7k (by omega),c7k (by omega)];rfl
theorem b4c{x y:Str}{c:Nat}(h:cp x=c::cp y):StrLaws.sliceText x (some 1) none=y:=by
 have hl:x.cps.toList.length=(cp y).length+1:=by
   show (cp x).length=_
   rw[h];rfl
 rw[StrLaws.sliceText_from ⟨by decide,by rw[hl];omega⟩]
 refine a2p ?_
 show List.take _ (List.drop 1 (cp x))=_
 rw[h,hl]
 show List.take _ (cp y)=_
 rw[c8w (by omega)]
def c0t(i m:Int):c8z:=.tuple [.int i,.int m]
theorem datII_ok(i m:Int):c7q 8 (c0t i m)=true:=rfl
theorem dnII{K:c5t}{H:Hp}{a:Addr}{i m:Int}(h:H a=some (.tup [.int i,.int m])):Dn K H (c0t i m) (.ref a):=by
 unfold c0t
 simp only[Dn,b1k]
 exact⟨a,_,rfl,SqT.of h,_,_,rfl,rfl,_,_,rfl,rfl,rfl⟩
theorem datII_eq{q:Rat}{i m:Int}(h:b7r q=c0t i m):q.num=i∧(q.den:Int)=m:=by
 unfold b7r c0t at h
 simpa using h
def rEqB(K:c5t):R2:=fun x y H Q=>∃ (a b:Addr) (us vs:List Bool),x=.ref a∧y=.ref b∧SqL K H a (us.map V.bl)∧SqL K H b (vs.map V.bl)∧SeqAt.shaped (.list (us.map PyData.bool))=true∧SeqAt.shaped (.list (vs.map PyData.bool))=true∧Q (.bl (PyData.eqv (.list (us.map PyData.bool)) (.list (vs.map PyData.bool)))) H
theorem b0l{h:Heap}:∀ {bs:List Bool} {us:List Value},Vals (bs.map V.bl) us→∃ as,ReadsAll h us (bs.map PyData.bool) as
 | [],_,.nil=>⟨_,ReadsAll.nil⟩
 | b::bs,_,.cons r rs=>by
   obtain⟨as,q⟩:=b0l (h:=h) rs
   cases r
   exact⟨_,ReadsAll.cons (Reads.bool b) q⟩
theorem op_eqB{X:Cx}(K:c5t)(hu:X.A.units+64<cLine)(hK:X.K=K:=by rfl):OpR X (compareOp .Eq) (rEqB K):=by
 subst hK
 intro pins s σ H x y v u Q I rx ry h
 obtain⟨a,b,us,vs,rfl,rfl,h1,h2,k1,k2,q⟩:=h
 cases rx
 cases ry
 obtain⟨i1,r1,p1,_⟩:=I.list h1
 obtain⟨i2,r2,p2,_⟩:=I.list h2
 obtain⟨o1,ho1,hc1,m1,hd1⟩:=p1.isList
 obtain⟨o2,ho2,hc2,m2,hd2⟩:=p2.isList
 obtain⟨as,q1⟩:=b0l (h:=s.heap) r1
 obtain⟨bs,q2⟩:=b0l (h:=s.heap) r2
 exact eq_dataH (reads_list_at ho1 hc1 hd1 (by simpa using q1)) (reads_list_at ho2 hc2 hd2 (by simpa using q2)) k1 k2 hu ⟨.bl _,H,I,rfl,q⟩
def repS(a:Str)(k:Int):Str:=⟨(c6i k.toNat a.cps).foldl (·++·) #[]⟩
def rRepS:R2:=fun x y H Q=>∃ a k,x=.str a∧y=.int k∧2≤k∧k≤1000∧1≤a.length∧a.length≤1000∧Builtin.Str.tooLong (a.length*k.toNat)=false∧(repS a k).cps.size≤sizeLine∧Q (.str (repS a k)) H
theorem c3o{X:Cx}:OpR X (binaryOp .Mult) rRepS:=by
 intro pins s σ H x y v u Q I rx ry h
 obtain⟨a,k,rfl,rfl,h1,h2,h3,h4,h5,h6,q⟩:=h
 obtain⟨t,rfl⟩:=rx
 obtain⟨t',rfl⟩:=ry
 have e1:¬ k<1:=by omega
 have e2:(k == 1 || a.length == 0)=false:=by
   have a1:(k == 1)=false:=by simp;omega
   have a2:(a.length == 0)=false:=by simp;omega
   rw[a1,a2];rfl
 refine PySem.P.mul_str (by simp;omega) (fun _ _ h=>?_) (fun _ _=>h5) ?_
 · have:(1000:Int)≤(2^63 - 1) / k:=by
     refine Int.le_ediv_of_mul_le (by omega) ?_
     omega
   omega
 · rw[if_neg e1,if_neg (by rw[e2];exact c6k)]
   exact⟨h6,.str _,H,I.tok _,⟨_,rfl⟩,q⟩
end Cv
namespace Cv
open PySem PySem.Spec PyProof.Rows L2
theorem c5i(sep:Str)(ts:List Str):cp (Str.join sep ts)=jn (cp sep) (ts.map cp):=a6l sep ts
theorem cp_lit_empty:cp ("" : Str)=[]:=rfl
theorem spl{x:Str}{c:Nat}{sep:Str}(hs:cp sep=[c])(hk:Builtin.Str.strKind sep=1){ts:List Str}(hne:ts≠[])(hf:∀ t∈ts,c∉cp t)(hx:x=Str.join sep ts):Txt.split x sep=ts:=a7t (sepS (c:=c) hs) hk hne hf hx
theorem a9c{x:Str}(h:47∉cp x)(hx:x.length≤50000)(b:BdW x):BdS x:=
 .top x [] (spl (c:=47) rfl kSl (by simp) (fun t ht=>by rw[c7b.mp ht];exact h) rfl) hx b
theorem a7m{a y:Str}(ha:47∉cp a)(hy:47∉cp y):Txt.split (a ++ "/" ++ y) "/" = [a,y]:=
 spl (c:=47) rfl kSl (by simp) (fun t ht=>by
   simp only[c6e,c6u,or_false] at ht
   rcases ht with rfl | rfl<;>assumption) rfl
section
variable {N:Nat} (h2:2≤N) (hN:N<10^40)
include h2 hN
end
theorem c1p{x:Str}{ts:List Str}(hne:ts≠[])(hf:∀ t∈ts,44∉cp t)(hx:x=Str.join "," ts):Txt.split x "," = ts:=spl (c:=44) rfl kCm hne hf hx
theorem tSh_no{q:Rat}{c:Nat}(h1:c≠45)(h2:c≠47)(h3:¬ (48≤c∧c≤57)):c∉cp (tSh q):=fun h=>by rcases b8d q c h with z | z | z<;>omega
theorem tPt_no{p:Pt}{c:Nat}(h0:c≠44)(h1:c≠45)(h2:c≠47)(h3:¬ (48≤c∧c≤57)):c∉cp (tPt p):=fun h=>by rcases c1e p c h with z | z | z | z<;>omega
theorem b3w{x:Str}(h:44∉cp x):BdP x:=.many (by
 rw[c1p (x:=x) (ts:=[x]) (by simp) (fun t ht=>by rw[c7b.mp ht];exact h) rfl]
 show (1:Nat)≠2
 decide)
theorem b6g{a b c:Str}(ha:44∉cp a)(hb:44∉cp b)(hc:44∉cp c):BdP (a ++ "," ++ b ++ "," ++ c):=.many (by
 rw[c1p (ts:=[a,b,c]) (by simp) (fun t ht=>by
   simp only[c6e,c6u,or_false] at ht
   rcases ht with rfl | rfl | rfl<;>assumption) (a2p (by rw[c5i,a1q,a1q,a1q,a1q];simp[jn,c8r]))]
 show (3:Nat)≠2
 decide)
theorem c1o{a b:Str}(ha:44∉cp a)(hb:44∉cp b):Txt.split (a ++ "," ++ b) "," = [a,b]:=c1p (by simp) (fun t ht=>by
 simp only[c6e,c6u,or_false] at ht
 rcases ht with rfl | rfl<;>assumption) rfl
theorem b7u{a b:Str}(ha:44∉cp a)(hb:44∉cp b)(hl:a.length≤50000)(h:BdS a):BdP (a ++ "," ++ b):=.one a b (c1o ha hb) hl h
theorem c5m{q:Rat}{b:Str}(hq:Fg 100 q)(hb:44∉cp b)(hl:b.length≤50000)(h:BdS b):BdP (tSh q ++ "," ++ b):=.two q b (c1o (tSh_no (by decide) (by decide) (by decide)) hb) hq hl h
theorem a8i:BdS "":=a9c (by decide) (by decide) (.fig (by decide) (.none rfl))
end Cv
namespace Cv
open PySem PySem.Spec PyProof.Rows L2
section
variable {P:Program} {w:World} {K:c5t} {mg:Str→Option Value} {base:Heap} {k:Nat} {x:Str} {ps:List Str} {sp:Sp}
theorem FnOk.lift{f:Addr}{fd:FuncData}(F:FnOk P w K mg base CX0 k f fd ps sp):FnOk P w K mg base (CXx P w) k f fd ps sp:=
 ⟨F.len,fun A outer s H args us vs Q E hr he hb rv h=>codeAny_mono (F.run A outer s H args us vs Q E hr he hb rv h) fun r s' hx=>by
   cases r with
   | ok f=>cases f<;>exact hx
   | error e=>exact (show False from hx).elim⟩
theorem a0r.lift(D:a0r P w K mg base CX0 k x ps sp):a0r P w K mg base (CXx P w) k x ps sp:=by
 obtain⟨f,fd,F,r⟩:=D.ex
 exact⟨f,fd,FnOk.lift F,r⟩
end
inductive Wx | nm (s:Str) | sh (q:Rat) | pt (p:Pt) | lv (n:Nat)
def Wx.tx:Wx→Str | .nm s=>s | .sh q=>tSh q | .pt p=>tPt p | .lv n=>tN (n:Int)
def Wx.ok:Wx→Prop | .nm s=>Nm s | .sh q=>Fg 100 q | .pt p=>FgP 100 p | .lv n=>n≤6
def Wx.Is(H:Hp)(v:V):Wx→Prop | .nm s=>v=.str s | .sh q=>ShV H v q | .pt p=>PtV H v p.1 p.2 | .lv n=>v=.int (n:Int)
def Wx.kd(k:Str):Wx→Prop | .nm _=>k = "name" ∨ k = "new" | .sh _=>k = "share" | .pt _=>k = "point" | .lv _=>k = "level"
theorem Wx.Is.same{H H':Hp}{v:V}{d:Wx}(h:d.Is H v)(s:Same H H'):d.Is H' v:=by
 cases d with
 | nm n=>exact h
 | sh q=>exact ShV.same h s
 | pt p=>exact PtV.same h s
 | lv n=>exact h
theorem Wx.Is.tup{H H':Hp}{v:V}{d:Wx}(h:d.Is H v)(s:Tup H H'):d.Is H' v:=by
 cases d with
 | nm n=>exact h
 | sh q=>exact ShV.tup h s
 | pt p=>exact PtV.tup h s
 | lv n=>exact h
inductive BadW (k y:Str):Prop
 | sh (h:k = "share") (b:BdS y)
 | pt (h:k = "point") (b:BdP y)
 | lv (h:k = "level") (b:∀ n:Nat,n≤6→y≠tN (n:Int))
 | nm (h:k = "name" ∨ k = "new") (b:¬ Nm y)
def c1z(CN:Addr):Sp:=fun vs H Q E=>∃ s:Str,vs=[.str s]∧s.length≤50000∧((Nm s∧∀ H',Same H H'→Q (.str s) H')∨(¬ Nm s∧∀ H',Same H H'→E (.ref CN) none H'))
def b8l(CN:Addr):Sp:=fun vs H Q E=>∃ s:Str,vs=[.str s]∧s.length≤50000∧PyData.strOk s=true∧((∃ n:Nat,n≤6∧s=tN (n:Int)∧∀ H',Same H H'→Q (.int (n:Int)) H')∨((∀ n:Nat,n≤6→s≠tN (n:Int))∧∀ H',Same H H'→E (.ref CN) none H'))
def c1q(CN:Addr):Sp:=fun vs H Q E=>∃ k s:Str,vs=[.str k,.str s]∧s.length≤50000∧PyData.strOk s=true∧((∃ d:Wx,s=d.tx∧d.kd k∧d.ok∧∀ v H',Same H H'→d.Is H' v→Q v H')∨(BadW k s∧∀ H',Same H H'→E (.ref CN) none H'))
def NoKD(first:Str)(n:Nat):Prop:=(first = "curve" → ¬ (2≤n∧n≤13))∧(valV a3m (.inr first)=none∨∃ f,valV a3m (.inr first)=some (.str f)∧(a8m f).length≠n∧f.length≤1000∧(a8m f).length≤1000∧(Builtin.Str.spaceWords f (f.length+1)).length≤1000)
def b8n(CN:Addr):Sp:=fun vs H Q E=>∃ (first:Str) (n:Nat),vs=[.str first,.int (n:Int)]∧n≤1000∧((∃ ks,KD first n ks∧∀ (l:Addr) (H':Hp),Same H H'→H l=none→H' l=some (.lst (ks.map V.str))→Q (.ref l) H')∨(NoKD first n∧∀ H',Same H H'→E (.ref CN) none H'))
def WxsV(H:Hp)(us:List V)(ds:List Wx):Prop:=us.length=ds.length∧∀ (i:Nat) (v:V) (d:Wx),us[i]?=some v→ds[i]?=some d→d.Is H v
def b6i(ks:List Str)(ds:List Wx):Prop:=∀ (i:Nat) (k:Str) (d:Wx),ks[i]?=some k→ds[i]?=some d→d.kd k∧d.ok
def RowW(x first:Str)(ws:List Str):Prop:=x=Str.join " " (first::ws)∧(∀ t∈first::ws,32∉cp t∧t.length≤1000∧PyData.strOk t=true)∧ws.length≤40
inductive BadR (first:Str) (ws:List Str):Prop
 | kd (h:NoKD first ws.length)
 | wd (ks:List Str) (h:KD first ws.length ks) (gs:List Wx) (y k:Str) (r:List Str) (e:ws=gs.map Wx.tx++y::r) (ok:b6i ks gs) (hk:ks[gs.length]?=some k) (b:BadW k y)
def spRowX(K:c5t)(CN:Addr):Sp:=fun vs H Q E=>∃ v:V,vs=[v]∧((c0x K H v∧∀ H',Same H H'→E (.ref CN) none H')∨∃ (x first:Str) (ws:List Str),v=.str x∧RowW x first ws∧
 ((BadR first ws∧∀ H',Same H H'→E (.ref CN) none H')∨(∃ (ks:List Str) (ds:List Wx),KD first ws.length ks∧ws=ds.map Wx.tx∧b6i ks ds∧
   ∀ (t lk lt:Addr) (us:List V) (H':Hp),Same H H'→H' t=some (.tup [.str first,.ref lk,.ref lt])→H' lk=some (.lst (ks.map V.str))→H' lt=some (.lst us)→WxsV H' us ds→Q (.ref t) H')))
theorem KD.len{first:Str}{n:Nat}{ks:List Str}(h:KD first n ks):ks.length=n:=by
 rcases h with⟨_,h2,_,rfl⟩ | ⟨_,f,_,_,h,_⟩
 · rw[c6z,c7a];omega
 · exact h
end Cv
namespace Cv
open PySem PySem.Spec PyProof.Rows L2
def rNotInS(K:c5t):R2:=fun x y H Q=>∃ (t:Str) (l:Addr) (ss:List Str),x=.str t∧y=.ref l∧SqL K H l (ss.map V.str)∧PyData.strOk t=true∧(∀ z∈ss,PyData.strOk z=true)∧Q (.bl (!decide (t∈ss))) H
theorem c2t{h:Heap}:∀ {vs:List Value} {ss:List Str},Vals (ss.map V.str) vs→∃ as,ReadsAll h vs (ss.map PyData.str) as
 | _,[],r=>by cases r;exact⟨_,.nil⟩
 | _,s::ss,r=>by
   cases r with
   | cons r1 r2=>
     obtain⟨t,rfl⟩:=r1
     obtain⟨as,h⟩:=c2t r2
     exact⟨_,.cons (.str _ _) h⟩
section
variable {X:Cx}
theorem c3p(K:c5t)(hu:X.A.units+64<cLine)(hK:X.K=K:=by rfl):OpR X (compareOp .NotIn) (rNotInS K):=by
 subst hK
 intro pins s σ H x y v u Q I rx ry h
 obtain⟨t,l,ss,rfl,rfl,hl,ht,hz,q⟩:=h
 obtain⟨tk,rfl⟩:=rx
 cases ry
 obtain⟨its,rits,⟨o,n,h1,h2,h3,h4⟩,zz⟩:=I.list hl
 obtain⟨as,ra⟩:=c2t (h:=s.heap) rits
 have e1:PyData.canLayAll0 (ss.map PyData.str)=true:=by
   clear hl q rits ra zz
   induction ss with
   | nil=>rfl
   | cons a ss ih=>rw[c6f,PyData.canLayAll0,ih fun z h=>hz z (c7e _ h)];simp[PyData.canLay0,hz a (by simp)]
 have e2:((ss.map PyData.str).any fun y=>PyData.eqv y (PyData.str t))=decide (t∈ss):=by
   rw[List.any_map]
   refine c9o.mpr ?_
   rw[List.any_eq_true,decide_eq_true_iff]
   constructor
   · rintro⟨z,hz,ez⟩
     have:z=t:=by simpa [PyData.eqv] using ez
     rw[← this];exact hz
   · intro hp
     exact⟨t,hp,by simp[PyData.eqv]⟩
 refine SeqAt.notIn_list_reads (.list h1 h2 h4 ra) (.str t tk) e1 (by simp[PyData.canLay0,ht]) (by have:PyData.depth (.str t)≤1:=(by simp[PyData.depth]);omega) ?_
 rw[e2]
 exact⟨.bl _,H,I,rfl,q⟩
end
end Cv
namespace Cv
open PySem L2
theorem cp_at{x:Str}{i:Nat}(hi:i<x.length):x.cps.getD i 0∈cp x:=by
 have hi':i<x.cps.toList.length:=by rw[c7v];exact hi
 have:x.cps.getD i 0=x.cps.toList[i]'hi':=by simp[Array.getD,show i<x.cps.size from hi]
 rw[this];exact c7h _
theorem cp_ex{x:Str}{c:Nat}(h:c∈cp x):∃ i,i<x.length∧x.cps.getD i 0=c:=by
 obtain⟨i,hi,e⟩:=c7u h
 have hi':i<x.cps.size:=by rw[← c7v];exact hi
 exact⟨i,hi',by rw[← e];simp[Array.getD,hi',cp]⟩
theorem map_bls{ys:List V}{f:Nat→Bool}(h:∀ (i:Nat) v,ys[i]?=some v→v=V.bl (f i)):∃ bs:List Bool,ys=bs.map V.bl∧bs.length=ys.length∧∀ (i:Nat) b,bs[i]?=some b→b=f i:=by
 refine⟨(List.range ys.length).map f,c8s fun i=>?_,by simp,fun i b e=>?_⟩
 · by_cases hi:i<ys.length
   · rw[c5v hi,c6c,c6c,List.getElem?_range hi]
     exact congrArg some (h i _ (c5v hi))
   · rw[c7k (by omega),c7k (by simp;omega)]
 · rw[c6c] at e
   obtain⟨j,ej,rfl⟩:=c9n.mp e
   have hi:i<ys.length:=by have:=(c6h.mp ej).1;simpa using this
   rw[List.getElem?_range hi] at ej
   cases ej;rfl
theorem all_bls{bs:List Bool}{n:Nat}{P:Nat→Prop}[∀ i,Decidable (P i)](hl:bs.length=n)(h:∀ (i:Nat) b,bs[i]?=some b→b=decide (P i)):bs.all id=true↔∀ i,i<n→P i:=by
 rw[c6g]
 constructor
 · intro a i hi
   have e:=c5v (l:=bs) (i:=i) (by omega)
   have:=h i _ e
   have t:=a bs[i] (c7h _)
   exact of_decide_eq_true (this.symm.trans t)
 · intro a b hb
   obtain⟨i,hi,rfl⟩:=c7u hb
   rw[h i _ (c5v hi)]
   exact decide_eq_true (a i (by omega))
end Cv
namespace Cv
open PySem L2
theorem a7r{x:Str}(h:∀ c∈cp x,c<1114112):PyData.strOk x=true:=by
 unfold PyData.strOk
 rw[Array.all_eq_true']
 intro c hc
 exact decide_eq_true (h c (by simpa [cp] using hc))
theorem tN_strOk(i:Int):PyData.strOk (tN i)=true:=a7r fun c hc=>by rcases c1g i c hc with z | z<;>omega
end Cv
namespace Cv
open PySem PySem.Spec PyProof.Rows L2
theorem compE2{K:c5t}{f g:Nat→V}{n:Nat}{J:It}{H1:Hp}{te:TE}{cs:L2.St}{Q:VK}(hJ:b6h K J H1 n f g)(hn:n≤100000)(j:Nat)(hj:j<n)(he:∀ i H2 (k:VK),i<j→Same H1 H2→(∀ v H3,Same H2 H3→k v H3)→te (some (f i)::some (g i)::cs) H2 k)(hx:∀ H2 (k:VK),Same H1 H2→te (some (f j)::some (g j)::cs) H2 k):a9t 2 J H1 (gTup K 2 (b5r (a3l 0) (b5r (a3l 1) gNil))) te cs Q:=by
 intro D hD
 refine⟨fun i m ys H2=>m=n - i∧i≤j∧ys.length=i∧Same H1 H2∧H2 D=some (.lst ys),⟨n,by simp,c8c _,rfl,Same.new hD,a0h⟩,?_⟩
 rintro i m ys H2 ⟨rfl,hi,hl,s2,d2⟩
 have hlt:i<n:=by omega
 refine .inr ⟨((hJ H2 s2 i).1 hlt).1,fun x H' y own ho=>?_⟩
 obtain⟨s2',a,rfl,ht⟩:=((hJ H2 s2 i).1 hlt).2 x H' y
 obtain⟨o1,o2,rfl⟩ : ∃ o1 o2,own=[o1,o2]:=by
   rcases own with _ | ⟨o1,_ | ⟨o2,_ | ⟨o3,r⟩⟩⟩
   · cases ho
   · cases ho
   · exact⟨o1,o2,rfl⟩
   · cases ho
 refine⟨a,_,rfl,ht,rfl,_,_,rfl,_,_,rfl,rfl,?_⟩
 refine⟨⟨[some (f i),some (g i)],rfl,rfl⟩,?_⟩
 by_cases hij:i<j
 · refine he i _ _ hij (s2.trans s2') fun v H3 s3=>⟨s3 _ _ (s2' _ _ d2),a0j (by omega),n - (i+1),by omega,rfl,hij,by rw[c6m,hl];rfl,fun b o e=>?_,a0h⟩
   rw[a1a (a0x e hD)];exact s3 _ _ (s2' _ _ (s2 _ _ e))
 · have e:i=j:=by omega
   subst e
   exact hx _ _ (s2.trans s2')
end Cv
namespace Cv
open PySem PySem.Spec PyProof.Rows L2
def a9o(CT:Addr):Sp:=fun vs H _ E=>∃ (d lt:Addr) (cs:List (Str×List Pt)) (n:Str) (ps:List Pt),vs=[.ref d,.ref lt]∧a5s H d cs∧H lt=some (.lst [.str n])∧getA cs n=some ps∧ps.length=12∧∀ H',Same H H'→E (.ref CT) none H'
def a9p(CL:Addr):Sp:=fun vs H _ E=>∃ (d lt:Addr) (cs:List (Str×List Pt)) (n:Str) (ps:List Pt) (D:Int),vs=[.ref d,.ref lt]∧a5s H d cs∧H lt=some (.lst [.str n])∧getA cs n=some ps∧ps.length=1∧0<D∧Sz 60 D∧(∀ p∈ps,OvP D 180 p)∧∀ H',Same H H'→E (.ref CL) none H'
def b1u(K:c5t)(CT:Addr):Sp:=fun vs H _ E=>∃ (a:Addr) (ws:List V),vs=[.ref a]∧SqL K H a ws∧ws.length=12∧∀ H',Same H H'→E (.ref CT) none H'
def b1v(K:c5t)(CL:Addr):Sp:=fun vs H _ E=>∃ (a:Addr) (ws:List V) (ps:List Pt) (D:Int),vs=[.ref a]∧SqL K H a ws∧PtsV H ws ps∧ps.length=1∧0<D∧Sz 60 D∧(∀ p∈ps,OvP D 180 p)∧∀ H',Same H H'→E (.ref CL) none H'
def b8h:Sp:=fun vs H Q _=>∃ (a:Addr) (u:V),vs=[.ref a]∧H a=some (.lst [u])∧Q (.bl false) H
def b0a:Sp:=fun vs H Q _=>vs=[.int 0,.int 1,.int 1]∧∀ (l:Addr) H',Same H H'→H l=none→H' l=some (.lst [.int 1])→Q (.ref l) H'
def b8r:Sp:=fun vs H Q _=>∃ (v:V) (t:Int) (m:Nat) (bs:List Int),vs=[v]∧AxV H v m [t] bs∧m≤20000∧∀ v' H',Same H H'→AxV H' v' m [t] bs→Q v' H'
def spPow1(K:c5t):Sp:=fun vs H Q _=>∃ (a:Addr) (ws:List V) (ps:List Pt) (D:Int),vs=[.ref a]∧SqL K H a ws∧PtsV H ws ps∧ps.length=1∧0<D∧Sz 60 D∧(∀ p∈ps,OvP D 180 p)∧∀ (l:Addr) (u:V) H',Same H H'→H' l=some (.lst [u])→Q (.ref l) H'
inductive c0z (CT CL:Addr):Str→Sp→Prop
 | curve:c0z CT CL "curve" b8o
 | tell:c0z CT CL "tell" b2h
 | names:c0z CT CL "names" b2i
 | raise:c0z CT CL "raise" (a9o CT)
 | lower:c0z CT CL "lower" (a9p CL)
inductive SayX (K:c5t) (H:Hp) (d:Addr) (cs:List (Str×List Pt)) (Q:VK) (E:XK) (CN CM CT CL:Addr):V→Prop
 | non (v:V) (h:c0x K H v) (k:∀ H',Same H H'→E (.ref CN) none H'):SayX K H d cs Q E CN CM CT CL v
 | text (x first:Str) (ws:List Str) (h:RowW x first ws) (b:BadR first ws) (k:∀ H',Same H H'→E (.ref CN) none H'):SayX K H d cs Q E CN CM CT CL (.str x)
 | name (x first:Str) (ds:List Wx) (ks:List Str) (i:Nat) (s:Str) (h:RowW x first (ds.map Wx.tx)) (hK:KD first ds.length ks) (ok:b6i ks ds) (hk:ks[i]?=some "name") (hd:ds[i]?=some (.nm s)) (hs:getA cs s=none) (k:∀ H',Same H H'→E (.ref CM) none H'):SayX K H d cs Q E CN CM CT CL (.str x)
 | good (x first:Str) (ds:List Wx) (ks:List Str) (sp:Sp) (h:RowW x first (ds.map Wx.tx)) (hK:KD first ds.length ks) (ok:b6i ks ds) (nm:∀ (i:Nat) (w:Wx),ks[i]?=some "name" → ds[i]?=some w→∃ s x,w=.nm s∧getA cs s=some x) (deed:c0z CT CL first sp)
     (go:∀ (H':Hp) (lt:Addr) (us:List V),Same H H'→H' lt=some (.lst us)→WxsV H' us ds→sp [.ref d,.ref lt] H' Q E):SayX K H d cs Q E CN CM CT CL (.str x)
def b8i(K:c5t)(C CN CM CT CL:Addr):Sp:=fun vs H Q E=>∃ (x d:Addr) (v:V) (cs:List (Str×List Pt)),vs=[.ref x,v]∧a4v C H x d cs∧SayX K H d cs Q E CN CM CT CL v
end Cv
namespace Cv
open PySem PySem.Spec PyProof.Rows L2
def fC(a b o:Str)(c:Nat):List Nat:=if c=91 then cp a else if c=93 then cp b else if c=63 then cp o else [c]
def fL(a b o:Str)(w:List Nat):List Nat:=w.flatMap (fC a b o)
def fW(a b o:Str)(w:List Nat):Str:=⟨(fL a b o w).toArray⟩
theorem a4m(a b o:Str)(w:List Nat):cp (fW a b o w)=fL a b o w:=by unfold fW cp;simp
def fill(a b o t:Str):Str:=fW a b o (cp t)
def spC:List Nat→List (List Nat)
 | []=>[[]]
 | c::r=>if c=32 then []::spC r else match spC r with
   | []=>[[c]]
   | w::ws=>(c::w)::ws
theorem spC_ne:∀ t,spC t≠[]
 | []=>by simp[spC]
 | c::r=>by
   unfold spC
   split
   · simp
   · split<;>simp
theorem spC_no:∀ t,∀ w∈spC t,32∉w
 | [],w,h=>by rw[show spC []=[[]] from rfl,c7b] at h;rw[h];simp
 | c::r,w,h=>by
   have ih:=spC_no r
   unfold spC at h
   split at h
   · rcases c6e.mp h with rfl | h
     · simp
     · exact ih w h
   · rename_i hc
     split at h
     · rw[c7b.mp h];simpa using Ne.symm hc
     · rename_i w0 ws e
       rw[e] at ih
       rcases c6e.mp h with rfl | h
       · intro z
         rcases c6e.mp z with z | z
         · exact hc z.symm
         · exact ih w0 (by simp) z
       · exact ih w (c7e _ h)
theorem jn_spC(a b o:Str):∀ t,fL a b o t=jn [32] ((spC t).map (fL a b o))
 | []=>rfl
 | c::r=>by
   have ih:=jn_spC a b o r
   have e:fL a b o (c::r)=fC a b o c++fL a b o r:=rfl
   unfold spC
   split
   · rename_i hc
     subst hc
     rw[e,ih,c6f]
     cases h:(spC r).map (fL a b o) with
     | nil=>exact absurd (List.map_eq_nil_iff.mp h) (spC_ne r)
     | cons x xs=>rfl
   · cases h:spC r with
     | nil=>exact absurd h (spC_ne r)
     | cons w ws=>
       rw[h] at ih
       rw[e,ih]
       dsimp only
       rw[c6f,c6f]
       have e2:fL a b o (c::w)=fC a b o c++fL a b o w:=rfl
       rw[e2]
       cases ws.map (fL a b o) with
       | nil=>rfl
       | cons x xs=>simp[jn]
theorem c4t{a b o t:Str}{w0:List Nat}{ws:List (List Nat)}(e:spC (cp t)=w0::ws):fill a b o t=Str.join " " (fW a b o w0::ws.map (fW a b o)):=by
 refine a2p ?_
 unfold fill
 rw[a4m,c5i,jn_spC,e]
 show _=jn [32] _
 rw[c6f,c6f,List.map_map,a4m]
 congr 2
 first | done | exact List.map_congr_left fun w _=>(a4m a b o w).symm
structure Pl3(n:Nat)(a:Str):Prop where
 nb:32∉cp a
 ln:a.length≤n
 ok:∀ c∈cp a,c<1114112
theorem Nm.pl{a:Str}(h:Nm a):Pl3 12 a:=⟨fun z=>by have:=h.2.2 32 z;omega,h.2.1,fun c hc=>by have:=h.2.2 c hc;omega⟩
theorem fC_mem{a b o:Str}{c d:Nat}(h:d∈fC a b o c):d∈cp a∨d∈cp b∨d∈cp o∨d=c:=by
 unfold fC at h
 split at h
 · exact .inl h
 · split at h
   · exact .inr (.inl h)
   · split at h
     · exact .inr (.inr (.inl h))
     · exact .inr (.inr (.inr (c7b.mp h)))
theorem fC_len{a b o:Str}(ha:a.length≤12)(hb:b.length≤12)(ho:o.length≤101)(c:Nat):(fC a b o c).length≤101:=by
 have h1:=a1x a
 have h2:=a1x b
 have h3:=a1x o
 unfold fC
 split
 · omega
 · split
   · omega
   · split
     · omega
     · show 1≤101;omega
theorem c4v{a b o:Str}(ha:a.length≤12)(hb:b.length≤12)(ho:o.length≤101):∀ w:List Nat,(fL a b o w).length≤101*w.length
 | []=>c6l _
 | c::r=>by
   have e:fL a b o (c::r)=fC a b o c++fL a b o r:=rfl
   have:=c4v ha hb ho r
   have:=fC_len ha hb ho c
   rw[e,c6m,c6z]
   omega
theorem a7y{a b o t:Str}{w0:List Nat}{ws:List (List Nat)}(pa:Pl3 12 a)(pb:Pl3 12 b)(po:Pl3 101 o)(e:spC (cp t)=w0::ws)(hw:((w0::ws).all fun w=>decide (w.length≤9) && w.all fun c=>decide (c<1114112))=true)(h40:ws.length≤40):RowW (fill a b o t) (fW a b o w0) (ws.map (fW a b o)):=by
 refine⟨c4t e,fun x hx=>?_,by rw[c5u];exact h40⟩
 obtain⟨w,hm,rfl⟩ : ∃ w∈w0::ws,x=fW a b o w:=by
   rcases c6e.mp hx with rfl | hx
   · exact⟨w0,by simp,rfl⟩
   · obtain⟨w,h,rfl⟩:=c7d.mp hx
     exact⟨w,c7e _ h,rfl⟩
 have h1:=c6g.mp hw w hm
 rw[c6n,decide_eq_true_iff,c6g] at h1
 have h2:=spC_no (cp t) w (by rw[e];exact hm)
 have mem:∀ d∈fL a b o w,d∈cp a∨d∈cp b∨d∈cp o∨d∈w:=fun d hd=>by
   obtain⟨c,hc,hd⟩:=List.mem_flatMap.mp hd
   rcases fC_mem hd with z | z | z | z
   · exact .inl z
   · exact .inr (.inl z)
   · exact .inr (.inr (.inl z))
   · exact .inr (.inr (.inr (z ▸ hc)))
 refine⟨?_,?_,a7r fun c hc=>?_⟩
 · rw[a4m]
   intro z
   rcases mem 32 z with z | z | z | z
   · exact pa.nb z
   · exact pb.nb z
   · exact po.nb z
   · exact h2 z
 · rw[← a1x,a4m]
   have:=c4v pa.ln pb.ln po.ln w
   have:=h1.1
   omega
 · rw[a4m] at hc
   rcases mem c hc with z | z | z | z
   · exact pa.ok c z
   · exact pb.ok c z
   · exact po.ok c z
   · exact of_decide_eq_true (h1.2 c z)
def litW(w:List Nat):Bool:=w.all fun c=>decide (c≠91∧c≠93∧c≠63)
theorem fL_lit{a b o:Str}:∀ {w:List Nat},litW w=true→fL a b o w=w
 | [],_=>rfl
 | c::r,h=>by
   unfold litW at h
   rw[List.all_cons,c6n,decide_eq_true_iff] at h
   have e:fL a b o (c::r)=fC a b o c++fL a b o r:=rfl
   rw[e,fL_lit (w:=r) h.2]
   unfold fC
   rw[if_neg h.1.1,if_neg h.1.2.1,if_neg h.1.2.2];rfl
def stL(w:List Nat):Str:=⟨w.toArray⟩
theorem a5m{a b o:Str}{w:List Nat}(h:litW w=true):fW a b o w=stL w:=by unfold fW stL;rw[fL_lit h]
theorem fW_A{a b o:Str}:fW a b o [91]=a:=a2p (by rw[a4m];show cp a++[]=_;rw[c7p])
theorem fW_B{a b o:Str}:fW a b o [93]=b:=a2p (by rw[a4m];show cp b++[]=_;rw[c7p])
theorem fW_O{a b o:Str}:fW a b o [63]=o:=a2p (by rw[a4m];show cp o++[]=_;rw[c7p])
def kdB(first:Str)(n:Nat):Option (List Str):=
 if first = "curve" then (if 2≤n∧n≤13 then some (("new" : Str)::c6i (n - 1) ("point" : Str)) else none)
 else match b5s.find? fun p=>decide (p.1=first) with
   | some p=>if (a8m p.2).length=n then some (a8m p.2) else none
   | none=>none
theorem b6l(f:Str):∀ l:List (Str×Str),valV (l.map fun p=>(Sum.inr p.1,V.str p.2):List (Key×V)) (.inr f)=(l.find? fun p=>decide (p.1=f)).map fun p=>V.str p.2
 | []=>rfl
 | p::r=>by
   rw[c6f]
   by_cases h:p.1=f
   · rw[a7o (by rw[h]),List.find?_cons_of_pos (by simpa using h)];rfl
   · rw[a7p (fun z=>h (Sum.inr.inj z)),b6l f r,List.find?_cons_of_neg (by simpa using h)]
theorem b9f:(b5s.all fun p=>decide (p.2.length≤1000) && decide ((a8m p.2).length≤1000) && decide ((Builtin.Str.spaceWords p.2 (p.2.length+1)).length≤1000) && decide (p.1 ≠ "curve"))=true:=by decide +kernel
theorem kdB_none{first:Str}{n:Nat}(h:kdB first n=none):NoKD first n:=by
 unfold kdB at h
 by_cases hc:first = "curve"
 · rw[if_pos hc] at h
   refine⟨fun _ z=>?_,.inl ?_⟩
   · rw[if_pos z] at h;cases h
   · subst hc;rfl
 · rw[if_neg hc] at h
   refine⟨fun z=>absurd z hc,?_⟩
   unfold a3m
   rw[b6l]
   cases e:b5s.find? fun p=>decide (p.1=first) with
   | none=>exact .inl rfl
   | some p=>
     rw[e] at h
     have hm:=List.mem_of_find?_eq_some e
     have ho:=c6g.mp b9f p hm
     simp only[c6n,decide_eq_true_iff] at ho
     refine .inr ⟨p.2,rfl,fun z=>?_,ho.1.1.1,ho.1.1.2,ho.1.2⟩
     dsimp only at h
     rw[if_pos z] at h;cases h
theorem a7h{first:Str}{n:Nat}{ks:List Str}(h:kdB first n=some ks):KD first n ks:=by
 unfold kdB at h
 by_cases hc:first = "curve"
 · rw[if_pos hc] at h
   by_cases z:2≤n∧n≤13
   · rw[if_pos z] at h;cases h;exact .inl ⟨hc,z.1,z.2,rfl⟩
   · rw[if_neg z] at h;cases h
 · rw[if_neg hc] at h
   cases e:b5s.find? fun p=>decide (p.1=first) with
   | none=>rw[e] at h;cases h
   | some p=>
     rw[e] at h
     dsimp only at h
     have hm:=List.mem_of_find?_eq_some e
     have ho:=c6g.mp b9f p hm
     simp only[c6n,decide_eq_true_iff] at ho
     by_cases z:(a8m p.2).length=n
     · rw[if_pos z] at h;cases h
       refine .inr ⟨hc,p.2,?_,rfl,z,ho.1.1.1,ho.1.2⟩
       unfold a3m
       rw[b6l,e];rfl
     · rw[if_neg z] at h;cases h
def nmB(w:List Nat):Bool:=decide (1≤w.length∧w.length≤12) && w.all fun c=>decide (97≤c∧c≤122)
theorem nmB_iff{w:List Nat}:nmB w=true↔Nm (stL w):=by
 unfold nmB Nm
 rw[c6n,decide_eq_true_iff,c6g,and_assoc]
 have e:cp (stL w)=w:=by unfold stL cp;simp
 have l:(stL w).length=w.length:=by rw[← a1x,e]
 rw[e,l]
 simp only[decide_eq_true_iff]
def goodT(k:Str)(w:List Nat):Bool:=
 if k = "name" ∨ k = "new" then w == [91] || w == [93] || (litW w && nmB w)
 else if k = "share" then w == [48] || w == [49] || w == [49,47,50]
 else if k = "point" then w == [48,44,48] || w == [49,44,49]
 else if k = "level" then w == [48] else false
theorem fg0:Fg 100 0:=by unfold Fg;decide +kernel
theorem fg1:Fg 100 1:=by unfold Fg;decide +kernel
theorem fgh:Fg 100 (1 / 2):=by unfold Fg;decide +kernel
theorem b9b{a b o k:Str}{w:List Nat}(ha:Nm a)(hb:Nm b)(h:goodT k w=true):∃ d:Wx,d.kd k∧d.ok∧d.tx=fW a b o w:=by
 unfold goodT at h
 split at h
 · rename_i hk
   rw[c7i,c7i,c6n] at h
   rcases h with (h | h) | h
   · exact⟨.nm a,hk,ha,by rw[eq_of_beq h,fW_A];rfl⟩
   · exact⟨.nm b,hk,hb,by rw[eq_of_beq h,fW_B];rfl⟩
   · exact⟨.nm (stL w),hk,nmB_iff.mp h.2,(a5m h.1).symm⟩
 · split at h
   · rename_i hk
     rw[c7i,c7i] at h
     rcases h with (h | h) | h
     · exact⟨.sh 0,hk,fg0,by rw[eq_of_beq h,a5m (by decide)];decide +kernel⟩
     · exact⟨.sh 1,hk,fg1,by rw[eq_of_beq h,a5m (by decide)];decide +kernel⟩
     · exact⟨.sh (1 / 2),hk,fgh,by rw[eq_of_beq h,a5m (by decide)];decide +kernel⟩
   · split at h
     · rename_i hk
       rw[c7i] at h
       rcases h with h | h
       · exact⟨.pt (0,0),hk,⟨fg0,fg0⟩,by rw[eq_of_beq h,a5m (by decide)];decide +kernel⟩
       · exact⟨.pt (1,1),hk,⟨fg1,fg1⟩,by rw[eq_of_beq h,a5m (by decide)];decide +kernel⟩
     · split at h
       · rename_i hk
         exact⟨.lv 0,hk,c8c _,by rw[eq_of_beq h,a5m (by decide)];decide +kernel⟩
       · cases h
def OddW(md:Bool)(o:Str):Prop:=if md=true then BdS o∧44∉cp o∧o.length≤1000 else ¬ Nm o
def lvB:List (List Nat):=[[55],[45,49],[48,49],[],[120],[49,47,50],[49,48]]
def ptB:List (List Nat):=[[],[49],[49,44,50,44,51],[44],[49,44],[44,49],[49,59,49],[49,44,49,44]]
def badT(md:Bool)(k:Str)(w:List Nat):Bool:=
 if k = "name" ∨ k = "new" then (!md && w == [63]) || w == [] || (w.any fun c=>decide (c≠91∧c≠93∧c≠63∧¬ (97≤c∧c≤122)))
 else if k = "share" then md && w == [63]
 else if k = "point" then (md && (w == [49,44,63] || w == [63,44,49])) || ptB.contains w
 else if k = "level" then lvB.contains w else false
theorem tSh1:tSh 1 = "1":=by decide +kernel
theorem ptB_ok:∀ w∈ptB,BdP (stL w):=by
 intro w hw
 unfold ptB at hw
 simp only[c6e,c6u,or_false] at hw
 rcases hw with rfl | rfl | rfl | rfl | rfl | rfl | rfl | rfl
 · exact b3w (by decide +kernel)
 · exact b3w (by decide +kernel)
 · exact b6g (a := "1") (b := "2") (c := "3") (by decide +kernel) (by decide +kernel) (by decide +kernel)
 · exact b7u (a := "") (b := "") (by decide +kernel) (by decide +kernel) (by decide) a8i
 · exact c5m (q:=1) (b := "") fg1 (by decide +kernel) (by decide) a8i
 · exact b7u (a := "") (b := "1") (by decide +kernel) (by decide +kernel) (by decide) a8i
 · exact b3w (by decide +kernel)
 · exact b6g (a := "1") (b := "1") (c := "") (by decide +kernel) (by decide +kernel) (by decide +kernel)
theorem lvB_ok:∀ w∈lvB,∀ n:Nat,n≤6→stL w≠tN (n:Int):=by
 have h:(lvB.all fun w=>(List.range 7).all fun n=>decide (stL w≠tN (n:Int)))=true:=by decide +kernel
 intro w hw n hn
 have h1:=c6g.mp h w hw
 exact of_decide_eq_true (c6g.mp h1 n (c9u.mpr (by omega)))
theorem lit_ptB:∀ w∈ptB,litW w=true:=by decide
theorem lit_lvB:∀ w∈lvB,litW w=true:=by decide
theorem badT_ok{md:Bool}{a b o k:Str}{w:List Nat}(ho:OddW md o)(h:badT md k w=true):BadW k (fW a b o w):=by
 unfold badT at h
 split at h
 · rename_i hk
   refine .nm hk ?_
   rw[c7i,c7i,c6n] at h
   rcases h with (h | h) | h
   · rw[eq_of_beq h.2,fW_O]
     have:md=false:=by simpa using h.1
     rw[this] at ho
     exact ho
   · rw[eq_of_beq h]
     intro z
     have:(fW a b o []).length=0:=rfl
     have:=z.1
     omega
   · obtain⟨c,hc,hp⟩:=List.any_eq_true.mp h
     have hp:=of_decide_eq_true hp
     intro z
     refine hp.2.2.2 (z.2.2 c ?_)
     rw[a4m]
     refine List.mem_flatMap.mpr ⟨c,hc,?_⟩
     unfold fC
     rw[if_neg hp.1,if_neg hp.2.1,if_neg hp.2.2.1]
     simp
 · split at h
   · rename_i hk
     rw[c6n] at h
     rw[eq_of_beq h.2,fW_O]
     rw[h.1] at ho
     exact .sh hk ho.1
   · split at h
     · rename_i hk
       refine .pt hk ?_
       rw[c7i,c6n,c7i] at h
       rcases h with⟨hm,h | h⟩ | h
       · rw[hm] at ho
         have e:fW a b o w=tSh 1 ++ "," ++ o:=by
           rw[eq_of_beq h,tSh1]
           refine a2p ?_
           rw[a4m,a1q,a1q]
           show [49]++([44]++(cp o++[]))=_
           rw[c7p];rfl
         rw[e]
         exact c5m fg1 ho.2.1 (by have:=ho.2.2;omega) ho.1
       · rw[hm] at ho
         have e:fW a b o w=o ++ "," ++ "1":=by
           rw[eq_of_beq h]
           refine a2p ?_
           rw[a4m,a1q,a1q]
           show cp o++([44]++([49]++[]))=_
           rw[c8r];rfl
         rw[e]
         exact b7u ho.2.1 (by decide +kernel) (by have:=ho.2.2;omega) ho.1
       · have hm:=List.contains_iff_mem.mp h
         rw[a5m (lit_ptB w hm)]
         exact ptB_ok w hm
     · split at h
       · rename_i hk
         have hm:=List.contains_iff_mem.mp h
         rw[a5m (lit_lvB w hm)]
         exact .lv hk (lvB_ok w hm)
       · cases h
def goB(md:Bool):List Str→List (List Nat)→Bool
 | k::ks,w::ws=>badT md k w || (goodT k w && goB md ks ws)
 | _,_=>false
theorem goB_ok{md:Bool}{a b o:Str}(ha:Nm a)(hb:Nm b)(ho:OddW md o):∀ (ks:List Str) (ws:List (List Nat)),goB md ks ws=true→∃ (gs:List Wx) (y k:Str) (r:List Str),ws.map (fW a b o)=gs.map Wx.tx++y::r∧b6i ks gs∧ks[gs.length]?=some k∧BadW k y
 | [],ws,h=>by cases ws<;>cases h
 | k::ks,[],h=>by cases h
 | k::ks,w::ws,h=>by
   rw[goB,c7i,c6n] at h
   rcases h with h | ⟨h1,h2⟩
   · exact⟨[],fW a b o w,k,ws.map (fW a b o),rfl,fun i k d _ e=>by simp at e,rfl,badT_ok ho h⟩
   · obtain⟨d,d1,d2,d3⟩:=b9b (o:=o) ha hb h1
     obtain⟨gs,y,k',r,e,ok,hk,b'⟩:=goB_ok ha hb ho ks ws h2
     refine⟨d::gs,y,k',r,by rw[c6f,e,c6f,d3];rfl,fun i k d' e1 e2=>?_,hk,b'⟩
     cases i with
     | zero=>cases e1;cases e2;exact⟨d1,d2⟩
     | succ i=>exact ok i k d' e1 e2
def b1i(md:Bool)(t:Str):Bool:=match spC (cp t) with
 | []=>false
 | w0::ws=>((w0::ws).all fun w=>decide (w.length≤9) && w.all fun c=>decide (c<1114112)) && decide (ws.length≤40) && litW w0 && (match kdB (stL w0) ws.length with
   | none=>true
   | some ks=>goB md ks ws)
def BadV(K:c5t)(H:Hp)(v:V):Prop:=c0x K H v∨∃ x first ws,v=.str x∧RowW x first ws∧BadR first ws
theorem a6x{md:Bool}{a b o t:Str}(ha:Nm a)(hb:Nm b)(pb:Pl3 12 b)(po:Pl3 101 o)(ho:OddW md o)(h:b1i md t=true):∃ first ws,RowW (fill a b o t) first ws∧BadR first ws:=by
 unfold b1i at h
 cases e:spC (cp t) with
 | nil=>rw[e] at h;cases h
 | cons w0 ws=>
   rw[e] at h
   dsimp only at h
   rw[c6n,c6n,c6n,decide_eq_true_iff] at h
   obtain⟨⟨⟨h1,h2⟩,h3⟩,h4⟩:=h
   refine⟨_,_,a7y ha.pl pb po e h1 h2,?_⟩
   rw[a5m h3]
   cases hk:kdB (stL w0) ws.length with
   | none=>exact .kd (by rw[c5u];exact kdB_none hk)
   | some ks=>
     rw[hk] at h4
     obtain⟨gs,y,k,r,e1,ok,hk1,b'⟩:=goB_ok (o:=o) ha hb ho ks ws h4
     exact .wd ks (by rw[c5u];exact a7h hk) gs y k r e1 ok hk1 b'
end Cv
namespace Cv
open PySem PySem.Spec PyProof.Rows L2
def goodS(k:Str)(w:List Nat):Bool:=goodT k w || (k == "name" && w == [63])
def allS:List Str→List (List Nat)→Bool
 | k::ks,w::ws=>goodS k w && allS ks ws
 | [],[]=>true
 | _,_=>false
def anyS:List Str→List (List Nat)→Bool
 | k::ks,w::ws=>(k == "name" && w == [63]) || anyS ks ws
 | _,_=>false
def c1l(t:Str):Bool:=match spC (cp t) with
 | []=>false
 | w0::ws=>((w0::ws).all fun w=>decide (w.length≤9) && w.all fun c=>decide (c<1114112)) && decide (ws.length≤40) && litW w0 && (match kdB (stL w0) ws.length with
   | none=>false
   | some ks=>allS ks ws && anyS ks ws)
def StrV(s:Str)(v:V):Prop:=∃ (x first:Str) (ds:List Wx) (ks:List Str) (i:Nat),v=.str x∧RowW x first (ds.map Wx.tx)∧KD first ds.length ks∧b6i ks ds∧ks[i]?=some "name" ∧ ds[i]?=some (.nm s)
theorem c5o{a b s:Str}(ha:Nm a)(hb:Nm b)(hs:Nm s):∀ (ks:List Str) (ws:List (List Nat)),allS ks ws=true→∃ ds:List Wx,ds.map Wx.tx=ws.map (fW a b s)∧b6i ks ds∧(anyS ks ws=true→∃ i:Nat,ks[i]?=some ("name" : Str)∧ds[i]?=some (Wx.nm s))
 | [],[],_=>⟨[],rfl,fun i k d e=>by simp at e,fun h=>by cases h⟩
 | [],w::ws,h=>by cases h
 | k::ks,[],h=>by cases h
 | k::ks,w::ws,h=>by
   rw[allS,c6n] at h
   obtain⟨ds,e,ok,an⟩:=c5o ha hb hs ks ws h.2
   by_cases hq:(k == "name" && w == [63])=true
   · have hq':=hq
     rw[c6n] at hq
     have e1:k = "name":=eq_of_beq hq.1
     have e2:w=[63]:=eq_of_beq hq.2
     refine⟨.nm s::ds,by rw[c6f,c6f,e,e2,fW_O];rfl,fun i k' d a1 a2=>?_,fun _=>⟨0,by rw[e1];rfl,rfl⟩⟩
     cases i with
     | zero=>cases a1;cases a2;exact⟨.inl e1,hs⟩
     | succ i=>exact ok i k' d a1 a2
   · have h1:=h.1
     unfold goodS at h1
     rw[c7i] at h1
     rcases h1 with h1 | h1
     · obtain⟨d,d1,d2,d3⟩:=b9b (o:=s) ha hb h1
       refine⟨d::ds,by rw[c6f,c6f,e,d3],fun i k' d' a1 a2=>?_,fun z=>?_⟩
       · cases i with
         | zero=>cases a1;cases a2;exact⟨d1,d2⟩
         | succ i=>exact ok i k' d' a1 a2
       · rw[anyS,c7i] at z
         rcases z with z | z
         · exact absurd z hq
         · obtain⟨i,i1,i2⟩:=an z
           exact⟨i+1,i1,i2⟩
     · exact absurd h1 hq
theorem c1k{a b s t:Str}(ha:Nm a)(hb:Nm b)(hs:Nm s)(pb:Pl3 12 b)(h:c1l t=true):StrV s (.str (fill a b s t)):=by
 unfold c1l at h
 cases e:spC (cp t) with
 | nil=>rw[e] at h;cases h
 | cons w0 ws=>
   rw[e] at h
   dsimp only at h
   rw[c6n,c6n,c6n,decide_eq_true_iff] at h
   obtain⟨⟨⟨h1,h2⟩,h3⟩,h4⟩:=h
   cases hk:kdB (stL w0) ws.length with
   | none=>rw[hk] at h4;cases h4
   | some ks=>
     rw[hk,c6n] at h4
     obtain⟨ds,e1,ok,an⟩:=c5o ha hb hs ks ws h4.1
     obtain⟨i,i1,i2⟩:=an h4.2
     have ps:Pl3 101 s:=⟨hs.pl.nb,c6x hs.pl.ln (by decide),hs.pl.ok⟩
     have rw':=a7y (t:=t) ha.pl pb ps e h1 h2
     rw[a5m h3,← e1] at rw'
     have el:ds.length=ws.length:=by have:=congrArg c8f e1;rwa [c5u,c5u] at this
     exact⟨_,_,ds,ks,i,rfl,rw',by rw[el];exact a7h hk,ok,i1,i2⟩
def b4j:Sp:=fun vs H Q _=>∃ t a b o:Str,vs=[.str t,.str a,.str b,.str o]∧t.length≤100∧a.length≤12∧b.length≤12∧o.length≤101∧∀ H',Same H H'→Q (.str (fill a b o t)) H'
def b8k(K:c5t):Sp:=fun vs H Q _=>∃ a b:Str,vs=[.str a,.str b]∧Nm a∧Nm b∧∀ (l:Addr) (us:List V) (H':Hp),Same H H'→H' l=some (.lst us)→us.length=41→(∀ v∈us,BadV K H' v)→Q (.ref l) H'
def a7u(K:c5t)(md:Bool):Sp:=fun vs H Q _=>∃ a b o:Str,vs=[.str a,.str b,.str o]∧Nm a∧Nm b∧OddW md o∧Pl3 101 o∧∀ (l:Addr) (us:List V) (H':Hp),Same H H'→H' l=some (.lst us)→us.length=9→(∀ v∈us,BadV K H' v)→Q (.ref l) H'
def a9z:Sp:=fun vs H Q _=>∃ a s:Str,vs=[.str a,.str s]∧Nm a∧Nm s∧∀ (l:Addr) (us:List V) (H':Hp),Same H H'→H' l=some (.lst us)→us.length=17→(∀ v∈us,StrV s v)→Q (.ref l) H'
inductive b8a (K:c5t) (H:Hp) (n1 n2 s:Str) (v:V):Int→Prop
 | bad (h:BadV K H v):b8a K H n1 n2 s v 0
 | str (h:StrV s v):b8a K H n1 n2 s v 1
 | rs (h:v=.str ("raise " ++ n1)):b8a K H n1 n2 s v 2
 | lw (h:v=.str ("lower " ++ n2)):b8a K H n1 n2 s v 3
def spCase(K:c5t):Sp:=fun vs H Q _=>∃ (c:Int) (ln:Addr) (n0 n1 n2 s:Str),vs=[.int c,.ref ln,.str s]∧H ln=some (.lst [.str n0,.str n1,.str n2])∧Nm n0∧Nm n1∧Nm n2∧Nm s∧∀ (g:Addr) (v:V) (k:Int) (H':Hp),Same H H'→H' g=some (.tup [v,.int k])→b8a K H' n1 n2 s v k→Q (.ref g) H'
end Cv
namespace Cv
open PySem PySem.Spec PyProof.Rows L2
theorem fW_snoc(a b o:Str)(w:List Nat)(c:Nat):fW a b o (w++[c])=fW a b o w++(⟨(fC a b o c).toArray⟩ : Str):=by
 refine a2p ?_
 rw[a4m,a1q,a4m]
 unfold fL
 rw[List.flatMap_append]
 simp[cp]
theorem b6o(a:Str):(⟨(cp a).toArray⟩ : Str)=a:=a2p (by simp[cp])
theorem take_cp{t:Str}{i:Nat}(hi:i<t.length):(cp t).take (i+1)=(cp t).take i++[t.cps.getD i 0]:=by
 have hl:=a1x t
 have e:(cp t)[i]?=some (t.cps.getD i 0):=by
   have:i<t.cps.size:=hi
   unfold cp
   rw[c9s]
   simp[Array.getD,this]
 rw[List.take_succ,e];rfl
def strT:List Str:=["tell ?","point ? 1/2","cut ? 0 [ [","stretch ? 0 1 [","turn ?","raise ?","lower ?","least ?","speed ? [","hull ?","move ? 1 0 0 1 0 0","same [ ?","part ? [","box ?","join [ ?","meet ? [ 0","same ? ?"]
theorem strT_ok:(strT.all c1l)=true:=by decide +kernel
def a5f:List Str:=["point [ ?","cut [ ? [ ]","stretch [ 0 ? ]","stretch [ ? 1 ]","move [ 1 0 ? 1 0 0","curve ] 1,?","curve ] 0,0 ?,1","point nobody ?","move [ 1 0 0 1 0 ?"]
theorem wordT_ok:(a5f.all (b1i true))=true:=by decide +kernel
def a5k:List Str:=["tell ?","curve ? 1,1","turn ?","same [ ?","speed [ ?","cut [ 1/2 ] ?","hull ?","raise ?","point ? 1/2"]
theorem nameT_ok:(a5k.all (b1i false))=true:=by decide +kernel
def a1e:List Str:=([""," ","tell","tell ","tell  ["," tell [","tell [ ","tell [ ]","Tell [","names ","names [","curve","curve [","curve [ ","curves [ 1,1","curve [  1,1"]:List Str)++(["point [","cut [ 1/2 [","stretch [ 0 1","speed [","move [ 1 0 0 1 0","same [","meet [ ]","hull","box [ ]","part [","join [ ] 2","raise","lower [ 1","least","turn [ ]","move [ 1 0 0 1 0 0 0","speed [ ] ]","cut [ 1/2 [ ] ]","tell [\n","names\n"]:List Str)
theorem c2q:(a1e.all (b1i false))=true:=by decide +kernel
theorem strT_ln:(strT.all fun t=>decide (t.length≤30))=true:=by decide +kernel
theorem wordT_ln:(a5f.all fun t=>decide (t.length≤30))=true:=by decide +kernel
theorem nameT_ln:(a5k.all fun t=>decide (t.length≤30))=true:=by decide +kernel
theorem c2r:(a1e.all fun t=>decide (t.length≤30))=true:=by decide +kernel
theorem fill_noB{a b b' o t:Str}(h:(cp t).all (fun c=>decide (c≠93))=true):fill a b o t=fill a b' o t:=by
 refine a2p ?_
 unfold fill
 rw[a4m,a4m]
 unfold fL
 rw[List.flatMap_def,List.flatMap_def]
 congr 1
 refine List.map_congr_left fun c hc=>?_
 have:=of_decide_eq_true (c6g.mp h c hc)
 unfold fC
 rw[if_neg this,if_neg this]
theorem strT_no:(strT.all fun t=>(cp t).all fun c=>decide (c≠93))=true:=by decide +kernel
end Cv
namespace Cv
open PySem PySem.Spec PyProof.Rows L2
theorem b9w{X:Cx}(K:c5t)(hK:X.K=K:=by rfl):OpR X (compareOp .In) (rIn K false):=by subst hK;exact c3r
end Cv
namespace Cv
open PySem PySem.Spec PyProof.Rows L2
def oneL:List Nat:=c6i 101 49
def oddS:List Str:=["","x","1/0","2/4","1/1","01","-0","+1","1/-2","1/2/3","1/","/2","-","1.5","0/1",stL oneL]
theorem b3v{x:Str}(h1:47∉cp x)(h2:(cp x)[0]?≠some 45)(h3:1≤x.length)(h4:x.length≤100)(h:∃ c∈cp x,¬ (48≤c∧c≤57)):BdS x:=a9c h1 (c6x h4 (by decide)) (.fig h2 (.sign h3 h4 h))
theorem oddS_bd:∀ x∈oddS,BdS x:=by
 intro x hx
 unfold oddS at hx
 simp only[c6e,c6u,or_false] at hx
 have t0:tN 0 = "0":=by decide +kernel
 have t1:tN 1 = "1":=by decide +kernel
 have t2:tN 2 = "2":=by decide +kernel
 have t4:tN 4 = "4":=by decide +kernel
 rcases hx with rfl | rfl | rfl | rfl | rfl | rfl | rfl | rfl | rfl | rfl | rfl | rfl | rfl | rfl | rfl | rfl
 · exact a8i
 · exact b3v (by decide +kernel) (by decide +kernel) (by decide +kernel) (by decide +kernel) ⟨120,by decide +kernel,by decide⟩
 · exact .low 1 0 (t1 ▸ t0 ▸ a7m (a := "1") (y := "0") (by decide +kernel) (by decide +kernel)) (by unfold FgN;decide +kernel) (by decide +kernel) (.inl (by decide))
 · exact .low 2 4 (t2 ▸ t4 ▸ a7m (a := "2") (y := "4") (by decide +kernel) (by decide +kernel)) (by unfold FgN;decide +kernel) (by decide +kernel) (.inr (by decide +kernel))
 · exact .low 1 1 (t1 ▸ a7m (a := "1") (y := "1") (by decide +kernel) (by decide +kernel)) (by unfold FgN;decide +kernel) (by decide +kernel) (.inl (by decide))
 · exact a9c (by decide +kernel) (by decide +kernel) (.fig (by decide +kernel) (.nought (by decide +kernel) (by decide +kernel) (by decide +kernel) (by decide +kernel)))
 · exact a9c (by decide +kernel) (by decide +kernel) (.nought (by decide +kernel))
 · exact b3v (by decide +kernel) (by decide +kernel) (by decide +kernel) (by decide +kernel) ⟨43,by decide +kernel,by decide⟩
 · exact .bot 1 "-2" (t1 ▸ a7m (a := "1") (y := "-2") (by decide +kernel) (by decide +kernel)) (by unfold FgN;decide +kernel) (by decide +kernel) (.sign (by decide +kernel) (by decide +kernel) ⟨45,by decide +kernel,by decide⟩)
 · refine .many ?_
   rw[spl (x := "1/2/3") (c:=47) (sep := "/") (ts:=["1","2","3"]) rfl kSl (by simp) (by decide +kernel) (by decide +kernel)]
   decide
 · exact .bot 1 "" (t1 ▸ a7m (a := "1") (y := "") (by decide +kernel) (by decide +kernel)) (by unfold FgN;decide +kernel) (by decide +kernel) (.none (by decide +kernel))
 · exact .top "" ["2"] (a7m (a := "") (y := "2") (by decide +kernel) (by decide +kernel)) (by decide +kernel) (.fig (by decide +kernel) (.none (by decide +kernel)))
 · exact a9c (by decide +kernel) (by decide +kernel) (.neg "" (by decide +kernel) (.none (by decide +kernel)))
 · exact b3v (by decide +kernel) (by decide +kernel) (by decide +kernel) (by decide +kernel) ⟨46,by decide +kernel,by decide⟩
 · exact .low 0 1 (t0 ▸ t1 ▸ a7m (a := "0") (y := "1") (by decide +kernel) (by decide +kernel)) (by unfold FgN;decide +kernel) (by decide +kernel) (.inl (by decide))
 · exact a9c (by decide +kernel) (by decide +kernel) (.fig (by decide +kernel) (.many (by decide +kernel)))
def pl3B(x:Str):Bool:=(cp x).all (fun c=>decide (c≠32∧c≠44∧c<1114112)) && decide (x.length≤101)
theorem c3a{x:Str}(h:pl3B x=true):Pl3 101 x∧44∉cp x:=by
 unfold pl3B at h
 rw[c6n] at h
 have h1:=c6g.mp h.1
 exact⟨⟨fun z=>(of_decide_eq_true (h1 _ z)).1 rfl,of_decide_eq_true h.2,fun c hc=>(of_decide_eq_true (h1 _ hc)).2.2⟩,fun z=>(of_decide_eq_true (h1 _ z)).2.1 rfl⟩
theorem oddS_pl:(oddS.all pl3B)=true:=by decide +kernel
theorem oddS_ok{x:Str}(h:x∈oddS):OddW true x∧Pl3 101 x:=by
 obtain⟨h1,h2⟩:=c3a (c6g.mp oddS_pl _ h)
 exact⟨⟨oddS_bd x h,h2,c6x h1.ln (by decide)⟩,h1⟩
def oddN:List Str:=["","A","aB","a1","abcdefghijklm","a_","-","7","*"]
def noNm(x:Str):Bool:=decide (x.length=0) || decide (12<x.length) || (cp x).any fun c=>decide (¬ (97≤c∧c≤122))
theorem noNm_ok{x:Str}(h:noNm x=true):¬ Nm x:=by
 intro n
 unfold noNm at h
 rw[c7i,c7i,decide_eq_true_iff,decide_eq_true_iff] at h
 rcases h with (h | h) | h
 · have:=n.1;omega
 · have:=n.2.1;omega
 · obtain⟨c,hc,h⟩:=List.any_eq_true.mp h
   exact of_decide_eq_true h (n.2.2 c hc)
theorem oddN_b:(oddN.all fun x=>noNm x && pl3B x)=true:=by decide +kernel
theorem oddN_ok{x:Str}(h:x∈oddN):OddW false x∧Pl3 101 x:=by
 have h1:=c6g.mp oddN_b _ h
 rw[c6n] at h1
 exact⟨noNm_ok h1.1,(c3a h1.2).1⟩
def lvlT:List Str:=["7","-1","01","","x","1/2","10"," 0"]
def ptsT:List Str:=["1","1,2,3",",","1,",",1","1;1",stL ([49,44,49]++(c6i 12 [32,48,44,48]).flatten),"1,1,","1,1 "]
theorem lvlT_ok:(lvlT.all fun t=>b1i false ("meet [ ] " ++ t))=true:=by decide +kernel
theorem ptsT_ok:(ptsT.all fun t=>b1i false ("curve [ " ++ t))=true:=by decide +kernel
theorem b9h{a b o x y:Str}:fill a b o (x++y)=fill a b o x++fill a b o y:=by
 refine a2p ?_
 unfold fill
 rw[a4m,a1q,a1q,a4m,a4m]
 exact List.flatMap_append
theorem b9g{a b o x:Str}(h:litW (cp x)=true):fill a b o x=x:=by unfold fill;rw[a5m h];exact b6o x
theorem po83:Pl3 101 "" ∧ OddW false "":=⟨⟨by decide +kernel,by decide,fun c hc=>by cases hc⟩,fun z=>absurd z.1 (by decide)⟩
theorem lit_lvlT:(lvlT.all fun t=>litW (cp t))=true:=by decide +kernel
theorem lit_ptsT:(ptsT.all fun t=>litW (cp t))=true:=by decide +kernel
theorem meet_bad{K:c5t}{H:Hp}{a b t:Str}(ha:Nm a)(hb:Nm b)(ht:t∈lvlT):BadV K H (.str ("meet " ++ a ++ " " ++ b ++ " " ++ t)):=by
 obtain⟨f,ws,h1,h2⟩:=a6x ha hb hb.pl po83.1 po83.2 (c6g.mp lvlT_ok _ ht)
 have e:fill a b "" ("meet [ ] " ++ t) = "meet " ++ a ++ " " ++ b ++ " " ++ t:=by
   rw[b9h,b9g (c6g.mp lit_lvlT _ ht)]
   congr 1
   refine a2p ?_
   unfold fill
   rw[a4m,a1q,a1q,a1q,a1q]
   show cp ("meet " : Str)++(cp a++(cp (" " : Str)++(cp b++(cp (" " : Str)++[]))))=_
   simp
 rw[e] at h1
 exact .inr ⟨_,f,ws,rfl,h1,h2⟩
theorem c5h{K:c5t}{H:Hp}{a t:Str}(ha:Nm a)(ht:t∈ptsT):BadV K H (.str ("curve " ++ a ++ " " ++ t)):=by
 obtain⟨f,ws,h1,h2⟩:=a6x ha ha ha.pl po83.1 po83.2 (c6g.mp ptsT_ok _ ht)
 have e:fill a a "" ("curve [ " ++ t) = "curve " ++ a ++ " " ++ t:=by
   rw[b9h,b9g (c6g.mp lit_ptsT _ ht)]
   congr 1
   refine a2p ?_
   unfold fill
   rw[a4m,a1q,a1q]
   show cp ("curve " : Str)++(cp a++(cp (" " : Str)++[]))=_
   simp
 rw[e] at h1
 exact .inr ⟨_,f,ws,rfl,h1,h2⟩
theorem BadV.same{K:c5t}{H H':Hp}{v:V}(h:BadV K H v)(s:Same H H'):BadV K H' v:=by
 rcases h with⟨t,h1,h2⟩ | h
 · refine .inl ⟨t,?_,h2⟩
   cases h1 with
   | non=>exact .non
   | bl x=>exact .bl x
   | int i=>exact .int i
   | str x=>exact .str x
   | flt x=>exact .flt x
   | lst e=>exact .lst (s _ _ e)
   | frz e=>exact .frz (s _ _ e)
   | tup e=>exact .tup (s _ _ e)
   | dK e=>exact .dK (s _ _ e)
   | dT e=>exact .dT (s _ _ e)
   | ins e cl ha hn htk hm=>exact .ins (s _ _ e) cl ha hn htk hm
 · exact .inr h
theorem repS_one:repS "1" 101=stL oneL:=by decide +kernel
theorem repS_pts:("1,1" : Str)++repS " 0,0" 12=stL ([49,44,49]++(c6i 12 [32,48,44,48]).flatten):=by decide +kernel
theorem a1l:(("meet " : Str).length=5)∧(("curve " : Str).length=6)∧((" " : Str).length=1):=by decide +kernel
theorem lvlT_ln:(lvlT.all fun t=>decide (t.length≤60))=true:=by decide +kernel
theorem ptsT_ln:(ptsT.all fun t=>decide (t.length≤60))=true:=by decide +kernel
end Cv
namespace Cv
open PySem PySem.Spec PyProof.Rows L2
structure Book3(cs:List (Str×List Pt))(n1 n2 s:Str):Prop where
 no:getA cs s=none
 nm1:Nm n1
 nm2:Nm n2
 one:∃ ps,getA cs n1=some ps∧ps.length=12
 two:∃ (ps:List Pt) (D:Int),getA cs n2=some ps∧ps.length=1∧0<D∧Sz 60 D∧∀ p∈ps,OvP D 180 p
def spRefd(K:c5t)(C:Addr):Sp:=fun vs H Q _=>∃ (x d:Addr) (v:V) (cs:List (Str×List Pt)) (kd:Int) (n1 n2 s:Str),vs=[.ref x,v,.int kd]∧a4v C H x d cs∧b8a K H n1 n2 s v kd∧Book3 cs n1 n2 s∧∀ H',Same H H'→Q (.bl true) H'
inductive c0y (CN CM CT CL:Addr):Int→Addr→Prop
 | text:c0y CN CM CT CL 0 CN
 | name:c0y CN CM CT CL 1 CM
 | many:c0y CN CM CT CL 2 CT
 | low:c0y CN CM CT CL 3 CL
end Cv
namespace Cv
open PySem PySem.Spec PyProof.Rows L2
section
variable {X:Cx} {CX:CXT} {k j:Nat} {ps:List Str} {sp:Sp} {E:L2.St→XK} {x m:Str} {p pos apos:Pos} {o e:Expr} {es:List Expr} {t:TA} {ta:TE} {C:Addr}
def tMthS(C:Addr)(m:Str)(sp:Sp)(E:L2.St→XK)(ta:TE)(t:TA):TE:=fun σ H Q=>ta σ H fun x H1=>∃ a dx fs,x=.ref a∧H1 a=some (.ins C dx fs)∧fs.lookup m=none∧t σ H1 fun vs H2=>sp (x::vs) H2 Q (E σ)
theorem pe_mthS{pl:Sem Bool}(T:ClsK X.K X.mg x C)(D:a8l X.prog X.w X.K X.mg X.base CX k C m ps sp)(he:PE X o ta)(hr:Room j X.A)(hx:b1j CX X E)(ha:PA X (e::es) t)(hk:k≤j:=by decide)(hst:starEach (e::es) X.env=(false,eval e X.env)::starEach es X.env:=by rfl)(hpl:(backTo pos (starEach es X.env)).any (·.1)=false:=by rfl)(ht:eval (.Call (.Attribute o m apos) (e::es) [] pos) X.env=(do
     let ov ← eval o X.env
     standAt apos.atName
     let (f,first) ← holding [ov] (getMethod ov m pl)
     callWith pos f first (backTo pos (starEach (e::es) X.env)) (backToKw pos (keywordEach [] X.env))):=by rfl) :
   PE X (.Call (.Attribute o m apos) (e::es) [] pos) (tMthS C m sp E ta t):=by
 obtain⟨f,fd,F,hm,hb⟩:=D.ex
 intro pins s σ H Q I h
 refine PySem.W.methodCall_KW (pl:=pl) (thn (he pins s σ H _ I h) fun u s1 ⟨x,H1,I1,rx,a,dx,fs,ex,ea,l,q⟩=>?_) ht
 subst ex
 obtain rfl:u=Value.ref a:=rx
 refine b2a I1 ea T.cl hm l ?_
 refine d0d (first:=[.ref a]) (h₀:=X.base) I.ok.mod.kin hm.kp (thn (ha pos pins s1 σ H1 _ I1 q) fun us s2 ⟨vs,H2,I2,r,q2⟩=>⟨I2.kIn,?_⟩) hst hpl
 have r2:Vals (.ref a::vs) (.ref a::us):=.cons rfl r
 have hl:(.ref a::us:List Value).length=ps.length:=by rw[← r2.length];exact F.len _ _ _ _ q2
 have hb2:=hb s2 (.ref a::us) I2.kIn (by rw[c7p];exact hl)
 rw[c7p] at hb2
 refine wpAny_call (codeAny_mono (F.run X.A X.stack s2 H2 ⟨.ref a::us,[]⟩ (.ref a::us) (.ref a::vs) Q (E σ) (hr.mono hk) I2.env0 hb2 r2 q2) fun r' s' hq=>?_)
 match r',hq with
 | .error e',hq=>exact hx pins σ H2 s2 e' s' I2 hq
 | .ok (.ret u),hq=>exact I2.after hq
 | .ok .next,hq=>exact False.elim hq
 | .ok .brk,hq=>exact False.elim hq
 | .ok .cont,hq=>exact False.elim hq
theorem c3e{pl:Sem Bool}(T:ClsK X.K X.mg x C)(D:a8l X.prog X.w X.K X.mg X.base CX k C m ps sp)(he:PEi X o ta)(hr:Room j X.A)(hx:b1j CX X E)(ha:PAi X (e::es) t)(hk:k≤j:=by decide)(hst:starEach (e::es) X.env=(false,eval e X.env)::starEach es X.env:=by rfl)(hpl:(backTo pos (starEach es X.env)).any (·.1)=false:=by rfl)(ht:eval (.Call (.Attribute o m apos) (e::es) [] pos) X.env=(do
   let ov ← eval o X.env
   standAt apos.atName
   let (f,first) ← holding [ov] (getMethod ov m pl)
   callWith pos f first (backTo pos (starEach (e::es) X.env)) (backToKw pos (keywordEach [] X.env))):=by rfl) :
 PEi X (.Call (.Attribute o m apos) (e::es) [] pos) (tMthS C m sp E ta t):=by with_unfolding_all exact pe_mthS T D he hr hx ha hk hst hpl ht
end
section
variable {prog:Program} {w:World} {A:Around} {E:Value→Shared→Prop} {s:Shared}
theorem c2u{x C it:Addr}{a left st:Int}{Q:Option Value→Shared→Prop}(hh:A.handled=some (.ref x))(hx:XAt x C s.heap)(hit:IsRangeIter s.heap it a left st)(hl:left≤0)(hQ:∀ h',Heap.ExtBut it s.heap h'→Q none { s with heap:=h' }):wpAny (model prog w) A (pyNext (.ref it)) Q E s:=by
 have hT:s.TypeIs (.ref it) "range_iterator":=⟨_,hit,rfl⟩
 unfold pyNext
 refine wpAny_bind (wpAny_attempt (wpAny_callSpecial?_slot (name:=Str.ofString "__next__") hT F.slot_range_iterator_next (wpAny_call_entry F.slot_range_iterator_next hT F.entry_range_iterator_next ?_ (F.args_range_iterator_next_1 _))))
 refine (show wpAny _ _ (field (.ref it) 0 >>= _) _ _ s from wpAny_bind (wpAny_field hit rfl (x:=rawInt a) rfl ?_))
 refine (show wpAny _ _ (field (.ref it) 1 >>= _) _ _ s from wpAny_bind (wpAny_field hit rfl (x:=rawInt left) rfl ?_))
 refine (show wpAny _ _ (field (.ref it) 2 >>= _) _ _ s from wpAny_bind (wpAny_field hit rfl (x:=rawInt st) rfl ?_))
 refine (show wpAny _ _ (if left≤0 then _ else _) _ _ s from ?_)
 rw[if_pos hl]
 refine wpAny_bind (wpAny_rule (wpAny_bind ?_))
 refine (show wpAny _ _ (newExc (.type "StopIteration") [] >>= _) _ _ _ from wpAny_bind ?_)
 simp only[newExc,newTuple]
 refine wpAny_bind (wpAny_newObj_type ?_ (by size_fits))
 refine wpAny_bind (m:=firstArgMember _ _) (wpAny_of_eq (a:=Value.none) (by first | rfl | (simp only[firstArgMember];rfl)) ?_)
 refine wpAny_newObj_type ?_ (by size_fits)
 generalize hg2:s.heap.push { cls:=.type "tuple",dict:=none,data:=.seq [].toArray }=h2
 have x2:Heap.ExtBut it s.heap h2:=by subst hg2;exact (Heap.ExtBut.refl it s.heap).push _
 have x2':∀ b o,s.heap.get? b=some o→h2.get? b=some o:=fun b o e=>by subst hg2;exact Heap.get?_push_of_some _ e
 have x3:=x2.push { cls:=.type "StopIteration",dict:=none,data:=.fields (#[.ref s.heap.objs.size,.none,.none,.none,.bool false,.none]++ownMembersOf (.type "StopIteration") []) }
 obtain⟨ox,vx,ea,b,c,d,dn⟩:=hx
 have lx:x<h2.objs.size:=Heap.lt_size (x2' x ox ea)
 refine raiseH (A:=A.in1) (x:=x) (C:=C) (e:=h2.objs.size) hh ⟨ox,vx,Heap.get?_push_of_some _ (x2' x ox ea),b,c,d,dn⟩ (Heap.get?_push_size _ rfl) rfl (by simp[ownMembersOf]) (c6s lx) ?_
 refine wpAny_bind (wpAny_isInstance (T := "StopIteration") (b:=true) ⟨_,Heap.get?_update_self _ (Heap.get?_push_size _ rfl) rfl,rfl⟩ isSubtype_stop ?_)
 refine wpAny_pure (hQ _ fun q oq nq eq=>?_)
 rw[Heap.get?_update_other _ _ (Nat.ne_of_gt (Heap.lt_size (x2 q oq nq eq)))]
 exact x3 q oq nq eq
end
end Cv
namespace Cv
open PySem PySem.Spec PyProof.Rows L2
def ItrH(x C:Addr)(n:Nat):It:=⟨fun i _=>i<n,fun i H v H'=>H'=H∧v=.int (i:Int),fun i H=>n≤i∧H x=some (ExcO x (.ref C))⟩
def TPH(X:Cx)(tg:Expr):It→List Addr→Addr→(Nat→Heap→Prop)→Prop:=fun J fp it tn=>TB X.prog X.w fp it tn∧∀ Z:Cx,Z.prog=X.prog→Z.w=X.w→Z.A=X.A→c5p Z tg J fp it tn
theorem turnH{x C it:Addr}{n:Nat}{tg:Expr}{Z:Cx}(hh:Z.A.handled=some (.ref x)):c5p Z tg (ItrH x C n) [it] it (fun i h=>IsRangeIter h it (0+(i:Nat)*1) ((n:Int) - (i:Nat)) 1) where
 tb:=(a8n (P:=Z.prog) (w:=Z.w) (K:=Z.K) (tg:=tg) it 0 n).tb
 step:=by
   intro i pins s σ H E I hf st
   obtain⟨f0,f1,f2,f3,f4,f5⟩:=hf it (by simp)
   refine⟨fun h=>?_,fun h=>?_⟩
   · exact c2u hh (I.hok x _ h.2).1 st (by have:=h.1;omega) fun h' eb=>⟨rfl,I.turned (t':=s.toks) (fun b o hb e=>eb b o hb e) f0 f1 f3 f4 f5⟩
   · have hi:i<n:=h
     refine wpAny_pyNext_range_item st (by omega) fun h' st' sb=>?_
     have I1:Inv Z pins σ H { s with heap:=h',toks:=s.toks+1 }:=I.turned (fun b o hb e=>(sb.2 b hb).trans e) f0 f1 f3 f4 f5
     have e1:(0:Int)+(i:Nat)*1+1=0+((i+1:Nat):Int)*1:=by omega
     have e2:(n:Int) - (i:Nat) - 1=(n:Int) - ((i+1:Nat):Int):=by omega
     rw[e1,e2] at st'
     refine⟨_,rfl,go_of (s:={ s with heap:=h',toks:=s.toks+1 }) (n := "range_iterator") st' rfl rfl (by decide) ⟨.int (i:Int),H,I1,⟨s.toks,?_⟩,⟨rfl,rfl⟩,st',fun b hb=>(hf b hb).1⟩⟩
     have e3:(0:Int)+(i:Nat)*1=(i:Int):=by omega
     rw[e3]
section
variable {X:Cx} {tg:Expr}
def iRngH(x:Addr)(ta:TA):TI:=fun σ H R=>ta σ H fun vs H1=>∃ (j:Int) (C:Addr),vs=[.int j]∧0≤j∧j<2^62∧H1 x=some (ExcO x (.ref C))∧R (ItrH x C j.toNat) H1
theorem c3b{x:Addr}{a:Expr}{ta:TA}{p pos:Pos}(hh:X.A.handled=some (.ref x))(hg:Gl X "range")(hm:X.mg "range" = none)(ha:PAi X [a] ta)(hs:starEach [a] X.env=[(false,eval a X.env)]:=by rfl):PIG X (TPH X tg) (.Call (.Name "range" p) [a] [] pos) (iRngH x ta):=by
 intro pins s σ H R I h
 have ha':PA X [a] ta:=by with_unfolding_all exact ha
 refine Call_ (b1a I hg hm boot_range (c8l (thn (ha' pos pins s σ H _ I h) fun us s1 ⟨vs,H1,I1,r1,q1⟩=>?_) hs rfl))
 obtain⟨j,C,e,q0,q2,qx,q⟩:=q1
 subst e
 cases r1 with
 | cons r rr=>
   cases rr
   obtain⟨t,rfl⟩:=r
   refine call_range_1 (wpAny_pyIter_range (IsRange.new ..) (small_one (by omega) (by omega) (by omega) q2) ?_)
   generalize hp:s1.heap.push _=h1
   have k1:∀ b o,s1.heap.get? b=some o→h1.get? b=some o:=fun b o e=>by rw[← hp];exact Heap.get?_push_of_some _ e
   have I2:=I1.kept (h':=h1) (t':=s1.toks) k1
   refine⟨h1.objs.size,[h1.objs.size],_,_,H1,rfl,I1.kept fun b o e=>Heap.get?_push_of_some _ (k1 b o e),⟨(a8n (P:=X.prog) (w:=X.w) (K:=X.K) (tg:=tg) _ 0 j.toNat).tb,fun Z _ _ hA=>turnH (C:=C) (by rw[hA];exact hh)⟩,?_,fun b hb=>?_,q⟩
   · have e2:((j.toNat:Nat):Int) - ((0:Nat):Int)=Builtin.Range.rangeSize 0 j 1:=by rw[rangeSize_one];split<;>omega
     show IsRangeIter _ _ ((0:Int)+((0:Nat):Int)*1) (((j.toNat:Nat):Int) - ((0:Nat):Int)) 1
     rw[e2]
     exact Heap.get?_push_size _ rfl
   · have e:b=h1.objs.size:=by simpa using hb
     subst e
     exact I2.fpOk (c6l _) (I2.hok.fresh (c6l _))
theorem b4v(x C:Addr)(n:Nat){H1:Hp}(h:H1 x=some (ExcO x (.ref C))):b2e (ItrH x C n) H1 n fun i=>.int (i:Int):=fun H2 s i=>
 ⟨fun hi=>⟨hi,fun x H' y=>⟨y.1,y.2⟩⟩,fun e=>by subst e;exact⟨c6l _,s _ _ h⟩⟩
theorem c3h{elt iter:Expr}{os:List Str}{pos:Pos}{scope:Scope}{wi:TI}{g:TG}{te:TE}{caps:List (Nat×Str)}(N:List Str)(sc:Scope)(hi:PIG X (TPH X tg) iter wi)(hg:∀ cl C s0 H0 fp,PG (a2j X scope cl (os++caps.map (·.2)) C s0 H0 fp) tg g)(he:∀ cl C s0 H0 fp,PE (a2j X scope cl (os++caps.map (·.2)) C s0 H0 fp) elt te)(ok:a6o N sc scope caps=true)(hN:X.N=N:=by rfl)(hsc:X.env.scope=sc:=by rfl)(hfs:∀ v,foldedSetIterable iter X.env v=pure v:=by intro _;rfl) :
   PE X (.ListComp elt [⟨tg,iter,[],0⟩] scope pos) (a5n os.length wi g te (caps.map (·.1))):=by
 subst hN hsc
 unfold a6o at ok
 simp only[c6n,c6g,decide_eq_true_eq,c7i,c9t,decide_eq_false_iff_not] at ok
 obtain⟨⟨h1,h2⟩,h3⟩:=ok
 intro pins s σ H Q I h
 rw[eval_ListComp]
 refine b9j (TP:=TPH X tg) (os:=os) (caps:=caps) (Q:=Q) (use:=none) (R:=EP X pins σ Q) hi And.left (fun y hy hf=>?_) (fun p hp=>?_) h1 (fun y hy=>(h2 y hy).1.1) (fun y hy hl=>?_) hfs (fun D C H5 s6 m6 I6 n6 f6 q6=>?_) I h (fun cl C s3 fp it tn J H1 D s4 hG T Ic st4 fp0 fpc fin=>b5x (Z:=(a2j X scope cl (os++caps.map (·.2)) C s3 (upd H1 D (.lst [])) fp)) (hg _ _ _ _ _) (he _ _ _ _ _) (fun _ _ z=>z) hG (T.2 _ rfl rfl rfl) Ic st4 fp0 fpc fin)
 · exact (h2 y hy).1.2.resolve_left fun z=>z hf
 · obtain⟨⟨a,b⟩,c⟩:=h3 p hp
   exact⟨a,b,a4q c⟩
 · exact (h2 y hy).2.resolve_left fun z=>z hl
 · refine⟨m6,n6,fun h' hs'=>⟨.ref D,H5,?_,rfl,q6⟩⟩
   exact I6.turned (t':=s6.toks) (fun b o hb e=>(hs'.2 b hb).trans e) f6.1 f6.2.1 f6.2.2.2.1 f6.2.2.2.2.1 f6.2.2.2.2.2
theorem b9v{elt iter:Expr}{os:List Str}{pos:Pos}{scope:Scope}{wi:TI}{g:TG}{te:TE}{caps:List (Nat×Str)}(N:List Str)(sc:Scope)(hi:PIG X (TPH X tg) iter wi)(hg:∀ cl C s0 H0 fp,PGi (a2j X scope cl (os++caps.map (·.2)) C s0 H0 fp) tg g)(he:∀ cl C s0 H0 fp,PEi (a2j X scope cl (os++caps.map (·.2)) C s0 H0 fp) elt te)(ok:a6o N sc scope caps=true)(hN:X.N=N:=by rfl)(hsc:X.env.scope=sc:=by rfl)(hfs:∀ v,foldedSetIterable iter X.env v=pure v:=by intro _;rfl) :
 PEi X (.ListComp elt [⟨tg,iter,[],0⟩] scope pos) (a5n os.length wi g te (caps.map (·.1))):=by with_unfolding_all exact c3h N sc hi hg he ok hN hsc hfs
end
end Cv
namespace Cv
open PySem PySem.Spec PyProof.Rows L2
theorem c2o{n:Str}(hn:Nm n):RowW ("raise " ++ n) "raise" [n]∧RowW ("lower " ++ n) "lower" [n]:=by
 have e0:fW n n "" [91]=n:=a2p (by rw[a4m];show cp n++[]=cp n;rw[c7p])
 have h1:=a7y (t := "raise [") (w0:=cp "raise") (ws:=[[91]]) hn.pl hn.pl po83.1 (by decide +kernel) (by decide +kernel) (by decide)
 have h2:=a7y (t := "lower [") (w0:=cp "lower") (ws:=[[91]]) hn.pl hn.pl po83.1 (by decide +kernel) (by decide +kernel) (by decide)
 have e1:fill n n "" "raise [" = "raise " ++ n:=a2p (by unfold fill;rw[a4m,a1q];show cp ("raise " : Str)++(cp n++[])=_;rw[c7p])
 have e2:fill n n "" "lower [" = "lower " ++ n:=a2p (by unfold fill;rw[a4m,a1q];show cp ("lower " : Str)++(cp n++[])=_;rw[c7p])
 have e3:fW n n "" (cp "raise") = "raise":=by rw[a5m (by decide +kernel)];exact b6o _
 have e4:fW n n "" (cp "lower") = "lower":=by rw[a5m (by decide +kernel)];exact b6o _
 rw[e1,e3] at h1
 rw[e2,e4] at h2
 simp only[c6f,d0e,e0] at h1 h2
 exact⟨h1,h2⟩
theorem b6k{H:Hp}{us:List V}{n:Str}(h:WxsV H us [.nm n]):us=[.str n]:=by
 obtain⟨hl,h⟩:=h
 match us,hl with
 | [u],_=>have:=h 0 u (.nm n) rfl rfl;rw[show u=.str n from this]
theorem b7l{n:Str}(hn:Nm n):b6i ["name"] [.nm n]:=fun i k d e1 e2=>by
 cases i with
 | zero=>cases e1;cases e2;exact⟨.inl rfl,hn⟩
 | succ i=>cases e1
theorem c4b{cs:List (Str×List Pt)}{n:Str}{ps:List Pt}(h:getA cs n=some ps):∀ (i:Nat) (w:Wx),(["name"]:List Str)[i]?=some "name" → ([.nm n]:List Wx)[i]?=some w→∃ s x,w=.nm s∧getA cs s=some x:=fun i w _ e2=>by
 cases i with
 | zero=>cases e2;exact⟨n,ps,rfl,h⟩
 | succ i=>cases e2
theorem refd_say{K:c5t}{H:Hp}{d:Addr}{cs:List (Str×List Pt)}{Q:VK}{E:XK}{CN CM CT CL:Addr}{n1 n2 s:Str}{v:V}{kd:Int}(hD:a5s H d cs)(hC:b8a K H n1 n2 s v kd)(hB:Book3 cs n1 n2 s)(kE:∀ Ca,c0y CN CM CT CL kd Ca→∀ H',Same H H'→E (.ref Ca) none H'):SayX K H d cs Q E CN CM CT CL v:=by
 cases hC with
 | bad h=>
   rcases h with h | ⟨x,f,ws,rfl,h1,h2⟩
   · exact .non v h (kE _ .text)
   · exact .text x f ws h1 h2 (kE _ .text)
 | str h=>
   obtain⟨x,first,ds,ks,i,rfl,h1,h2,h3,h4,h5⟩:=h
   exact .name x first ds ks i s h1 h2 h3 h4 h5 hB.no (kE _ .name)
 | rs h=>
   subst h
   obtain⟨ps,g,l⟩:=hB.one
   refine .good _ "raise" [.nm n1] ["name"] (a9o CT) (c2o hB.nm1).1 (a7h (n:=1) (by decide +kernel)) (b7l hB.nm1) (c4b g) .raise fun H' lt us s1 hl hw=>?_
   rw[b6k hw] at hl
   exact⟨d,lt,cs,n1,ps,rfl,hD.same s1,hl,g,l,fun H'' s2=>kE _ .many _ (s1.trans s2)⟩
 | lw h=>
   subst h
   obtain⟨ps,D,g,l,d0,sz,ov⟩:=hB.two
   refine .good _ "lower" [.nm n2] ["name"] (a9p CL) (c2o hB.nm2).2 (a7h (n:=1) (by decide +kernel)) (b7l hB.nm2) (c4b g) .lower fun H' lt us s1 hl hw=>?_
   rw[b6k hw] at hl
   exact⟨d,lt,cs,n2,ps,D,rfl,hD.same s1,hl,g,l,d0,sz,ov,fun H'' s2=>kE _ .low _ (s1.trans s2)⟩
structure KF(K:c5t)(CS CN CM CT CL:Addr)(cl:List Addr)(kd:Int)(Ca:Addr):Prop where
 m:c7m K (.ref Ca) (.ref CS)=some true
 n:XNot K Ca
 v:c5x K (.ref Ca) (.type "ValueError")=some true
 f:∀ c∈cl,c5x K (.ref Ca) (.ref c)=some false
 k0:c5x K (.ref Ca) (.ref CN)=some (decide (kd=0))
 k1:c5x K (.ref Ca) (.ref CM)=some (decide (kd=1))
 k2:c5x K (.ref Ca) (.ref CT)=some (decide (kd=2))
 k3:c5x K (.ref Ca) (.ref CL)=some (decide (kd=3))
theorem all4{P:Addr→Prop}{a b c d:Addr}(ha:P a)(hb:P b)(hc:P c)(hd:P d):∀ z∈[a,b,c,d],P z:=by
 simp only[c6e,c6u,or_false]
 rintro z (rfl | rfl | rfl | rfl)<;>assumption
theorem eqv4(a b c d:Bool):SeqAt.shaped (.list ([a,b,c,d].map PyData.bool))=true∧PyData.eqv (.list ([a,b,c,d].map PyData.bool)) (.list ([a,b,c,d].map PyData.bool))=true:=by
 cases a<;>cases b<;>cases c<;>cases d<;>decide +kernel
theorem kinds4{us:List V}{kd:Int}(hl:us.length=4)(h:∀ (i:Nat) (v:V),us[i]?=some v→v=.bl (decide ((i:Int)=kd))):us=[decide (kd=0),decide (kd=1),decide (kd=2),decide (kd=3)].map V.bl:=by
 match us,hl with
 | [a,b,c,d],_=>
   rw[h 0 a rfl,h 1 b rfl,h 2 c rfl,h 3 d rfl]
   simp[eq_comm]
end Cv
namespace Cv
open PySem PySem.Spec PyProof.Rows L2
theorem b9s:RowW "names" "names" []:=by
 refine⟨rfl,fun t ht=>?_,by decide⟩
 rw[c7b.mp ht]
 exact⟨by decide +kernel,by decide +kernel,by decide +kernel⟩
theorem c2n{n:Str}(hn:Nm n):RowW ("tell " ++ n) "tell" [n]:=by
 have e0:fW n n "" [91]=n:=a2p (by rw[a4m];show cp n++[]=cp n;rw[c7p])
 have h1:=a7y (t := "tell [") (w0:=cp "tell") (ws:=[[91]]) hn.pl hn.pl po83.1 (by decide +kernel) (by decide +kernel) (by decide)
 have e1:fill n n "" "tell [" = "tell " ++ n:=a2p (by unfold fill;rw[a4m,a1q];show cp ("tell " : Str)++(cp n++[])=_;rw[c7p])
 have e3:fW n n "" (cp "tell") = "tell":=by rw[a5m (by decide +kernel)];exact b6o _
 rw[e1,e3] at h1
 simp only[c6f,d0e,e0] at h1
 exact h1
structure Cs3(cs:List (Str×List Pt)):Prop where
 nd:(cs.map (·.1)).Nodup
 ne:cs≠[]
 nm:∀ c∈cs,Nm c.1
 fg:∀ c∈cs,(∀ p∈c.2,FgP 1000 p)∧c.2.length≤100
 ln:cs.length≤3
theorem b3r{α:Type}:∀ {cs:List (Str×α)} {c:Str×α},(cs.map (·.1)).Nodup→c∈cs→getA cs c.1=some c.2
 | [],_,_,h=>by cases h
 | e::r,c,nd,h=>by
   rw[c6f,c9m] at nd
   unfold getA
   rcases c6e.mp h with rfl | h
   · simp
   · have ne:e.1≠c.1:=fun z=>nd.1 (z ▸ List.mem_map_of_mem h)
     rw[List.find?_cons_of_neg (by simpa using ne)]
     exact b3r nd.2 h
theorem c2k{K:c5t}{H:Hp}{d:Addr}{cs:List (Str×List Pt)}{Q:VK}{E:XK}{CN CM CT CL:Addr}(hD:a5s H d cs)(g:Cs3 cs)(k:∀ ss' H',Same H H'→ss'.Perm (cs.map (·.1))→sortedS ss'=true→Q (.str (Str.join " " ss')) H'):SayX K H d cs Q E CN CM CT CL (.str "names"):=
 .good _ "names" [] [] b2i b9s (a7h (n:=0) (by decide +kernel)) (fun i k d e=>by cases e) (fun i w e=>by cases e) .names fun H' lt us s1 hl hw=>
   ⟨d,lt,cs,rfl,hD.same s1,.inr ⟨g.ne,fun c hc=>(g.nm c hc).2.1,fun ss' H'' s2 p so=>k ss' H'' (s1.trans s2) p so⟩⟩
theorem say_tell{K:c5t}{H:Hp}{d:Addr}{cs:List (Str×List Pt)}{Q:VK}{E:XK}{CN CM CT CL:Addr}{c:Str×List Pt}(hD:a5s H d cs)(g:Cs3 cs)(hc:c∈cs)(k:∀ H',Same H H'→Q (.str (tCv c.2)) H'):SayX K H d cs Q E CN CM CT CL (.str ("tell " ++ c.1)):=by
 have ga:=b3r g.nd hc
 refine .good _ "tell" [.nm c.1] ["name"] b2h (c2n (g.nm c hc)) (a7h (n:=1) (by decide +kernel)) (b7l (g.nm c hc)) (c4b ga) .tell fun H' lt us s1 hl hw=>?_
 rw[b6k hw] at hl
 exact⟨d,lt,cs,c.1,c.2,rfl,hD.same s1,hl,ga,(g.fg c hc).1,(g.fg c hc).2,fun H'' s2=>k _ (s1.trans s2)⟩
def c1s(C:Addr):Sp:=fun vs H Q _=>∃ (x d ln:Addr) (cs:List (Str×List Pt)),vs=[.ref x,.ref ln]∧a4v C H x d cs∧H ln=some (.lst ((cs.map (·.1)).map V.str))∧Cs3 cs∧
 ∀ (l:Addr) (ss':List Str) (H':Hp),Same H H'→ss'.Perm (cs.map (·.1))→sortedS ss'=true→H' l=some (.lst ((Str.join " " ss'::cs.map fun c=>tCv c.2).map V.str))→Q (.ref l) H'
end Cv
namespace Cv
open PySem PySem.Spec PyProof.Rows L2
def b4i:Sp:=fun vs H Q _=>∃ (c:Int) (m:Nat),vs=[.int c,.int (m:Int)]∧1≤m∧m≤12∧∀ (l:Addr) (ss:List Str) (H':Hp),Same H H'→H l=none→H' l=some (.lst (ss.map V.str))→ss.length=m→(∀ s∈ss,Nm s)→ss.Nodup→Q (.ref l) H'
theorem b5l{ss:List Str}{β:Type}(f:Str→β)(g:Nat→β)(h:∀ (i:Nat) (s:Str),ss[i]?=some s→f s=g i)(inj:∀ i j,i<ss.length→j<ss.length→g i=g j→i=j):ss.Nodup:=by
 rw[c7j,List.pairwise_iff_getElem]
 intro i j hi hj hij e
 have:=inj i j hi hj ((h i _ (c5v hi)).symm.trans ((congrArg f e).trans (h j _ (c5v hj))))
 omega
theorem b8g{P:Nat→Str→Prop}:∀ {ys:List V} (n:Nat),(∀ (i:Nat) v,ys[i]?=some v→∃ s,v=.str s∧P (n+i) s)→∃ ts:List Str,ys=ts.map V.str∧∀ (i:Nat) (t:Str),ts[i]?=some t→P (n+i) t
 | [],_,_=>⟨[],rfl,fun i t h=>by cases h⟩
 | v::ys,n,h=>by
   obtain⟨s,rfl,hs⟩:=h 0 v rfl
   obtain⟨ts,rfl,ht⟩:=b8g (P:=P) (ys:=ys) (n+1) fun i v e=>by
     have:=h (i+1) v e
     rwa [show n+(i+1)=n+1+i from by omega] at this
   refine⟨s::ts,rfl,fun i t e=>?_⟩
   cases i with
   | zero=>cases e;exact hs
   | succ i=>rw[show n+(i+1)=n+1+i from by omega];exact ht i t e
theorem c2e{s:Str}{j:Int}(h0:1≤j)(h1:j≤(s.length:Int)):((StrLaws.sliceText s none (some j)).length:Int)=j:=by
 have hl:s.cps.toList.length=s.length:=a1x s
 rw[StrLaws.sliceText_to ⟨by omega,by rw[hl];exact h1⟩]
 rw[← a1x]
 show ((List.take (j - 0).toNat (List.drop 0 s.cps.toList)).length:Int)=j
 rw[List.drop_zero,c8i,hl]
 omega
theorem let_atN{i:Int}(h0:0≤i)(h1:i<26):∃ c,atI ("abcdefghijklmnopqrstuvwxyz" : Str).cps.toList i=some c∧c=97+i.toNat:=by
 have hl:∀ j,j<26→("abcdefghijklmnopqrstuvwxyz" : Str).cps.toList[j]?=some (97+j):=by decide +kernel
 exact⟨97+i.toNat,a8j (j:=i.toNat) (by omega) (hl _ (by omega)),rfl⟩
def SgN(z:Int)(a i:Nat)(s:Str):Prop:=(cp s)[a]?=some (97+((z+(0+(i:Int))) % 26).toNat)
theorem c2g{z:Int}{a i j:Nat}{s:Str}{c:Nat}(hl:s.length=j)(h:a<j→SgN z a i s)(hc:a=j→c=97+((z+(0+(i:Int))) % 26).toNat):a<j+1→SgN z a i (s++⟨#[c]⟩):=by
 intro ha
 have hl':=a1x s
 unfold SgN
 rw[a1q]
 rcases Nat.lt_or_ge a j with h1 | h1
 · rw[c7c (by omega)];exact h h1
 · have:a=j:=by omega
   rw[c6v (by omega),hc this,hl',hl,this,Nat.sub_self];rfl
theorem sg_nodup{z:Int}{a:Nat}{ss:List Str}(hl:ss.length≤12)(h:∀ (i:Nat) (s:Str),ss[i]?=some s→SgN z a i s):ss.Nodup:=by
 refine b5l (fun s=>(cp s)[a]?) (fun i=>some (97+((z+(0+(i:Int))) % 26).toNat)) h fun i j hi hj e=>?_
 have e':=c7z.inj e
 omega
end Cv
namespace Cv
open PySem PySem.Spec PyProof.Rows L2
section
variable {prog:Program} {w:World} {A:Around} {E:Value→Shared→Prop} {s:Shared}
theorem b6p{l:Addr}{vs:List Value}{ss:List Str}{Q:Value→Shared→Prop}(hl:s.heap.IsList l vs.toArray)(sa:StrsAre vs ss)(hn:vs.length<64)(hQ:∀ (hA h':Heap) (out:Array Value) (n:Nat) (ss':List Str),(∀ b o,s.heap.get? b=some o→hA.get? b=some o)→(∀ b o,hA.get? b=some o→h'.get? b=some o)→h'.get? hA.objs.size=some { cls:=.type "list",data:=.seq out n }→StrsAre out.toList ss'→ss'.Perm ss→sortedS ss'=true→
     Q (.ref hA.objs.size) { s with heap:=h' }):wpAny (model prog w) A (call (.builtin "sorted") [.ref l]) Q E s:=by
 have sl:vs.length<sizeLine:=a0j (by omega)
 refine Calls.call_function_entry kind_sorted plain_sorted entry_sorted (args_sorted1 _) ?_
 unfold Builtin.«sorted»
 refine wpAny_bind (m:=checkCount "sorted" 1 1 _) (wpAny_pure ?_)
 refine wpAny_bind (collect_list hl ?_ (by omega))
 have k0:∀ b o,s.heap.get? b=some o→((s.heap.push (seqObj "list" #[] 0)).update s.heap.objs.size (Obj.mapSeq (·++vs.toArray))).get? b=some o:=fun b o e=>(Heap.get?_update_other _ _ (Ne.symm (c6s (Heap.lt_size e)))).trans (Heap.get?_push_of_some _ e)
 generalize ((s.heap.push (seqObj "list" #[] 0)).update s.heap.objs.size (Obj.mapSeq (·++vs.toArray)))=hA at *
 refine wpAny_bind (wpAny_newList ?_ (by omega))
 have hS:(hA.push { cls:=.type "list",data:=.seq vs.toArray }).get? hA.objs.size=some { cls:=.type "list",data:=.seq vs.toArray }:=Heap.get?_push_size _ rfl
 refine wpAny_bind (wpAny_holding ?_)
 refine wpAny_call_entry slot_list_sort ⟨_,hS,rfl⟩ entry_list_sort (list_sort_treeK strKind_oneLt hS sa.keysOf (fun v1 v2 r e=>keyKind_strs (by rw[← e];exact sa)) hn fun st' p1 p2=>⟨_,rfl,?_⟩) (args_list_sort _)
 obtain⟨ss',q1,q2,q3⟩:=sorted_out_str sa p1 p2
 refine wpAny_pure ?_
 obtain⟨n,a2⟩:=sortedHeap_at (out:=Array.map (fun x=>x.snd) (arrOf st')) hS
 refine⟨_,rfl,hQ hA _ (Array.map (fun x=>x.snd) (arrOf st')) n ss' k0 (fun b o e=>?_) a2 q1 q2 q3⟩
 have e1:=Heap.get?_push_of_some (o:={ cls:=.type "list",data:=.seq vs.toArray }) e
 rw[sortedHeap_old (c6s (Heap.lt_size e)) (Heap.lt_size e1)]
 exact e1
end
section
variable {X:Cx}
theorem b8f:∀ {ss:List Str} {vs:List Value},Vals (ss.map V.str) vs→StrsAre vs ss
 | [],_,.nil=>.nil
 | y::ys,_,.cons r h=>by obtain⟨t,rfl⟩:=r;exact .cons _ _ (b8f h)
theorem c0v(K:c5t)(hK:X.K=K:=by rfl):a6a X (.builtin "sorted") (fun xs H Q=>∃ (a:Addr) (ss:List Str),xs=[.ref a]∧SqL K H a (ss.map V.str)∧ss.length<64∧
   ∀ (l:Addr) (ss':List Str),H l=none→ss'.Perm ss→sortedS ss'=true→Q (.ref l) (upd H l (.lst (ss'.map V.str)))):=by
 subst hK
 intro pins s σ H xs us Q I rv h
 obtain⟨a,ss,rfl,hS,hn,q⟩:=h
 obtain⟨u,rfl,ru⟩:=a4w rv
 cases ru
 obtain⟨its,rits,pll,hz⟩:=I.list hS
 have hl:=rits.length
 rw[c5u] at hl
 refine b6p pll.isList (b8f rits) (by omega) fun hA h' out n ss' k1 k2 e1 e2 e3 e4=>?_
 have I1:Inv X pins σ H { s with heap:=hA,toks:=s.toks }:=I.kept k1
 refine⟨.ref hA.objs.size,_,I1.laid (a:=hA.objs.size) (o:=.lst (ss'.map V.str)) (t':=s.toks) k2 (c6l _) ⟨by rw[c5u,e3.length_eq];exact c6d (a0j (by omega)),out.toList,n,a9y e2,e1⟩,rfl,q _ ss' I1.fresh e3 e4⟩
end
end Cv
namespace Cv
open PySem PySem.Spec PyProof.Rows L2
theorem one_Gd{B:Int}{pl:List Pl}(b1:1≤B)(b2:B≤1000000007)(sz:SzQ 110 pl){p:Pt}(hp:p∈a6s B pl):∃ q,Gd (B,[q])∧p∈a6s B [q]:=by
 obtain⟨q,hq,rfl⟩:=c7d.mp hp
 exact⟨q,⟨b1,b2,c6l 1,(by show 1≤6;decide),fun r hr=>by rw[c7b.mp hr];exact sz q hq⟩,c7b.mpr rfl⟩
theorem fg_any{B:Int}{pl:List Pl}(b1:1≤B)(b2:B≤1000000007)(sz:SzQ 110 pl):∀ p∈a6s B pl,FgP 100 p∧OvP B 180 p:=fun p hp=>by
 obtain⟨q,g,h⟩:=one_Gd b1 b2 sz hp
 have o:=g.ov p h
 exact⟨g.fg p h,o.1.mono (by decide),o.2.mono (by decide)⟩
theorem b9t{n:Str}{ps:List Pt}(hn:Nm n)(h1:1≤ps.length)(h12:ps.length≤12)(hf:∀ p∈ps,FgP 100 p):RowW ("curve " ++ n ++ " " ++ tCv ps) "curve" (((.nm n::ps.map .pt:List Wx)).map Wx.tx):=by
 have e:((.nm n::ps.map .pt:List Wx)).map Wx.tx=n::ps.map tPt:=by rw[c6f,List.map_map];rfl
 rw[e]
 refine⟨?_,fun t ht=>?_,by rw[c6z,c5u];omega⟩
 · rw[c2p h1]
   unfold rowT
   rw[c6f,List.map_map];rfl
 · rcases c6e.mp ht with rfl | ht
   · exact⟨by decide +kernel,by decide +kernel,by decide +kernel⟩
   · rcases c6e.mp ht with rfl | ht
     · exact⟨hn.pl.nb,c6x hn.2.1 (by decide),a7r hn.pl.ok⟩
     · obtain⟨p,hp,rfl⟩:=c7d.mp ht
       exact⟨tPt_no (by decide) (by decide) (by decide) (by decide),c6x (b4d (by decide) (hf p hp)) (by decide),a7r fun c hc=>by rcases c1e p c hc with z | z | z | z<;>omega⟩
theorem c2l{K:c5t}{H:Hp}{d:Addr}{cs:List (Str×List Pt)}{Q:VK}{E:XK}{CN CM CT CL:Addr}{n:Str}{ps:List Pt}(hD:a5s H d cs)(hn:Nm n)(h1:1≤ps.length)(h12:ps.length≤12)(hf:∀ p∈ps,FgP 100 p)(hc:cs.length<40)(k:∀ H',Ex d H H'→a5s H' d (putA cs n ps)→Q (.str "ok") H'):SayX K H d cs Q E CN CM CT CL (.str ("curve " ++ n ++ " " ++ tCv ps)):=by
 have hl:(.nm n::ps.map .pt:List Wx).length=ps.length+1:=by rw[c6z,c5u]
 refine .good _ "curve" (.nm n::ps.map .pt) _ b8o (b9t hn h1 h12 hf) (.inl ⟨rfl,by omega,by omega,rfl⟩) (fun i kk w e1 e2=>?_) (fun i w e1 e2=>?_) .curve fun H' lt us s hl hw=>?_
 · cases i with
   | zero=>cases e1;cases e2;exact⟨.inr rfl,hn⟩
   | succ i=>
     rw[List.getElem?_cons_succ] at e1 e2
     have:=List.eq_of_mem_replicate (c6t e1)
     rw[c6c] at e2
     obtain⟨p,ep,rfl⟩:=c9n.mp e2
     exact⟨this,hf p (c6t ep)⟩
 · cases i with
   | zero=>exact absurd (c7z.inj e1) (by decide)
   | succ i=>
     rw[List.getElem?_cons_succ] at e1
     exact absurd (List.eq_of_mem_replicate (c6t e1)) (by decide)
 · obtain⟨hul,hu⟩:=hw
   match us,hul with
   | v::ws,hul=>
     have e0:v=.str n:=hu 0 v _ rfl rfl
     subst e0
     have hwl:ws.length=ps.length:=by simpa using hul
     exact⟨d,lt,cs,n,ws,ps,rfl,hD.same s,hc,hl,⟨hwl,fun i v p e1 e2=>hu (i+1) v (.pt p) e1 (by rw[List.getElem?_cons_succ,c6c,e2];rfl)⟩,by omega,fun H'' e hC=>k H'' (Same.ex_left s e) hC⟩
structure Gr(B:Int)(ns:List Str)(i:Nat)(cs:List (Str×List Pt)):Prop where
 keys:cs.map (·.1)=ns.take i
 ok:∀ c∈cs,(∀ p∈c.2,FgP 100 p∧OvP B 180 p)∧1≤c.2.length∧c.2.length≤12
 l1:∀ c,cs[1]?=some c→c.2.length=12
 l2:∀ c,cs[2]?=some c→c.2.length=1
theorem Gr.len{B:Int}{ns:List Str}{i:Nat}{cs:List (Str×List Pt)}(g:Gr B ns i cs)(hi:i≤ns.length):cs.length=i:=by
 have:=congrArg c8f g.keys
 rw[c5u,c8i] at this
 omega
theorem Gr.snoc{B:Int}{ns:List Str}{i:Nat}{cs:List (Str×List Pt)}{n:Str}{ps:List Pt}(g:Gr B ns i cs)(e:ns[i]?=some n)(h:∀ p∈ps,FgP 100 p∧OvP B 180 p)(h1:1≤ps.length)(h12:ps.length≤12)(e1:i=1→ps.length=12)(e2:i=2→ps.length=1):Gr B ns (i+1) (cs++[(n,ps)]):=by
 have hi:i<ns.length:=(c6h.mp e).1
 have hl:=g.len (c6d hi)
 refine⟨by rw[c9d,g.keys,List.take_succ,e];rfl,fun c hc=>?_,fun c hc=>?_,fun c hc=>?_⟩
 · rcases c7t.mp hc with hc | hc
   · exact g.ok c hc
   · rw[c7b.mp hc];exact⟨h,h1,h12⟩
 · rcases Nat.lt_or_ge 1 cs.length with z | z
   · rw[c7c z] at hc;exact g.l1 c hc
   · rw[c6v z] at hc
     have:=(c6h.mp hc).1
     have hz:1 - cs.length=0:=by simpa using this
     rw[hz] at hc;cases hc
     exact e1 (by omega)
 · rcases Nat.lt_or_ge 2 cs.length with z | z
   · rw[c7c z] at hc;exact g.l2 c hc
   · rw[c6v z] at hc
     have:=(c6h.mp hc).1
     have hz:2 - cs.length=0:=by simpa using this
     rw[hz] at hc;cases hc
     exact e2 (by omega)
theorem b1f{α:Type}:∀ {cs:List (Str×α)} {n:Str},n∉cs.map (·.1)→getA cs n=none
 | [],_,_=>rfl
 | c::r,n,h=>by
   rw[c6f,c6e,not_or] at h
   rw[b9c fun z=>h.1 z.symm]
   exact b1f h.2
theorem putA_new{α:Type}{cs:List (Str×α)}{n:Str}{x:α}(h:n∉cs.map (·.1)):putA cs n x=cs++[(n,x)]:=by
 unfold putA
 rw[b9l,b1f h];rfl
theorem Gr.book{B:Int}{n0 n1 n2 s:Str}{cs:List (Str×List Pt)}(g:Gr B [n0,n1,n2] 3 cs)(nd:[n0,n1,n2,s].Nodup)(b1:1≤B)(b2:B≤1000000007)(h0:Nm n0)(h1:Nm n1)(h2:Nm n2):Cs3 cs∧Book3 cs n1 n2 s:=by
 have hl:=g.len (c6l 3)
 have hk:cs.map (·.1)=[n0,n1,n2]:=g.keys
 have nd3:(cs.map (·.1)).Nodup:=by rw[hk];exact nd.sublist (List.sublist_append_left [n0,n1,n2] [s])
 match cs,hl,hk,nd3,g with
 | [c0,c1,c2],_,hk,nd3,g=>
   simp only[c6f,d0e,List.cons.injEq,and_true] at hk
   obtain⟨rfl,rfl,rfl⟩:=hk
   have k0:=g.ok c0 (by simp)
   have k1:=g.ok c1 (by simp)
   have k2:=g.ok c2 (by simp)
   refine⟨⟨nd3,by simp,fun c hc=>?_,fun c hc=>⟨fun p hp=>b9i (((g.ok c hc).1 p hp).1) (by decide),c6x (g.ok c hc).2.2 (by decide)⟩,c6l 3⟩,⟨b1f ?_,h1,h2,⟨c1.2,b3r nd3 (by simp),g.l1 c1 rfl⟩,⟨c2.2,B,b3r nd3 (by simp),g.l2 c2 rfl,by omega,?_,fun p hp=>(k2.1 p hp).2⟩⟩⟩
   · simp only[c6e,c6u,or_false] at hc
     rcases hc with rfl | rfl | rfl<;>assumption
   · intro z
     have nd':=nd
     simp only[c9m,c6e,c6u,or_false,not_or] at nd'
     simp only[c6f,d0e,c6e,c6u,or_false] at z
     obtain⟨⟨_,_,a⟩,⟨_,b⟩,c,_⟩:=nd'
     rcases z with z | z | z
     · exact a z.symm
     · exact b z.symm
     · exact c z.symm
   · exact⟨by show B.natAbs<2^60;omega⟩
end Cv
namespace Cv
open PySem PySem.Spec PyProof.Rows L2
theorem c4w{K:c5t}{H:Hp}:∀ ss:List Str,b1k K H (ss.map c8z.str) (ss.map V.str)
 | []=>by simp[b1k]
 | s::r=>by
   rw[c6f,c6f,b1k]
   exact⟨_,_,rfl,by simp[Dn],c4w r⟩
theorem c4x{K:c5t}{H:Hp}{l:Addr}{ss:List Str}(h:H l=some (.lst (ss.map V.str))):Dn K H (.list (ss.map c8z.str)) (.ref l):=by
 rw[Dn]
 exact⟨l,_,rfl,SqL.of h,c4w ss⟩
theorem kqd_strs{ss:List Str}(h:∀ s∈ss,PyData.strOk s=true):c7q 8 (.list (ss.map c8z.str))=true:=by
 rw[c7q]
 refine c6g.mpr fun d hd=>?_
 obtain⟨s,hs,rfl⟩:=c7d.mp hd
 rw[c7q]
 exact h s hs
theorem b1t{ts:List Str}(h:∀ t∈ts,∀ c∈cp t,c<1114112):PyData.strOk (Str.join " " ts)=true:=by
 refine a7r fun c hc=>?_
 have e:cp (Str.join " " ts)=jn [32] (ts.map cp):=a6l " " ts
 rw[e] at hc
 have key:∀ ls:List (List Nat),(∀ l∈ls,∀ c∈l,c<1114112)→∀ c∈jn [32] ls,c<1114112:=by
   intro ls
   induction ls with
   | nil=>intro _ c hc;cases hc
   | cons a r ih=>
     intro hl c hc
     cases r with
     | nil=>exact hl a (by simp) c (by simpa [jn] using hc)
     | cons b r=>
       have hc:c∈a++[32]++jn [32] (b::r):=hc
       simp only[c7t,c7b] at hc
       rcases hc with (hc | hc) | hc
       · exact hl a (by simp) c hc
       · omega
       · exact ih (fun l h=>hl l (c7e _ h)) c hc
 refine key _ (fun l hl c hc=>?_) c hc
 obtain⟨t,ht,rfl⟩:=c7d.mp hl
 exact h t ht c hc
theorem c1m{ss':List Str}{cs:List (Str×List Pt)}(hs:∀ s∈ss',Nm s):∀ s∈(Str.join " " ss'::cs.map fun c=>tCv c.2),PyData.strOk s=true:=by
 intro s h
 rcases c6e.mp h with rfl | h
 · exact b1t fun t ht c hc=>(hs t ht).pl.ok c hc
 · obtain⟨c,_,rfl⟩:=c7d.mp h
   exact b1t (ts:=c.2.map tPt) fun t ht d hd=>by
     obtain⟨p,_,rfl⟩:=c7d.mp ht
     rcases c1e p d hd with z | z | z | z<;>omega
end Cv
namespace Cv
open PySem PySem.Spec PyProof.Rows L2
theorem KvR.monoM{α:Type}{R S:V→α→Prop}{kvs:List (Key×V)}{cs:List (Str×α)}(h:KvR R kvs cs)(f:∀ v,∀ c∈cs,R v c.2→S v c.2):KvR S kvs cs:=by
 unfold KvR at *
 induction h with
 | nil=>exact .nil
 | cons r _ ih=>exact .cons ⟨r.1,f _ _ (by simp) r.2⟩ (ih fun v c hc=>f v c (c7e _ hc))
theorem a4v.updL{C:Addr}{H:Hp}{x d ld:Addr}{cs:List (Str×List Pt)}{s:Str}{r zs:List V}(h:a4v C H x d cs)(hl:H ld=some (.lst (.str s::r)))(h1:∀ c∈cs,1≤c.2.length):a4v C (upd H ld (.lst zs)) x d cs:=by
 obtain⟨⟨dx,hx⟩,kvs,hd,hK,h40⟩:=h
 refine⟨⟨dx,by rw[a1a (b0w hx hl (fun z=>nomatch z))];exact hx⟩,kvs,by rw[a1a (b0w hd hl (fun z=>nomatch z))];exact hd,hK.monoM fun v c hc hv=>?_,h40⟩
 obtain⟨l,ws,rfl,hw,hP⟩:=hv
 have tt:Tup H (upd H ld (.lst zs)):=fun b xs e=>by rw[a1a (b0w e hl (fun z=>nomatch z))];exact e
 have ne:l≠ld:=fun z=>by
   rw[z,hl] at hw
   injection hw with hw
   injection hw with hw
   have h0:=h1 c hc
   have hp:c.2[0]?=some (c.2[0]'(by omega (config:={}))):=c5v _
   obtain⟨a,vx,vy,e,_⟩:=hP.2 0 (.str s) _ (by rw[← hw];rfl) hp
   cases e
 exact⟨l,ws,rfl,by rw[a1a ne];exact hw,hP.tup tt⟩
end Cv
set_option maxHeartbeats 4000000
namespace Cv
open PySem L2
local macro_rules | `(tactic| walk_at "hf") => `(tactic| first
 | assumption
 | exact a0h
 | (refine a6z (by assumption) ?_;walk_at "hf")
 | (refine (by assumption:L2.Same _ _) _ _ ?_;walk_at "hf")
 | fail)
local macro_rules | `(tactic| walk_at "sm") => `(tactic| first
 | assumption
 | exact L2.Same.refl _
 | (refine L2.Same.trans ?_ (by assumption:L2.Same _ _);walk_at "sm")
 | (refine L2.Same.trans ?_ (Same.new (by assumption));walk_at "sm")
 | fail)
local macro_rules | `(tactic| walk_at "mv") => `(tactic| first
 | assumption
 | (refine ShV.same ?_ (by assumption:L2.Same _ _);walk_at "mv")
 | (refine ShV.same ?_ (Same.new (by assumption));walk_at "mv")
 | (refine PtV.same ?_ (by assumption:L2.Same _ _);walk_at "mv")
 | (refine PtV.same ?_ (Same.new (by assumption));walk_at "mv")
 | (refine RwV.same ?_ (by assumption:L2.Same _ _);walk_at "mv")
 | (refine RwV.same ?_ (Same.new (by assumption));walk_at "mv")
 | (refine RwQ.same ?_ (by assumption:L2.Same _ _);walk_at "mv")
 | (refine RwQ.same ?_ (Same.new (by assumption));walk_at "mv")
 | (refine MpV.same ?_ (by assumption:L2.Same _ _);walk_at "mv")
 | (refine MpV.same ?_ (Same.new (by assumption));walk_at "mv")
 | (refine PtsV.same ?_ (by assumption:L2.Same _ _);walk_at "mv")
 | (refine PtsV.same ?_ (Same.new (by assumption));walk_at "mv")
 | (refine AxV.same ?_ (by assumption:L2.Same _ _);walk_at "mv")
 | (refine AxV.same ?_ (Same.new (by assumption));walk_at "mv")
 | (refine ShL.same ?_ (by assumption:L2.Same _ _);walk_at "mv")
 | (refine ShL.same ?_ (Same.new (by assumption));walk_at "mv")
 | (refine SqL.same' ?_ (by assumption:L2.Same _ _);walk_at "mv")
 | (refine SqL.same' ?_ (Same.new (by assumption));walk_at "mv")
 | fail)
local macro_rules | `(tactic| walk_at "sq") => `(tactic| first
 | exact SqT.of (by walk_at "hf")
 | exact SqL.of (by walk_at "hf")
 | walk_at "mv"
 | fail)
local macro_rules | `(tactic| walk_at "at") => `(tactic| first
 | rfl
 | assumption
 | exact b7w _ _ (by omega) (by omega)
 | fail)
local macro_rules | `(tactic| walk_at "sz") => `(tactic| first
 | assumption
 | exact Bd.num (by assumption)
 | exact Bd.den (by assumption)
 | exact Sz.one
 | exact Sz.mul (by walk_at "sz") (by walk_at "sz")
 | exact Sz.add (by walk_at "sz") (by walk_at "sz")
 | exact Sz.sub (by walk_at "sz") (by walk_at "sz")
 | exact Sz.neg (by walk_at "sz")
 | fail)
local macro_rules | `(tactic| walk_at "bdx") => `(tactic| first
 | assumption
 | exact Bd.zero'
 | exact Bd.one'
 | exact Bd.add (by walk_at "bdx") (by walk_at "bdx")
 | exact Bd.sub (by walk_at "bdx") (by walk_at "bdx")
 | exact Bd.mul (by walk_at "bdx") (by walk_at "bdx")
 | fail)
local macro_rules | `(tactic| walk_at "bd") => `(tactic| exact Bd.mono (by walk_at "bdx") (by decide))
local macro_rules | `(tactic| walk_at "szm") => `(tactic| exact Sz.mono (by walk_at "sz") (by decide))
local macro_rules | `(tactic| walk_at "arith") => `(tactic| first
 | exact pos30
 | exact pl
 | exact⟨by decide,by decide⟩
 | exact⟨by decide,by decide,by decide⟩
 | exact mulL (by decide) (by decide)
 | exact mulR (by decide) (by decide)
 | exact mulR (by omega) (by omega)
 | exact mulL (by omega) (by omega)
 | exact mulB (by walk_at "sz") (by walk_at "sz")
 | fail)
local macro_rules | `(tactic| walk_at "len") => `(tactic| first
 | (show 2≤sizeLine;decide)
 | (show 0≤sizeLine;decide)
 | (show 1≤sizeLine;decide)
 | (show 3≤sizeLine;decide)
 | (show 4≤sizeLine;decide)
 | (show 5≤sizeLine;decide)
 | (show 6≤sizeLine;decide)
 | (show 8≤sizeLine;decide)
 | fail)
local macro_rules | `(tactic| walk_at "r1") => `(tactic| first
 | refine⟨_,_,rfl,rfl,by walk_at "arith",?_⟩
 | refine⟨_,_,rfl,rfl,?_⟩
 | refine⟨_,_,_,_,rfl,rfl,by walk_at "sq",by walk_at "at",?_⟩
 | refine⟨_,rfl,?_⟩
 | refine⟨rfl,?_⟩
 | refine⟨_,_,rfl,.inr (SqT.of (by walk_at "hf")),?_⟩
 | refine⟨_,_,rfl,.inl (SqL.of (by walk_at "hf")),?_⟩
 | refine⟨_,"tuple",_,_,rfl,TyOf.tup (by walk_at "hf"),kit_tt _,?_⟩
 | refine⟨_,"list",_,_,rfl,TyOf.lst (by walk_at "hf"),kit_ll _,?_⟩
 | refine⟨_,"int",_,_,rfl,TyOf.int _,kit_ii _,?_⟩
 | refine⟨_,"bool",_,_,rfl,TyOf.int _,kit_ib _,?_⟩
 | refine⟨_,"bool",_,_,rfl,TyOf.bl _,kit_bb _,?_⟩
 | refine⟨by walk_at "len",?_⟩
 | refine⟨by decide,?_⟩
 | fail)
local macro_rules | `(tactic| walk_at "rd") => `(tactic| repeat walk_at "r1")
local macro_rules | `(tactic| walk_at "fr") => `(tactic| first
 | assumption
 | (refine L2.Same.free (by assumption:L2.Same _ _) ?_;walk_at "fr")
 | (refine L2.Same.free (Same.new (by assumption)) ?_;walk_at "fr")
 | fail)
local macro_rules | `(tactic| walk_at "tk") => `(tactic| first
 | assumption
 | fail)
local macro_rules | `(tactic| walk_at "mv") => `(tactic| first
 | assumption
 | (refine ShK.same ?_ (by assumption:L2.Same _ _);walk_at "mv")
 | (refine ShK.same ?_ (Same.new (by assumption));walk_at "mv")
 | (refine PtK.same ?_ (by assumption:L2.Same _ _);walk_at "mv")
 | (refine PtK.same ?_ (Same.new (by assumption));walk_at "mv")
 | (refine PtsK.same ?_ (by assumption:L2.Same _ _);walk_at "mv")
 | (refine PtsK.same ?_ (Same.new (by assumption));walk_at "mv")
 | (refine ShV.k ?_;walk_at "mv")
 | (refine PtV.k ?_;walk_at "mv")
 | (refine PtsV.k ?_;walk_at "mv")
 | fail)
local macro_rules | `(tactic| walk_at "sq") => `(tactic| first
 | exact TK.sq (by walk_at "tk")
 | fail)
local macro_rules | `(tactic| walk_at "rk1") => `(tactic| first
 | refine⟨_,"tuple",_,_,rfl,.inr ⟨rfl,_,_,rfl,by walk_at "sq"⟩,kit_tt _,?_⟩
 | refine⟨_,"list",_,_,rfl,.inl (TyOf.lst (by walk_at "hf")),kit_ll _,?_⟩
 | refine⟨_,"int",_,_,rfl,.inl (TyOf.int _),kit_ii _,?_⟩
 | refine⟨_,"bool",_,_,rfl,.inl (TyOf.int _),kit_ib _,?_⟩
 | refine⟨_,"bool",_,_,rfl,.inl (TyOf.bl _),kit_bb _,?_⟩
 | refine⟨_,_,rfl,.inr (by walk_at "sq"),?_⟩
 | walk_at "r1"
 | fail)
local macro_rules | `(tactic| walk_at "rk") => `(tactic| repeat walk_at "rk1")
structure Cst(K:c5t)(mg:Str→Option Value)(w:World)(A_FORMS A_DEEDS F_keep_curve F_tell_curve F_tell_names F_tell_point F_keep_cut F_keep_stretch F_turn_curve F_raise_curve F_lower_curve F_lower_fully F_keep_speed F_move_curve F_tell_same F_tell_hull F_tell_box F_tell_part F_tell_meet F_tell_join A_NOUGHT:Addr)(t_MOST_SEATS t_MOST_LEVEL t_FIGURES t_MOST_FIGURES t_PIECE_FIGURES t_PIECE t_LETTERS t_MOST_LETTERS:Tok):Prop where
 MOST_SEATS:mg "MOST_SEATS" = some (.int 12 t_MOST_SEATS)
 MOST_LEVEL:mg "MOST_LEVEL" = some (.int 6 t_MOST_LEVEL)
 FIGURES:mg "FIGURES" = some (.str "0123456789" t_FIGURES)
 MOST_FIGURES:mg "MOST_FIGURES" = some (.int 100 t_MOST_FIGURES)
 PIECE_FIGURES:mg "PIECE_FIGURES" = some (.int 64 t_PIECE_FIGURES)
 PIECE:mg "PIECE" = some (.int 10000000000000000000000000000000000000000000000000000000000000000 t_PIECE)
 divmod:mg "divmod" = none
 LETTERS:mg "LETTERS" = some (.str "abcdefghijklmnopqrstuvwxyz" t_LETTERS)
 MOST_LETTERS:mg "MOST_LETTERS" = some (.int 12 t_MOST_LETTERS)
 FORMS:mg "FORMS" = some (.ref A_FORMS)
 dFORMS:∀ P,DKn P w K A_FORMS a3m
 DEEDS:mg "DEEDS" = some (.ref A_DEEDS)
 dDEEDS:∀ P,DKn P w K A_DEEDS [(.inr "curve",.ref F_keep_curve),(.inr "tell",.ref F_tell_curve),(.inr "names",.ref F_tell_names),(.inr "point",.ref F_tell_point),(.inr "cut",.ref F_keep_cut),(.inr "stretch",.ref F_keep_stretch),(.inr "turn",.ref F_turn_curve),(.inr "raise",.ref F_raise_curve),(.inr "lower",.ref F_lower_curve),(.inr "least",.ref F_lower_fully),(.inr "speed",.ref F_keep_speed),(.inr "move",.ref F_move_curve),(.inr "same",.ref F_tell_same),(.inr "hull",.ref F_tell_hull),(.inr "box",.ref F_tell_box),(.inr "part",.ref F_tell_part),(.inr "meet",.ref F_tell_meet),(.inr "join",.ref F_tell_join)]
 gkeep_curve:mg "keep_curve" = some (.ref F_keep_curve)
 gtell_curve:mg "tell_curve" = some (.ref F_tell_curve)
 gtell_names:mg "tell_names" = some (.ref F_tell_names)
 graise_curve:mg "raise_curve" = some (.ref F_raise_curve)
 glower_curve:mg "lower_curve" = some (.ref F_lower_curve)
 NOUGHT:mg "NOUGHT" = some (.ref A_NOUGHT)
 pNOUGHT:∀ H,PtK K H (.ref A_NOUGHT) 0 0
structure Exc(K:c5t)(mg:Str→Option Value)(C_SeatError C_NoText C_NoName C_TooMany C_NoLower C_NoShare C_NoMap C_NoJoin C_NoPlace:Addr):Prop where
 SeatError:mg "SeatError" = some (.ref C_SeatError)
 NoText:mg "NoText" = some (.ref C_NoText)
 NoName:mg "NoName" = some (.ref C_NoName)
 TooMany:mg "TooMany" = some (.ref C_TooMany)
 NoLower:mg "NoLower" = some (.ref C_NoLower)
 NoShare:mg "NoShare" = some (.ref C_NoShare)
 NoMap:mg "NoMap" = some (.ref C_NoMap)
 NoJoin:mg "NoJoin" = some (.ref C_NoJoin)
 NoPlace:mg "NoPlace" = some (.ref C_NoPlace)
 xNoText:XCls K mg "NoText" C_NoText
 mNoText:c7m K (.ref C_NoText) (.ref C_SeatError)=some true
 vNoText:c5x K (.ref C_NoText) (.type "ValueError")=some true
 xNoName:XCls K mg "NoName" C_NoName
 mNoName:c7m K (.ref C_NoName) (.ref C_SeatError)=some true
 vNoName:c5x K (.ref C_NoName) (.type "ValueError")=some true
 xTooMany:XCls K mg "TooMany" C_TooMany
 mTooMany:c7m K (.ref C_TooMany) (.ref C_SeatError)=some true
 vTooMany:c5x K (.ref C_TooMany) (.type "ValueError")=some true
 xNoLower:XCls K mg "NoLower" C_NoLower
 mNoLower:c7m K (.ref C_NoLower) (.ref C_SeatError)=some true
 vNoLower:c5x K (.ref C_NoLower) (.type "ValueError")=some true
 sNoText:c7m K (.ref C_NoText) (.ref C_NoText)=some true
 nNoText:XNot K C_NoText
 fNoText_NoName:c5x K (.ref C_NoText) (.ref C_NoName)=some false
 fNoText_TooMany:c5x K (.ref C_NoText) (.ref C_TooMany)=some false
 fNoText_NoLower:c5x K (.ref C_NoText) (.ref C_NoLower)=some false
 fNoText_NoShare:c5x K (.ref C_NoText) (.ref C_NoShare)=some false
 fNoText_NoMap:c5x K (.ref C_NoText) (.ref C_NoMap)=some false
 fNoText_NoJoin:c5x K (.ref C_NoText) (.ref C_NoJoin)=some false
 fNoText_NoPlace:c5x K (.ref C_NoText) (.ref C_NoPlace)=some false
 sNoName:c7m K (.ref C_NoName) (.ref C_NoName)=some true
 nNoName:XNot K C_NoName
 fNoName_NoText:c5x K (.ref C_NoName) (.ref C_NoText)=some false
 fNoName_TooMany:c5x K (.ref C_NoName) (.ref C_TooMany)=some false
 fNoName_NoLower:c5x K (.ref C_NoName) (.ref C_NoLower)=some false
 fNoName_NoShare:c5x K (.ref C_NoName) (.ref C_NoShare)=some false
 fNoName_NoMap:c5x K (.ref C_NoName) (.ref C_NoMap)=some false
 fNoName_NoJoin:c5x K (.ref C_NoName) (.ref C_NoJoin)=some false
 fNoName_NoPlace:c5x K (.ref C_NoName) (.ref C_NoPlace)=some false
 sTooMany:c7m K (.ref C_TooMany) (.ref C_TooMany)=some true
 nTooMany:XNot K C_TooMany
 fTooMany_NoText:c5x K (.ref C_TooMany) (.ref C_NoText)=some false
 fTooMany_NoName:c5x K (.ref C_TooMany) (.ref C_NoName)=some false
 fTooMany_NoLower:c5x K (.ref C_TooMany) (.ref C_NoLower)=some false
 fTooMany_NoShare:c5x K (.ref C_TooMany) (.ref C_NoShare)=some false
 fTooMany_NoMap:c5x K (.ref C_TooMany) (.ref C_NoMap)=some false
 fTooMany_NoJoin:c5x K (.ref C_TooMany) (.ref C_NoJoin)=some false
 fTooMany_NoPlace:c5x K (.ref C_TooMany) (.ref C_NoPlace)=some false
 sNoLower:c7m K (.ref C_NoLower) (.ref C_NoLower)=some true
 nNoLower:XNot K C_NoLower
 fNoLower_NoText:c5x K (.ref C_NoLower) (.ref C_NoText)=some false
 fNoLower_NoName:c5x K (.ref C_NoLower) (.ref C_NoName)=some false
 fNoLower_TooMany:c5x K (.ref C_NoLower) (.ref C_TooMany)=some false
 fNoLower_NoShare:c5x K (.ref C_NoLower) (.ref C_NoShare)=some false
 fNoLower_NoMap:c5x K (.ref C_NoLower) (.ref C_NoMap)=some false
 fNoLower_NoJoin:c5x K (.ref C_NoLower) (.ref C_NoJoin)=some false
 fNoLower_NoPlace:c5x K (.ref C_NoLower) (.ref C_NoPlace)=some false
def top(i:Nat):Stmt:=PySem.Challenge.pw_curveseat_k83_rows_refused.main.body.getD i (.Pass ⟨0,0,0,0⟩)
abbrev a1u:Stmt:=top 11
theorem a5o:a0t ["one","other"] ["one","other"] (a0d a1u):=⟨rfl,rfl,rfl,by decide +kernel,rfl,by decide +kernel,by decide +kernel⟩
abbrev a8t:Stmt:=top 12
theorem b2q:a0t ["top","bottom","common"] ["top","bottom"] (a0d a8t):=⟨rfl,rfl,rfl,by decide +kernel,rfl,by decide +kernel,by decide +kernel⟩
abbrev b1x:Stmt:=top 13
theorem sc_plus:a0t ["one","other"] ["one","other"] (a0d b1x):=⟨rfl,rfl,rfl,by decide +kernel,rfl,by decide +kernel,by decide +kernel⟩
abbrev a8u:Stmt:=top 14
theorem sc_minus:a0t ["one","other"] ["one","other"] (a0d a8u):=⟨rfl,rfl,rfl,by decide +kernel,rfl,by decide +kernel,by decide +kernel⟩
abbrev a8s:Stmt:=top 15
theorem sc_times:a0t ["one","other"] ["one","other"] (a0d a8s):=⟨rfl,rfl,rfl,by decide +kernel,rfl,by decide +kernel,by decide +kernel⟩
abbrev a5y:Stmt:=top 16
theorem b9r:a0t ["one","other","t"] ["one","other","t"] (a0d a5y):=⟨rfl,rfl,rfl,by decide +kernel,rfl,by decide +kernel,by decide +kernel⟩
abbrev a1y:Stmt:=top 18
theorem a1t:a0t ["shares","found","whole","one","more"] ["shares"] (a0d a1y):=⟨rfl,rfl,rfl,by decide +kernel,rfl,by decide +kernel,by decide +kernel⟩
abbrev a5u:Stmt:=top 19
theorem a7b:a0t ["numbers","found","number"] ["numbers"] (a0d a5u):=⟨rfl,rfl,rfl,by decide +kernel,rfl,by decide +kernel,by decide +kernel⟩
abbrev a3t:Stmt:=top 20
theorem a4d:a0t ["top","bottoms","below","bottom","common"] ["top","bottoms"] (a0d a3t):=⟨rfl,rfl,rfl,by decide +kernel,rfl,by decide +kernel,by decide +kernel⟩
abbrev b0k:Stmt:=top 21
theorem b6s:a0t ["shares","bottoms","whole"] ["shares"] (a0d b0k):=⟨rfl,rfl,rfl,by decide +kernel,rfl,by decide +kernel,by decide +kernel⟩
abbrev a9d:Stmt:=top 22
theorem sc_axes:a0t ["points"] ["points"] (a0d a9d):=⟨rfl,rfl,rfl,by decide +kernel,rfl,by decide +kernel,by decide +kernel⟩
abbrev a3i:Stmt:=top 23
theorem b4p:a0t ["xs","ys"] ["xs","ys"] (a0d a3i):=⟨rfl,rfl,rfl,by decide +kernel,rfl,by decide +kernel,by decide +kernel⟩
abbrev a6g:Stmt:=top 25
theorem b0c:a0t ["n","one","other","found"] ["n","one","other"] (a0d a6g):=⟨rfl,rfl,rfl,by decide +kernel,rfl,by decide +kernel,by decide +kernel⟩
abbrev a7e:Stmt:=top 43
theorem c2j:a0t ["one","other","t"] ["one","other","t"] (a0d a7e):=⟨rfl,rfl,rfl,by decide +kernel,rfl,by decide +kernel,by decide +kernel⟩
abbrev a2l:Stmt:=top 47
theorem a2q:a0t ["one","tops","bottoms","found","ways"] ["one"] (a0d a2l):=⟨rfl,rfl,rfl,by decide +kernel,rfl,by decide +kernel,by decide +kernel⟩
abbrev a3y:Stmt:=top 48
theorem b2s:a0t ["one","tops","bottoms","parts","more","found","top","part"] ["one"] (a0d a3y):=⟨rfl,rfl,rfl,by decide +kernel,rfl,by decide +kernel,by decide +kernel⟩
abbrev a4f:Stmt:=top 49
theorem b4m:a0t ["first","steps","found","more"] ["first","steps"] (a0d a4f):=⟨rfl,rfl,rfl,by decide +kernel,rfl,by decide +kernel,by decide +kernel⟩
abbrev a7c:Stmt:=top 50
theorem b0f:a0t ["curve","xs","ys"] ["curve"] (a0d a7c):=⟨rfl,rfl,rfl,by decide +kernel,rfl,by decide +kernel,by decide +kernel⟩
abbrev a4i:Stmt:=top 51
theorem b4q:a0t ["some","xs","ys"] ["some"] (a0d a4i):=⟨rfl,rfl,rfl,by decide +kernel,rfl,by decide +kernel,by decide +kernel⟩
abbrev a6h:Stmt:=top 84
theorem b0e:a0t ["curve","many","inner"] ["curve"] (a0d a6h):=⟨rfl,rfl,rfl,by decide +kernel,rfl,by decide +kernel,by decide +kernel⟩
abbrev a2f:Stmt:=top 85
theorem a9i:a0t ["some"] ["some"] (a0d a2f):=⟨rfl,rfl,rfl,by decide +kernel,rfl,by decide +kernel,by decide +kernel⟩
abbrev a5v:Stmt:=top 86
theorem b1w:a0t ["curve","some"] ["curve"] (a0d a5v):=⟨rfl,rfl,rfl,by decide +kernel,rfl,by decide +kernel,by decide +kernel⟩
abbrev a3q:Stmt:=top 96
theorem a4c:a0t ["number","left","found","last"] ["number"] (a0d a3q):=⟨rfl,rfl,rfl,by decide +kernel,rfl,by decide +kernel,by decide +kernel⟩
abbrev a3r:Stmt:=top 97
theorem a6b:a0t ["one","top","bottom"] ["one"] (a0d a3r):=⟨rfl,rfl,rfl,by decide +kernel,rfl,by decide +kernel,by decide +kernel⟩
abbrev a3s:Stmt:=top 98
theorem b2o:a0t ["one"] ["one"] (a0d a3s):=⟨rfl,rfl,rfl,by decide +kernel,rfl,by decide +kernel,by decide +kernel⟩
abbrev a2x:Stmt:=top 99
theorem b2p:a0t ["curve"] ["curve"] (a0d a2x):=⟨rfl,rfl,rfl,by decide +kernel,rfl,by decide +kernel,by decide +kernel⟩
abbrev a7d:Stmt:=top 100
theorem c2i:a0t ["text","sign"] ["text","sign"] (a0d a7d):=⟨rfl,rfl,rfl,by decide +kernel,rfl,by decide +kernel,by decide +kernel⟩
abbrev a2c:Stmt:=top 101
theorem b0d:a0t ["text"] ["text"] (a0d a2c):=⟨rfl,rfl,rfl,by decide +kernel,rfl,by decide +kernel,by decide +kernel⟩
abbrev a3u:Stmt:=top 102
theorem a7w:a0t ["text","number"] ["text"] (a0d a3u):=⟨rfl,rfl,rfl,by decide +kernel,rfl,by decide +kernel,by decide +kernel⟩
abbrev a3v:Stmt:=top 103
theorem a4x:a0t ["text","found","top","bottom"] ["text"] (a0d a3v):=⟨rfl,rfl,rfl,by decide +kernel,rfl,by decide +kernel,by decide +kernel⟩
abbrev a3w:Stmt:=top 104
theorem a7x:a0t ["text","found"] ["text"] (a0d a3w):=⟨rfl,rfl,rfl,by decide +kernel,rfl,by decide +kernel,by decide +kernel⟩
abbrev a3h:Stmt:=top 110
theorem b4o:a0t ["word"] ["word"] (a0d a3h):=⟨rfl,rfl,rfl,by decide +kernel,rfl,by decide +kernel,by decide +kernel⟩
abbrev a2y:Stmt:=top 111
theorem b2r:a0t ["word"] ["word"] (a0d a2y):=⟨rfl,rfl,rfl,by decide +kernel,rfl,by decide +kernel,by decide +kernel⟩
abbrev a4g:Stmt:=top 112
theorem b4n:a0t ["kind","word"] ["kind","word"] (a0d a4g):=⟨rfl,rfl,rfl,by decide +kernel,rfl,by decide +kernel,by decide +kernel⟩
abbrev a2t:Stmt:=top 113
theorem b0j:a0t ["first","many"] ["first","many"] (a0d a2t):=⟨rfl,rfl,rfl,by decide +kernel,rfl,by decide +kernel,by decide +kernel⟩
abbrev a4h:Stmt:=top 114
theorem a6c:a0t ["row","first","words","kinds"] ["row"] (a0d a4h):=⟨rfl,rfl,rfl,by decide +kernel,rfl,by decide +kernel,by decide +kernel⟩
abbrev a3x:Stmt:=top 115
theorem a6f:a0t ["kept","things","name","seats"] ["kept","things"] (a0d a3x):=⟨rfl,rfl,rfl,by decide +kernel,rfl,by decide +kernel,by decide +kernel⟩
abbrev a3p:Stmt:=top 116
theorem b2n:a0t ["kept","things"] ["kept","things"] (a0d a3p):=⟨rfl,rfl,rfl,by decide +kernel,rfl,by decide +kernel,by decide +kernel⟩
abbrev a3o:Stmt:=top 117
theorem b2m:a0t ["kept","things"] ["kept","things"] (a0d a3o):=⟨rfl,rfl,rfl,by decide +kernel,rfl,by decide +kernel,by decide +kernel⟩
abbrev a3b:Stmt:=top 122
theorem b1l:a0t ["kept","things"] ["kept","things"] (a0d a3b):=⟨rfl,rfl,rfl,by decide +kernel,rfl,by decide +kernel,by decide +kernel⟩
abbrev a3c:Stmt:=top 123
theorem b1m:a0t ["kept","things"] ["kept","things"] (a0d a3c):=⟨rfl,rfl,rfl,by decide +kernel,rfl,by decide +kernel,by decide +kernel⟩
abbrev a2g:Stmt:=c4o (top 134) 0
theorem a9j:a0t ["self"] ["self"] (a0d a2g):=⟨rfl,rfl,rfl,by decide +kernel,rfl,by decide +kernel,by decide +kernel⟩
abbrev a5c:Stmt:=c4o (top 134) 1
theorem a3g:a0t ["self","row","first","kinds","things","kind","thing","deed"] ["self","row"] (a0d a5c):=⟨rfl,rfl,rfl,by decide +kernel,rfl,by decide +kernel,by decide +kernel⟩
abbrev a4k:Stmt:=top 136
theorem b4r:a0t ["_law_script","_law_k"] ["_law_script","_law_k"] (a0d a4k):=⟨rfl,rfl,rfl,by decide +kernel,rfl,by decide +kernel,by decide +kernel⟩
abbrev a5a:Stmt:=top 137
theorem a5g:a0t ["_law_cell","_law_many","_law_number","_law_found","_law_k"] ["_law_cell","_law_many"] (a0d a5a):=⟨rfl,rfl,rfl,by decide +kernel,rfl,by decide +kernel,by decide +kernel⟩
abbrev a5w:Stmt:=top 138
theorem a4y:a0t ["_law_top","_law_bottom","_law_one","_law_other","_law_rest"] ["_law_top","_law_bottom"] (a0d a5w):=⟨rfl,rfl,rfl,by decide +kernel,rfl,by decide +kernel,by decide +kernel⟩
abbrev a8v:Stmt:=top 139
theorem a9q:a0t ["_law_cell","_law_way_here","_law_bottom","_law_start"] ["_law_cell"] (a0d a8v):=⟨rfl,rfl,rfl,by decide +kernel,rfl,by decide +kernel,by decide +kernel⟩
abbrev a5x:Stmt:=top 140
theorem a4z:a0t ["_law_cell","_law_way_here","_law_bottom","_law_kind","_law_start","_law_by","_law_row"] ["_law_cell","_law_way_here"] (a0d a5x):=⟨rfl,rfl,rfl,by decide +kernel,rfl,by decide +kernel,by decide +kernel⟩
abbrev a4j:Stmt:=top 141
theorem b6r:a0t ["_law_places","_law_bottom"] ["_law_places","_law_bottom"] (a0d a4j):=⟨rfl,rfl,rfl,by decide +kernel,rfl,by decide +kernel,by decide +kernel⟩
abbrev a5i:Stmt:=top 142
theorem b9q:a0t ["_law_cell","_law_many","_law_way_here"] ["_law_cell","_law_many","_law_way_here"] (a0d a5i):=⟨rfl,rfl,rfl,by decide +kernel,rfl,by decide +kernel,by decide +kernel⟩
abbrev a4p:Stmt:=top 143
theorem a1s:a0t ["_law_cell","_law_many","_law_letters","_law_row","_law_size","_law_at","_law_word","_law_found","_law_k","_law_name","_law_j","_law_place_here"] ["_law_cell","_law_many"] (a0d a4p):=⟨rfl,rfl,rfl,by decide +kernel,rfl,by decide +kernel,by decide +kernel⟩
abbrev a2r:Stmt:=top 144
theorem b0g:a0t ["_law_one"] ["_law_one"] (a0d a2r):=⟨rfl,rfl,rfl,by decide +kernel,rfl,by decide +kernel,by decide +kernel⟩
abbrev a2s:Stmt:=top 145
theorem b0h:a0t ["_law_place_here"] ["_law_place_here"] (a0d a2s):=⟨rfl,rfl,rfl,by decide +kernel,rfl,by decide +kernel,by decide +kernel⟩
abbrev a2d:Stmt:=top 146
theorem b0i:a0t ["_law_curve"] ["_law_curve"] (a0d a2d):=⟨rfl,rfl,rfl,by decide +kernel,rfl,by decide +kernel,by decide +kernel⟩
abbrev a5b:Stmt:=top 147
theorem a3f:a0t ["_law_text","_law_a","_law_b","_law_odd","_law_found","_law_sign"] ["_law_text","_law_a","_law_b","_law_odd"] (a0d a5b):=⟨rfl,rfl,rfl,by decide +kernel,rfl,by decide +kernel,by decide +kernel⟩
abbrev a3k:Stmt:=top 148
theorem a3n:a0t ["_law_a","_law_b","_law_some"] ["_law_a","_law_b"] (a0d a3k):=⟨rfl,rfl,rfl,by decide +kernel,rfl,by decide +kernel,by decide +kernel⟩
abbrev a2z:Stmt:=top 149
theorem a6d:a0t ["_law_a","_law_b","_law_odd","_law_some"] ["_law_a","_law_b","_law_odd"] (a0d a2z):=⟨rfl,rfl,rfl,by decide +kernel,rfl,by decide +kernel,by decide +kernel⟩
abbrev a3a:Stmt:=top 150
theorem a6e:a0t ["_law_a","_law_b","_law_odd","_law_some"] ["_law_a","_law_b","_law_odd"] (a0d a3a):=⟨rfl,rfl,rfl,by decide +kernel,rfl,by decide +kernel,by decide +kernel⟩
abbrev a2k:Stmt:=top 151
theorem a4o:a0t ["_law_a","_law_odd","_law_some"] ["_law_a","_law_odd"] (a0d a2k):=⟨rfl,rfl,rfl,by decide +kernel,rfl,by decide +kernel,by decide +kernel⟩
abbrev a7f:Stmt:=top 152
theorem a1v:a0t ["_law_cell","_law_names_here","_law_stranger","_law_row","_law_a","_law_b","_law_way_here","_law_some"] ["_law_cell","_law_names_here","_law_stranger"] (a0d a7f):=⟨rfl,rfl,rfl,by decide +kernel,rfl,by decide +kernel,by decide +kernel⟩
abbrev a3j:Stmt:=top 153
theorem a6r:a0t ["_law_desk","_law_row","_law_kind","e","_law_kinds"] ["_law_desk","_law_row","_law_kind"] (a0d a3j):=⟨rfl,rfl,rfl,by decide +kernel,rfl,by decide +kernel,by decide +kernel⟩
abbrev a5h:Stmt:=top 154
theorem b9p:a0t ["_law_desk","_law_names_here"] ["_law_desk","_law_names_here"] (a0d a5h):=⟨rfl,rfl,rfl,by decide +kernel,rfl,by decide +kernel,by decide +kernel⟩
abbrev b2u:Stmt:=top 155
theorem a6n:a0t ["_law_script","_law_names_here","_law_stranger","_law_desk","_law_way_here","_law_due","_law_k","_law_many","_law_text","_law_row","_law_kind"] ["_law_script"] (a0d b2u):=⟨rfl,rfl,rfl,by decide +kernel,rfl,by decide +kernel,by decide +kernel⟩
section
variable {P:Program} {w:World} {K:c5t} {mg:Str→Option Value} {base:Heap}
theorem a9l{C_Desk:Addr}(T_Desk:ClsK K mg "Desk" C_Desk)(N_Desk_kept:a6y K C_Desk "kept")(F:b1r K C_Desk "__init__" "Desk.__init__" a2g ["self"]):a8l P w K mg base CX0 1 C_Desk "__init__" ["self"] (c2b C_Desk):=by
 refine mth_ok F a9j (fun vs H Q E h=>?_) (fun f cdv A outer s H vs Q E hr h=>?_)
 · obtain⟨x,dx,rfl,_⟩:=h;rfl
 obtain⟨x,dx,rfl,hx,k⟩:=h
 have hu:=hr.units
 refine⟨_,(a0g (show PSi _ _ (sFld K _ _ _) from (ps_fldI (pvI 0) pe_dnewI))),?_⟩
 walk_at "rd"
 intro d hd
 have v1:=Same.new (o:=.dK []) hd
 walk_at "rd"
 refine⟨x,C_Desk,dx,[],rfl,v1 _ _ hx,T_Desk.cl,N_Desk_kept,by show 0<1000;decide,?_⟩
 exact k d _ v1 hd a0h
theorem b3l(F:a0k K mg "keep_curve" a3x ["kept","things"]):a0r P w K mg base CX0 1 "keep_curve" ["kept","things"] b8o:=by
 refine a1c F a6f (fun vs H Q E h=>?_) (fun f cdv A outer s H vs Q E hr h=>?_)
 · obtain⟨d,lt,cs,n,ws,ps,rfl,_⟩:=h;rfl
 obtain⟨d,lt,cs,n,ws,ps,rfl,⟨kvs,hd,hK,hl40⟩,hc,hlt,hP,h100,k⟩:=h
 have hu:=hr.units
 refine⟨_,(a0e (a4s (pvI 1) (b8u K rfl (a1b (a0q (i:=2) a6f.nd rfl (Or.inl rfl)) (b4w (a0q (i:=3) a6f.nd rfl (Or.inl rfl)) a2n)))) (a0e (a4s (pvI 3) (b6w (pvI 0) (pvI 2) (b2l hu))) (a0g (a0o a0f)))),?_⟩
 walk_at "rd"
 refine⟨lt,.str n,ws,rfl,SqL.of hlt,by rw[hP.len];omega,fun g1 hg1=>?_⟩
 have v1:=Same.new (o:=.lst ws) hg1
 have k1:=a0h (H:=H) (a:=g1) (o:=.lst ws)
 generalize upd H g1 (.lst ws)=H1 at *
 refine⟨_,_,rfl,_,_,rfl,rfl,?_⟩
 have hd1:=v1 _ _ hd
 have hK1:=hK.mono fun v x r=>CvV.same r v1
 walk_at "rd"
 refine⟨d,_,rfl,DPut.k (k:=.inr n) hd1 (a0j (by have:=hK.length;omega)),?_⟩
 walk_at "rd"
 exact k _ ((Ex.of_same v1).trans Ex.put) (a5s.put hd1 hK1 hc k1 (hP.same v1))
theorem a9k(F:a0k K mg "last_is_spare" a2f ["some"])(B:Blt mg){A_FORMS A_DEEDS F_keep_curve F_tell_curve F_tell_names F_tell_point F_keep_cut F_keep_stretch F_turn_curve F_raise_curve F_lower_curve F_lower_fully F_keep_speed F_move_curve F_tell_same F_tell_hull F_tell_box F_tell_part F_tell_meet F_tell_join A_NOUGHT:Addr}{t_MOST_SEATS t_MOST_LEVEL t_FIGURES t_MOST_FIGURES t_PIECE_FIGURES t_PIECE t_LETTERS t_MOST_LETTERS:Tok}(G:Cst K mg w A_FORMS A_DEEDS F_keep_curve F_tell_curve F_tell_names F_tell_point F_keep_cut F_keep_stretch F_turn_curve F_raise_curve F_lower_curve F_lower_fully F_keep_speed F_move_curve F_tell_same F_tell_hull F_tell_box F_tell_part F_tell_meet F_tell_join A_NOUGHT t_MOST_SEATS t_MOST_LEVEL t_FIGURES t_MOST_FIGURES t_PIECE_FIGURES t_PIECE t_LETTERS t_MOST_LETTERS):a0r P w K mg base CX0 1 "last_is_spare" ["some"] b8h:=by
 refine a1c F a9i (fun vs H Q E h=>?_) (fun f cdv A outer s H vs Q E hr h=>?_)
 · obtain⟨a,u,rfl,_⟩:=h;rfl
 obtain⟨a,u,rfl,ha,k⟩:=h
 have hu:=hr.units
 refine⟨_,(a0g (a0o (pe_andI (a7g b9x (a0z (a2b K) (by rfl) B.len PySem.boot_len (a0a (pvI 0) a0c)) a0b (a1g _)) (pe_oneI (a7g (op_eqDK K hu) (a0l (a0m K) (pvI 0) (b4x b4a a0b) (fun _ _=>rfl)) (a1m (v:=.ref A_NOUGHT) rfl G.NOUGHT rfl) (a1g _)))))),?_⟩
 walk_at "rd"
 exact k
theorem a8d(F:a0k K mg "greatest_common" a1u ["one","other"])(B:Blt mg):a0r P w K mg base CX0 1 "greatest_common" ["one","other"] spGcd:=by
 refine a1c F a5o (fun vs H Q E h=>?_) (fun f cdv A outer s H vs Q E hr h=>?_)
 · obtain⟨a,b,rfl,_⟩:=h;rfl
 obtain⟨a,b,rfl,k⟩:=h
 have hu:=hr.units
 refine⟨_,(a0e (a7z PassesOwn.never (a0v op_ne (pvI 1) a0b (a1g _)) (a0g (b6u (i:=0) (j:=1) rfl a5o.nd rfl rfl (by decide) rfl rfl (a0a (pvI 1) (a0a (a0i op_modN (pvI 0) (pvI 1)) a0c)) rfl))) (a0g (a0o (a0z b3u (by rfl) B.abs PyProof.Rows.boot_abs (a0a (pvI 0) a0c))))),?_⟩
 refine a9n (fun σ H'=>∃ x y:Int,σ=[some (.int x),some (.int y)]∧H'=H∧c6o x y=c6o a b) (fun σ _=>match σ with | [_,some (.int y)]=>y.natAbs | _=>0) ⟨a,b,rfl,rfl,rfl⟩ ?_ ?_
 · rintro σ H' ⟨x,y,rfl,rfl,e⟩
   refine⟨_,rfl,rfl,_,rfl,?_⟩
   by_cases hy:y=0
   · subst hy
     refine iteNS rfl ?_
     refine⟨_,rfl,_,rfl,?_⟩
     rw[gcd_zero,e]
     exact k
   · refine ifT (c0s hy) ?_
     refine⟨_,rfl,_,rfl,_,rfl,_,_,rfl,rfl,hy,_,_,rfl,⟨_,_,rfl,rfl,?_⟩,?_⟩
     · rw[b9d];exact e
     · exact fmod_lt x y hy
 · rintro σ H' Q Q' hq ⟨v,h1,hs,k1,h2,h3⟩
   exact⟨v,h1,hs,k1,h2,hq _ _ h3⟩
theorem a8y(F:a0k K mg "common_bottoms" a1y ["shares"])(D_greatest_common:a0r P w K mg base CX0 1 "greatest_common" ["one","other"] spGcd):a0r P w K mg base CX0 2 "common_bottoms" ["shares"] (b8q K):=by
 refine a1c F a1t (fun vs H Q E h=>?_) (fun f cdv A outer s H vs Q E hr h=>?_)
 · obtain⟨a,ws,qs,D,rfl,_⟩:=h;rfl
 obtain⟨a,ws,qs,D,rfl,hS,hQ,hD,zD,hdv,h40,k⟩:=h
 have hu:=hr.units
 refine⟨_,(a0e (a0n (i:=1) a1t.nd rfl (Or.inl rfl) (a1f a0c)) (a0e (a0n (i:=2) a1t.nd rfl (Or.inl rfl) a0b) (a0e (a5j PassesOwn.never rfl (a1r K (pvI 0)) (a0q (i:=3) a1t.nd rfl (Or.inl rfl)) (a0e (a0n (i:=4) a1t.nd rfl (Or.inl rfl) (a0i a5q (a0l (a1d K) (pvI 3) a0b (fun _ _=>rfl)) (a0u D_greatest_common hr a1i (a0a (pvI 2) (a0a (a0l (a1d K) (pvI 3) a0b (fun _ _=>rfl)) a0c))))) (a0g (a1j (a0v b9x (pvI 4) a0b (a1g _)) (a0e (a6j (show PEi _ _ (tBM K _ _ _ _) from (a5p c8k c8p c8q a5l (pvI 1) (a0a (pvI 4) a0c)))) (a0g (a0n (i:=2) a1t.nd rfl (Or.inl rfl) (a0i a1n (pvI 2) (pvI 4))))) a0y)))) (a0g (a0o (pvI 1)))))),?_⟩
 walk_at "rd"
 intro l hl
 walk_at "rd"
 refine⟨⟨ws,by walk_at "mv"⟩,a9s (xs:=ws) (fun i σ H'=>∃ (y1 y2:Option V) (W:Int) (bs:List Int),σ=[some (.ref a),some (.ref l),some (.int W),y1,y2]∧W=a2m bs∧Same H H'∧H' l=some (.lst (bs.map V.int))∧(∀ b∈bs,0<b∧Sz 9000 b)∧W∣D∧(∀ j q,j<i→qs[j]?=some q→(q.den:Int)∣W)∧bs.length≤i)
   ⟨none,none,1,[],rfl,rfl,Same.new hl,a0h,(fun _ h=>nomatch h),⟨D,by rw[Int.one_mul]⟩,fun j q h=>absurd h (Nat.not_lt_zero _),c6l _⟩ ?_ ?_ ?_⟩
 · rintro i σ H' hi ⟨y1,y2,W,bs,rfl,eW,s1,h1,hb,hW,hq,hn⟩
   exact s1.seq hS
 · rintro i x σ H' hx ⟨y1,y2,W,bs,rfl,eW,s1,h1,hb,hW,hq,hn⟩
   have hi:i<ws.length:=(c6h.mp hx).1
   have hwl:=hQ.len
   obtain⟨q,eq,c,rfl,hc⟩:=(hQ.same s1).atV hx
   have hdq:=hdv q (c6t eq)
   have hd0:0<(q.den:Int):=by have:=q.den_pos;omega
   obtain⟨g1,g2,g3,g4,g5⟩:=lcm_step hd0 hW hdq
   have zq:Sz 9000 (q.den:Int):=a9x (by omega) hdq zD
   have zg:Sz 9000 (c6o W q.den:Int):=a9x (by omega) g5 zq
   walk_at "rd"
   refine⟨W,q.den,rfl,?_⟩
   refine⟨_,_,rfl,rfl,⟨by omega,zg⟩,?_⟩
   walk_at "rd"
   have zW:Sz 9000 W:=a9x (by omega) hW zD
   have zm:Sz 9000 ((q.den:Int).fdiv (c6o W q.den)):=b8t hd0 g4 g5 zq
   refine a4e (fun hm=>?_) (fun hm=>?_)
   · walk_at "rd"
     refine⟨.inl ⟨rfl,_,SqL.of h1⟩,?_⟩
     walk_at "rd"
     refine⟨l,_,_,rfl,rfl,h1,a0j (by rw[c5u];omega),?_⟩
     walk_at "rd"
     refine⟨_,_,_,bs++[(q.den:Int).fdiv (c6o W q.den)],rfl,by rw[a8x,eW],fun b o e=>?_,?_,?_,g2,?_,?_⟩
     · rw[a1a (a0x e hl)];exact s1 b o e
     · rw[a0h,c9d];rfl
     · intro b hb'
       rcases c7t.mp hb' with h | h
       · exact hb b h
       · rw[c7b.mp h];exact⟨g3,zm⟩
     · intro j r hj er
       by_cases hji:j=i
       · subst hji
         rw[eq] at er;cases er
         exact g1
       · exact Int.dvd_trans (hq j r (by omega) er) ⟨_,rfl⟩
     · rw[c6m];show bs.length+1≤i+1;omega
   · have e1:(q.den:Int).fdiv (c6o W q.den)=1:=by omega
     rw[e1,Int.mul_one] at g1
     refine⟨_,_,_,bs,rfl,eW,s1,h1,hb,hW,?_,by omega⟩
     intro j r hj er
     by_cases hji:j=i
     · subst hji
       rw[eq] at er;cases er
       exact g1
     · exact hq j r (by omega) er
 · rintro σ H' ⟨y1,y2,W,bs,rfl,eW,s1,h1,hb,hW,hq,hn⟩
   have hwl:=hQ.len
   refine⟨_,rfl,k l bs H' s1 h1 hb (fun q hm=>?_) (eW ▸ hW) (by omega)⟩
   obtain⟨j,hj,rfl⟩:=c7u hm
   rw[← eW]
   exact hq j _ (by omega) (c5v hj)
theorem b9y(F:a0k K mg "product" a5u ["numbers"]):a0r P w K mg base CX0 1 "product" ["numbers"] (b4g K):=by
 refine a1c F a7b (fun vs H Q E h=>?_) (fun f cdv A outer s H vs Q E hr h=>?_)
 · obtain⟨a,bs,rfl,_⟩:=h;rfl
 obtain⟨a,bs,rfl,hS,hb,hn,k⟩:=h
 have hu:=hr.units
 refine⟨_,(a0e (a0n (i:=1) a7b.nd rfl (Or.inl rfl) a0b) (a0e (a5j PassesOwn.never rfl (a1r K (pvI 0)) (a0q (i:=2) a7b.nd rfl (Or.inl rfl)) (a0g (a0n (i:=1) a7b.nd rfl (Or.inl rfl) (a0i a1n (pvI 1) (pvI 2))))) (a0g (a0o (pvI 1))))),?_⟩
 walk_at "rd"
 refine⟨⟨_,hS⟩,a9s (xs:=bs.map V.int) (fun i σ H'=>∃ (y:Option V) (W:Int),σ=[some (.ref a),some (.int W),y]∧W=a2m (bs.take i)∧H'=H) ⟨none,1,rfl,rfl,rfl⟩ ?_ ?_ ?_⟩
 · rintro i σ H' hi ⟨y,W,rfl,eW,rfl⟩
   exact hS
 · rintro i x σ H' hx ⟨y,W,rfl,eW,rfl⟩
   obtain⟨b,eb,rfl⟩:=c4l hx
   have zW:Sz (9000*100+1) W:=by
     rw[eW]
     exact (prod_sz fun c hc=>hb c (List.mem_of_mem_take hc)).mono (by rw[c8i];omega)
   walk_at "rd"
   refine⟨mulB zW (hb b (c6t eb)).2,_,_,rfl,?_,rfl⟩
   rw[b4b eb,a8x,eW]
 · rintro σ H' ⟨y,W,rfl,eW,rfl⟩
   refine⟨_,rfl,?_⟩
   rw[c5u,List.take_length] at eW
   rw[eW];exact k
theorem ok_axis(F:a0k K mg "axis" b0k ["shares"])(D_common_bottoms:a0r P w K mg base CX0 2 "common_bottoms" ["shares"] (b8q K))(D_product:a0r P w K mg base CX0 1 "product" ["numbers"] (b4g K)):a0r P w K mg base CX0 3 "axis" ["shares"] (c2c K):=by
 refine a1c F b6s (fun vs H Q E h=>?_) (fun f cdv A outer s H vs Q E hr h=>?_)
 · obtain⟨a,ws,qs,D,m,rfl,_⟩:=h;rfl
 obtain⟨a,ws,qs,D,m,rfl,hS,hQ,hD,zD,hdv,hm,h40,k⟩:=h
 have hu:=hr.units
 refine⟨_,(a0e (a0n (i:=1) b6s.nd rfl (Or.inl rfl) (a0u D_common_bottoms hr a1i (a0a (pvI 0) a0c))) (a0e (a0n (i:=2) b6s.nd rfl (Or.inr rfl) (a0u D_product hr a1i (a0a (pvI 1) a0c))) (a0g (a0o (a1h (a0a (a1o (os:=["one"]) (caps:=[(2,"whole")]) ["shares","bottoms","whole"] (a0d b0k) (a1r K (pvI 0)) (fun _ _ _ _ _=>(a0q (i:=0) (show c7j (["one","whole"]:List Str) from by decide +kernel) rfl (Or.inl rfl))) (fun _ _ _ _ _=>(a0i a1n (a0l (a1d K) (pvI 0) a0b (fun _ _=>rfl)) (a0i a5q (pvI 1) (a0l (a1d K) (pvI 0) a0b (fun _ _=>rfl))))) (by decide +kernel)) (a0a (pvI 1) a0c))))))),?_⟩
 walk_at "rd"
 refine⟨a,ws,qs,D,rfl,hS,hQ,hD,zD,fun q hq=>(hdv q hq).1,h40,fun lb bs H1 s1 hlb hb hdb hbD hbl=>?_⟩
 have hW:0<a2m bs:=b4s fun b hb'=>(hb b hb').1
 have zW:Sz 9000 (a2m bs):=a9x (by omega) hbD zD
 have hwl:=hQ.len
 walk_at "rd"
 refine⟨lb,bs,rfl,SqL.of hlb,hb,by omega,?_⟩
 walk_at "rd"
 refine⟨⟨_,s1.seq hS⟩,a6p (a2h (s1.seq hS)) (by omega) (fun i v _=>∀ q,qs[i]?=some q→v=.int (q.num*(a2m bs).fdiv q.den)) (fun _ _ _ _ _ h=>h) (fun i H2 kk hi s2 hk=>?_) (fun E2 ys H2 hE s2 hE2 hl hr=>?_)⟩
 · have ew:ws[i]?=some ws[i]:=c5v hi
   obtain⟨q,eq,c,ec,hc⟩:=((hQ.same s1).same s2).atV ew
   have ef:(ws[i]?).getD V.non=.ref c:=by rw[ew];exact ec
   obtain⟨dq,bq⟩:=hdv q (c6t eq)
   have hd0:0<(q.den:Int):=by have:=q.den_pos;omega
   have zq:Sz 9000 (q.den:Int):=a9x (by omega) dq zD
   have dW:=hdb q (c6t eq)
   have zf:Sz 9000 ((a2m bs).fdiv q.den):=b8t hW hd0 dW zW
   rw[ef]
   walk_at "rd"
   refine⟨⟨by omega,zq⟩,?_⟩
   refine⟨_,_,rfl,rfl,mulN bq.num zf (by omega),?_⟩
   refine hk _ _ (L2.Same.refl _) fun q' e'=>?_
   rw[eq] at e';cases e'
   rfl
 · walk_at "rd"
   intro p hp
   have ey:=ints_of (by omega) hr
   refine k _ (qs.map fun q=>q.num*(a2m bs).fdiv q.den) bs _ (by walk_at "sm") ⟨p,E2,lb,rfl,a0h,?_,?_,?_,hb,by omega,by rw[c5u];omega⟩ (axR_tops hW hdb) hbl
   · rw[← ey];exact a6z hp hE2
   · exact a6z hp (s2 _ _ hlb)
   · intro x hx
     obtain⟨q,hq,rfl⟩:=c7d.mp hx
     obtain⟨dq,bq⟩:=hdv q hq
     exact (bq.num.mul (b8t hW (by have:=q.den_pos;omega) (hdb q hq) zW)).mono (by omega)
theorem ok_axes(F:a0k K mg "axes" a9d ["points"])(D_axis:a0r P w K mg base CX0 3 "axis" ["shares"] (c2c K)):a0r P w K mg base CX0 4 "axes" ["points"] (c2d K):=by
 refine a1c F sc_axes (fun vs H Q E h=>?_) (fun f cdv A outer s H vs Q E hr h=>?_)
 · obtain⟨a,ws,ps,D,m,rfl,_⟩:=h;rfl
 obtain⟨a,ws,ps,D,m,rfl,hS,hP,hD,zD,hdv,hm,h40,k⟩:=h
 have hu:=hr.units
 refine⟨_,(a0g (a0o (a1h (a0a (a0u D_axis hr a1i (a0a (a1o (os:=["place"]) (caps:=[]) ["points"] (a0d a9d) (a1r K (pvI 0)) (fun _ _ _ _ _=>(a0q (i:=0) (show c7j (["place"]:List Str) from by decide +kernel) rfl (Or.inl rfl))) (fun _ _ _ _ _=>(a0l (a1d K) (pvI 0) a0b (fun _ _=>rfl))) (by decide +kernel)) a0c)) (a0a (a0u D_axis hr a1i (a0a (a1o (os:=["place"]) (caps:=[]) ["points"] (a0d a9d) (a1r K (pvI 0)) (fun _ _ _ _ _=>(a0q (i:=0) (show c7j (["place"]:List Str) from by decide +kernel) rfl (Or.inl rfl))) (fun _ _ _ _ _=>(a0l (a1d K) (pvI 0) a0b (fun _ _=>rfl))) (by decide +kernel)) a0c)) a0c))))),?_⟩
 have hwl:=hP.len
 walk_at "rd"
 refine⟨⟨ws,by walk_at "mv"⟩,a6p (a2h (by walk_at "mv" : SqL K _ a ws)) (by omega) (fun i v H=>∀ p,ps[i]?=some p→ShV H v p.1) (fun _ _ _ _ t h p e=>(h p e).tup t) (fun i H2 kk hi s2 hk=>?_) (fun E2 ys2 H2 hE2 s2 hE'2 hl2 hr2=>?_)⟩
 · have ew:ws[i]?=some ws[i]:=c5v hi
   obtain⟨p,ep,c,vx,vy,ec,hc,hx,hy⟩:=(show PtsV H2 ws ps by walk_at "mv").atV ew
   have ef:(ws[i]?).getD V.non=.ref c:=by rw[ew];exact ec
   rw[ef]
   walk_at "rd"
   refine hk _ _ (L2.Same.refl _) fun p' e'=>?_
   rw[ep] at e';cases e'
   assumption
 have hq2:ShL H2 ys2 (ps.map (·.1)):=ShL.map (by omega) hr2
 clear hr2
 refine⟨E2,ys2,ps.map (·.1),D,m,rfl,SqL.of hE'2,hq2,hD,zD,fun q hq=>?_,hm,by rw[c5u];omega,fun v3 t3 b3 H3 s3 A3 e3 n3=>?_⟩
 · obtain⟨p,hp,rfl⟩:=c7d.mp hq
   exact (hdv p hp).1
 rw[c5u] at n3
 walk_at "rd"
 refine⟨⟨ws,by walk_at "mv"⟩,a6p (a2h (by walk_at "mv" : SqL K _ a ws)) (by omega) (fun i v H=>∀ p,ps[i]?=some p→ShV H v p.2) (fun _ _ _ _ t h p e=>(h p e).tup t) (fun i H4 kk hi s4 hk=>?_) (fun E4 ys4 H4 hE4 s4 hE'4 hl4 hr4=>?_)⟩
 · have ew:ws[i]?=some ws[i]:=c5v hi
   obtain⟨p,ep,c,vx,vy,ec,hc,hx,hy⟩:=(show PtsV H4 ws ps by walk_at "mv").atV ew
   have ef:(ws[i]?).getD V.non=.ref c:=by rw[ew];exact ec
   rw[ef]
   walk_at "rd"
   refine hk _ _ (L2.Same.refl _) fun p' e'=>?_
   rw[ep] at e';cases e'
   assumption
 have hq4:ShL H4 ys4 (ps.map (·.2)):=ShL.map (by omega) hr4
 clear hr4
 refine⟨E4,ys4,ps.map (·.2),D,m,rfl,SqL.of hE'4,hq4,hD,zD,fun q hq=>?_,hm,by rw[c5u];omega,fun v5 t5 b5 H5 s5 A5 e5 n5=>?_⟩
 · obtain⟨p,hp,rfl⟩:=c7d.mp hq
   exact (hdv p hp).2
 rw[c5u] at n5
 walk_at "rd"
 intro c hc
 exact k c v3 v5 t3 b3 t5 b5 _ (by walk_at "sm") a0h (by walk_at "mv") (by walk_at "mv") e3 e5 n3 n5
theorem c3u(F:a0k K mg "spread" a6g ["n","one","other"])(B:Blt mg):a0r P w K mg base CX0 1 "spread" ["n","one","other"] b0a:=by
 refine a1c F b0c (fun vs H Q E h=>?_) (fun f cdv A outer s H vs Q E hr h=>?_)
 · obtain⟨rfl,_⟩:=h;rfl
 obtain⟨rfl,k⟩:=h
 have hu:=hr.units
 refine⟨_,(a0e (a0n (i:=3) b0c.nd rfl (Or.inl rfl) (a1f (a0a a0b a0c))) (a0e (a7z PassesOwn.never (a0v b7b (a0z (a2b K) (by rfl) B.len PySem.boot_len (a0a (pvI 3) a0c)) (pvI 0) (a1g _)) (a0g (b0n (i:=3) (os:=["left","taken"]) (caps:=[(1,"one"),(2,"other")]) ["n","one","other","found"] (a0d a6g) b0c.nd rfl rfl (show PIi _ _ _ (iZip K _) from (b0o rfl B.zip (a0a (a0i a4u (pvI 3) (a1f (a0a a0b a0c))) (a0a (a0i a4u (a1f (a0a a0b a0c)) (pvI 3)) a0c)))) (fun _ _ _ _ _=>(a3d (n:=2) K rfl (a1b (a0q (i:=0) (show c7j (["left","taken","one","other"]:List Str) from by decide +kernel) rfl (Or.inl rfl)) (a1b (a0q (i:=1) (show c7j (["left","taken","one","other"]:List Str) from by decide +kernel) rfl (Or.inl rfl)) a2n)))) (fun _ _ _ _ _=>(a0i a2v (a0i a1n (pvI 2) (pvI 0)) (a0i a1n (pvI 3) (pvI 1)))) (by decide +kernel)))) (a0g (a0o (pvI 3))))),?_⟩
 walk_at "rd"
 intro l hl
 have s1:=Same.new (o:=.lst [.int 1]) hl
 have h1:=a0h (H:=H) (a:=l) (o:=.lst [.int 1])
 generalize upd H l (.lst [.int 1])=H1 at *
 refine a9n (fun σ H'=>σ=[some (.int 0),some (.int 1),some (.int 1),some (.ref l)]∧H'=H1) (fun _ _=>0) ⟨rfl,rfl⟩ ?_ ?_
 · rintro σ H' ⟨rfl,rfl⟩
   walk_at "rd"
   exact k l _ s1 hl h1
 · rintro σ H1 Q1 Q2 hq ⟨v,h1,p,ys,h2,h3,u,h4,i,j,h5,h6,c,h7,h8⟩
   exact⟨v,h1,p,ys,h2,h3,u,h4,i,j,h5,h6,c,h7,hq _ _ h8⟩
theorem b5d(F:a0k K mg "sums_from" a4f ["first","steps"]):a0r P w K mg base CX0 1 "sums_from" ["first","steps"] a6q:=by
 exact a1c F b4m (fun vs H Q E h=>(show False from h).elim) (fun f cdv A outer s H vs Q E hr h=>(show False from h).elim)
theorem b3m(F:a0k K mg "axis_seats" a3y ["one"])(D_axis:a0r P w K mg base CX0 3 "axis" ["shares"] (c2c K))(D_spread:a0r P w K mg base CX0 1 "spread" ["n","one","other"] b0a)(D_sums_from:a0r P w K mg base CX0 1 "sums_from" ["first","steps"] a6q):a0r P w K mg base CX0 4 "axis_seats" ["one"] a6q:=by
 exact a1c F b2s (fun vs H Q E h=>(show False from h).elim) (fun f cdv A outer s H vs Q E hr h=>(show False from h).elim)
theorem b3e(F:a0k K mg "share_over" a3t ["top","bottoms"])(D_greatest_common:a0r P w K mg base CX0 1 "greatest_common" ["one","other"] spGcd):a0r P w K mg base CX0 2 "share_over" ["top","bottoms"] (b4h K):=by
 refine a1c F a4d (fun vs H Q E h=>?_) (fun f cdv A outer s H vs Q E hr h=>?_)
 · obtain⟨top,a,bs,rfl,_⟩:=h;rfl
 obtain⟨top,a,bs,rfl,hS,hb,hn,k⟩:=h
 have hu:=hr.units
 refine⟨_,(a0e (a0n (i:=2) a4d.nd rfl (Or.inl rfl) a0b) (a0e (a5j PassesOwn.never rfl (a1r K (pvI 1)) (a0q (i:=3) a4d.nd rfl (Or.inl rfl)) (a0e (a0n (i:=4) a4d.nd rfl (Or.inl rfl) (a0u D_greatest_common hr a1i (a0a (pvI 0) (a0a (pvI 3) a0c)))) (a0g (b6u (i:=0) (j:=2) rfl a4d.nd rfl rfl (by decide) rfl rfl (a0a (a0i a5q (pvI 0) (pvI 4)) (a0a (a0i a1n (pvI 2) (a0i a5q (pvI 3) (pvI 4))) a0c)) rfl)))) (a0g (a0o (a1h (a0a (pvI 0) (a0a (pvI 2) a0c))))))),?_⟩
 walk_at "rd"
 refine⟨⟨_,hS⟩,a9s (xs:=bs.map V.int) (fun i σ H'=>∃ (y1 y2:Option V) (T B:Int),σ=[some (.int T),some (.ref a),some (.int B),y1,y2]∧0<B∧c6o T B=1∧T*a2m (bs.take i)=top*B∧Sz (9000*i+1) B∧H'=H) ⟨none,none,top,1,rfl,by decide,by simp,by simp[a2m],⟨by decide⟩,rfl⟩ ?_ ?_ ?_⟩
 · rintro i σ H' hi ⟨y1,y2,T,B,rfl,hB,hg,he,hz,rfl⟩
   exact hS
 · rintro i x σ H' hx ⟨y1,y2,T,B,rfl,hB,hg,he,hz,rfl⟩
   obtain⟨b,eb,rfl⟩:=c4l hx
   have hi:i<bs.length:=(c6h.mp eb).1
   obtain⟨b0,zb⟩:=hb b (c6t eb)
   obtain⟨g1,g2,g3,g4,g5⟩:=c3n b0 hB hg
   have zg:Sz 9000 (c6o T b:Int):=a9x (by omega) g5 zb
   have zq:Sz 9000 (b.fdiv (c6o T b)):=b8t b0 g4 g5 zb
   walk_at "rd"
   refine⟨T,b,rfl,?_⟩
   walk_at "rd"
   refine⟨⟨by omega,zg⟩,?_⟩
   walk_at "rd"
   refine⟨⟨by omega,zg⟩,?_⟩
   refine⟨_,_,rfl,rfl,mulN hz zq (by omega),?_⟩
   refine⟨_,_,rfl,_,_,_,_,rfl,g2,g1,?_,(hz.mul zq).mono (by omega),rfl⟩
   rw[b4b eb,a8x]
   have e1:T.fdiv (c6o T b)*(a2m (bs.take i)*b)=(T.fdiv (c6o T b)*b)*a2m (bs.take i):=by grind
   rw[e1,g3]
   have e2:T*b.fdiv (c6o T b)*a2m (bs.take i)=(T*a2m (bs.take i))*b.fdiv (c6o T b):=by grind
   rw[e2,he];grind
 · rintro σ H' ⟨y1,y2,T,B,rfl,hB,hg,he,hz,rfl⟩
   rw[c5u,List.take_length] at he
   walk_at "rd"
   intro p hp
   have hu:=c0j hB (b4s fun b hb'=>(hb b hb').1) hg he
   refine k _ _ (Same.new hp) ⟨p,rfl,?_⟩
   rw[a0h,hu.1,hu.2]
theorem b5g(F:a0k K mg "points_of" a3i ["xs","ys"])(B:Blt mg)(D_share_over:a0r P w K mg base CX0 2 "share_over" ["top","bottoms"] (b4h K)):a0r P w K mg base CX0 3 "points_of" ["xs","ys"] a8q:=by
 refine a1c F b4p (fun vs H Q E h=>?_) (fun f cdv A outer s H vs Q E hr h=>?_)
 · obtain⟨x,y,n,t1,b1,t2,b2,rfl,_⟩:=h;rfl
 obtain⟨_,_,n,t1,b1,t2,b2,rfl,⟨a1,lt1,lb1,rfl,h1,ht1,hb1,z1,g1,n1,m1⟩,⟨a2,lt2,lb2,rfl,h2,ht2,hb2,z2,g2,n2,m2⟩,h12,k⟩:=h
 have hu:=hr.units
 refine⟨_,(a0g (a0o (a1o (os:=["x","y"]) (caps:=[(0,"xs"),(1,"ys")]) ["xs","ys"] (a0d a3i) (show PIi _ _ _ (iZip K _) from (b0o rfl B.zip (a0a (a0l (a1d K) (pvI 0) a0b (fun _ _=>rfl)) (a0a (a0l (a1d K) (pvI 1) a0b (fun _ _=>rfl)) a0c)))) (fun _ _ _ _ _=>(a3d (n:=2) K rfl (a1b (a0q (i:=0) (show c7j (["x","y","xs","ys"]:List Str) from by decide +kernel) rfl (Or.inl rfl)) (a1b (a0q (i:=1) (show c7j (["x","y","xs","ys"]:List Str) from by decide +kernel) rfl (Or.inl rfl)) a2n)))) (fun _ _ _ _ _=>(a1h (a0a (a0u D_share_over hr a1i (a0a (pvI 0) (a0a (a0l (a1d K) (pvI 2) a0b (fun _ _=>rfl)) a0c))) (a0a (a0u D_share_over hr a1i (a0a (pvI 1) (a0a (a0l (a1d K) (pvI 3) a0b (fun _ _=>rfl)) a0c))) a0c)))) (by decide +kernel)))),?_⟩
 walk_at "rd"
 refine⟨_,_,rfl,⟨_,SqL.of ht1⟩,⟨_,SqL.of ht2⟩,comp2 (a5z (SqL.of ht1) (SqL.of ht2)) (by rw[c5u,c5u];omega) (fun i v H=>∀ x y,t1[i]?=some x→t2[i]?=some y→PtV H v (c6y x (a2m b1)) (c6y y (a2m b2))) (fun _ _ _ _ t h x y e f=>(h x y e f).tup t) (fun i H2 kk hi s2 hk=>?_) (fun D us H2 hD s2 hD2 hl hr=>?_)⟩
 · rw[c5u,c5u] at hi
   have e1:t1[i]?=some (t1[i]'(by omega (config:={}))):=c5v _
   have e2:t2[i]?=some (t2[i]'(by omega (config:={}))):=c5v _
   rw[c4n e1,c4n e2]
   walk_at "rd"
   refine⟨_,lb1,b1,rfl,SqL.of (by walk_at "hf"),g1,n1,fun v3 H3 s3 w3=>?_⟩
   walk_at "rd"
   refine⟨_,lb2,b2,rfl,SqL.of (by walk_at "hf"),g2,n2,fun v4 H4 s4 w4=>?_⟩
   walk_at "rd"
   intro p hp
   refine hk _ _ (by walk_at "sm") fun x y ex ey=>?_
   rw[e1] at ex;rw[e2] at ey
   cases ex;cases ey
   exact⟨p,v3,v4,rfl,a0h,(w3.same s4).same (Same.new hp),w4.same (Same.new hp)⟩
 · rw[c5u,c5u] at hl
   obtain⟨ps,q1,q2,q3⟩:=pts_zip (b1:=b1) (b2:=b2) (show us.length=t1.length by omega) h12 hr
   exact k D us ps H2 s2 hD hD2 q1 q2 q3
theorem b5h(F:a0k K mg "of_powers" a4i ["some"])(D_axes:a0r P w K mg base CX0 4 "axes" ["points"] (c2d K))(D_axis_seats:a0r P w K mg base CX0 4 "axis_seats" ["one"] a6q)(D_points_of:a0r P w K mg base CX0 3 "points_of" ["xs","ys"] a8q):a0r P w K mg base CX0 5 "of_powers" ["some"] a6q:=by
 exact a1c F b4q (fun vs H Q E h=>(show False from h).elim) (fun f cdv A outer s H vs Q E hr h=>(show False from h).elim)
theorem b1q(F:a0k K mg "axis_powers" a2l ["one"])(B:Blt mg)(D_spread:a0r P w K mg base CX0 1 "spread" ["n","one","other"] b0a):a0r P w K mg base CX0 2 "axis_powers" ["one"] b8r:=by
 refine a1c F a2q (fun vs H Q E h=>?_) (fun f cdv A outer s H vs Q E hr h=>?_)
 · obtain⟨v,t,m,bs,rfl,_⟩:=h;rfl
 obtain⟨v,t,m,bs,rfl,hA,hm,k⟩:=h
 have hu:=hr.units
 refine⟨_,(a0e (a4s (pvI 0) (a3d (n:=2) K rfl (a1b (a0q (i:=1) a2q.nd rfl (Or.inl rfl)) (a1b (a0q (i:=2) a2q.nd rfl (Or.inl rfl)) a2n)))) (a0e (a0n (i:=3) a2q.nd rfl (Or.inl rfl) (a1f a0c)) (a0e (a5j PassesOwn.never rfl (a1r K (a0u D_spread hr a1i (a0a (a0i a4t (a0z (a2b K) (by rfl) B.len PySem.boot_len (a0a (pvI 1) a0c)) a0b) (a0a a0b (a0a a0b a0c))))) (a0q (i:=4) a2q.nd rfl (Or.inl rfl)) (a0e (a6j (show PEi _ _ (tBM K _ _ _ _) from (a5p c8k c8p c8q a5l (pvI 3) (a0a (a0i a1n (pvI 4) (a0l (a0m K) (pvI 1) a0b (fun _ _=>rfl))) a0c)))) (a0g (b0n (i:=1) (os:=["top","beside"]) (caps:=[]) ["one","tops","bottoms","found","ways"] (a0d a2l) a2q.nd rfl rfl (show PIi _ _ _ (iZip K _) from (b0o rfl B.zip (a0a (pvI 1) (a0a (a6t (b2k K) (pvI 1) (a8a a0b) a8b) a0c)))) (fun _ _ _ _ _=>(a3d (n:=2) K rfl (a1b (a0q (i:=0) (show c7j (["top","beside"]:List Str) from by decide +kernel) rfl (Or.inl rfl)) (a1b (a0q (i:=1) (show c7j (["top","beside"]:List Str) from by decide +kernel) rfl (Or.inl rfl)) a2n)))) (fun _ _ _ _ _=>(a0i a4t (pvI 1) (pvI 0))) (by decide +kernel))))) (a0g (a0o (a1h (a0a (pvI 3) (a0a (pvI 2) a0c)))))))),?_⟩
 obtain⟨a,lt,lb,rfl,ha,hlt,hlb,zt,zb,r⟩:=hA
 walk_at "rd"
 refine⟨a,_,rfl,SqT.of ha,rfl,_,_,rfl,_,_,rfl,rfl,?_⟩
 walk_at "rd"
 intro lf hlf
 have s1:=Same.new (o:=.lst []) hlf
 have h1:=a0h (H:=H) (a:=lf) (o:=.lst [])
 generalize upd H lf (.lst [])=H1 at *
 have hlt1:=s1 _ _ hlt
 have nfl:lt≠lf:=a0x hlt hlf
 walk_at "rd"
 intro ls H2 s2 hs0 hs
 have hlf2:=s2 _ _ h1
 have nsf:ls≠lf:=fun e=>by rw[e,h1] at hs0;cases hs0
 have zt0:=zt t (by simp)
 walk_at "rd"
 refine⟨⟨_,SqL.of hs⟩,a9s (xs:=[.int 1]) (fun i σ H'=>∃ (lr:Addr) (y:Option V),σ=[some (.ref a),some (.ref lr),some (.ref lb),some (.ref lf),y]∧Same H H'∧(i=0→H' lt=some (.lst [.int t])∧lr=lt)∧H' lf=some (.lst (if i=0 then [] else [.int (1*t)]))∧H' ls=some (.lst [.int 1])) ⟨lt,none,rfl,s1.trans s2,fun _=>⟨s2 _ _ hlt1,rfl⟩,hlf2,hs⟩ ?_ ?_ ?_⟩
 · rintro i σ H' hi ⟨lr,y,rfl,s3,g3,g4,g5⟩
   exact SqL.of g5
 · rintro i x σ H3 hx ⟨lr,y,rfl,s3,g3,g4,g5⟩
   obtain rfl:i=0:=by have:=(c6h.mp hx).1;simp at this;omega
   cases hx
   obtain⟨g3,rfl⟩:=g3 rfl
   have g4:H3 lf=some (.lst []):=g4
   walk_at "rd"
   refine⟨.inl ⟨rfl,_,SqL.of g4⟩,?_⟩
   walk_at "rd"
   refine⟨lf,_,_,rfl,rfl,g4,a0j (by simp),?_⟩
   have g3':(upd H3 lf (.lst ([]++[V.int (1*t)]))) lr=some (.lst [.int t]):=by rw[a1a nfl];exact g3
   have g5':(upd H3 lf (.lst ([]++[V.int (1*t)]))) ls=some (.lst [.int 1]):=by rw[a1a nsf];exact g5
   have g4':(upd H3 lf (.lst ([]++[V.int (1*t)]))) lf=some (.lst [.int (1*t)]):=a0h
   have s4:Same H (upd H3 lf (.lst ([]++[V.int (1*t)]))):=b2t hlf s3
   dsimp only
   generalize upd H3 lf (.lst ([]++[V.int (1*t)]))=H4 at *
   walk_at "rd"
   refine⟨lr,_,rfl,SqL.of g3',fun q hq=>?_⟩
   have g6:(upd H4 q (.lst (cutV [V.int t] (some 1) none))) lr=some (.lst [.int t]):=a6z hq g3'
   walk_at "rd"
   refine⟨_,_,rfl,⟨_,SqL.of g6⟩,⟨_,SqL.of a0h⟩,comp2 (a5z (SqL.of g6) (SqL.of a0h)) (by show min 1 0≤100000;decide) (fun j v _=>True) (fun _ _ _ _ _ _=>trivial) (fun j H5 kk hj s5 hk=>?_) (fun E us H5 hE s5 hE5 hl hr=>?_)⟩
   · exact absurd (show j<0 from hj) (Nat.not_lt_zero _)
   · have sq:Same H4 H5:=(Same.new hq).trans s5
     exact⟨E,_,rfl,s4.trans sq,fun e=>(by cases e),sq _ _ g4',sq _ _ g5'⟩
 · rintro σ H3 ⟨lr,y,rfl,s3,g3,g4,g5⟩
   walk_at "rd"
   intro c hc
   rw[Int.one_mul] at g4
   exact k _ _ (s3.trans (Same.new hc)) ⟨c,lf,lb,rfl,a0h,a6z hc g4,a6z hc (s3 _ _ hlb),zt,zb,r⟩
theorem c3w(F:a0k K mg "powers" a7c ["curve"])(D_axes:a0r P w K mg base CX0 4 "axes" ["points"] (c2d K))(D_points_of:a0r P w K mg base CX0 3 "points_of" ["xs","ys"] a8q)(D_axis_powers:a0r P w K mg base CX0 2 "axis_powers" ["one"] b8r):a0r P w K mg base CX0 5 "powers" ["curve"] (spPow1 K):=by
 refine a1c F b0f (fun vs H Q E h=>?_) (fun f cdv A outer s H vs Q E hr h=>?_)
 · obtain⟨a,ws,ps,D,rfl,_⟩:=h;rfl
 obtain⟨a,ws,ps,D,rfl,hS,hP,h1,hD,zD,hov,k⟩:=h
 have hu:=hr.units
 refine⟨_,(a0e (a4s (a0u D_axes hr a1i (a0a (pvI 0) a0c)) (a3d (n:=2) K rfl (a1b (a0q (i:=1) b0f.nd rfl (Or.inl rfl)) (a1b (a0q (i:=2) b0f.nd rfl (Or.inl rfl)) a2n)))) (a0g (a0o (a0u D_points_of hr a1i (a0a (a0u D_axis_powers hr a1i (a0a (pvI 1) a0c)) (a0a (a0u D_axis_powers hr a1i (a0a (pvI 2) a0c)) a0c)))))),?_⟩
 walk_at "rd"
 dsimp only[tNil]
 refine⟨a,ws,ps,D,9000,rfl,hS,hP,hD,zD.mono (by decide),fun p hp=>?_,by decide,by omega,fun c x1 y1 t1 b1 t2 b2 H1 s1 hc A1 A2 e1 e2 n1 n2=>?_⟩
 · have o:=hov p hp
   exact⟨⟨c4z o.1,(o.1.bd (by omega) zD).mono (by decide)⟩,c4z o.2,(o.2.bd (by omega) zD).mono (by decide)⟩
 refine⟨c,_,rfl,SqT.of hc,rfl,_,_,rfl,_,_,rfl,rfl,?_⟩
 have l1:t1.length=1:=by have:=congrArg c8f e1;rw[a6m,c5u,h1] at this;exact this
 have l2:t2.length=1:=by have:=congrArg c8f e2;rw[a6m,c5u,h1] at this;exact this
 obtain⟨u1,rfl⟩:=List.length_eq_one_iff.mp l1
 obtain⟨u2,rfl⟩:=List.length_eq_one_iff.mp l2
 walk_at "rd"
 refine⟨x1,u1,_,b1,rfl,A1,by decide,fun v2 H2 s2 A3=>?_⟩
 walk_at "rd"
 refine⟨y1,u2,_,b2,rfl,A2.same s2,by decide,fun v3 H3 s3 A4=>?_⟩
 refine⟨_,_,_,_,b1,_,b2,rfl,A3.same s3,A4,rfl,fun l us qs H4 s4 hl0 hl hU f1 f2=>?_⟩
 have hul:us.length=1:=by rw[hU.len,← c5u (as:=qs) (f:=(·.1)),f1,a6m];rfl
 obtain⟨u,rfl⟩:=List.length_eq_one_iff.mp hul
 exact k l u H4 (((s1.trans s2).trans s3).trans s4) hl
theorem b9z(F:a0k K mg "lowered" a5v ["curve"]){C_SeatError C_NoText C_NoName C_TooMany C_NoLower C_NoShare C_NoMap C_NoJoin C_NoPlace:Addr}(X:Exc K mg C_SeatError C_NoText C_NoName C_TooMany C_NoLower C_NoShare C_NoMap C_NoJoin C_NoPlace)(D_last_is_spare:a0r P w K mg base CX0 1 "last_is_spare" ["some"] b8h)(D_of_powers:a0r P w K mg base CX0 5 "of_powers" ["some"] a6q)(D_powers:a0r P w K mg base CX0 5 "powers" ["curve"] (spPow1 K)):a0r P w K mg base (CXx P w) 6 "lowered" ["curve"] (b1v K C_NoLower):=by
 refine a2w F b1w (fun vs H Q E h=>?_) (fun f cdv A outer s H vs Q E hr h=>?_)
 · obtain⟨a,ws,ps,D,rfl,_⟩:=h;rfl
 obtain⟨a,ws,ps,D,rfl,hS,hP,h1,hD,zD,hov,kE⟩:=h
 have hu:=hr.units
 refine⟨_,(a0e (a0n (i:=1) b1w.nd rfl (Or.inl rfl) (a0u D_powers hr a1i (a0a (pvI 0) a0c))) (a0e (a1j (a5r (a6i (a0u D_last_is_spare hr a1i (a0a (pvI 1) a0c)))) (a0g (a2a a1z X.xNoLower (a0a a0f a0c))) a0y) (a0g (a0o (a0u D_of_powers hr a1i (a0a (a6t (b2k K) (pvI 1) a8b (a8a (b4x b4a a0b))) a0c)))))),?_⟩
 walk_at "rd"
 refine⟨a,ws,ps,D,rfl,hS,hP,h1,hD,zD,hov,fun l u H1 s1 hl=>?_⟩
 walk_at "rd"
 refine⟨l,u,rfl,hl,?_⟩
 refine⟨_,rfl,ifT rfl ?_⟩
 walk_at "rd"
 exact kE _ s1
theorem b1o(F:a0k K mg "lower_curve" a3c ["kept","things"]){C_NoLower:Addr}(D_lowered:a0r P w K mg base (CXx P w) 6 "lowered" ["curve"] (b1v K C_NoLower)):a0r P w K mg base (CXx P w) 7 "lower_curve" ["kept","things"] (a9p C_NoLower):=by
 refine a2w F b1m (fun vs H Q E h=>?_) (fun f cdv A outer s H vs Q E hr h=>?_)
 · obtain⟨d,lt,cs,n,ps,D,rfl,_⟩:=h;rfl
 obtain⟨d,lt,cs,n,ps,D,rfl,⟨kvs,hd,hK,hl40⟩,hlt,e,h1,hD,zD,hov,kE⟩:=h
 have hu:=hr.units
 refine⟨_,(a0e (a4s (a0u D_lowered hr a1p (a0a (a0l (a8z P w K hu) (pvI 0) (a0l (a0m K) (pvI 1) a0b (fun _ _=>rfl)) (fun _ _=>rfl)) a0c)) (b6w (pvI 0) (a0l (a0m K) (pvI 1) a0b (fun _ _=>rfl)) (b2l hu))) (a0g (a0o a0f))),?_⟩
 obtain⟨v,e2,l,ws,rfl,hl,hP⟩:=hK.there e
 walk_at "rd"
 refine⟨d,_,rfl,.inl (by rw[← e2];exact DGet.k (k:=.inr n) hd),?_⟩
 exact⟨l,ws,ps,D,rfl,SqL.of hl,hP,h1,hD,zD,hov,kE⟩
theorem ok_share(F:a0k K mg "share" a8t ["top","bottom"])(D_greatest_common:a0r P w K mg base CX0 1 "greatest_common" ["one","other"] spGcd):a0r P w K mg base CX0 2 "share" ["top","bottom"] a8p:=by
 refine a1c F b2q (fun vs H Q E h=>?_) (fun f cdv A outer s H vs Q E hr h=>?_)
 · obtain⟨a,b,rfl,_⟩:=h;rfl
 obtain⟨t,b,rfl,hb,hz,k⟩:=h
 have hu:=hr.units
 refine⟨_,(a0e (a1j (a0v a4l (pvI 1) a0b (a1g _)) (a0g c2x) a0y) (a0e (a0n (i:=2) b2q.nd rfl (Or.inl rfl) (a0u D_greatest_common hr a1i (a0a (pvI 0) (a0a (pvI 1) a0c)))) (a0e (a1j (a0v op_lt (pvI 1) a0b (a1g _)) (a0g (a0n (i:=2) b2q.nd rfl (Or.inl rfl) (b4x b4a (pvI 2)))) a0y) (a0g (a0o (a1h (a0a (a0i a5q (pvI 0) (pvI 2)) (a0a (a0i a5q (pvI 1) (pvI 2)) a0c)))))))),?_⟩
 have g0:(c6o t b:Int)≠0:=b9e t b hb
 have gz:Sz 9000 (c6o t b:Int):=hz.le (by
   rw[c6w]
   exact Nat.le_of_dvd (by omega) (Int.gcd_dvd_natAbs_right t b))
 refine⟨_,rfl,rfl,_,rfl,?_⟩
 refine ifF (by simp[hb]) ?_
 refine⟨_,rfl,_,rfl,t,b,rfl,?_⟩
 refine⟨_,rfl,_,_,rfl,rfl,_,rfl,a4e (fun hn=>?_) (fun hn=>?_)⟩
 · refine⟨_,rfl,_,rfl,?_⟩
   refine⟨_,rfl,_,rfl,_,_,rfl,rfl,⟨by omega,gz.neg⟩,_,rfl,_,rfl,_,_,rfl,rfl,⟨by omega,gz.neg⟩,(by show 2≤sizeLine;decide),fun p hp=>?_⟩
   have e:=c2f t b hn
   refine k _ _ (Same.new hp) ⟨p,rfl,?_⟩
   rw[a0h,← e.1,← e.2]
 · refine⟨_,rfl,_,rfl,_,_,rfl,rfl,⟨g0,gz⟩,_,rfl,_,rfl,_,_,rfl,rfl,⟨g0,gz⟩,(by show 2≤sizeLine;decide),fun p hp=>?_⟩
   have e:=b0b t b (by omega)
   refine k _ _ (Same.new hp) ⟨p,rfl,?_⟩
   rw[a0h,← e.1,← e.2]
theorem ok_minus(F:a0k K mg "minus" a8u ["one","other"])(D_share:a0r P w K mg base CX0 2 "share" ["top","bottom"] a8p):a0r P w K mg base CX0 3 "minus" ["one","other"] c2a:=by
 refine a1c F sc_minus (fun vs H Q E h=>?_) (fun f cdv A outer s H vs Q E hr h=>?_)
 · obtain⟨x,y,p,q,rfl,_⟩:=h;rfl
 obtain⟨_,_,p,q,rfl,⟨a,rfl,ha⟩,⟨b,rfl,hb⟩,hp,hq,_,k⟩:=h
 have hu:=hr.units
 refine⟨_,(a0g (a0o (a0u D_share hr a1i (a0a (a0i a4t (a0i a1n (a0l (a1d K) (pvI 0) a0b (fun _ _=>rfl)) (a0l (a1d K) (pvI 1) a0b (fun _ _=>rfl))) (a0i a1n (a0l (a1d K) (pvI 1) a0b (fun _ _=>rfl)) (a0l (a1d K) (pvI 0) a0b (fun _ _=>rfl)))) (a0a (a0i a1n (a0l (a1d K) (pvI 0) a0b (fun _ _=>rfl)) (a0l (a1d K) (pvI 1) a0b (fun _ _=>rfl))) a0c))))),?_⟩
 refine⟨_,rfl,a,_,_,_,rfl,rfl,SqT.of ha,rfl,_,rfl,b,_,_,_,rfl,rfl,SqT.of hb,rfl,_,_,rfl,rfl,mulB hp.num hq.den,_,rfl,b,_,_,_,rfl,rfl,SqT.of hb,rfl,_,rfl,a,_,_,_,rfl,rfl,SqT.of ha,rfl,_,_,rfl,rfl,mulB hq.num hp.den,_,_,rfl,rfl,_,rfl,a,_,_,_,rfl,rfl,SqT.of ha,rfl,_,rfl,b,_,_,_,rfl,rfl,SqT.of hb,rfl,_,_,rfl,rfl,mulB hp.den hq.den,_,_,rfl,a5e p q,(hp.den.mul hq.den).mono (by decide),fun v H' hs hv=>k v H' hs ?_⟩
 show ShV H' v (p - q)
 rw[← sub_eq];exact hv
theorem ok_plus(F:a0k K mg "plus" b1x ["one","other"])(D_share:a0r P w K mg base CX0 2 "share" ["top","bottom"] a8p):a0r P w K mg base CX0 3 "plus" ["one","other"] spPlus:=by
 refine a1c F sc_plus (fun vs H Q E h=>?_) (fun f cdv A outer s H vs Q E hr h=>?_)
 · obtain⟨x,y,p,q,rfl,_⟩:=h;rfl
 obtain⟨_,_,p,q,rfl,⟨a,rfl,ha⟩,⟨b,rfl,hb⟩,hp,hq,_,k⟩:=h
 have hu:=hr.units
 refine⟨_,(a0g (a0o (a0u D_share hr a1i (a0a (a0i a2v (a0i a1n (a0l (a1d K) (pvI 0) a0b (fun _ _=>rfl)) (a0l (a1d K) (pvI 1) a0b (fun _ _=>rfl))) (a0i a1n (a0l (a1d K) (pvI 1) a0b (fun _ _=>rfl)) (a0l (a1d K) (pvI 0) a0b (fun _ _=>rfl)))) (a0a (a0i a1n (a0l (a1d K) (pvI 0) a0b (fun _ _=>rfl)) (a0l (a1d K) (pvI 1) a0b (fun _ _=>rfl))) a0c))))),?_⟩
 refine⟨_,rfl,a,_,_,_,rfl,rfl,SqT.of ha,rfl,_,rfl,b,_,_,_,rfl,rfl,SqT.of hb,rfl,_,_,rfl,rfl,mulB hp.num hq.den,_,rfl,b,_,_,_,rfl,rfl,SqT.of hb,rfl,_,rfl,a,_,_,_,rfl,rfl,SqT.of ha,rfl,_,_,rfl,rfl,mulB hq.num hp.den,_,_,rfl,rfl,_,rfl,a,_,_,_,rfl,rfl,SqT.of ha,rfl,_,rfl,b,_,_,_,rfl,rfl,SqT.of hb,rfl,_,_,rfl,rfl,mulB hp.den hq.den,_,_,rfl,a5e p q,(hp.den.mul hq.den).mono (by decide),fun v H' hs hv=>k v H' hs ?_⟩
 show ShV H' v (p+q)
 rw[← add_eq];exact hv
theorem ok_times(F:a0k K mg "times" a8s ["one","other"])(D_share:a0r P w K mg base CX0 2 "share" ["top","bottom"] a8p):a0r P w K mg base CX0 3 "times" ["one","other"] c1r:=by
 refine a1c F sc_times (fun vs H Q E h=>?_) (fun f cdv A outer s H vs Q E hr h=>?_)
 · obtain⟨x,y,p,q,rfl,_⟩:=h;rfl
 obtain⟨_,_,p,q,rfl,⟨a,rfl,ha⟩,⟨b,rfl,hb⟩,hp,hq,_,k⟩:=h
 have hu:=hr.units
 refine⟨_,(a0g (a0o (a0u D_share hr a1i (a0a (a0i a1n (a0l (a1d K) (pvI 0) a0b (fun _ _=>rfl)) (a0l (a1d K) (pvI 1) a0b (fun _ _=>rfl))) (a0a (a0i a1n (a0l (a1d K) (pvI 0) a0b (fun _ _=>rfl)) (a0l (a1d K) (pvI 1) a0b (fun _ _=>rfl))) a0c))))),?_⟩
 refine⟨_,rfl,a,_,_,_,rfl,rfl,SqT.of ha,rfl,_,rfl,b,_,_,_,rfl,rfl,SqT.of hb,rfl,_,_,rfl,rfl,mulB hp.num hq.num,_,rfl,a,_,_,_,rfl,rfl,SqT.of ha,rfl,_,rfl,b,_,_,_,rfl,rfl,SqT.of hb,rfl,_,_,rfl,rfl,mulB hp.den hq.den,_,_,rfl,a5e p q,(hp.den.mul hq.den).mono (by decide),fun v H' hs hv=>k v H' hs ?_⟩
 show ShV H' v (p*q)
 rw[← mul_eq];exact hv
theorem c0f(F:a0k K mg "between" a5y ["one","other","t"])(D_minus:a0r P w K mg base CX0 3 "minus" ["one","other"] c2a)(D_plus:a0r P w K mg base CX0 3 "plus" ["one","other"] spPlus)(D_times:a0r P w K mg base CX0 3 "times" ["one","other"] c1r):a0r P w K mg base CX0 4 "between" ["one","other","t"] b4k:=by
 refine a1c F b9r (fun vs H Q E h=>?_) (fun f cdv A outer s H vs Q E hr h=>?_)
 · obtain⟨x,y,z,p,q,t,rfl,_⟩:=h;rfl
 obtain⟨x,y,z,p,q,t,rfl,hx,hy,hz,hp,hq,ht,h1,h2,k⟩:=h
 have hu:=hr.units
 refine⟨_,(a0g (a0o (a0u D_plus hr a1i (a0a (pvI 0) (a0a (a0u D_times hr a1i (a0a (pvI 2) (a0a (a0u D_minus hr a1i (a0a (pvI 1) (a0a (pvI 0) a0c))) a0c))) a0c))))),?_⟩
 refine⟨_,rfl,_,rfl,_,rfl,_,rfl,y,x,q,p,rfl,hy,hx,hq,hp,True.intro,fun v1 H1 s1 w1=>?_⟩
 refine⟨z,v1,t,q - p,rfl,hz.same s1,w1,ht,h1,True.intro,fun v2 H2 s2 w2=>?_⟩
 refine⟨x,v2,p,t*(q - p),rfl,hx.same (s1.trans s2),w2,hp,h2,True.intro,fun v3 H3 s3 w3=>?_⟩
 exact k v3 H3 ((s1.trans s2).trans s3) w3
theorem c3y(F:a0k K mg "on_way" a7e ["one","other","t"])(D_between:a0r P w K mg base CX0 4 "between" ["one","other","t"] b4k):a0r P w K mg base CX0 5 "on_way" ["one","other","t"] a6q:=by
 exact a1c F c2j (fun vs H Q E h=>(show False from h).elim) (fun f cdv A outer s H vs Q E hr h=>(show False from h).elim)
theorem c3v(F:a0k K mg "raised" a6h ["curve"])(B:Blt mg){C_SeatError C_NoText C_NoName C_TooMany C_NoLower C_NoShare C_NoMap C_NoJoin C_NoPlace:Addr}(X:Exc K mg C_SeatError C_NoText C_NoName C_TooMany C_NoLower C_NoShare C_NoMap C_NoJoin C_NoPlace){A_FORMS A_DEEDS F_keep_curve F_tell_curve F_tell_names F_tell_point F_keep_cut F_keep_stretch F_turn_curve F_raise_curve F_lower_curve F_lower_fully F_keep_speed F_move_curve F_tell_same F_tell_hull F_tell_box F_tell_part F_tell_meet F_tell_join A_NOUGHT:Addr}{t_MOST_SEATS t_MOST_LEVEL t_FIGURES t_MOST_FIGURES t_PIECE_FIGURES t_PIECE t_LETTERS t_MOST_LETTERS:Tok}(G:Cst K mg w A_FORMS A_DEEDS F_keep_curve F_tell_curve F_tell_names F_tell_point F_keep_cut F_keep_stretch F_turn_curve F_raise_curve F_lower_curve F_lower_fully F_keep_speed F_move_curve F_tell_same F_tell_hull F_tell_box F_tell_part F_tell_meet F_tell_join A_NOUGHT t_MOST_SEATS t_MOST_LEVEL t_FIGURES t_MOST_FIGURES t_PIECE_FIGURES t_PIECE t_LETTERS t_MOST_LETTERS)(D_share:a0r P w K mg base CX0 2 "share" ["top","bottom"] a8p)(D_on_way:a0r P w K mg base CX0 5 "on_way" ["one","other","t"] a6q):a0r P w K mg base (CXx P w) 6 "raised" ["curve"] (b1u K C_TooMany):=by
 refine a2w F b0e (fun vs H Q E h=>?_) (fun f cdv A outer s H vs Q E hr h=>?_)
 · obtain⟨a,ws,rfl,_⟩:=h;rfl
 obtain⟨a,ws,rfl,hS,h12,kE⟩:=h
 have hu:=hr.units
 refine⟨_,(a0e (a0n (i:=1) b0e.nd rfl (Or.inr rfl) (a0z (a2b K) (by rfl) B.len PySem.boot_len (a0a (pvI 0) a0c))) (a0e (a1j (a0v op_ge (pvI 1) (a1m (v:=.int 12) rfl G.MOST_SEATS ⟨_,rfl⟩) (a1g _)) (a0g (a2a a1z X.xTooMany (a0a a0f a0c))) a0y) (a0e (b0n (i:=2) (os:=["k"]) (caps:=[(0,"curve"),(1,"many")]) ["curve","many","inner"] (a0d a6h) b0e.nd rfl rfl (b9u rfl B.range (a0a a0b (a0a (pvI 1) a0c))) (fun _ _ _ _ _=>(a0q (i:=0) (show c7j (["k","curve","many"]:List Str) from by decide +kernel) rfl (Or.inl rfl))) (fun _ _ _ _ _=>(a0u D_on_way hr a1i (a0a (a0l (a0m K) (pvI 1) (pvI 0) (fun _ _=>rfl)) (a0a (a0l (a0m K) (pvI 1) (a0i a4t (pvI 0) a0b) (fun _ _=>rfl)) (a0a (a0u D_share hr a1i (a0a (pvI 0) (a0a (pvI 2) a0c))) a0c))))) (by decide +kernel)) (a0g (a0o (a0i a4u (a0i a4u (a1f (a0a (a0l (a0m K) (pvI 0) a0b (fun _ _=>rfl)) a0c)) (pvI 2)) (a1f (a0a (a0l (a0m K) (pvI 0) (b4x b4a a0b) (fun _ _=>rfl)) a0c)))))))),?_⟩
 refine⟨_,rfl,a,ws,rfl,.inl hS,?_⟩
 walk_at "rd"
 refine ifT (decide_eq_true (by rw[h12];decide)) ?_
 walk_at "rd"
 exact kE _ (L2.Same.refl _)
theorem b1n(F:a0k K mg "raise_curve" a3b ["kept","things"]){C_TooMany:Addr}(D_raised:a0r P w K mg base (CXx P w) 6 "raised" ["curve"] (b1u K C_TooMany)):a0r P w K mg base (CXx P w) 7 "raise_curve" ["kept","things"] (a9o C_TooMany):=by
 refine a2w F b1l (fun vs H Q E h=>?_) (fun f cdv A outer s H vs Q E hr h=>?_)
 · obtain⟨d,lt,cs,n,ps,rfl,_⟩:=h;rfl
 obtain⟨d,lt,cs,n,ps,rfl,⟨kvs,hd,hK,hl40⟩,hlt,e,h12,kE⟩:=h
 have hu:=hr.units
 refine⟨_,(a0e (a4s (a0u D_raised hr a1p (a0a (a0l (a8z P w K hu) (pvI 0) (a0l (a0m K) (pvI 1) a0b (fun _ _=>rfl)) (fun _ _=>rfl)) a0c)) (b6w (pvI 0) (a0l (a0m K) (pvI 1) a0b (fun _ _=>rfl)) (b2l hu))) (a0g (a0o a0f))),?_⟩
 obtain⟨v,e2,l,ws,rfl,hl,hP⟩:=hK.there e
 walk_at "rd"
 refine⟨d,_,rfl,.inl (by rw[← e2];exact DGet.k (k:=.inr n) hd),?_⟩
 exact⟨l,ws,rfl,SqL.of hl,by rw[hP.len];exact h12,kE⟩
theorem b0v(F:a0k K mg "kinds_behind" a2t ["first","many"])(B:Blt mg){C_SeatError C_NoText C_NoName C_TooMany C_NoLower C_NoShare C_NoMap C_NoJoin C_NoPlace:Addr}(X:Exc K mg C_SeatError C_NoText C_NoName C_TooMany C_NoLower C_NoShare C_NoMap C_NoJoin C_NoPlace){A_FORMS A_DEEDS F_keep_curve F_tell_curve F_tell_names F_tell_point F_keep_cut F_keep_stretch F_turn_curve F_raise_curve F_lower_curve F_lower_fully F_keep_speed F_move_curve F_tell_same F_tell_hull F_tell_box F_tell_part F_tell_meet F_tell_join A_NOUGHT:Addr}{t_MOST_SEATS t_MOST_LEVEL t_FIGURES t_MOST_FIGURES t_PIECE_FIGURES t_PIECE t_LETTERS t_MOST_LETTERS:Tok}(G:Cst K mg w A_FORMS A_DEEDS F_keep_curve F_tell_curve F_tell_names F_tell_point F_keep_cut F_keep_stretch F_turn_curve F_raise_curve F_lower_curve F_lower_fully F_keep_speed F_move_curve F_tell_same F_tell_hull F_tell_box F_tell_part F_tell_meet F_tell_join A_NOUGHT t_MOST_SEATS t_MOST_LEVEL t_FIGURES t_MOST_FIGURES t_PIECE_FIGURES t_PIECE t_LETTERS t_MOST_LETTERS):a0r P w K mg base (CXx P w) 1 "kinds_behind" ["first","many"] (b8n C_NoText):=by
 refine a2w F b0j (fun vs H Q E h=>?_) (fun f cdv A outer s H vs Q E hr h=>?_)
 · obtain⟨first,n,rfl,_⟩:=h;rfl
 obtain⟨first,n,rfl,hn,hk⟩:=h
 have hu:=hr.units
 refine⟨_,(a0e (a1j (a8k (b6t (a0v a4l (pvI 0) a0f (a1g _)) (b2v (b0m b7b b7b a0b (pvI 1) (a0i a2v (a1m (v:=.int 12) rfl G.MOST_SEATS ⟨_,rfl⟩) a0b) (by with_unfolding_all rfl))))) (a0g (a0o (a0i a4u (a1f (a0a a0f a0c)) (a0i op_rep (a1f (a0a a0f a0c)) (a0i a4t (pvI 1) a0b))))) a0y) (a0e (a1j (a8k (b1y (a0v (b5b P w K hu) (pvI 0) (a1m (v:=.ref A_FORMS) rfl G.FORMS rfl) rfl) (a8w (a0v op_ne (a0z (a2b K) (by rfl) B.len PySem.boot_len (a0a (show PEi _ _ (tBM0 K _ _ _) from (b6y c7n c9q c9r b5m (a0l (a8z P w K hu) (a1m (v:=.ref A_FORMS) rfl G.FORMS rfl) (pvI 0) (fun _ _=>rfl)))) a0c)) (pvI 1) (a1g _))))) (a0g (a2a a1z X.xNoText (a0a a0f a0c))) a0y) (a0g (a0o (show PEi _ _ (tBM0 K _ _ _) from (b6y c7n c9q c9r b5m (a0l (a8z P w K hu) (a1m (v:=.ref A_FORMS) rfl G.FORMS rfl) (pvI 0) (fun _ _=>rfl)))))))),?_⟩
 rcases hk with⟨ks,hK,k⟩ | ⟨⟨hc,hf⟩,kE⟩
 · rcases hK with⟨rfl,h2,h13,rfl⟩ | ⟨hc,f,ef,ew,el,lf,ls⟩
   · walk_at "rd"
     refine ifT (by simp;omega) ?_
     walk_at "rd"
     refine ifT (by simp;omega) ?_
     walk_at "rd"
     intro g1 hg1
     have v1:=Same.new (o:=.lst [.str "new"]) hg1
     have k1:=a0h (H:=H) (a:=g1) (o:=.lst [.str "new"])
     generalize upd H g1 (.lst [.str "new"])=H1 at *
     walk_at "rd"
     intro g2 hg2
     have v2:=Same.new (o:=.lst [.str "point"]) hg2
     have k2:=a0h (H:=H1) (a:=g2) (o:=.lst [.str "point"])
     replace k1:=v2 _ _ k1
     generalize upd H1 g2 (.lst [.str "point"])=H2 at *
     walk_at "rd"
     refine⟨g2,_,_,rfl,rfl,k2,by omega,by omega,?_,fun g3 hg3=>?_⟩
     · show 1*((n:Int) - 1).toNat≤sizeLine
       exact c6d (a0j (by omega))
     have e3:(c6i ((n:Int) - 1).toNat [V.str "point"]).flatten=(c6i (n - 1) ("point" : Str)).map V.str:=by
       have:((n:Int) - 1).toNat=n - 1:=by omega
       rw[this]
       generalize n - 1=m
       induction m with
       | zero=>rfl
       | succ m ih=>rw[c8m,c9g,ih,c8m];rfl
     rw[e3] at *
     have v3:=Same.new (o:=.lst ((c6i (n - 1) ("point" : Str)).map V.str)) hg3
     have k3:=a0h (H:=H2) (a:=g3) (o:=.lst ((c6i (n - 1) ("point" : Str)).map V.str))
     replace k1:=v3 _ _ k1
     generalize upd H2 g3 (.lst ((c6i (n - 1) ("point" : Str)).map V.str))=H3 at *
     have v13:=(v1.trans v2).trans v3
     refine⟨g1,g3,_,_,rfl,rfl,k1,k3,c6d (a0j (by rw[c5u,c7a];show 1+(n - 1)≤100000;omega)),fun g4 hg4=>?_⟩
     have hn4:H g4=none:=by
       cases e:H g4 with
       | none=>rfl
       | some o=>rw[v13 _ _ e] at hg4;cases hg4
     exact k g4 _ (v13.trans (Same.new hg4)) hn4 a0h
   · walk_at "rd"
     dsimp only
     refine ifF (by simp[hc]) ?_
     walk_at "rd"
     refine⟨A_FORMS,_,rfl,.inr ⟨a3m,.inr first,G.dFORMS P,rfl,rfl⟩,_,rfl,?_⟩
     rw[ef]
     walk_at "rd"
     refine⟨A_FORMS,_,rfl,.inr ⟨a3m,.inr first,G.dFORMS P,rfl,ef.symm⟩,?_⟩
     walk_at "rd"
     refine⟨by omega,by omega,by rw[ew];omega,fun g1 hg1=>?_⟩
     rw[ew]
     have v1:=Same.new (o:=.lst (ks.map V.str)) hg1
     have k1:=a0h (H:=H) (a:=g1) (o:=.lst (ks.map V.str))
     generalize upd H g1 (.lst (ks.map V.str))=H1 at *
     walk_at "rd"
     refine ifF (by rw[c5u,el];simp) ?_
     walk_at "rd"
     refine⟨A_FORMS,_,rfl,.inr ⟨a3m,.inr first,G.dFORMS P,rfl,ef.symm⟩,?_⟩
     walk_at "rd"
     refine⟨by omega,by omega,by rw[ew];omega,fun g2 hg2=>?_⟩
     rw[ew]
     have hn2:H g2=none:=by
       cases e:H g2 with
       | none=>rfl
       | some o=>rw[v1 _ _ e] at hg2;cases hg2
     exact k g2 _ (v1.trans (Same.new hg2)) hn2 a0h
 · by_cases e:first = "curve"
   · subst e
     have hc:=hc rfl
     have hv:valV a3m (.inr "curve")=none:=rfl
     walk_at "rd"
     refine ifB (fun h1=>?_) (fun h1=>?_)
     · have h1:=of_decide_eq_true h1
       walk_at "rd"
       refine ifF (decide_eq_false (by omega)) ?_
       walk_at "rd"
       refine⟨A_FORMS,_,rfl,.inr ⟨a3m,.inr "curve",G.dFORMS P,rfl,rfl⟩,_,rfl,?_⟩
       rw[hv]
       walk_at "rd"
       exact kE _ (L2.Same.refl _)
     · walk_at "rd"
       refine⟨A_FORMS,_,rfl,.inr ⟨a3m,.inr "curve",G.dFORMS P,rfl,rfl⟩,_,rfl,?_⟩
       rw[hv]
       walk_at "rd"
       exact kE _ (L2.Same.refl _)
   · walk_at "rd"
     dsimp only
     refine ifF (by simp[e]) ?_
     walk_at "rd"
     refine⟨A_FORMS,_,rfl,.inr ⟨a3m,.inr first,G.dFORMS P,rfl,rfl⟩,_,rfl,?_⟩
     rcases hf with hv | ⟨f,ef,el,lf,hw,ls⟩
     · rw[hv]
       walk_at "rd"
       exact kE _ (L2.Same.refl _)
     · rw[ef]
       walk_at "rd"
       refine⟨A_FORMS,_,rfl,.inr ⟨a3m,.inr first,G.dFORMS P,rfl,ef.symm⟩,?_⟩
       walk_at "rd"
       refine⟨by omega,by omega,by omega,fun g1 hg1=>?_⟩
       walk_at "rd"
       refine ifT (by rw[c5u];simp;omega) ?_
       walk_at "rd"
       exact kE _ (Same.new hg1)
theorem b3i(F:a0k K mg "read_level" a2y ["word"])(B:Blt mg){C_SeatError C_NoText C_NoName C_TooMany C_NoLower C_NoShare C_NoMap C_NoJoin C_NoPlace:Addr}(X:Exc K mg C_SeatError C_NoText C_NoName C_TooMany C_NoLower C_NoShare C_NoMap C_NoJoin C_NoPlace){A_FORMS A_DEEDS F_keep_curve F_tell_curve F_tell_names F_tell_point F_keep_cut F_keep_stretch F_turn_curve F_raise_curve F_lower_curve F_lower_fully F_keep_speed F_move_curve F_tell_same F_tell_hull F_tell_box F_tell_part F_tell_meet F_tell_join A_NOUGHT:Addr}{t_MOST_SEATS t_MOST_LEVEL t_FIGURES t_MOST_FIGURES t_PIECE_FIGURES t_PIECE t_LETTERS t_MOST_LETTERS:Tok}(G:Cst K mg w A_FORMS A_DEEDS F_keep_curve F_tell_curve F_tell_names F_tell_point F_keep_cut F_keep_stretch F_turn_curve F_raise_curve F_lower_curve F_lower_fully F_keep_speed F_move_curve F_tell_same F_tell_hull F_tell_box F_tell_part F_tell_meet F_tell_join A_NOUGHT t_MOST_SEATS t_MOST_LEVEL t_FIGURES t_MOST_FIGURES t_PIECE_FIGURES t_PIECE t_LETTERS t_MOST_LETTERS):a0r P w K mg base (CXx P w) 1 "read_level" ["word"] (b8l C_NoText):=by
 refine a2w F b2r (fun vs H Q E h=>?_) (fun f cdv A outer s H vs Q E hr h=>?_)
 · obtain⟨x,rfl,_⟩:=h;rfl
 obtain⟨x,rfl,hx,hS,hk⟩:=h
 have hu:=hr.units
 refine⟨_,(a0e (a1j (a0v (c3p K hu) (pvI 0) (a1o (os:=["level"]) (caps:=[]) ["word"] (a0d a2y) (a3z rfl B.range (a0a (a0i a2v (a1m (v:=.int 6) rfl G.MOST_LEVEL ⟨_,rfl⟩) a0b) a0c)) (fun _ _ _ _ _=>(a0q (i:=0) (show c7j (["level"]:List Str) from by decide +kernel) rfl (Or.inl rfl))) (fun _ _ _ _ _=>(a4a a4b rfl B.str c8a (a0a (pvI 0) a0c))) (by decide +kernel)) rfl) (a0g (a2a a1z X.xNoText (a0a a0f a0c))) a0y) (a0g (a0o (a4a a8h rfl B.int PyProof.Rows.boot_int (a0a (pvI 0) a0c))))),?_⟩
 walk_at "rd"
 refine a6p (a7k _ _ _) (by show 7≤100000;decide) (fun i v _=>v=V.str (tN (i:Int))) (fun _ _ _ _ _ h=>h) (fun i H5 kk hi s5 hk=>?_) (fun D ys H2 hD s2 hd hl hr=>?_)
 · have hi7:i<7:=hi
   walk_at "rd"
   refine⟨c7w (Nat.log2_le_self _) (by omega),hk _ _ (L2.Same.refl _) ?_⟩
   rw[Int.zero_add];rfl
 have ey:ys=((List.range 7).map fun i=>tN ((i:Nat):Int)).map V.str:=by
   have hl7:ys.length=7:=hl
   refine c8s fun i=>?_
   by_cases hi:i<7
   · rw[c6c,c6c,List.getElem?_range hi]
     have e1:=c5v (l:=ys) (i:=i) (by omega)
     rw[e1,hr i _ e1];rfl
   · rw[c7k (by omega),c7k (by simp;omega)]
 rw[ey] at hd
 have hm:∀ t:Str,t∈(List.range 7).map (fun i=>tN ((i:Nat):Int))↔∃ n:Nat,n≤6∧t=tN (n:Int):=fun t=>by
   rw[c7d]
   constructor
   · rintro⟨n,hn,rfl⟩
     exact⟨n,by have:=c9u.mp hn;omega,rfl⟩
   · rintro⟨n,hn,rfl⟩
     exact⟨n,c9u.mpr (by omega),rfl⟩
 walk_at "rd"
 refine⟨x,D,_,rfl,rfl,SqL.of hd,hS,fun z hz=>?_,?_⟩
 · obtain⟨n,hn,rfl⟩:=(hm z).mp hz
   exact tN_strOk _
 rcases hk with⟨n,hn,rfl,k⟩ | ⟨b,kE⟩
 · rw[decide_eq_true ((hm _).mpr ⟨n,hn,rfl⟩)]
   walk_at "rd"
   have hl7:(tN (n:Int)).length=(dg n).length:=by rw[← a1x];exact congrArg c8f (a9w n)
   have l2:=b1h (k:=100) (m:=n) (by decide) (c7w hn (by decide))
   exact⟨_,_,rfl,b8e (m:=n) (by omega),by omega,k H2 s2⟩
 · rw[decide_eq_false fun z=>by obtain⟨n,hn,e⟩:=(hm _).mp z;exact b n hn e]
   walk_at "rd"
   exact kE _ s2
theorem b5f(F:a0k K mg "read_name" a3h ["word"])(B:Blt mg){C_SeatError C_NoText C_NoName C_TooMany C_NoLower C_NoShare C_NoMap C_NoJoin C_NoPlace:Addr}(X:Exc K mg C_SeatError C_NoText C_NoName C_TooMany C_NoLower C_NoShare C_NoMap C_NoJoin C_NoPlace){A_FORMS A_DEEDS F_keep_curve F_tell_curve F_tell_names F_tell_point F_keep_cut F_keep_stretch F_turn_curve F_raise_curve F_lower_curve F_lower_fully F_keep_speed F_move_curve F_tell_same F_tell_hull F_tell_box F_tell_part F_tell_meet F_tell_join A_NOUGHT:Addr}{t_MOST_SEATS t_MOST_LEVEL t_FIGURES t_MOST_FIGURES t_PIECE_FIGURES t_PIECE t_LETTERS t_MOST_LETTERS:Tok}(G:Cst K mg w A_FORMS A_DEEDS F_keep_curve F_tell_curve F_tell_names F_tell_point F_keep_cut F_keep_stretch F_turn_curve F_raise_curve F_lower_curve F_lower_fully F_keep_speed F_move_curve F_tell_same F_tell_hull F_tell_box F_tell_part F_tell_meet F_tell_join A_NOUGHT t_MOST_SEATS t_MOST_LEVEL t_FIGURES t_MOST_FIGURES t_PIECE_FIGURES t_PIECE t_LETTERS t_MOST_LETTERS):a0r P w K mg base (CXx P w) 1 "read_name" ["word"] (c1z C_NoText):=by
 refine a2w F b4o (fun vs H Q E h=>?_) (fun f cdv A outer s H vs Q E hr h=>?_)
 · obtain⟨x,rfl,_⟩:=h;rfl
 obtain⟨x,rfl,hx,hk⟩:=h
 have hu:=hr.units
 refine⟨_,(a0e (a1j (a8k (b1y (a5r (b0m b7b b7b a0b (a0z a6v (by rfl) B.len PySem.boot_len (a0a (pvI 0) a0c)) (a1m (v:=.int 12) rfl G.MOST_LETTERS ⟨_,rfl⟩) (by with_unfolding_all rfl))) (a8w (a5r (a6i (a0z (b2d K rfl) (by rfl) B.all PyProof.Rows.boot_all (a0a (a1o (os:=["sign"]) (caps:=[]) ["word"] (a0d a3h) (b6v (pvI 0)) (fun _ _ _ _ _=>(a0q (i:=0) (show c7j (["sign"]:List Str) from by decide +kernel) rfl (Or.inl rfl))) (fun _ _ _ _ _=>(a7g b5c (pvI 0) (a1m (v:=.str "abcdefghijklmnopqrstuvwxyz") rfl G.LETTERS ⟨_,rfl⟩) rfl)) (by decide +kernel)) a0c))))))) (a0g (a2a a1z X.xNoText (a0a a0f a0c))) a0y) (a0g (a0o (pvI 0)))),?_⟩
 by_cases hl:1≤x.length∧x.length≤12
 · obtain⟨h1,h2⟩:=hl
   walk_at "rd"
   refine⟨c6d (a0j (by omega)),?_⟩
   walk_at "rd"
   refine ifT (by simp;omega) ?_
   walk_at "rd"
   refine ifF (by simp;omega) ?_
   walk_at "rd"
   refine a6p (a8c _ _) (by show x.length≤100000;omega) (fun i v H=>v=.bl (decide (97≤x.cps.getD i 0∧x.cps.getD i 0≤122))) (fun _ _ _ _ tt h=>h) (fun i H2 kk hi s2 hk=>?_) (fun D ys H2 hD s2 hd hl hr=>?_)
   · walk_at "rd"
     rw[let_dec]
     exact hk _ _ (L2.Same.refl _) rfl
   obtain⟨bs,rfl,hb1,hb2⟩:=map_bls hr
   rw[c5u] at hl
   have ha:=all_bls (n:=x.length) hl hb2
   walk_at "rd"
   refine⟨D,bs,rfl,SqL.of hd,?_⟩
   have hnm:Nm x↔bs.all id=true:=⟨fun h=>ha.mpr fun i hi=>h.2.2 _ (cp_at hi),fun h=>⟨h1,h2,fun c hc=>by
     obtain⟨i,hi,rfl⟩:=cp_ex hc
     exact ha.mp h i hi⟩⟩
   rcases hk with⟨n,k⟩ | ⟨n,kE⟩
   · rw[hnm.mp n]
     walk_at "rd"
     exact k _ s2
   · rw[show bs.all id=false from Bool.eq_false_iff.mpr fun z=>n (hnm.mpr z)]
     walk_at "rd"
     exact kE _ s2
 · have hn:¬ Nm x:=fun h=>hl ⟨h.1,h.2.1⟩
   rcases hk with⟨n,k⟩ | ⟨n,kE⟩
   · exact absurd n hn
   walk_at "rd"
   refine⟨c6d (a0j (by omega)),?_⟩
   walk_at "rd"
   refine ifB (fun h1=>?_) (fun h1=>?_)
   · walk_at "rd"
     refine ifT (by have h1:=of_decide_eq_true h1;simp;omega) ?_
     walk_at "rd"
     exact kE _ (L2.Same.refl _)
   · walk_at "rd"
     exact kE _ (L2.Same.refl _)
theorem c3x(F:a0k K mg "pieces" a7d ["text","sign"])(B:Blt mg){C_SeatError C_NoText C_NoName C_TooMany C_NoLower C_NoShare C_NoMap C_NoJoin C_NoPlace:Addr}(X:Exc K mg C_SeatError C_NoText C_NoName C_TooMany C_NoLower C_NoShare C_NoMap C_NoJoin C_NoPlace):a0r P w K mg base (CXx P w) 1 "pieces" ["text","sign"] (c1y K C_NoText):=by
 refine a2w F c2i (fun vs H Q E h=>?_) (fun f cdv A outer s H vs Q E hr h=>?_)
 · obtain⟨v,y,rfl,_⟩:=h;rfl
 obtain⟨v,y,rfl,hk⟩:=h
 have hu:=hr.units
 refine⟨_,(a0e (a1j (a5r (a6i (a0z (b6a K) (by rfl) B.isinstance c7o (a0a (pvI 0) (a0a (b2w (v:=.ty "str") rfl B.str c8a rfl) a0c))))) (a0g (a2a a1z X.xNoText (a0a a0f a0c))) a0y) (a0g (a0o (show PEi _ _ (tBM K _ _ _ _) from (a5p c7n c9q c9r b8x (pvI 0) (a0a (pvI 1) a0c)))))),?_⟩
 rcases hk with⟨x,rfl,hy,hx,k⟩ | ⟨⟨t,ht,hb⟩,kE⟩
 · refine⟨_,rfl,_,"str",_,_,rfl,TyOf.str _,kit_ss _,?_⟩
   walk_at "rd"
   exact⟨hy,hx,k⟩
 · refine⟨_,rfl,v,"str",t,false,rfl,ht,hb,?_⟩
   walk_at "rd"
   exact kE H (L2.Same.refl _)
theorem b0r(F:a0k K mg "read_figures" a2c ["text"])(B:Blt mg){C_SeatError C_NoText C_NoName C_TooMany C_NoLower C_NoShare C_NoMap C_NoJoin C_NoPlace:Addr}(X:Exc K mg C_SeatError C_NoText C_NoName C_TooMany C_NoLower C_NoShare C_NoMap C_NoJoin C_NoPlace){A_FORMS A_DEEDS F_keep_curve F_tell_curve F_tell_names F_tell_point F_keep_cut F_keep_stretch F_turn_curve F_raise_curve F_lower_curve F_lower_fully F_keep_speed F_move_curve F_tell_same F_tell_hull F_tell_box F_tell_part F_tell_meet F_tell_join A_NOUGHT:Addr}{t_MOST_SEATS t_MOST_LEVEL t_FIGURES t_MOST_FIGURES t_PIECE_FIGURES t_PIECE t_LETTERS t_MOST_LETTERS:Tok}(G:Cst K mg w A_FORMS A_DEEDS F_keep_curve F_tell_curve F_tell_names F_tell_point F_keep_cut F_keep_stretch F_turn_curve F_raise_curve F_lower_curve F_lower_fully F_keep_speed F_move_curve F_tell_same F_tell_hull F_tell_box F_tell_part F_tell_meet F_tell_join A_NOUGHT t_MOST_SEATS t_MOST_LEVEL t_FIGURES t_MOST_FIGURES t_PIECE_FIGURES t_PIECE t_LETTERS t_MOST_LETTERS):a0r P w K mg base (CXx P w) 1 "read_figures" ["text"] (spRdF C_NoText):=by
 refine a2w F b0d (fun vs H Q E h=>?_) (fun f cdv A outer s H vs Q E hr h=>?_)
 · obtain⟨x,rfl,_⟩:=h;rfl
 obtain⟨x,rfl,hx,hk⟩:=h
 have hu:=hr.units
 refine⟨_,(a0e (a1j (a8k (b1y (a5r (b0m b7b b7b a0b (a0z a6v (by rfl) B.len PySem.boot_len (a0a (pvI 0) a0c)) (a1m (v:=.int 100) rfl G.MOST_FIGURES ⟨_,rfl⟩) (by with_unfolding_all rfl))) (a8w (a5r (a6i (a0z (b2d K rfl) (by rfl) B.all PyProof.Rows.boot_all (a0a (a1o (os:=["sign"]) (caps:=[]) ["text"] (a0d a2c) (b6v (pvI 0)) (fun _ _ _ _ _=>(a0q (i:=0) (show c7j (["sign"]:List Str) from by decide +kernel) rfl (Or.inl rfl))) (fun _ _ _ _ _=>(a7g b5c (pvI 0) (a1m (v:=.str "0123456789") rfl G.FIGURES ⟨_,rfl⟩) rfl)) (by decide +kernel)) a0c))))))) (a0g (a2a a1z X.xNoText (a0a a0f a0c))) a0y) (a0e (a1j (a8k (b6t (a0v a4l (a0l c4i (pvI 0) a0b (fun _ _=>rfl)) a0f (a1g _)) (b2v (a0v b9x (a0z a6v (by rfl) B.len PySem.boot_len (a0a (pvI 0) a0c)) a0b (a1g _))))) (a0g (a2a a1z X.xNoText (a0a a0f a0c))) a0y) (a0g (a0o (a4a a8h rfl B.int PyProof.Rows.boot_int (a0a (pvI 0) a0c)))))),?_⟩
 rcases hk with⟨m,rfl,hm,k⟩ | ⟨bd,kE⟩
 · have hc:cp (tN (m:Int))=dg m:=a9w m
   have ll:(tN (m:Int)).length=(dg m).length:=by rw[← a1x,hc]
   have l1:=a9a m
   have l2:=b1h (k:=100) (by decide) hm
   walk_at "rd"
   refine⟨c6d (a0j (by omega)),?_⟩
   walk_at "rd"
   refine ifT (by simp;omega) ?_
   walk_at "rd"
   refine ifF (by simp;omega) ?_
   walk_at "rd"
   refine a6p (a8c _ _) (by show (tN (m:Int)).length≤100000;omega) (fun i v H=>v=.bl true) (fun _ _ _ _ tt h=>h) (fun i H2 kk hi s2 hk=>?_) (fun D ys H2 hD s2 hd hl hr=>?_)
   · obtain⟨c1,c2⟩:=dg_at hc hi
     walk_at "rd"
     rw[fig_in c1 c2]
     exact hk _ _ (L2.Same.refl _) rfl
   rw[bls_true hr] at hd
   walk_at "rd"
   refine⟨D,_,rfl,SqL.of hd,?_⟩
   rw[all_rep]
   walk_at "rd"
   have hz:(tN (m:Int)).length≤sizeLine:=c6d (a0j (by omega))
   have hc':(tN (m:Int)).cps.toList=dg m:=hc
   have hrd:=b8e (m:=m) (by omega)
   by_cases m0:m=0
   · have e0:dg m=[48]:=by rw[m0];exact dg_lt (by decide)
     have a0:atI (tN (m:Int)).cps.toList 0=some 48:=by rw[hc',e0];rfl
     refine⟨_,_,48,rfl,rfl,hz,a0,?_⟩
     rw[e0] at ll
     walk_at "rd"
     refine⟨hz,?_⟩
     walk_at "rd"
     refine ifF (by rw[ll];rfl) ?_
     walk_at "rd"
     exact⟨_,_,rfl,hrd,by rw[ll];decide,k H2 s2⟩
   · obtain⟨c,r,e0,c1,c2⟩:=dg_head m (by omega)
     have a0:atI (tN (m:Int)).cps.toList 0=some c:=by rw[hc',e0];exact at0 _ _
     refine⟨_,_,c,rfl,rfl,hz,a0,?_⟩
     walk_at "rd"
     refine a4e (fun h=>?_) (fun h=>?_)
     · have hs:c=48:=b2g.mp h
       omega
     walk_at "rd"
     exact⟨_,_,rfl,hrd,by omega,k H2 s2⟩
 · have hz:x.length≤sizeLine:=c6d (a0j (by omega))
   have hcl:=a1x x
   walk_at "rd"
   by_cases h0:x.length=0
   · refine⟨hz,?_⟩
     walk_at "rd"
     refine ifF (by simp;omega) ?_
     walk_at "rd"
     exact kE H (L2.Same.refl _)
   by_cases h100:100<x.length
   · refine⟨hz,?_⟩
     walk_at "rd"
     refine ifT (by simp;omega) ?_
     walk_at "rd"
     refine ifT (by simp;omega) ?_
     walk_at "rd"
     exact kE H (L2.Same.refl _)
   refine⟨hz,?_⟩
   walk_at "rd"
   refine ifT (by simp;omega) ?_
   walk_at "rd"
   refine ifF (by simp;omega) ?_
   walk_at "rd"
   refine a6p (a8c _ _) (by show x.length≤100000;omega) (fun i v H=>v=.bl (fgB (x.cps.getD i 0))) (fun _ _ _ _ tt h=>h) (fun i H2 kk hi s2 hk=>?_) (fun D ys H2 hD s2 hd hl hr=>?_)
   · walk_at "rd"
     rw[fig_dec]
     exact hk _ _ (L2.Same.refl _) rfl
   have hyl:ys.length=(cp x).length:=by rw[hcl];exact hl
   have ey:ys=((cp x).map fgB).map V.bl:=bls_map hyl fun i v e c ec=>by
     rw[hr i v e,c9v,← c9s]
     show V.bl (fgB (((cp x)[i]?).getD 0))=_
     rw[ec];rfl
   rw[ey] at hd
   walk_at "rd"
   refine⟨D,_,rfl,SqL.of hd,?_⟩
   cases bd with
   | none h=>omega
   | many h=>omega
   | sign h1 h2 h=>
     obtain⟨c,hc,hn⟩:=h
     have ef:((cp x).map fgB).all id=false:=by
       rw[List.all_eq_false]
       exact⟨fgB c,c7d.mpr ⟨c,hc,rfl⟩,by unfold fgB;simpa using hn⟩
     rw[ef]
     walk_at "rd"
     exact kE _ s2
   | nought h1 h2 h h0'=>
     have ef:((cp x).map fgB).all id=true:=by
       rw[c6g]
       intro b hb
       obtain⟨c,hc,rfl⟩:=c7d.mp hb
       unfold fgB
       simpa using h c hc
     rw[ef]
     walk_at "rd"
     have a0:atI x.cps.toList 0=some 48:=a8j (j:=0) rfl h0'
     refine⟨_,_,48,rfl,rfl,hz,a0,?_⟩
     walk_at "rd"
     refine⟨hz,?_⟩
     walk_at "rd"
     refine ifT (by simp;omega) ?_
     walk_at "rd"
     exact kE _ s2
theorem b3f(F:a0k K mg "read_whole" a3u ["text"]){C_SeatError C_NoText C_NoName C_TooMany C_NoLower C_NoShare C_NoMap C_NoJoin C_NoPlace:Addr}(X:Exc K mg C_SeatError C_NoText C_NoName C_TooMany C_NoLower C_NoShare C_NoMap C_NoJoin C_NoPlace)(D_read_figures:a0r P w K mg base (CXx P w) 1 "read_figures" ["text"] (spRdF C_NoText)):a0r P w K mg base (CXx P w) 2 "read_whole" ["text"] (spRdW C_NoText):=by
 refine a2w F a7w (fun vs H Q E h=>?_) (fun f cdv A outer s H vs Q E hr h=>?_)
 · obtain⟨x,rfl,_⟩:=h;rfl
 obtain⟨x,rfl,hx,hk⟩:=h
 have hu:=hr.units
 refine⟨_,(a0e (a1j (a5r (a6i (show PEi _ _ (tBM K _ _ _ _) from (a5p c7n PySem.F.slot_str_startswith PySem.F.type_str_startswith c4c (pvI 0) (a0a a0f a0c))))) (a0g (a0o (a0u D_read_figures hr a1p (a0a (pvI 0) a0c)))) a0y) (a0e (a0n (i:=1) a7w.nd rfl (Or.inl rfl) (a0u D_read_figures hr a1p (a0a (a6t sl_str (pvI 0) (a8a a0b) a8b) a0c))) (a0e (a1j (a0v a4l (pvI 1) a0b (a1g _)) (a0g (a2a a1z X.xNoText (a0a a0f a0c))) a0y) (a0g (a0o (b4x b4a (pvI 1))))))),?_⟩
 have sw:∀ i:Int,Txt.startswith (tN i) "-" = decide (i<0):=b9m
 rcases hk with⟨i,rfl,hi,k⟩ | ⟨bd,kE⟩
 · walk_at "rd"
   rw[sw]
   by_cases hn:i<0
   · refine ifF (by simp[hn]) ?_
     have l1:=a8o (k:=100) (by decide) hi
     obtain⟨m,hm⟩:=Int.eq_ofNat_of_zero_le (show 0≤-i by omega)
     have hm1:0<m:=by omega
     have hm2:m<10^100:=by unfold FgN at hi;omega
     walk_at "rd"
     refine⟨by omega,?_⟩
     rw[tail_neg hn,hm]
     have lm:=a8o (k:=100) (i:=(m:Int)) (by decide) (by unfold FgN;rw[c6w];exact hm2)
     walk_at "rd"
     refine⟨by omega,.inl ⟨m,rfl,hm2,fun H1 s1=>?_⟩⟩
     walk_at "rd"
     refine a4e (fun h=>?_) (fun h=>?_)
     · have:=V.int.inj h;omega
     walk_at "rd"
     have e:-((m:Nat):Int)=i:=by omega
     show Q (.int (-((m:Nat):Int))) H1
     rw[e]
     exact k H1 s1
   · refine ifT (by simp[hn]) ?_
     obtain⟨m,rfl⟩:=Int.eq_ofNat_of_zero_le (show 0≤i by omega)
     walk_at "rd"
     exact⟨hx,.inl ⟨m,rfl,by unfold FgN at hi;rw[c6w] at hi;exact hi,k⟩⟩
 · walk_at "rd"
   rw[b4f]
   cases bd with
   | fig h b=>
     refine ifT (by simp[h]) ?_
     walk_at "rd"
     exact⟨hx,.inr ⟨b,kE⟩⟩
   | neg y h b=>
     refine ifF (by rw[h];simp) ?_
     walk_at "rd"
     refine⟨hx,?_⟩
     have ly:y.length+1=x.length:=by rw[← a1x x,h,c6z,a1x]
     rw[b4c h]
     walk_at "rd"
     exact⟨by omega,.inr ⟨b,kE⟩⟩
   | nought h=>
     refine ifF (by rw[h];simp) ?_
     walk_at "rd"
     refine⟨hx,?_⟩
     have e0:cp (tN ((0:Nat):Int))=[48]:=by rw[show cp (tN ((0:Nat):Int))=dg 0 from a9w 0];exact dg_lt (by decide)
     rw[b4c (y:=tN ((0:Nat):Int)) (by rw[h,e0])]
     walk_at "rd"
     refine .inl ⟨0,rfl,by decide,fun H1 s1=>?_⟩
     walk_at "rd"
     exact kE H1 s1
theorem b3g(F:a0k K mg "read_share" a3v ["text"])(B:Blt mg){C_SeatError C_NoText C_NoName C_TooMany C_NoLower C_NoShare C_NoMap C_NoJoin C_NoPlace:Addr}(X:Exc K mg C_SeatError C_NoText C_NoName C_TooMany C_NoLower C_NoShare C_NoMap C_NoJoin C_NoPlace)(D_share:a0r P w K mg base CX0 2 "share" ["top","bottom"] a8p)(D_pieces:a0r P w K mg base (CXx P w) 1 "pieces" ["text","sign"] (c1y K C_NoText))(D_read_figures:a0r P w K mg base (CXx P w) 1 "read_figures" ["text"] (spRdF C_NoText))(D_read_whole:a0r P w K mg base (CXx P w) 2 "read_whole" ["text"] (spRdW C_NoText)):a0r P w K mg base (CXx P w) 3 "read_share" ["text"] (spRdS K C_NoText):=by
 refine a2w F a4x (fun vs H Q E h=>?_) (fun f cdv A outer s H vs Q E hr h=>?_)
 · obtain⟨v,rfl,_⟩:=h;rfl
 obtain⟨v,rfl,hk⟩:=h
 have hu:=hr.units
 refine⟨_,(a0e (a0n (i:=1) a4x.nd rfl (Or.inl rfl) (a0u D_pieces hr a1p (a0a (pvI 0) (a0a a0f a0c)))) (a0e (a1j (a0v b9x (a0z (a2b K) (by rfl) B.len PySem.boot_len (a0a (pvI 1) a0c)) a0b (a1g _)) (a0g (a2a a1z X.xNoText (a0a a0f a0c))) a0y) (a0e (a0n (i:=2) a4x.nd rfl (Or.inl rfl) (a0u D_read_whole hr a1p (a0a (a0l (a0m K) (pvI 1) a0b (fun _ _=>rfl)) a0c))) (a0e (a1j (a0v a4l (a0z (a2b K) (by rfl) B.len PySem.boot_len (a0a (pvI 1) a0c)) a0b (a1g _)) (a0g (a0o (a1h (a0a (pvI 2) (a0a a0b a0c))))) a0y) (a0e (a0n (i:=3) a4x.nd rfl (Or.inl rfl) (a0u D_read_figures hr a1p (a0a (a0l (a0m K) (pvI 1) a0b (fun _ _=>rfl)) a0c))) (a0e (a1j (a8k (b1y (a0v op_lt (pvI 3) a0b (a1g _)) (a8w (a0v (c3q K hu) (a0u D_share hr a1i (a0a (pvI 2) (a0a (pvI 3) a0c))) (a1h (a0a (pvI 2) (a0a (pvI 3) a0c))) (a1g _))))) (a0g (a2a a1z X.xNoText (a0a a0f a0c))) a0y) (a0g (a0o (a1h (a0a (pvI 2) (a0a (pvI 3) a0c))))))))))),?_⟩
 rcases hk with⟨q,rfl,hq,k⟩ | ⟨x,rfl,hx,bd,kE⟩ | ⟨hn,kE⟩
 · have ln:=a9v (k:=100) (by decide) hq
   have hdn:FgN 100 (q.den:Int):=by unfold FgN;rw[c6w];exact hq.2
   have lt1:=a8o (k:=100) (i:=q.num) (by decide) hq.1
   have lt2:=a8o (k:=100) (by decide) hdn
   walk_at "rd"
   refine⟨_,_,rfl,.inl ⟨_,rfl,rfl,by omega,fun l hl=>?_⟩⟩
   rw[split_sl]
   by_cases h1:q.den=1
   · rw[if_pos h1]
     have s1:=Same.new (o:=.lst ([tN q.num].map V.str)) hl
     have hl1:=a0h (H:=H) (a:=l) (o:=.lst [.str (tN q.num)])
     walk_at "rd"
     refine⟨by omega,.inl ⟨q.num,rfl,hq.1,fun H2 s2=>?_⟩⟩
     have hl2:=s2 _ _ hl1
     walk_at "rd"
     intro t ht
     refine k _ _ ((s1.trans s2).trans (Same.new ht)) ⟨t,rfl,?_⟩
     rw[a0h,h1];rfl
   · rw[if_neg h1]
     have s1:=Same.new (o:=.lst ([tN q.num,tN (q.den:Int)].map V.str)) hl
     have hl1:=a0h (H:=H) (a:=l) (o:=.lst [.str (tN q.num),.str (tN (q.den:Int))])
     walk_at "rd"
     refine⟨by omega,.inl ⟨q.num,rfl,hq.1,fun H2 s2=>?_⟩⟩
     have hl2:=s2 _ _ hl1
     walk_at "rd"
     refine⟨by omega,.inl ⟨q.den,rfl,hq.2,fun H3 s3=>?_⟩⟩
     have d2:=q.den_pos
     walk_at "rd"
     refine ifF (by simp;omega) ?_
     walk_at "rd"
     refine⟨q.num,(q.den:Int),rfl,by omega,fg_sz hq.2,fun v H4 s4 hv=>?_⟩
     rw[c8h] at hv
     walk_at "rd"
     intro g hg
     have sg:=Same.new (o:=.tup [.int q.num,.int (q.den:Int)]) hg
     have gv:ShV (upd H4 g (.tup [.int q.num,.int (q.den:Int)])) (.ref g) q:=⟨g,rfl,a0h⟩
     refine⟨_,_,(hv.same sg).dn,gv.dn,b3s q 6,b3s q 6,fun b0 hb0=>?_⟩
     obtain rfl:=hb0.mpr rfl
     walk_at "rd"
     intro t ht
     refine k _ _ (((((s1.trans s2).trans s3).trans s4).trans sg).trans (Same.new ht)) ⟨t,rfl,a0h⟩
 · walk_at "rd"
   refine⟨_,_,rfl,.inl ⟨_,rfl,rfl,hx,fun l hl=>?_⟩⟩
   have s1:=Same.new (o:=.lst ((Txt.split x "/").map V.str)) hl
   have hl1:=a0h (H:=H) (a:=l) (o:=.lst ((Txt.split x "/").map V.str))
   generalize upd H l (.lst ((Txt.split x "/").map V.str))=H1 at *
   cases bd with
   | many h=>
     walk_at "rd"
     refine ifT (by rw[c5u];simp;omega) ?_
     walk_at "rd"
     exact kE _ s1
   | top a r h ha b=>
     by_cases h2:2<(Txt.split x "/").length
     · walk_at "rd"
       refine ifT (by rw[c5u];simp;omega) ?_
       walk_at "rd"
       exact kE _ s1
     rw[h] at hl1 h2
     have hl1':H1 l=some (.lst (.str a::r.map V.str)):=hl1
     walk_at "rd"
     refine ifF (by simp at h2 ⊢;omega) ?_
     walk_at "rd"
     refine⟨l,_,_,_,rfl,rfl,SqL.of hl1',a8j (j:=0) rfl rfl,?_⟩
     walk_at "rd"
     exact⟨ha,.inr ⟨b,fun H2 s2=>kE H2 (s1.trans s2)⟩⟩
   | bot i y h hi hy b=>
     rw[h] at hl1
     have hl1':H1 l=some (.lst [.str (tN i),.str y]):=hl1
     have lt1:=a8o (k:=100) (i:=i) (by decide) hi
     walk_at "rd"
     refine⟨by omega,.inl ⟨i,rfl,hi,fun H2 s2=>?_⟩⟩
     have hl2:=s2 _ _ hl1'
     walk_at "rd"
     exact⟨hy,.inr ⟨b,fun H3 s3=>kE H3 ((s1.trans s2).trans s3)⟩⟩
   | low i m h hi hm b=>
     rw[h] at hl1
     have hl1':H1 l=some (.lst [.str (tN i),.str (tN (m:Int))]):=hl1
     have lt1:=a8o (k:=100) (i:=i) (by decide) hi
     have lt2:=a8o (k:=100) (i:=(m:Int)) (by decide) (by unfold FgN;rw[c6w];exact hm)
     walk_at "rd"
     refine⟨by omega,.inl ⟨i,rfl,hi,fun H2 s2=>?_⟩⟩
     have hl2:=s2 _ _ hl1'
     walk_at "rd"
     refine⟨by omega,.inl ⟨m,rfl,hm,fun H3 s3=>?_⟩⟩
     have s13:=(s1.trans s2).trans s3
     walk_at "rd"
     by_cases m2:m<2
     · refine ifT (by simp;omega) ?_
       walk_at "rd"
       exact kE _ s13
     have b':=b.resolve_left m2
     refine ifF (by simp;omega) ?_
     walk_at "rd"
     refine⟨i,(m:Int),rfl,by omega,fg_sz hm,fun v H4 s4 hv=>?_⟩
     walk_at "rd"
     intro g hg
     have sg:=Same.new (o:=.tup [.int i,.int (m:Int)]) hg
     refine⟨b7r (c6y i m),c0t i m,(hv.same sg).dn,dnII a0h,b3s (c6y i m) 6,datII_ok i m,fun b0 hb0=>?_⟩
     cases b0 with
     | true=>exact absurd (datII_eq (hb0.mp rfl)) b'
     | false=>
       walk_at "rd"
       exact kE _ ((s13.trans s4).trans sg)
 · walk_at "rd"
   exact⟨_,_,rfl,.inr ⟨hn,kE⟩⟩
theorem b3h(F:a0k K mg "read_point" a3w ["text"])(B:Blt mg){C_SeatError C_NoText C_NoName C_TooMany C_NoLower C_NoShare C_NoMap C_NoJoin C_NoPlace:Addr}(X:Exc K mg C_SeatError C_NoText C_NoName C_TooMany C_NoLower C_NoShare C_NoMap C_NoJoin C_NoPlace)(D_pieces:a0r P w K mg base (CXx P w) 1 "pieces" ["text","sign"] (c1y K C_NoText))(D_read_share:a0r P w K mg base (CXx P w) 3 "read_share" ["text"] (spRdS K C_NoText)):a0r P w K mg base (CXx P w) 4 "read_point" ["text"] (spRdP K C_NoText):=by
 refine a2w F a7x (fun vs H Q E h=>?_) (fun f cdv A outer s H vs Q E hr h=>?_)
 · obtain⟨v,rfl,_⟩:=h;rfl
 obtain⟨v,rfl,hk⟩:=h
 have hu:=hr.units
 refine⟨_,(a0e (a0n (i:=1) a7x.nd rfl (Or.inl rfl) (a0u D_pieces hr a1p (a0a (pvI 0) (a0a a0f a0c)))) (a0e (a1j (a0v op_ne (a0z (a2b K) (by rfl) B.len PySem.boot_len (a0a (pvI 1) a0c)) a0b (a1g _)) (a0g (a2a a1z X.xNoText (a0a a0f a0c))) a0y) (a0g (a0o (a1h (a0a (a0u D_read_share hr a1p (a0a (a0l (a0m K) (pvI 1) a0b (fun _ _=>rfl)) a0c)) (a0a (a0u D_read_share hr a1p (a0a (a0l (a0m K) (pvI 1) a0b (fun _ _=>rfl)) a0c)) a0c))))))),?_⟩
 rcases hk with⟨p,rfl,hq,k⟩ | ⟨x,rfl,hx,bd,kE⟩ | ⟨hn,kE⟩
 · have ln:=b4d (k:=100) (by decide) hq
   walk_at "rd"
   refine⟨_,_,rfl,.inl ⟨_,rfl,rfl,by omega,fun l hl=>?_⟩⟩
   rw[split_cm]
   have s1:=Same.new (o:=.lst ([tSh p.1,tSh p.2].map V.str)) hl
   have hl1:=a0h (H:=H) (a:=l) (o:=.lst [.str (tSh p.1),.str (tSh p.2)])
   walk_at "rd"
   refine .inl ⟨p.1,rfl,hq.1,fun v1 H2 s2 g1=>?_⟩
   have hl2:=s2 _ _ hl1
   walk_at "rd"
   refine .inl ⟨p.2,rfl,hq.2,fun v2 H3 s3 g2=>?_⟩
   walk_at "rd"
   intro t ht
   have st:=Same.new (o:=.tup [v1,v2]) ht
   exact k _ _ (((s1.trans s2).trans s3).trans st) ⟨t,v1,v2,rfl,a0h,(g1.same s3).same st,g2.same st⟩
 · walk_at "rd"
   refine⟨_,_,rfl,.inl ⟨_,rfl,rfl,hx,fun l hl=>?_⟩⟩
   have s1:=Same.new (o:=.lst ((Txt.split x ",").map V.str)) hl
   have hl1:=a0h (H:=H) (a:=l) (o:=.lst ((Txt.split x ",").map V.str))
   generalize upd H l (.lst ((Txt.split x ",").map V.str))=H1 at *
   cases bd with
   | many h=>
     walk_at "rd"
     refine ifT (by rw[c5u];simp;omega) ?_
     walk_at "rd"
     exact kE _ s1
   | one a y h ha b=>
     rw[h] at hl1
     have hl1':H1 l=some (.lst [.str a,.str y]):=hl1
     walk_at "rd"
     exact .inr (.inl ⟨a,rfl,ha,b,fun H2 s2=>kE H2 (s1.trans s2)⟩)
   | two q y h hq hy b=>
     rw[h] at hl1
     have hl1':H1 l=some (.lst [.str (tSh q),.str y]):=hl1
     walk_at "rd"
     refine .inl ⟨q,rfl,hq,fun v1 H2 s2 g1=>?_⟩
     have hl2:=s2 _ _ hl1'
     walk_at "rd"
     exact .inr (.inl ⟨y,rfl,hy,b,fun H3 s3=>kE H3 ((s1.trans s2).trans s3)⟩)
 · walk_at "rd"
   exact⟨_,_,rfl,.inr ⟨hn,kE⟩⟩
theorem b5e(F:a0k K mg "read_word" a4g ["kind","word"]){C_NoText:Addr}(D_read_level:a0r P w K mg base (CXx P w) 1 "read_level" ["word"] (b8l C_NoText))(D_read_name:a0r P w K mg base (CXx P w) 1 "read_name" ["word"] (c1z C_NoText))(D_read_share:a0r P w K mg base (CXx P w) 3 "read_share" ["text"] (spRdS K C_NoText))(D_read_point:a0r P w K mg base (CXx P w) 4 "read_point" ["text"] (spRdP K C_NoText)):a0r P w K mg base (CXx P w) 5 "read_word" ["kind","word"] (c1q C_NoText):=by
 refine a2w F b4n (fun vs H Q E h=>?_) (fun f cdv A outer s H vs Q E hr h=>?_)
 · obtain⟨k0,x,rfl,_⟩:=h;rfl
 obtain⟨k0,x,rfl,hx,hS,hk⟩:=h
 have hu:=hr.units
 refine⟨_,(a0e (a1j (a0v a4l (pvI 0) a0f (a1g _)) (a0g (a0o (a0u D_read_share hr a1p (a0a (pvI 1) a0c)))) a0y) (a0e (a1j (a0v a4l (pvI 0) a0f (a1g _)) (a0g (a0o (a0u D_read_point hr a1p (a0a (pvI 1) a0c)))) a0y) (a0e (a1j (a0v a4l (pvI 0) a0f (a1g _)) (a0g (a0o (a0u D_read_level hr a1p (a0a (pvI 1) a0c)))) a0y) (a0g (a0o (a0u D_read_name hr a1p (a0a (pvI 1) a0c))))))),?_⟩
 rcases hk with⟨d,rfl,hd,ho,k⟩ | ⟨b,kE⟩
 · cases d with
   | sh q=>
     obtain rfl:k0 = "share":=hd
     walk_at "rd"
     exact .inl ⟨q,rfl,ho,fun v H' s' hv=>k v H' s' hv⟩
   | pt p=>
     obtain rfl:k0 = "point":=hd
     walk_at "rd"
     exact .inl ⟨p,rfl,ho,fun v H' s' hv=>k v H' s' hv⟩
   | lv n=>
     obtain rfl:k0 = "level":=hd
     walk_at "rd"
     exact⟨hx,hS,.inl ⟨n,ho,rfl,fun H' s'=>k _ H' s' rfl⟩⟩
   | nm s=>
     rcases (show k0 = "name" ∨ k0 = "new" from hd) with rfl | rfl
     · walk_at "rd"
       exact⟨hx,.inl ⟨ho,fun H' s'=>k _ H' s' rfl⟩⟩
     · walk_at "rd"
       exact⟨hx,.inl ⟨ho,fun H' s'=>k _ H' s' rfl⟩⟩
 · cases b with
   | sh e b=>
     subst e
     walk_at "rd"
     exact .inr (.inl ⟨x,rfl,hx,b,kE⟩)
   | pt e b=>
     subst e
     walk_at "rd"
     exact .inr (.inl ⟨x,rfl,hx,b,kE⟩)
   | lv e b=>
     subst e
     walk_at "rd"
     exact⟨hx,hS,.inr ⟨b,kE⟩⟩
   | nm e b=>
     rcases e with rfl | rfl
     · walk_at "rd"
       exact⟨hx,.inr ⟨b,kE⟩⟩
     · walk_at "rd"
       exact⟨hx,.inr ⟨b,kE⟩⟩
theorem b7d(F:a0k K mg "read_row" a4h ["row"])(B:Blt mg){C_SeatError C_NoText C_NoName C_TooMany C_NoLower C_NoShare C_NoMap C_NoJoin C_NoPlace:Addr}(X:Exc K mg C_SeatError C_NoText C_NoName C_TooMany C_NoLower C_NoShare C_NoMap C_NoJoin C_NoPlace)(D_kinds_behind:a0r P w K mg base (CXx P w) 1 "kinds_behind" ["first","many"] (b8n C_NoText))(D_read_word:a0r P w K mg base (CXx P w) 5 "read_word" ["kind","word"] (c1q C_NoText)):a0r P w K mg base (CXx P w) 6 "read_row" ["row"] (spRowX K C_NoText):=by
 refine a2w F a6c (fun vs H Q E h=>?_) (fun f cdv A outer s H vs Q E hr h=>?_)
 · obtain⟨v,rfl,_⟩:=h;rfl
 obtain⟨v,rfl,hk⟩:=h
 have hu:=hr.units
 refine⟨_,(a0e (a1j (a5r (a6i (a0z (b6a K) (by rfl) B.isinstance c7o (a0a (pvI 0) (a0a (b2w (v:=.ty "str") rfl B.str c8a rfl) a0c))))) (a0g (a2a a1z X.xNoText (a0a a0f a0c))) a0y) (a0e (a4s (show PEi _ _ (tBM K _ _ _ _) from (a5p c7n c9q c9r b8x (pvI 0) (a0a a0f a0c))) (b8u K rfl (a1b (a0q (i:=1) a6c.nd rfl (Or.inl rfl)) (b4w (a0q (i:=2) a6c.nd rfl (Or.inl rfl)) a2n)))) (a0e (a0n (i:=3) a6c.nd rfl (Or.inl rfl) (a0u D_kinds_behind hr a1p (a0a (pvI 1) (a0a (a0z (a2b K) (by rfl) B.len PySem.boot_len (a0a (pvI 2) a0c)) a0c)))) (a0g (a0o (a1h (a0a (pvI 1) (a0a (pvI 3) (a0a (c3g (os:=["kind","word"]) (caps:=[]) ["row","first","words","kinds"] (a0d a4h) c4s (show PIi _ _ _ (iZip K _) from (b0o rfl B.zip (a0a (pvI 3) (a0a (pvI 2) a0c)))) (fun _ _ _ _ _=>(a3d (n:=2) K rfl (a1b (a0q (i:=0) (show c7j (["kind","word"]:List Str) from by decide +kernel) rfl (Or.inl rfl)) (a1b (a0q (i:=1) (show c7j (["kind","word"]:List Str) from by decide +kernel) rfl (Or.inl rfl)) a2n)))) (fun _ _ _ _ _=>(a0u D_read_word hr b6z (a0a (pvI 0) (a0a (pvI 1) a0c)))) (by decide +kernel)) a0c))))))))),?_⟩
 rcases hk with⟨⟨t,ht,hb⟩,kE⟩ | ⟨x,first,ws,rfl,⟨rfl,hw,h40⟩,hk⟩
 · refine⟨_,rfl,v,"str",t,false,rfl,ht,hb,?_⟩
   walk_at "rd"
   exact kE H (L2.Same.refl _)
 have hne:∀ t∈first::ws,32∉cp t:=fun t ht=>(hw t ht).1
 have ln:(Str.join " " (first::ws)).length≤50000:=by
   have:=c4h (sep := " ") (ts:=first::ws) (B:=1000) fun t ht=>(hw t ht).2.1
   have e:(" " : Str).length=1:=rfl
   rw[e,c6z] at this
   omega
 have hsp:Txt.split (Str.join " " (first::ws)) " " = first::ws:=a7t (sepS (c:=32) rfl) kBl (by simp) hne rfl
 refine⟨_,rfl,_,"str",_,_,rfl,TyOf.str _,kit_ss _,?_⟩
 walk_at "rd"
 refine⟨ln,fun g1 hg1=>?_⟩
 rw[hsp] at *
 have v1:=Same.new (o:=.lst ((first::ws).map V.str)) hg1
 have k1:=a0h (H:=H) (a:=g1) (o:=.lst ((first::ws).map V.str))
 generalize upd H g1 (.lst ((first::ws).map V.str))=H1 at *
 refine⟨g1,.str first,ws.map V.str,rfl,SqL.of k1,by rw[c5u];omega,fun g2 hg2=>?_⟩
 have v2:=Same.new (o:=.lst (ws.map V.str)) hg2
 have k2:=a0h (H:=H1) (a:=g2) (o:=.lst (ws.map V.str))
 generalize upd H1 g2 (.lst (ws.map V.str))=H2 at *
 have v12:=v1.trans v2
 refine⟨_,_,rfl,_,_,rfl,rfl,?_⟩
 walk_at "rd"
 dsimp only[tNil]
 refine⟨first,ws.length,by rw[c5u],by omega,?_⟩
 have wln:∀ t∈ws,t.length≤50000∧PyData.strOk t=true:=fun t ht=>by have:=hw t (c7e _ ht);exact⟨by omega,this.2.2⟩
 rcases hk with⟨⟨hb⟩ | ⟨ks,hK,gs,y,k0,r,rfl,ok,hk0,b⟩,kE⟩ | ⟨ks,ds,hK,rfl,ok,k⟩
 · exact .inr ⟨hb,fun H' s'=>kE H' (v12.trans s')⟩
 · refine .inl ⟨ks,hK,fun lk H3 s3 hlk0 hlk=>?_⟩
   have k2':=s3 _ _ k2
   have hkl:=hK.len
   have hj:gs.length<min (ks.map V.str).length ((gs.map Wx.tx++y::r).map V.str).length:=by rw[c5u,c5u,c6m,c5u,c6z] at *;omega
   walk_at "rd"
   refine⟨_,_,rfl,⟨_,SqL.of hlk⟩,⟨_,SqL.of k2'⟩,compE2 (a5z (SqL.of hlk) (SqL.of k2')) (by simp only[c5u];omega) gs.length hj (fun i H4 kk hi s4 hk=>?_) (fun H4 kk s4=>?_)⟩
   · have e1:gs[i]?=some (gs[i]'hi):=c5v _
     have hi2:i<ks.length:=by rw[c5u] at hj;omega
     have e2:ks[i]?=some (ks[i]'hi2):=c5v _
     have e3:(((ks.map V.str)[i]?).getD .non)=.str (ks[i]'hi2):=by rw[c6c,e2];rfl
     have e4:((((gs.map Wx.tx++y::r).map V.str)[i]?).getD .non)=.str (gs[i]'hi).tx:=by rw[c6c,c7c (by rw[c5u];exact hi),c6c,e1];rfl
     rw[e3,e4]
     obtain⟨o1,o2⟩:=ok i _ _ e2 e1
     have wl:=wln (gs[i]'hi).tx (c9w _ (List.mem_map_of_mem (c7h _)))
     walk_at "rd"
     exact⟨_,_,rfl,wl.1,wl.2,.inl ⟨_,rfl,o1,o2,fun v H5 s5 _=>hk v H5 s5⟩⟩
   · have e3:(((ks.map V.str)[gs.length]?).getD .non)=.str k0:=by rw[c6c,hk0];rfl
     have e4:((((gs.map Wx.tx++y::r).map V.str)[gs.length]?).getD .non)=.str y:=by rw[c6c,c6v (by rw[c5u];exact c6l _),c5u,Nat.sub_self];rfl
     rw[e3,e4]
     have wl:=wln y (c6q _ (by simp))
     walk_at "rd"
     exact⟨_,_,rfl,wl.1,wl.2,.inr ⟨b,fun H5 s5=>kE H5 ((v12.trans s3).trans (s4.trans s5))⟩⟩
 · refine .inl ⟨ks,hK,fun lk H3 s3 hlk0 hlk=>?_⟩
   have k2':=s3 _ _ k2
   have hkl:=hK.len
   simp only[c5u] at hkl h40
   walk_at "rd"
   refine⟨_,_,rfl,⟨_,SqL.of hlk⟩,⟨_,SqL.of k2'⟩,comp2 (a5z (SqL.of hlk) (SqL.of k2')) (by simp only[c5u];omega) (fun i v H=>∀ d,ds[i]?=some d→d.Is H v) (fun _ _ _ _ tt h d e=>(h d e).tup tt) (fun i H4 kk hi s4 hk=>?_) (fun lt us H4 hlt0 s4 hlt hul hr=>?_)⟩
   · simp only[c5u] at hi
     have hi1:i<ds.length:=by omega
     have hi2:i<ks.length:=by omega
     have e1:ds[i]?=some (ds[i]'hi1):=c5v _
     have e2:ks[i]?=some (ks[i]'hi2):=c5v _
     have e3:(((ks.map V.str)[i]?).getD .non)=.str (ks[i]'hi2):=by rw[c6c,e2];rfl
     have e4:((((ds.map Wx.tx).map V.str)[i]?).getD .non)=.str (ds[i]'hi1).tx:=by rw[c6c,c6c,e1];rfl
     rw[e3,e4]
     obtain⟨o1,o2⟩:=ok i _ _ e2 e1
     have wl:=wln (ds[i]'hi1).tx (List.mem_map_of_mem (c7h _))
     walk_at "rd"
     refine⟨_,_,rfl,wl.1,wl.2,.inl ⟨_,rfl,o1,o2,fun v H5 s5 hv=>hk v H5 s5 fun d ed=>?_⟩⟩
     rw[e1] at ed;cases ed;exact hv
   simp only[c5u] at hul
   walk_at "rd"
   intro gt hgt
   have vt:=Same.new (o:=.tup [.str first,.ref lk,.ref lt]) hgt
   exact k gt lk lt us _ (((v12.trans s3).trans s4).trans vt) a0h (vt _ _ (s4 _ _ hlk)) (vt _ _ hlt) ⟨by rw[hul];omega,fun i v d e1 e2=>(hr i v e1 d e2).same vt⟩
theorem b3a(F:a0k K mg "show_whole" a3q ["number"])(B:Blt mg){A_FORMS A_DEEDS F_keep_curve F_tell_curve F_tell_names F_tell_point F_keep_cut F_keep_stretch F_turn_curve F_raise_curve F_lower_curve F_lower_fully F_keep_speed F_move_curve F_tell_same F_tell_hull F_tell_box F_tell_part F_tell_meet F_tell_join A_NOUGHT:Addr}{t_MOST_SEATS t_MOST_LEVEL t_FIGURES t_MOST_FIGURES t_PIECE_FIGURES t_PIECE t_LETTERS t_MOST_LETTERS:Tok}(G:Cst K mg w A_FORMS A_DEEDS F_keep_curve F_tell_curve F_tell_names F_tell_point F_keep_cut F_keep_stretch F_turn_curve F_raise_curve F_lower_curve F_lower_fully F_keep_speed F_move_curve F_tell_same F_tell_hull F_tell_box F_tell_part F_tell_meet F_tell_join A_NOUGHT t_MOST_SEATS t_MOST_LEVEL t_FIGURES t_MOST_FIGURES t_PIECE_FIGURES t_PIECE t_LETTERS t_MOST_LETTERS):a0r P w K mg base CX0 1 "show_whole" ["number"] c1v:=by
 refine a1c F a4c (fun vs H Q E h=>?_) (fun f cdv A outer s H vs Q E hr h=>?_)
 · obtain⟨n,rfl,_⟩:=h;rfl
 obtain⟨n,rfl,hn,k⟩:=h
 have hu:=hr.units
 refine⟨_,(a0e (b6u (i:=1) (j:=2) rfl a4c.nd rfl rfl (by decide) rfl rfl (a0a (a0z b3u (by rfl) B.abs PyProof.Rows.boot_abs (a0a (pvI 0) a0c)) (a0a a0f a0c)) rfl) (a0e (a7z PassesOwn.never (a0v op_ge (pvI 1) (a1m (v:=.int 10000000000000000000000000000000000000000000000000000000000000000) rfl G.PIECE ⟨_,rfl⟩) (a1g _)) (a0e (a4s (a0z b6b (by rfl) G.divmod PyProof.Rows.boot_divmod (a0a (pvI 1) (a0a (a1m (v:=.int 10000000000000000000000000000000000000000000000000000000000000000) rfl G.PIECE ⟨_,rfl⟩) a0c))) (a3d (n:=2) K rfl (a1b (a0q (i:=1) a4c.nd rfl (Or.inl rfl)) (a1b (a0q (i:=3) a4c.nd rfl (Or.inl rfl)) a2n)))) (a0g (a0n (i:=2) a4c.nd rfl (Or.inl rfl) (a0i a0w (show PEi _ _ (tBM K _ _ _ _) from (a5p c7n PySem.F.slot_str_zfill PySem.F.type_str_zfill mt_zfill (a4a a4b rfl B.str c8a (a0a (pvI 3) a0c)) (a0a (a1m (v:=.int 64) rfl G.PIECE_FIGURES ⟨_,rfl⟩) a0c))) (pvI 2)))))) (a0g (a0o (a0i a0w (a0i a0w (b0p (a0v op_lt (pvI 0) a0b (a1g _)) a0f a0f) (a4a a4b rfl B.str c8a (a0a (pvI 1) a0c))) (pvI 2)))))),?_⟩
 have pP:(0:Int)<10000000000000000000000000000000000000000000000000000000000000000:=by decide
 walk_at "rd"
 refine⟨_,_,rfl,?_⟩
 walk_at "rd"
 have l1000:=b1h (k:=1000) (by decide) hn
 refine a9n (fun σ H'=>∃ (left:Nat) (found:Str) (y:Option V),σ=[some (.int n),some (.int (left:Int)),some (.str found),y]∧Same H H'∧dg n.natAbs=dg left++cp found∧(cp found=[]∨0<left)) (fun σ _=>match σ with | [_,some (.int y),_,_]=>y.natAbs | _=>0) ⟨n.natAbs,"",none,?_,L2.Same.refl _,?_,.inl rfl⟩ ?_ ?_
 · have e:(if n<0 then -n else n)=(n.natAbs:Int):=by split<;>omega
   show [some (V.int n),some (V.int (if n<0 then -n else n)),some (V.str ""),none]=_
   rw[e]
 · show _=dg n.natAbs++[];simp
 · rintro σ H2 ⟨left,found,y,rfl,s2,hd,hl⟩
   have hfl:found.length≤1000:=by rw[← a1x];have:=congrArg c8f hd;rw[c6m] at this;omega
   refine⟨_,rfl,_,_,rfl,rfl,_,rfl,a4e (fun h0=>?_) (fun h0=>?_)⟩
   · walk_at "rd"
     refine⟨_,_,rfl,⟨by decide,szP⟩,fun g hg=>?_⟩
     have sg:=Same.new (o:=.tup [.int ((left:Int) / 10000000000000000000000000000000000000000000000000000000000000000),.int ((left:Int) % 10000000000000000000000000000000000000000000000000000000000000000)]) hg
     have k1:=a0h (H:=H2) (a:=g) (o:=.tup [.int ((left:Int) / 10000000000000000000000000000000000000000000000000000000000000000),.int ((left:Int) % 10000000000000000000000000000000000000000000000000000000000000000)])
     rw[P64,← Int.natCast_ediv,← Int.natCast_emod] at k1 sg ⊢
     have hle:10^64≤left:=by rw[P64] at h0;exact Int.ofNat_le.mp h0
     have hlt:left % 10^64<10^64:=Nat.mod_lt _ (by decide)
     have hdv:0<left / 10^64:=Nat.div_pos hle (by decide)
     have hdm:=Nat.div_add_mod left (10^64)
     have hdl:left / 10^64<left:=Nat.div_lt_self (by omega) (by decide)
     generalize upd H2 g (.tup [.int ((left / 10^64:Nat):Int),.int ((left % 10^64:Nat):Int)])=H3 at *
     generalize left / 10^64=dv at *
     generalize left % 10^64=md at *
     refine⟨g,_,rfl,SqT.of k1,rfl,_,_,rfl,_,_,rfl,rfl,?_⟩
     walk_at "rd"
     refine⟨a8f (by rw[c6w];exact Nat.lt_trans hlt (Nat.pow_lt_pow_right (by decide) (by decide))),?_⟩
     have zc:=zf_cp hlt
     have zl:(Txt.zfill (tN (md:Int)) 64).length=64:=by
       rw[← a1x,zc,b7a 64 md hlt (by decide),c6m,c7a]
       have:=b1h (k:=64) (by decide) hlt
       omega
     refine⟨rfl,_,_,rfl,rfl,by decide,_,rfl,_,_,rfl,rfl,c6d (a0j (by show (Txt.zfill (tN (md:Int)) 64).length+found.length≤100000;omega)),?_⟩
     refine⟨⟨dv,_,_,rfl,s2.trans sg,?_,.inr hdv⟩,?_⟩
     · rw[hd,← hdm,dg_pow 64 dv md hdv hlt,c8r]
       show _=_++cp (Txt.zfill (tN (md:Int)) 64++found)
       rw[a1q,zc]
     · show ((dv:Int)).natAbs<((left:Int)).natAbs
       rw[c6w,c6w];exact hdl
   · have hlt:left<10^64:=by rw[P64] at h0;exact Int.ofNat_lt.mp (Int.not_le.mp h0)
     have hN:cp (tN (left:Int))=dg left:=a9w left
     have ltn:(tN (left:Int)).length≤64:=by rw[← a1x,hN];exact b1h (by decide) hlt
     have lg:=a8f (i:=(left:Int)) (by rw[c6w];exact Nat.lt_trans hlt (Nat.pow_lt_pow_right (by decide) (by decide)))
     walk_at "rd"
     refine a4e (fun hneg=>?_) (fun hneg=>?_)
     · refine⟨_,rfl,_,rfl,lg,_,_,rfl,rfl,c6d (a0j (by show 1+(tN (left:Int)).length≤100000;omega)),_,rfl,_,_,rfl,rfl,c6d (a0j (by rw[a2e];show 1+(tN (left:Int)).length+found.length≤100000;omega)),?_⟩
       have e:("-" : Str)++tN (left:Int)++found=tN n:=by
         refine a2p ?_
         rw[a1q,a1q,hN,b6n,if_pos hneg,hd]
         rfl
       show Q (.str (("-" : Str)++tN (left:Int)++found)) H2
       rw[e]
       exact k _ s2
     · refine⟨_,rfl,_,rfl,lg,_,_,rfl,rfl,c6d (a0j (by show 0+(tN (left:Int)).length≤100000;omega)),_,rfl,_,_,rfl,rfl,c6d (a0j (by rw[a2e];show 0+(tN (left:Int)).length+found.length≤100000;omega)),?_⟩
       have e:("" : Str)++tN (left:Int)++found=tN n:=by
         refine a2p ?_
         rw[a1q,a1q,hN,b6n,if_neg hneg,hd]
         rfl
       show Q (.str (("" : Str)++tN (left:Int)++found)) H2
       rw[e]
       exact k _ s2
 · rintro σ H' Q Q' hq ⟨v,h1,i,j,h2,h3,c,h4,h5⟩
   exact⟨v,h1,i,j,h2,h3,c,h4,hq _ _ h5⟩
theorem b3b(F:a0k K mg "show_share" a3r ["one"])(D_show_whole:a0r P w K mg base CX0 1 "show_whole" ["number"] c1v):a0r P w K mg base CX0 2 "show_share" ["one"] c1t:=by
 refine a1c F a6b (fun vs H Q E h=>?_) (fun f cdv A outer s H vs Q E hr h=>?_)
 · obtain⟨v,q,rfl,_⟩:=h;rfl
 obtain⟨_,q,rfl,⟨a,rfl,ha⟩,hq,k⟩:=h
 have hu:=hr.units
 refine⟨_,(a0e (a4s (pvI 0) (a3d (n:=2) K rfl (a1b (a0q (i:=1) a6b.nd rfl (Or.inl rfl)) (a1b (a0q (i:=2) a6b.nd rfl (Or.inl rfl)) a2n)))) (a0g (a0o (b0p (a0v a4l (pvI 2) a0b (a1g _)) (a0u D_show_whole hr a1i (a0a (pvI 1) a0c)) (a0i a0w (a0i a0w (a0u D_show_whole hr a1i (a0a (pvI 1) a0c)) a0f) (a0u D_show_whole hr a1i (a0a (pvI 2) a0c))))))),?_⟩
 have l1:=a8o (k:=1000) (by decide) (show FgN 1000 q.num from hq.1)
 have hdn:FgN 1000 (q.den:Int):=by unfold FgN;rw[c6w];exact hq.2
 have l2:=a8o (k:=1000) (by decide) hdn
 walk_at "rd"
 refine⟨a,_,rfl,SqT.of ha,rfl,_,_,rfl,_,_,rfl,rfl,?_⟩
 walk_at "rd"
 refine a4e (fun h=>?_) (fun h=>?_)
 · have hd1:q.den=1:=by exact_mod_cast V.int.inj h
   walk_at "rd"
   refine⟨hq.1,fun H1 s1=>?_⟩
   have e:tN q.num=tSh q:=(if_pos hd1).symm
   rw[e]
   exact k H1 s1
 · have hd1:q.den≠1:=fun e=>h (by rw[e];rfl)
   walk_at "rd"
   refine⟨hq.1,fun H1 s1=>?_⟩
   refine⟨_,_,rfl,rfl,c6d (a0j (by show (tN q.num).length+1≤100000;omega)),?_⟩
   walk_at "rd"
   refine⟨hdn,fun H2 s2=>?_⟩
   refine⟨_,_,rfl,rfl,c6d (a0j (by rw[a2e];show (tN q.num).length+1+(tN (q.den:Int)).length≤100000;omega)),?_⟩
   have e:tN q.num ++ "/" ++ tN (q.den:Int)=tSh q:=(if_neg hd1).symm
   rw[e]
   exact k H2 (s1.trans s2)
theorem b3c(F:a0k K mg "show_point" a3s ["one"])(D_show_share:a0r P w K mg base CX0 2 "show_share" ["one"] c1t):a0r P w K mg base CX0 3 "show_point" ["one"] c1u:=by
 refine a1c F b2o (fun vs H Q E h=>?_) (fun f cdv A outer s H vs Q E hr h=>?_)
 · obtain⟨v,x,y,rfl,_⟩:=h;rfl
 obtain⟨_,x,y,rfl,⟨a,vx,vy,rfl,ha,hx,hy⟩,hq,k⟩:=h
 have hu:=hr.units
 refine⟨_,(a0g (a0o (a0i a0w (a0i a0w (a0u D_show_share hr a1i (a0a (a0l (a1d K) (pvI 0) a0b (fun _ _=>rfl)) a0c)) a0f) (a0u D_show_share hr a1i (a0a (a0l (a1d K) (pvI 0) a0b (fun _ _=>rfl)) a0c))))),?_⟩
 have l1:=a9v (k:=1000) (by decide) hq.1
 have l2:=a9v (k:=1000) (by decide) hq.2
 walk_at "rd"
 refine⟨vx,x,rfl,hx,hq.1,fun H1 s1=>?_⟩
 have ha1:=s1 _ _ ha
 walk_at "rd"
 refine⟨c6d (a0j (by show (tSh x).length+1≤100000;dsimp only at l1;omega)),?_⟩
 walk_at "rd"
 refine⟨vy,y,rfl,hy.same s1,hq.2,fun H2 s2=>?_⟩
 refine⟨_,_,rfl,rfl,c6d (a0j (by rw[a2e];show (tSh x).length+1+(tSh y).length≤100000;dsimp only at l1 l2;omega)),?_⟩
 exact k H2 (s1.trans s2)
theorem b3d(F:a0k K mg "show_curve" a2x ["curve"])(D_show_point:a0r P w K mg base CX0 3 "show_point" ["one"] c1u):a0r P w K mg base CX0 4 "show_curve" ["curve"] c1w:=by
 refine a1c F b2p (fun vs H Q E h=>?_) (fun f cdv A outer s H vs Q E hr h=>?_)
 · obtain⟨a,ws,ps,rfl,_⟩:=h;rfl
 obtain⟨a,ws,ps,rfl,ha,hP,hq,hn,k⟩:=h
 have hu:=hr.units
 refine⟨_,(a0g (a0o (show PEi _ _ (tBM K _ _ _ _) from (a5p c7n c9a c9b (a8e K) a0f (a0a (a1o (os:=["seat"]) (caps:=[]) ["curve"] (a0d a2x) (a1r K (pvI 0)) (fun _ _ _ _ _=>(a0q (i:=0) (show c7j (["seat"]:List Str) from by decide +kernel) rfl (Or.inl rfl))) (fun _ _ _ _ _=>(a0u D_show_point hr a1i (a0a (pvI 0) a0c))) (by decide +kernel)) a0c))))),?_⟩
 have hwl:=hP.len
 refine⟨rfl,?_⟩
 walk_at "rd"
 refine⟨⟨_,SqL.of ha⟩,a6p (a2h (SqL.of ha)) (by omega) (fun i v H=>∀ p,ps[i]?=some p→v=.str (tPt p)) (fun _ _ _ _ tt h=>h) (fun i H2 kk hi s2 hk=>?_) (fun D ys H2 hD s2 hd hl hr=>?_)⟩
 · have ep:ps[i]?=some (ps[i]'(by omega (config:={}))):=c5v _
   obtain⟨v,ev,gv⟩:=hP.at ep
   rw[ev]
   walk_at "rd"
   refine⟨v,_,_,rfl,gv.same s2,hq _ (c6t ep),fun H3 s3=>?_⟩
   refine hk _ _ s3 fun p e=>?_
   rw[ep] at e;cases e
   rfl
 have ey:ys=(ps.map tPt).map V.str:=c1i (by omega) hr
 rw[ey] at hd
 walk_at "rd"
 refine⟨_,D,ps.map tPt,rfl,rfl,SqL.of hd,b1c (B:=4007) (fun t ht=>by obtain⟨p,hp,rfl⟩:=c7d.mp ht;exact b4d (by decide) (hq p hp)) ?_,?_⟩
 · rw[c5u]
   have e:(" " : Str).length=1:=rfl
   rw[e];omega
 rw[a7q]
 exact k H2 s2
theorem b2z(F:a0k K mg "tell_curve" a3p ["kept","things"])(D_show_curve:a0r P w K mg base CX0 4 "show_curve" ["curve"] c1w):a0r P w K mg base CX0 5 "tell_curve" ["kept","things"] b2h:=by
 refine a1c F b2n (fun vs H Q E h=>?_) (fun f cdv A outer s H vs Q E hr h=>?_)
 · obtain⟨d,lt,cs,n,ps,rfl,_⟩:=h;rfl
 obtain⟨d,lt,cs,n,ps,rfl,⟨kvs,hd,hK,hl40⟩,hlt,e,hf,h100,k⟩:=h
 have hu:=hr.units
 refine⟨_,(a0g (a0o (a0u D_show_curve hr a1i (a0a (a0l (a8z P w K hu) (pvI 0) (a0l (a0m K) (pvI 1) a0b (fun _ _=>rfl)) (fun _ _=>rfl)) a0c)))),?_⟩
 obtain⟨v,e2,l,ws,rfl,hl,hP⟩:=hK.there e
 walk_at "rd"
 refine⟨d,_,rfl,.inl (by rw[← e2];exact DGet.k (k:=.inr n) hd),?_⟩
 refine⟨l,ws,ps,rfl,hl,hP,hf,h100,fun H1 s1=>k H1 s1⟩
theorem b2y(F:a0k K mg "tell_names" a3o ["kept","things"])(B:Blt mg):a0r P w K mg base CX0 1 "tell_names" ["kept","things"] b2i:=by
 refine a1c F b2m (fun vs H Q E h=>?_) (fun f cdv A outer s H vs Q E hr h=>?_)
 · obtain⟨d,lt,cs,rfl,_⟩:=h;rfl
 obtain⟨d,lt,cs,rfl,⟨kvs,hd,hK,hl40⟩,hk⟩:=h
 have hu:=hr.units
 refine⟨_,(a0g (a0o (b0p (pt_dictI (pvI 0)) (show PEi _ _ (tBM K _ _ _ _) from (a5p c7n c9a c9b (a8e K) a0f (a0a (a0z c0w (by rfl) B.sorted PyProof.Rows.boot_sorted (a0a (pvI 0) a0c)) a0c))) a0f))),?_⟩
 walk_at "rd"
 refine⟨d,kvs,rfl,.inl hd,?_⟩
 rcases hk with⟨rfl,k⟩ | ⟨hne,h12,k⟩
 · cases hK
   walk_at "rd"
   exact k _ (L2.Same.refl _)
 have hke:kvs.isEmpty=false:=by
   cases hK with
   | nil=>exact absurd rfl hne
   | cons _ _=>rfl
 rw[hke]
 walk_at "rd"
 refine⟨d,kvs,cs.map (·.1),rfl,.inl hd,hK.keys,by have:=hK.length;omega,fun l ss' hl0 hp hs=>?_⟩
 have v1:=Same.new (o:=.lst (ss'.map V.str)) hl0
 have k1:=a0h (H:=H) (a:=l) (o:=.lst (ss'.map V.str))
 generalize upd H l (.lst (ss'.map V.str))=H1 at *
 have hl12:∀ t∈ss',t.length≤1000:=fun t ht=>by
   have:=hp.mem_iff.mp ht
   obtain⟨c,hc,rfl⟩:=c7d.mp this
   exact c6x (h12 c hc) (by decide)
 have hsl:ss'.length≤40:=by rw[hp.length_eq,c5u];exact hl40
 walk_at "rd"
 refine⟨_,l,ss',rfl,rfl,SqL.of k1,b1c (B:=1000) hl12 ?_,?_⟩
 · have e:(" " : Str).length=1:=rfl
   rw[e];omega
 rw[a7q]
 exact k ss' _ v1 hp hs
theorem b7h{C_Desk:Addr}(T_Desk:ClsK K mg "Desk" C_Desk)(N_Desk_kept:a6y K C_Desk "kept")(F:b1r K C_Desk "say" "Desk.say" a5c ["self","row"])(B:Blt mg){C_SeatError C_NoText C_NoName C_TooMany C_NoLower C_NoShare C_NoMap C_NoJoin C_NoPlace:Addr}(X:Exc K mg C_SeatError C_NoText C_NoName C_TooMany C_NoLower C_NoShare C_NoMap C_NoJoin C_NoPlace){A_FORMS A_DEEDS F_keep_curve F_tell_curve F_tell_names F_tell_point F_keep_cut F_keep_stretch F_turn_curve F_raise_curve F_lower_curve F_lower_fully F_keep_speed F_move_curve F_tell_same F_tell_hull F_tell_box F_tell_part F_tell_meet F_tell_join A_NOUGHT:Addr}{t_MOST_SEATS t_MOST_LEVEL t_FIGURES t_MOST_FIGURES t_PIECE_FIGURES t_PIECE t_LETTERS t_MOST_LETTERS:Tok}(G:Cst K mg w A_FORMS A_DEEDS F_keep_curve F_tell_curve F_tell_names F_tell_point F_keep_cut F_keep_stretch F_turn_curve F_raise_curve F_lower_curve F_lower_fully F_keep_speed F_move_curve F_tell_same F_tell_hull F_tell_box F_tell_part F_tell_meet F_tell_join A_NOUGHT t_MOST_SEATS t_MOST_LEVEL t_FIGURES t_MOST_FIGURES t_PIECE_FIGURES t_PIECE t_LETTERS t_MOST_LETTERS)(D_keep_curve:a0r P w K mg base CX0 1 "keep_curve" ["kept","things"] b8o)(D_lower_curve:a0r P w K mg base (CXx P w) 7 "lower_curve" ["kept","things"] (a9p C_NoLower))(D_raise_curve:a0r P w K mg base (CXx P w) 7 "raise_curve" ["kept","things"] (a9o C_TooMany))(D_read_row:a0r P w K mg base (CXx P w) 6 "read_row" ["row"] (spRowX K C_NoText))(D_tell_curve:a0r P w K mg base CX0 5 "tell_curve" ["kept","things"] b2h)(D_tell_names:a0r P w K mg base CX0 1 "tell_names" ["kept","things"] b2i):a8l P w K mg base (CXx P w) 8 C_Desk "say" ["self","row"] (b8i K C_Desk C_NoText C_NoName C_TooMany C_NoLower):=by
 refine mth_okX F a3g (fun vs H Q E h=>?_) (fun f cdv A outer s H vs Q E hr h=>?_)
 · obtain⟨x,d,v,cs,rfl,_⟩:=h;rfl
 obtain⟨x,d,v,cs,rfl,hA,hS⟩:=h
 have hu:=hr.units
 refine⟨_,(a0e (a4s (a0u D_read_row hr a1p (a0a (pvI 1) a0c)) (a3d (n:=3) K rfl (a1b (a0q (i:=2) a3g.nd rfl (Or.inl rfl)) (a1b (a0q (i:=3) a3g.nd rfl (Or.inl rfl)) (a1b (a0q (i:=4) a3g.nd rfl (Or.inl rfl)) a2n))))) (a0e (a5j PassesOwn.leaving rfl (show PIi _ _ _ (iZip K _) from (b0o rfl B.zip (a0a (pvI 3) (a0a (pvI 4) a0c)))) (a3d (n:=2) K rfl (a1b (a0q (i:=5) a3g.nd rfl (Or.inl rfl)) (a1b (a0q (i:=6) a3g.nd rfl (Or.inl rfl)) a2n))) (a0g (a1j (a8k (b6t (a0v a4l (pvI 5) a0f (a1g _)) (b2v (a0v (b5b P w K hu) (pvI 6) (show PEi _ _ (tFld K _ _) from (c3f (pvI 0))) rfl)))) (a0g (a2a a1z X.xNoName (a0a a0f a0c))) a0y))) (a0e (a0n (i:=7) a3g.nd rfl (Or.inl rfl) (a0l (a8z P w K hu) (a1m (v:=.ref A_DEEDS) rfl G.DEEDS rfl) (pvI 2) (fun _ _=>rfl))) (a0g (a0o (show PEi _ _ (tFv P w K mg base (CXx P w) _ _ E _) from (pe_fvI (pvI 7) hr a1p (a0a (show PEi _ _ (tFld K _ _) from (c3f (pvI 0))) (a0a (pvI 4) a0c))))))))),?_⟩
 obtain⟨⟨dx,hx⟩,hD⟩:=id hA
 obtain⟨kvs,hd,hK,hl40⟩:=id hD
 cases hS with
 | non v h k=>
   walk_at "rd"
   exact .inl ⟨h,k⟩
 | text x0 first ws h b k=>
   walk_at "rd"
   exact .inr ⟨x0,first,ws,rfl,h,.inl ⟨b,k⟩⟩
 | name x0 first ds ks i0 s h hKD ok hk0 hd0 hs0 k=>
   walk_at "rd"
   refine .inr ⟨x0,first,_,rfl,h,.inr ⟨ks,ds,by rw[c5u];exact hKD,rfl,ok,fun t lk lt us H1 s1 ht hlk hlt hW=>?_⟩⟩
   replace hx:=s1 _ _ hx
   replace hd:=s1 _ _ hd
   replace hK:=hK.mono fun v x r=>CvV.same r s1
   have hkl:=hKD.len
   walk_at "rd"
   refine⟨t,_,rfl,SqT.of ht,rfl,_,_,rfl,_,_,rfl,_,_,rfl,rfl,?_⟩
   walk_at "rd"
   refine⟨lk,lt,rfl,⟨_,SqL.of hlk⟩,⟨_,SqL.of hlt⟩,b2b (a5z (SqL.of hlk) (SqL.of hlt)) (fun i σ H'=>∃ (y5 y6:Option V),σ=[some (.ref x),some (.str x0),some (.str first),some (.ref lk),some (.ref lt),y5,y6,none]∧Same H1 H'∧i≤i0) ⟨none,none,rfl,L2.Same.refl _,c8c _⟩ (fun i σ H' h=>by obtain⟨_,_,_,s,_⟩:=h;exact s) ?_ ?_⟩
   · rintro i g σ H2 H3 hi ⟨y5,y6,rfl,s2,inv⟩ s3 hg
     have hi':i<min (ks.map V.str).length us.length:=hi
     rw[c5u] at hi'
     have hi1:i<ks.length:=by omega
     have hi2:i<us.length:=by omega
     have e2:ks[i]?=some (ks[i]'hi1):=c5v _
     have e1:ds[i]?=some (ds[i]'(by omega (config:={}))):=c5v _
     have e3:us[i]?=some (us[i]'hi2):=c5v _
     have e4:((ks.map V.str)[i]?).getD .non=.str (ks[i]'hi1):=by rw[c6c,e2];rfl
     have e5:(us[i]?).getD .non=us[i]'hi2:=by rw[e3];rfl
     rw[e4,e5] at hg
     have hw:=hW.2 i _ _ e3 e1
     have s23:=s2.trans s3
     have hok:=ok i _ _ e2 e1
     generalize ks[i]'hi1=kk at *
     generalize us[i]'hi2=vv at *
     generalize ds[i]'_=dd at *
     refine⟨g,_,rfl,hg,rfl,_,_,rfl,_,_,rfl,rfl,?_⟩
     walk_at "rd"
     dsimp only
     by_cases hk:kk = "name"
     · subst hk
       obtain⟨nn,rfl⟩ : ∃ nn,dd=.nm nn:=by
         cases dd with
         | nm nn=>exact⟨nn,rfl⟩
         | sh q=>exact absurd (show ("name" : Str) = "share" from hok.1) (by decide)
         | pt p=>exact absurd (show ("name" : Str) = "point" from hok.1) (by decide)
         | lv n=>exact absurd (show ("name" : Str) = "level" from hok.1) (by decide)
       obtain rfl:vv=.str nn:=hw
       walk_at "rd"
       refine⟨x,C_Desk,dx,_,_,rfl,s23 _ _ hx,T_Desk.cl,N_Desk_kept,b3o d,?_⟩
       refine⟨d,_,rfl,.inl (DGet.k (k:=.inr nn) (s23 _ _ hd)),_,rfl,?_⟩
       cases hg0:getA cs nn with
       | none=>
         rw[show valV kvs (.inr nn)=none by rcases KvR.val hK nn with⟨_,e⟩ | ⟨y,v,e,_⟩;exact e;rw[hg0] at e;cases e]
         walk_at "rd"
         exact k _ (s1.trans s23)
       | some cc=>
         obtain⟨v9,ev9,_⟩:=hK.there hg0
         rw[ev9]
         refine ifF rfl ?_
         refine⟨_,_,rfl,s23,Nat.lt_of_le_of_ne inv fun e=>?_⟩
         subst e
         rw[e1] at hd0
         cases hd0
         rw[hs0] at hg0
         cases hg0
     · refine ifF (by simp[hk]) ?_
       refine ifF rfl ?_
       refine⟨_,_,rfl,s23,Nat.lt_of_le_of_ne inv fun e=>?_⟩
       subst e
       rw[e2] at hk0
       cases hk0
       exact hk rfl
   rintro σ H2 ⟨y5,y6,rfl,s2,inv⟩
   have h1:=(c6h.mp hk0).1
   have h2:=hW.1
   have inv:min (ks.map V.str).length us.length≤i0:=inv
   rw[c5u] at inv
   omega
 | good x0 first ds ks sp h hKD ok nm deed go=>
   walk_at "rd"
   refine .inr ⟨x0,first,_,rfl,h,.inr ⟨ks,ds,by rw[c5u];exact hKD,rfl,ok,fun t lk lt us H1 s1 ht hlk hlt hW=>?_⟩⟩
   replace hx:=s1 _ _ hx
   replace hd:=s1 _ _ hd
   replace hK:=hK.mono fun v x r=>CvV.same r s1
   have hkl:=hKD.len
   walk_at "rd"
   refine⟨t,_,rfl,SqT.of ht,rfl,_,_,rfl,_,_,rfl,_,_,rfl,rfl,?_⟩
   walk_at "rd"
   refine⟨lk,lt,rfl,⟨_,SqL.of hlk⟩,⟨_,SqL.of hlt⟩,b2b (a5z (SqL.of hlk) (SqL.of hlt)) (fun i σ H'=>∃ (y5 y6:Option V),σ=[some (.ref x),some (.str x0),some (.str first),some (.ref lk),some (.ref lt),y5,y6,none]∧Same H1 H'∧True) ⟨none,none,rfl,L2.Same.refl _,trivial⟩ (fun i σ H' h=>by obtain⟨_,_,_,s,_⟩:=h;exact s) ?_ ?_⟩
   · rintro i g σ H2 H3 hi ⟨y5,y6,rfl,s2,inv⟩ s3 hg
     have hi':i<min (ks.map V.str).length us.length:=hi
     rw[c5u] at hi'
     have hi1:i<ks.length:=by omega
     have hi2:i<us.length:=by omega
     have e2:ks[i]?=some (ks[i]'hi1):=c5v _
     have e1:ds[i]?=some (ds[i]'(by omega (config:={}))):=c5v _
     have e3:us[i]?=some (us[i]'hi2):=c5v _
     have e4:((ks.map V.str)[i]?).getD .non=.str (ks[i]'hi1):=by rw[c6c,e2];rfl
     have e5:(us[i]?).getD .non=us[i]'hi2:=by rw[e3];rfl
     rw[e4,e5] at hg
     have hw:=hW.2 i _ _ e3 e1
     have s23:=s2.trans s3
     have hok:=ok i _ _ e2 e1
     generalize ks[i]'hi1=kk at *
     generalize us[i]'hi2=vv at *
     generalize ds[i]'_=dd at *
     refine⟨g,_,rfl,hg,rfl,_,_,rfl,_,_,rfl,rfl,?_⟩
     walk_at "rd"
     dsimp only
     by_cases hk:kk = "name"
     · subst hk
       obtain⟨nn,rfl⟩ : ∃ nn,dd=.nm nn:=by
         cases dd with
         | nm nn=>exact⟨nn,rfl⟩
         | sh q=>exact absurd (show ("name" : Str) = "share" from hok.1) (by decide)
         | pt p=>exact absurd (show ("name" : Str) = "point" from hok.1) (by decide)
         | lv n=>exact absurd (show ("name" : Str) = "level" from hok.1) (by decide)
       obtain rfl:vv=.str nn:=hw
       walk_at "rd"
       refine⟨x,C_Desk,dx,_,_,rfl,s23 _ _ hx,T_Desk.cl,N_Desk_kept,b3o d,?_⟩
       refine⟨d,_,rfl,.inl (DGet.k (k:=.inr nn) (s23 _ _ hd)),_,rfl,?_⟩
       obtain⟨s',cc,e9,hcc⟩:=nm i _ e2 e1
       cases e9
       obtain⟨v9,ev9,_⟩:=hK.there hcc
       rw[ev9]
       refine ifF rfl ?_
       exact⟨_,_,rfl,s23,trivial⟩
     · refine ifF (by simp[hk]) ?_
       refine ifF rfl ?_
       exact⟨_,_,rfl,s23,trivial⟩
   rintro σ H2 ⟨y5,y6,rfl,s2,_⟩
   obtain⟨f9,k9,ef9,DB,hk9⟩ : ∃ f k,valV ([(.inr "curve",.ref F_keep_curve),(.inr "tell",.ref F_tell_curve),(.inr "names",.ref F_tell_names),(.inr "point",.ref F_tell_point),(.inr "cut",.ref F_keep_cut),(.inr "stretch",.ref F_keep_stretch),(.inr "turn",.ref F_turn_curve),(.inr "raise",.ref F_raise_curve),(.inr "lower",.ref F_lower_curve),(.inr "least",.ref F_lower_fully),(.inr "speed",.ref F_keep_speed),(.inr "move",.ref F_move_curve),(.inr "same",.ref F_tell_same),(.inr "hull",.ref F_tell_hull),(.inr "box",.ref F_tell_box),(.inr "part",.ref F_tell_part),(.inr "meet",.ref F_tell_meet),(.inr "join",.ref F_tell_join)]:List (Key×V)) (.inr first)=some (.ref f)∧DefBy P w K mg base (CXx P w) k f sp∧k≤7:=by
     cases deed with
     | curve=>exact⟨F_keep_curve,_,rfl,⟨_,_,D_keep_curve.lift,G.gkeep_curve⟩,by decide⟩
     | tell=>exact⟨F_tell_curve,_,rfl,⟨_,_,D_tell_curve.lift,G.gtell_curve⟩,by decide⟩
     | names=>exact⟨F_tell_names,_,rfl,⟨_,_,D_tell_names.lift,G.gtell_names⟩,by decide⟩
     | raise=>exact⟨F_raise_curve,_,rfl,⟨_,_,D_raise_curve,G.graise_curve⟩,by decide⟩
     | lower=>exact⟨F_lower_curve,_,rfl,⟨_,_,D_lower_curve,G.glower_curve⟩,by decide⟩
   walk_at "rd"
   refine⟨A_DEEDS,_,rfl,.inr ⟨_,.inr first,G.dDEEDS P,rfl,ef9.symm⟩,?_⟩
   walk_at "rd"
   refine⟨f9,sp,k9,rfl,DB,hk9,?_⟩
   walk_at "rd"
   refine⟨x,C_Desk,dx,_,_,rfl,s2 _ _ hx,T_Desk.cl,N_Desk_kept,b3o d,?_⟩
   walk_at "rd"
   exact go _ lt us (s1.trans s2) (s2 _ _ hlt) ⟨hW.1,fun i v w e1 e2=>(hW.2 i v w e1 e2).same s2⟩
theorem b7g(F:a0k K mg "_law_filled" a5b ["_law_text","_law_a","_law_b","_law_odd"]):a0r P w K mg base CX0 1 "_law_filled" ["_law_text","_law_a","_law_b","_law_odd"] b4j:=by
 refine a1c F a3f (fun vs H Q E h=>?_) (fun f cdv A outer s H vs Q E hr h=>?_)
 · obtain⟨t,a,b,o,rfl,_⟩:=h;rfl
 obtain⟨t,a,b,o,rfl,lt,la,lb,lo,k⟩:=h
 have hu:=hr.units
 refine⟨_,(a0e (a0n (i:=4) a3f.nd rfl (Or.inl rfl) a0f) (a0e (a5j PassesOwn.never rfl (b6v (pvI 0)) (a0q (i:=5) a3f.nd rfl (Or.inl rfl)) (a0g (a1j (a0v a4l (pvI 5) a0f (a1g _)) (a0g (a0n (i:=4) a3f.nd rfl (Or.inl rfl) (a0i a0w (pvI 4) (pvI 1)))) (a0g (a1j (a0v a4l (pvI 5) a0f (a1g _)) (a0g (a0n (i:=4) a3f.nd rfl (Or.inl rfl) (a0i a0w (pvI 4) (pvI 2)))) (a0g (a1j (a0v a4l (pvI 5) a0f (a1g _)) (a0g (a0n (i:=4) a3f.nd rfl (Or.inl rfl) (a0i a0w (pvI 4) (pvI 3)))) (a0g (a0n (i:=4) a3f.nd rfl (Or.inl rfl) (a0i a0w (pvI 4) (pvI 5))))))))))) (a0g (a0o (pvI 4))))),?_⟩
 have hcl:=a1x t
 have ln:∀ i,(fW a b o ((cp t).take i)).length≤10100:=fun i=>by
   rw[← a1x,a4m]
   have:=c4v la lb lo ((cp t).take i)
   rw[c8i] at this
   omega
 walk_at "rd"
 refine c0n (a8c _ _) (fun i σ H'=>∃ y:Option V,σ=[some (.str t),some (.str a),some (.str b),some (.str o),some (.str (fW a b o ((cp t).take i))),y]∧H'=H) ⟨none,rfl,rfl⟩ (fun i σ H' h=>by obtain⟨_,_,rfl⟩:=h;exact L2.Same.refl _) ?_ ?_
 · rintro i σ H' hi ⟨y,rfl,rfl⟩
   have hi':i<t.length:=hi
   have l1:=ln i
   have l2:=ln (i+1)
   have ee:=(congrArg (fW a b o) (take_cp hi')).trans (fW_snoc a b o _ _)
   rw[ee] at l2 ⊢
   clear ee
   generalize hc:t.cps.getD i 0=c at *
   walk_at "rd"
   refine a4e (fun h=>?_) (fun h=>?_)
   · obtain rfl:c=91:=b2g.mp h
     walk_at "rd"
     refine⟨c6d (a0j (by omega)),?_⟩
     rw[show (⟨(fC a b o 91).toArray⟩ : Str)=a from b6o a]
     exact⟨_,rfl,rfl⟩
   have h1:c≠91:=fun e=>h (by rw[e];rfl)
   walk_at "rd"
   refine a4e (fun h=>?_) (fun h=>?_)
   · obtain rfl:c=93:=b2g.mp h
     walk_at "rd"
     refine⟨c6d (a0j (by omega)),?_⟩
     rw[show (⟨(fC a b o 93).toArray⟩ : Str)=b from b6o b]
     exact⟨_,rfl,rfl⟩
   have h2:c≠93:=fun e=>h (by rw[e];rfl)
   walk_at "rd"
   refine a4e (fun h=>?_) (fun h=>?_)
   · obtain rfl:c=63:=b2g.mp h
     walk_at "rd"
     refine⟨c6d (a0j (by omega)),?_⟩
     rw[show (⟨(fC a b o 63).toArray⟩ : Str)=o from b6o o]
     exact⟨_,rfl,rfl⟩
   have h3:c≠63:=fun e=>h (by rw[e];rfl)
   walk_at "rd"
   refine⟨c6d (a0j (by show _+1≤100000;omega)),?_⟩
   rw[show (⟨(fC a b o c).toArray⟩ : Str)=⟨#[c]⟩ by unfold fC;rw[if_neg h1,if_neg h2,if_neg h3]]
   exact⟨_,rfl,rfl⟩
 · rintro σ H' ⟨y,rfl,rfl⟩
   walk_at "rd"
   have e:(cp t).take t.cps.size=cp t:=c8w (by rw[hcl];exact c6l _)
   rw[e]
   exact k _ (L2.Same.refl _)
theorem b3k(F:a0k K mg "_law_no_names" a3a ["_law_a","_law_b","_law_odd"])(D_l_filled:a0r P w K mg base CX0 1 "_law_filled" ["_law_text","_law_a","_law_b","_law_odd"] b4j):a0r P w K mg base CX0 2 "_law_no_names" ["_law_a","_law_b","_law_odd"] (a7u K false):=by
 refine a1c F a6e (fun vs H Q E h=>?_) (fun f cdv A outer s H vs Q E hr h=>?_)
 · obtain⟨a,b,o,rfl,_⟩:=h;rfl
 obtain⟨a,b,o,rfl,ha,hb,ho,po,k⟩:=h
 have hu:=hr.units
 refine⟨_,(a0e (a0n (i:=3) a6e.nd rfl (Or.inl rfl) (a1f (a0a a0f (a0a a0f (a0a a0f (a0a a0f (a0a a0f (a0a a0f (a0a a0f a0c))))))))) (a0e (a0n (i:=3) a6e.nd rfl (Or.inl rfl) (a0i a4u (pvI 3) (a1f (a0a a0f (a0a a0f a0c))))) (a0g (a0o (a1o (os:=["_law_text"]) (caps:=[(0,"_law_a"),(1,"_law_b"),(2,"_law_odd")]) ["_law_a","_law_b","_law_odd","_law_some"] (a0d a3a) (a1r K (pvI 3)) (fun _ _ _ _ _=>(a0q (i:=0) (show c7j (["_law_text","_law_a","_law_b","_law_odd"]:List Str) from by decide +kernel) rfl (Or.inl rfl))) (fun _ _ _ _ _=>(a0u D_l_filled hr a1i (a0a (pvI 0) (a0a (pvI 1) (a0a (pvI 2) (a0a (pvI 3) a0c)))))) (by decide +kernel)))))),?_⟩
 walk_at "rd"
 intro p1 hp1
 have s1:=Same.new (o:=.lst ((a5k.take 7).map V.str)) hp1
 have g1:(upd H p1 (.lst ((a5k.take 7).map V.str))) p1=some (.lst ((a5k.take 7).map V.str)):=a0h
 change a3l 3 (.ref p1) _ (upd H p1 (.lst ((a5k.take 7).map V.str))) _
 generalize upd H p1 (.lst ((a5k.take 7).map V.str))=H1 at *
 walk_at "rd"
 intro p2 hp2
 have s2:=Same.new (o:=.lst ((a5k.drop 7).map V.str)) hp2
 change rCat (.ref p1) (.ref p2) (upd H1 p2 (.lst ((a5k.drop 7).map V.str))) _
 refine⟨p1,p2,_,_,rfl,rfl,s2 _ _ g1,a0h,by decide,fun p3 hp3=>?_⟩
 have s3:=Same.new (o:=.lst (a5k.map V.str)) hp3
 have g3:(upd (upd H1 p2 (.lst ((a5k.drop 7).map V.str))) p3 (.lst (a5k.map V.str))) p3=some (.lst (a5k.map V.str)):=a0h
 have s13:=(s1.trans s2).trans s3
 change a3l 3 (.ref p3) _ (upd (upd H1 p2 (.lst ((a5k.drop 7).map V.str))) p3 (.lst (a5k.map V.str))) _
 generalize upd (upd H1 p2 (.lst ((a5k.drop 7).map V.str))) p3 (.lst (a5k.map V.str))=H3 at *
 walk_at "rd"
 refine⟨⟨_,SqL.of g3⟩,a6p (a2h (SqL.of g3)) (by decide) (fun i v _=>∀ t,a5k[i]?=some t→v=.str (fill a b o t)) (fun _ _ _ _ _ h=>h) (fun i H6 kk hi s6 hk=>?_) (fun l us H6 hl0 s6 hl hul hr=>?_)⟩
 · rw[c5u] at hi
   have e1:a5k[i]?=some (a5k[i]'hi):=c5v _
   have e2:((a5k.map V.str)[i]?).getD .non=.str (a5k[i]'hi):=by rw[c6c,e1];rfl
   rw[e2]
   walk_at "rd"
   refine⟨_,a,b,o,rfl,c6x (of_decide_eq_true (c6g.mp nameT_ln _ (c7h hi))) (by decide),ha.2.1,hb.2.1,po.ln,fun H7 s7=>hk _ _ s7 fun t e=>?_⟩
   rw[e1] at e;cases e;rfl
 rw[c5u] at hul
 refine k l us H6 (s13.trans s6) hl hul fun v hv=>?_
 obtain⟨i,hi,rfl⟩:=c7u hv
 have hi':i<a5k.length:=by omega
 rw[hr i _ (c5v hi) _ (c5v hi')]
 obtain⟨first,ws,h1,h2⟩:=a6x ha hb hb.pl po ho (c6g.mp nameT_ok _ (c7h hi'))
 exact .inr ⟨_,first,ws,rfl,h1,h2⟩
theorem b5j(F:a0k K mg "_law_no_rows" a3k ["_law_a","_law_b"])(D_l_filled:a0r P w K mg base CX0 1 "_law_filled" ["_law_text","_law_a","_law_b","_law_odd"] b4j):a0r P w K mg base CX0 2 "_law_no_rows" ["_law_a","_law_b"] (b8k K):=by
 refine a1c F a3n (fun vs H Q E h=>?_) (fun f cdv A outer s H vs Q E hr h=>?_)
 · obtain⟨a,b,rfl,_⟩:=h;rfl
 obtain⟨a,b,rfl,ha,hb,k⟩:=h
 have hu:=hr.units
 refine⟨_,(a0e (a0n (i:=2) a3n.nd rfl (Or.inl rfl) (a1f (a0a a0f (a0a a0f (a0a a0f (a0a a0f (a0a a0f (a0a a0f (a0a a0f (a0a a0f (a0a a0f a0c))))))))))) (a0e (a0n (i:=2) a3n.nd rfl (Or.inl rfl) (a0i a4u (pvI 2) (a1f (a0a a0f (a0a a0f (a0a a0f (a0a a0f (a0a a0f (a0a a0f (a0a a0f a0c)))))))))) (a0e (a0n (i:=2) a3n.nd rfl (Or.inl rfl) (a0i a4u (pvI 2) (a1f (a0a a0f (a0a a0f (a0a a0f (a0a a0f (a0a a0f (a0a a0f a0c))))))))) (a0e (a0n (i:=2) a3n.nd rfl (Or.inl rfl) (a0i a4u (pvI 2) (a1f (a0a a0f (a0a a0f (a0a a0f (a0a a0f (a0a a0f (a0a a0f (a0a a0f (a0a a0f a0c))))))))))) (a0e (a0n (i:=2) a3n.nd rfl (Or.inl rfl) (a0i a4u (pvI 2) (a1f (a0a a0f (a0a a0f (a0a a0f (a0a a0f (a0a a0f (a0a a0f a0c))))))))) (a0g (a0o (a0i a4u (a1f (a0a pe_nonI (a0a a0b (a0a b4y (a0a (a1f (a0a (a0i a0w a0f (pvI 0)) a0c)) (a0a (a1h (a0a a0f a0c)) a0c)))))) (a1o (os:=["_law_text"]) (caps:=[(0,"_law_a"),(1,"_law_b")]) ["_law_a","_law_b","_law_some"] (a0d a3k) (a1r K (pvI 2)) (fun _ _ _ _ _=>(a0q (i:=0) (show c7j (["_law_text","_law_a","_law_b"]:List Str) from by decide +kernel) rfl (Or.inl rfl))) (fun _ _ _ _ _=>(a0u D_l_filled hr a1i (a0a (pvI 0) (a0a (pvI 1) (a0a (pvI 2) (a0a a0f a0c)))))) (by decide +kernel)))))))))),?_⟩
 have eT:a1e=a1e:=rfl
 walk_at "rd"
 intro p0 hp0
 have s0:=Same.new (o:=.lst ((a1e.take 9).map V.str)) hp0
 have g0:(upd H p0 (.lst ((a1e.take 9).map V.str))) p0=some (.lst ((a1e.take 9).map V.str)):=a0h
 change a3l 2 (.ref p0) _ (upd H p0 (.lst ((a1e.take 9).map V.str))) _
 generalize upd H p0 (.lst ((a1e.take 9).map V.str))=H0 at *
 walk_at "rd"
 intro q1 hq1
 have t1:=Same.new (o:=.lst (((a1e.take 16).drop 9).map V.str)) hq1
 change rCat (.ref p0) (.ref q1) (upd H0 q1 (.lst (((a1e.take 16).drop 9).map V.str))) _
 refine⟨p0,q1,_,_,rfl,rfl,t1 _ _ g0,a0h,by decide +kernel,fun p1 hp1=>?_⟩
 have r1:=Same.new (o:=.lst ((a1e.take 16).map V.str)) hp1
 have g1:(upd (upd H0 q1 (.lst (((a1e.take 16).drop 9).map V.str))) p1 (.lst ((a1e.take 16).map V.str))) p1=some (.lst ((a1e.take 16).map V.str)):=a0h
 have s1:=(s0.trans t1).trans r1
 change a3l 2 (.ref p1) _ (upd (upd H0 q1 (.lst (((a1e.take 16).drop 9).map V.str))) p1 (.lst ((a1e.take 16).map V.str))) _
 generalize upd (upd H0 q1 (.lst (((a1e.take 16).drop 9).map V.str))) p1 (.lst ((a1e.take 16).map V.str))=H1 at *
 walk_at "rd"
 intro q2 hq2
 have t2:=Same.new (o:=.lst (((a1e.take 22).drop 16).map V.str)) hq2
 change rCat (.ref p1) (.ref q2) (upd H1 q2 (.lst (((a1e.take 22).drop 16).map V.str))) _
 refine⟨p1,q2,_,_,rfl,rfl,t2 _ _ g1,a0h,by decide +kernel,fun p2 hp2=>?_⟩
 have r2:=Same.new (o:=.lst ((a1e.take 22).map V.str)) hp2
 have g2:(upd (upd H1 q2 (.lst (((a1e.take 22).drop 16).map V.str))) p2 (.lst ((a1e.take 22).map V.str))) p2=some (.lst ((a1e.take 22).map V.str)):=a0h
 have s2:=(s1.trans t2).trans r2
 change a3l 2 (.ref p2) _ (upd (upd H1 q2 (.lst (((a1e.take 22).drop 16).map V.str))) p2 (.lst ((a1e.take 22).map V.str))) _
 generalize upd (upd H1 q2 (.lst (((a1e.take 22).drop 16).map V.str))) p2 (.lst ((a1e.take 22).map V.str))=H2 at *
 walk_at "rd"
 intro q3 hq3
 have t3:=Same.new (o:=.lst (((a1e.take 30).drop 22).map V.str)) hq3
 change rCat (.ref p2) (.ref q3) (upd H2 q3 (.lst (((a1e.take 30).drop 22).map V.str))) _
 refine⟨p2,q3,_,_,rfl,rfl,t3 _ _ g2,a0h,by decide +kernel,fun p3 hp3=>?_⟩
 have r3:=Same.new (o:=.lst ((a1e.take 30).map V.str)) hp3
 have g3:(upd (upd H2 q3 (.lst (((a1e.take 30).drop 22).map V.str))) p3 (.lst ((a1e.take 30).map V.str))) p3=some (.lst ((a1e.take 30).map V.str)):=a0h
 have s3:=(s2.trans t3).trans r3
 change a3l 2 (.ref p3) _ (upd (upd H2 q3 (.lst (((a1e.take 30).drop 22).map V.str))) p3 (.lst ((a1e.take 30).map V.str))) _
 generalize upd (upd H2 q3 (.lst (((a1e.take 30).drop 22).map V.str))) p3 (.lst ((a1e.take 30).map V.str))=H3 at *
 walk_at "rd"
 intro q4 hq4
 have t4:=Same.new (o:=.lst (((a1e.take 36).drop 30).map V.str)) hq4
 change rCat (.ref p3) (.ref q4) (upd H3 q4 (.lst (((a1e.take 36).drop 30).map V.str))) _
 refine⟨p3,q4,_,_,rfl,rfl,t4 _ _ g3,a0h,by decide +kernel,fun p4 hp4=>?_⟩
 have r4:=Same.new (o:=.lst ((a1e.take 36).map V.str)) hp4
 have g4:(upd (upd H3 q4 (.lst (((a1e.take 36).drop 30).map V.str))) p4 (.lst ((a1e.take 36).map V.str))) p4=some (.lst ((a1e.take 36).map V.str)):=a0h
 have s4:=(s3.trans t4).trans r4
 change a3l 2 (.ref p4) _ (upd (upd H3 q4 (.lst (((a1e.take 36).drop 30).map V.str))) p4 (.lst ((a1e.take 36).map V.str))) _
 generalize upd (upd H3 q4 (.lst (((a1e.take 36).drop 30).map V.str))) p4 (.lst ((a1e.take 36).map V.str))=H4 at *
 clear g0 g1 g2 g3 t1 t2 t3 t4 r1 r2 r3 r4 s0 s1 s2 s3
 have g4:H4 p4=some (.lst (a1e.map V.str)):=g4
 have ha12:=ha.2.1
 walk_at "rd"
 refine⟨c6d (a0j (by show 5+a.length≤100000;omega)),?_⟩
 walk_at "rd"
 intro la hla
 have v1:=Same.new (o:=.lst [V.str ("tell " ++ a)]) hla
 have k1:=a0h (H:=H4) (a:=la) (o:=.lst [V.str ("tell " ++ a)])
 generalize upd H4 la (.lst [V.str ("tell " ++ a)])=H5 at *
 walk_at "rd"
 intro lb hlb
 have v2:=Same.new (o:=.tup [V.str "names"]) hlb
 have k2:=a0h (H:=H5) (a:=lb) (o:=.tup [V.str "names"])
 replace k1:=v2 _ _ k1
 generalize upd H5 lb (.tup [V.str "names"])=H6 at *
 walk_at "rd"
 intro lc hlc
 have v3:=Same.new (o:=.lst [.non,.int 7,.bl true,.ref la,.ref lb]) hlc
 have k3:=a0h (H:=H6) (a:=lc) (o:=.lst [.non,.int 7,.bl true,.ref la,.ref lb])
 replace k1:=v3 _ _ k1
 replace k2:=v3 _ _ k2
 generalize upd H6 lc (.lst [.non,.int 7,.bl true,.ref la,.ref lb])=H7 at *
 have v13:=(v1.trans v2).trans v3
 have g7:=v13 _ _ g4
 walk_at "rd"
 refine⟨⟨_,SqL.of g7⟩,a6p (a2h (SqL.of g7)) (by decide +kernel) (fun i v _=>∀ t,a1e[i]?=some t→v=.str (fill a b "" t)) (fun _ _ _ _ _ h=>h) (fun i H8 kk hi s8 hk=>?_) (fun l us H8 hl0 s8 hl hul hr=>?_)⟩
 · rw[c5u] at hi
   have e1:a1e[i]?=some (a1e[i]'hi):=c5v _
   have e2:((a1e.map V.str)[i]?).getD .non=.str (a1e[i]'hi):=by rw[c6c,e1];rfl
   rw[e2]
   walk_at "rd"
   refine⟨_,a,b,"",rfl,c6x (of_decide_eq_true (c6g.mp c2r _ (c7h hi))) (by decide),ha.2.1,hb.2.1,by decide,fun H9 s9=>hk _ _ s9 fun t e=>?_⟩
   rw[e1] at e;cases e;rfl
 rw[c5u] at hul
 have hul:us.length=36:=hul
 have h5:=s8 _ _ k3
 refine⟨lc,l,_,_,rfl,rfl,h5,hl,c6d (a0j (by show 5+us.length≤100000;omega)),fun pz hpz=>?_⟩
 have vz:=Same.new (o:=.lst ([V.non,.int 7,.bl true,.ref la,.ref lb]++us)) hpz
 refine k pz _ _ (((s4.trans v13).trans s8).trans vz) a0h (by rw[c6m,hul];rfl) fun v hv=>?_
 have po:Pl3 101 "":=⟨by decide +kernel,by decide,fun c hc=>by cases hc⟩
 have ho:OddW false "":=fun z=>absurd z.1 (by decide)
 rcases c7t.mp hv with hv | hv
 · simp only[c6e,c6u,or_false] at hv
   rcases hv with rfl | rfl | rfl | rfl | rfl
   · exact .inl ⟨_,.non,rfl⟩
   · exact .inl ⟨_,.int _,rfl⟩
   · exact .inl ⟨_,.bl _,rfl⟩
   · exact .inl ⟨_,.lst (vz _ _ (s8 _ _ k1)),rfl⟩
   · exact .inl ⟨_,.tup (vz _ _ (s8 _ _ k2)),rfl⟩
 · obtain⟨i,hi,rfl⟩:=c7u hv
   have hi':i<a1e.length:=by show i<36;omega
   rw[hr i _ (c5v hi) _ (c5v hi')]
   obtain⟨first,ws,h1,h2⟩:=a6x ha hb hb.pl po ho (c6g.mp c2q _ (c7h hi'))
   exact .inr ⟨_,first,ws,rfl,h1,h2⟩
theorem b3j(F:a0k K mg "_law_no_words" a2z ["_law_a","_law_b","_law_odd"])(D_l_filled:a0r P w K mg base CX0 1 "_law_filled" ["_law_text","_law_a","_law_b","_law_odd"] b4j):a0r P w K mg base CX0 2 "_law_no_words" ["_law_a","_law_b","_law_odd"] (a7u K true):=by
 refine a1c F a6d (fun vs H Q E h=>?_) (fun f cdv A outer s H vs Q E hr h=>?_)
 · obtain⟨a,b,o,rfl,_⟩:=h;rfl
 obtain⟨a,b,o,rfl,ha,hb,ho,po,k⟩:=h
 have hu:=hr.units
 refine⟨_,(a0e (a0n (i:=3) a6d.nd rfl (Or.inl rfl) (a1f (a0a a0f (a0a a0f (a0a a0f (a0a a0f (a0a a0f (a0a a0f a0c)))))))) (a0e (a0n (i:=3) a6d.nd rfl (Or.inl rfl) (a0i a4u (pvI 3) (a1f (a0a a0f (a0a a0f (a0a a0f a0c)))))) (a0g (a0o (a1o (os:=["_law_text"]) (caps:=[(0,"_law_a"),(1,"_law_b"),(2,"_law_odd")]) ["_law_a","_law_b","_law_odd","_law_some"] (a0d a2z) (a1r K (pvI 3)) (fun _ _ _ _ _=>(a0q (i:=0) (show c7j (["_law_text","_law_a","_law_b","_law_odd"]:List Str) from by decide +kernel) rfl (Or.inl rfl))) (fun _ _ _ _ _=>(a0u D_l_filled hr a1i (a0a (pvI 0) (a0a (pvI 1) (a0a (pvI 2) (a0a (pvI 3) a0c)))))) (by decide +kernel)))))),?_⟩
 walk_at "rd"
 intro p1 hp1
 have s1:=Same.new (o:=.lst ((a5f.take 6).map V.str)) hp1
 have g1:(upd H p1 (.lst ((a5f.take 6).map V.str))) p1=some (.lst ((a5f.take 6).map V.str)):=a0h
 change a3l 3 (.ref p1) _ (upd H p1 (.lst ((a5f.take 6).map V.str))) _
 generalize upd H p1 (.lst ((a5f.take 6).map V.str))=H1 at *
 walk_at "rd"
 intro p2 hp2
 have s2:=Same.new (o:=.lst ((a5f.drop 6).map V.str)) hp2
 change rCat (.ref p1) (.ref p2) (upd H1 p2 (.lst ((a5f.drop 6).map V.str))) _
 refine⟨p1,p2,_,_,rfl,rfl,s2 _ _ g1,a0h,by decide,fun p3 hp3=>?_⟩
 have s3:=Same.new (o:=.lst (a5f.map V.str)) hp3
 have g3:(upd (upd H1 p2 (.lst ((a5f.drop 6).map V.str))) p3 (.lst (a5f.map V.str))) p3=some (.lst (a5f.map V.str)):=a0h
 have s13:=(s1.trans s2).trans s3
 change a3l 3 (.ref p3) _ (upd (upd H1 p2 (.lst ((a5f.drop 6).map V.str))) p3 (.lst (a5f.map V.str))) _
 generalize upd (upd H1 p2 (.lst ((a5f.drop 6).map V.str))) p3 (.lst (a5f.map V.str))=H3 at *
 walk_at "rd"
 refine⟨⟨_,SqL.of g3⟩,a6p (a2h (SqL.of g3)) (by decide) (fun i v _=>∀ t,a5f[i]?=some t→v=.str (fill a b o t)) (fun _ _ _ _ _ h=>h) (fun i H6 kk hi s6 hk=>?_) (fun l us H6 hl0 s6 hl hul hr=>?_)⟩
 · rw[c5u] at hi
   have e1:a5f[i]?=some (a5f[i]'hi):=c5v _
   have e2:((a5f.map V.str)[i]?).getD .non=.str (a5f[i]'hi):=by rw[c6c,e1];rfl
   rw[e2]
   walk_at "rd"
   refine⟨_,a,b,o,rfl,c6x (of_decide_eq_true (c6g.mp wordT_ln _ (c7h hi))) (by decide),ha.2.1,hb.2.1,po.ln,fun H7 s7=>hk _ _ s7 fun t e=>?_⟩
   rw[e1] at e;cases e;rfl
 rw[c5u] at hul
 refine k l us H6 (s13.trans s6) hl hul fun v hv=>?_
 obtain⟨i,hi,rfl⟩:=c7u hv
 have hi':i<a5f.length:=by omega
 rw[hr i _ (c5v hi) _ (c5v hi')]
 obtain⟨first,ws,h1,h2⟩:=a6x ha hb hb.pl po ho (c6g.mp wordT_ok _ (c7h hi'))
 exact .inr ⟨_,first,ws,rfl,h1,h2⟩
theorem b1p(F:a0k K mg "_law_strangers" a2k ["_law_a","_law_odd"])(D_l_filled:a0r P w K mg base CX0 1 "_law_filled" ["_law_text","_law_a","_law_b","_law_odd"] b4j):a0r P w K mg base CX0 2 "_law_strangers" ["_law_a","_law_odd"] a9z:=by
 refine a1c F a4o (fun vs H Q E h=>?_) (fun f cdv A outer s H vs Q E hr h=>?_)
 · obtain⟨a,s,rfl,_⟩:=h;rfl
 obtain⟨a,s,rfl,ha,hs,k⟩:=h
 have hu:=hr.units
 refine⟨_,(a0e (a0n (i:=2) a4o.nd rfl (Or.inl rfl) (a1f (a0a a0f (a0a a0f (a0a a0f (a0a a0f (a0a a0f (a0a a0f a0c)))))))) (a0e (a0n (i:=2) a4o.nd rfl (Or.inl rfl) (a0i a4u (pvI 2) (a1f (a0a a0f (a0a a0f (a0a a0f (a0a a0f (a0a a0f (a0a a0f a0c))))))))) (a0e (a0n (i:=2) a4o.nd rfl (Or.inl rfl) (a0i a4u (pvI 2) (a1f (a0a a0f (a0a a0f (a0a a0f (a0a a0f (a0a a0f a0c)))))))) (a0g (a0o (a1o (os:=["_law_text"]) (caps:=[(0,"_law_a"),(1,"_law_odd")]) ["_law_a","_law_odd","_law_some"] (a0d a2k) (a1r K (pvI 2)) (fun _ _ _ _ _=>(a0q (i:=0) (show c7j (["_law_text","_law_a","_law_odd"]:List Str) from by decide +kernel) rfl (Or.inl rfl))) (fun _ _ _ _ _=>(a0u D_l_filled hr a1i (a0a (pvI 0) (a0a (pvI 1) (a0a a0f (a0a (pvI 2) a0c)))))) (by decide +kernel))))))),?_⟩
 walk_at "rd"
 intro p1 hp1
 have s1:=Same.new (o:=.lst [V.str "tell ?",.str "point ? 1/2",.str "cut ? 0 [ [",.str "stretch ? 0 1 [",.str "turn ?",.str "raise ?"]) hp1
 have g1:=a0h (H:=H) (a:=p1) (o:=.lst [V.str "tell ?",.str "point ? 1/2",.str "cut ? 0 [ [",.str "stretch ? 0 1 [",.str "turn ?",.str "raise ?"])
 generalize upd H p1 (.lst [V.str "tell ?",.str "point ? 1/2",.str "cut ? 0 [ [",.str "stretch ? 0 1 [",.str "turn ?",.str "raise ?"])=H1 at *
 walk_at "rd"
 intro p2 hp2
 have s2:=Same.new (o:=.lst [V.str "lower ?",.str "least ?",.str "speed ? [",.str "hull ?",.str "move ? 1 0 0 1 0 0",.str "same [ ?"]) hp2
 refine⟨p1,p2,_,_,rfl,rfl,s2 _ _ g1,a0h,by decide,fun p3 hp3=>?_⟩
 have s3:=Same.new (o:=.lst ((strT.take 12).map V.str)) hp3
 have g3:(upd (upd H1 p2 (.lst [V.str "lower ?",.str "least ?",.str "speed ? [",.str "hull ?",.str "move ? 1 0 0 1 0 0",.str "same [ ?"])) p3 (.lst ((strT.take 12).map V.str))) p3=some (.lst ((strT.take 12).map V.str)):=a0h
 have s13:=(s1.trans s2).trans s3
 change a3l 2 (.ref p3) _ (upd (upd H1 p2 (.lst [V.str "lower ?",.str "least ?",.str "speed ? [",.str "hull ?",.str "move ? 1 0 0 1 0 0",.str "same [ ?"])) p3 (.lst ((strT.take 12).map V.str))) _
 generalize upd (upd H1 p2 (.lst [V.str "lower ?",.str "least ?",.str "speed ? [",.str "hull ?",.str "move ? 1 0 0 1 0 0",.str "same [ ?"])) p3 (.lst ((strT.take 12).map V.str))=H3 at *
 walk_at "rd"
 intro p4 hp4
 have s4:=Same.new (o:=.lst [V.str "part ? [",.str "box ?",.str "join [ ?",.str "meet ? [ 0",.str "same ? ?"]) hp4
 refine⟨p3,p4,_,_,rfl,rfl,s4 _ _ g3,a0h,by decide,fun p5 hp5=>?_⟩
 have s5:=Same.new (o:=.lst (strT.map V.str)) hp5
 have g5:(upd (upd H3 p4 (.lst [V.str "part ? [",.str "box ?",.str "join [ ?",.str "meet ? [ 0",.str "same ? ?"])) p5 (.lst (strT.map V.str))) p5=some (.lst (strT.map V.str)):=a0h
 have s15:=(s13.trans s4).trans s5
 change a3l 2 (.ref p5) _ (upd (upd H3 p4 (.lst [V.str "part ? [",.str "box ?",.str "join [ ?",.str "meet ? [ 0",.str "same ? ?"])) p5 (.lst (strT.map V.str))) _
 generalize upd (upd H3 p4 (.lst [V.str "part ? [",.str "box ?",.str "join [ ?",.str "meet ? [ 0",.str "same ? ?"])) p5 (.lst (strT.map V.str))=H5 at *
 walk_at "rd"
 refine⟨⟨_,SqL.of g5⟩,a6p (a2h (SqL.of g5)) (by decide) (fun i v _=>∀ t,strT[i]?=some t→v=.str (fill a "" s t)) (fun _ _ _ _ _ h=>h) (fun i H6 kk hi s6 hk=>?_) (fun l us H6 hl0 s6 hl hul hr=>?_)⟩
 · rw[c5u] at hi
   have e1:strT[i]?=some (strT[i]'hi):=c5v _
   have e2:((strT.map V.str)[i]?).getD .non=.str (strT[i]'hi):=by rw[c6c,e1];rfl
   rw[e2]
   walk_at "rd"
   refine⟨_,a,"",s,rfl,c6x (of_decide_eq_true (c6g.mp strT_ln _ (c7h hi))) (by decide),ha.2.1,by decide,c6x hs.2.1 (by decide),fun H7 s7=>hk _ _ s7 fun t e=>?_⟩
   rw[e1] at e;cases e;rfl
 rw[c5u] at hul
 refine k l us H6 (s15.trans s6) hl hul fun v hv=>?_
 obtain⟨i,hi,rfl⟩:=c7u hv
 have hi':i<strT.length:=by omega
 rw[hr i _ (c5v hi) _ (c5v hi')]
 rw[fill_noB (b':=a) (c6g.mp strT_no _ (c7h hi'))]
 exact c1k ha ha hs ha.pl (c6g.mp strT_ok _ (c7h hi'))
theorem b7e(F:a0k K mg "_law_stream" a5a ["_law_cell","_law_many"])(B:Blt mg):a0r P w K mg base CX0 1 "_law_stream" ["_law_cell","_law_many"] a5t:=by
 refine a1c F a5g (fun vs H Q E h=>?_) (fun f cdv A outer s H vs Q E hr h=>?_)
 · obtain⟨c,n,rfl,_⟩:=h;rfl
 obtain⟨c,n,rfl,hn,k⟩:=h
 have hu:=hr.units
 refine⟨_,(a0e (a0n (i:=2) a5g.nd rfl (Or.inl rfl) (a0i a2v a0b (a0i a1k (pvI 0) a0b))) (a0e (a0n (i:=3) a5g.nd rfl (Or.inl rfl) (a1f a0c)) (a0e (a5j PassesOwn.never rfl (a3z rfl B.range (a0a (a0i a2v (pvI 1) a0b) a0c)) (a0q (i:=4) a5g.nd rfl (Or.inl rfl)) (a0e (a0n (i:=2) a5g.nd rfl (Or.inl rfl) (a0i a1k (a0i a1n (pvI 2) a0b) a0b)) (a0g (a6j (show PEi _ _ (tBM K _ _ _ _) from (a5p c8k c8p c8q a5l (pvI 3) (a0a (pvI 2) a0c))))))) (a0g (a0o (a6t (b2k K) (pvI 3) (a8a a0b) a8b)))))),?_⟩
 walk_at "rd"
 intro l hl
 walk_at "rd"
 refine⟨by omega,by omega,a6u (fun i σ H'=>∃ (x:Int) (xs:List Int) (y:Option V),σ=[some (.int c),some (.int (n:Int)),some (.int x),some (.ref l),y]∧Same H H'∧H' l=some (.lst (xs.map V.int))∧xs.length=i∧∀ z∈xs,0≤z∧z≤2147483647) ⟨_,[],none,rfl,Same.new hl,a0h,rfl,fun _ h=>nomatch h⟩ ?_ ?_⟩
 · rintro i σ H2 hi ⟨x,xs,y,rfl,s2,h2,hlen,hx⟩
   walk_at "rd"
   refine⟨.inl ⟨rfl,_,SqL.of h2⟩,?_⟩
   walk_at "rd"
   refine⟨l,_,_,rfl,rfl,h2,?_,?_⟩
   · rw[c5u,hlen];exact a0j (by omega)
   · refine⟨_,xs++[x*48271 % 2147483647],_,rfl,fun b o e=>?_,?_,?_,?_⟩
     · rw[a1a (a0x e hl)];exact s2 b o e
     · rw[a0h,c9d];rfl
     · rw[c6m,hlen];rfl
     · intro z hz
       rcases c7t.mp hz with hz | hz
       · exact hx z hz
       · cases c7b.mp hz
         have:=c7l (x*48271) (b:=2147483647) (by decide)
         have:=c7g (x*48271) (b:=2147483647) (by decide)
         omega
 · rintro σ H2 ⟨x,xs,y,rfl,s2,h2,hlen,hx⟩
   refine⟨_,rfl,2,rfl,l,_,rfl,SqL.of h2,fun q hq=>?_⟩
   rw[c5g V.int xs 2 2 rfl (by omega)]
   exact k q (xs.drop 2) _ (s2.trans (Same.new hq)) (s2.free hq) a0h (by rw[c9y,hlen];omega) fun z hz=>hx z (List.mem_of_mem_drop hz)
theorem c3z(F:a0k K mg "_law_case" a7f ["_law_cell","_law_names_here","_law_stranger"])(B:Blt mg)(D_l_no_names:a0r P w K mg base CX0 2 "_law_no_names" ["_law_a","_law_b","_law_odd"] (a7u K false))(D_l_no_rows:a0r P w K mg base CX0 2 "_law_no_rows" ["_law_a","_law_b"] (b8k K))(D_l_no_words:a0r P w K mg base CX0 2 "_law_no_words" ["_law_a","_law_b","_law_odd"] (a7u K true))(D_l_strangers:a0r P w K mg base CX0 2 "_law_strangers" ["_law_a","_law_odd"] a9z)(D_l_stream:a0r P w K mg base CX0 1 "_law_stream" ["_law_cell","_law_many"] a5t):a0r P w K mg base CX0 3 "_law_case" ["_law_cell","_law_names_here","_law_stranger"] (spCase K):=by
 refine a1c F a1v (fun vs H Q E h=>?_) (fun f cdv A outer s H vs Q E hr h=>?_)
 · obtain⟨c,ln,n0,n1,n2,s,rfl,_⟩:=h;rfl
 obtain⟨c,ln,n0,n1,n2,s,rfl,hln,h0,h1,h2,hs,k⟩:=h
 have hu:=hr.units
 refine⟨_,(a0e (a0n (i:=3) a1v.nd rfl (Or.inl rfl) (a0u D_l_stream hr a1i (a0a (pvI 0) (a0a a0b a0c)))) (a0e (a0n (i:=4) a1v.nd rfl (Or.inl rfl) (a0l (a0m K) (pvI 1) (a0i a1k (a0l (a0m K) (pvI 3) a0b (fun _ _=>rfl)) a0b) (fun _ _=>rfl))) (a0e (a0n (i:=5) a1v.nd rfl (Or.inl rfl) (a0l (a0m K) (pvI 1) (a0i a1k (a0l (a0m K) (pvI 3) a0b (fun _ _=>rfl)) a0b) (fun _ _=>rfl))) (a0e (a0n (i:=6) a1v.nd rfl (Or.inl rfl) (a0i a1k (a0l (a0m K) (pvI 3) a0b (fun _ _=>rfl)) a0b)) (a0e (a1j (a0v (b9w K) (pvI 6) (a1h (a0a a0b (a0a a0b a0c))) rfl) (a0e (a0n (i:=4) a1v.nd rfl (Or.inl rfl) (a0l (a0m K) (pvI 1) (a0i a1n (a0i a1k (a0l (a0m K) (pvI 3) a0b (fun _ _=>rfl)) a0b) a0b) (fun _ _=>rfl))) (a0g (a0n (i:=5) a1v.nd rfl (Or.inl rfl) (a0l (a0m K) (pvI 1) (a0i a1n (a0i a1k (a0l (a0m K) (pvI 3) a0b (fun _ _=>rfl)) a0b) a0b) (fun _ _=>rfl))))) a0y) (a0e (a1j (a0v a4l (pvI 6) a0b (a1g _)) (a0e (a0n (i:=7) a1v.nd rfl (Or.inl rfl) (a1f (a0a a0f (a0a a0f (a0a a0f (a0a a0f (a0a a0f (a0a a0f (a0a a0f (a0a a0f (a0a a0f (a0a a0f (a0a a0f (a0a a0f (a0a a0f (a0a a0f (a0a a0f a0c))))))))))))))))) (a0e (a0n (i:=7) a1v.nd rfl (Or.inl rfl) (a0u D_l_no_words hr a1i (a0a (pvI 4) (a0a (pvI 5) (a0a (a0l (a0m K) (a0i a4u (pvI 7) (a1f (a0a (a0i c3o a0f a0b) a0c))) (a0i a1k (a0i b7c (a0l (a0m K) (pvI 3) a0b (fun _ _=>rfl)) a0b) a0b) (fun _ _=>rfl)) a0c))))) (a0g (a0o (a1h (a0a (a0l (a0m K) (pvI 7) (a0i a1k (a0l (a0m K) (pvI 3) a0b (fun _ _=>rfl)) (a0z (a2b K) (by rfl) B.len PySem.boot_len (a0a (pvI 7) a0c))) (fun _ _=>rfl)) (a0a a0b a0c))))))) a0y) (a0e (a1j (a0v a4l (pvI 6) a0b (a1g _)) (a0e (a0n (i:=7) a1v.nd rfl (Or.inl rfl) (a1f (a0a a0f (a0a a0f (a0a a0f (a0a a0f (a0a a0f (a0a a0f (a0a a0f (a0a a0f (a0a a0f a0c))))))))))) (a0e (a0n (i:=7) a1v.nd rfl (Or.inl rfl) (a0u D_l_no_names hr a1i (a0a (pvI 4) (a0a (pvI 5) (a0a (a0l (a0m K) (pvI 7) (a0i a1k (a0i b7c (a0l (a0m K) (pvI 3) a0b (fun _ _=>rfl)) a0b) a0b) (fun _ _=>rfl)) a0c))))) (a0g (a0o (a1h (a0a (a0l (a0m K) (pvI 7) (a0i a1k (a0l (a0m K) (pvI 3) a0b (fun _ _=>rfl)) (a0z (a2b K) (by rfl) B.len PySem.boot_len (a0a (pvI 7) a0c))) (fun _ _=>rfl)) (a0a a0b a0c))))))) a0y) (a0e (a1j (a0v a4l (pvI 6) a0b (a1g _)) (a0e (a0n (i:=7) a1v.nd rfl (Or.inl rfl) (a0u D_l_strangers hr a1i (a0a (pvI 4) (a0a (pvI 2) a0c)))) (a0g (a0o (a1h (a0a (a0l (a0m K) (pvI 7) (a0i a1k (a0l (a0m K) (pvI 3) a0b (fun _ _=>rfl)) (a0z (a2b K) (by rfl) B.len PySem.boot_len (a0a (pvI 7) a0c))) (fun _ _=>rfl)) (a0a a0b a0c)))))) a0y) (a0e (a1j (a0v a4l (pvI 6) a0b (a1g _)) (a0g (a0o (a0l (a0m K) (a1f (a0a (a1h (a0a (a0i a0w a0f (a0l (a0m K) (pvI 1) a0b (fun _ _=>rfl))) (a0a a0b a0c))) (a0a (a1h (a0a (a0i a0w a0f (a0l (a0m K) (pvI 1) a0b (fun _ _=>rfl))) (a0a a0b a0c))) a0c))) (a0i a1k (a0l (a0m K) (pvI 3) a0b (fun _ _=>rfl)) a0b) (fun _ _=>rfl)))) a0y) (a0e (a1j (a0v a4l (pvI 6) a0b (a1g _)) (a0e (a0n (i:=7) a1v.nd rfl (Or.inl rfl) (a1f (a0a a0f (a0a a0f (a0a a0f (a0a a0f (a0a a0f (a0a a0f (a0a a0f (a0a a0f a0c)))))))))) (a0g (a0o (a1h (a0a (a0i a0w (a0i a0w (a0i a0w (a0i a0w (a0i a0w a0f (pvI 4)) a0f) (pvI 5)) a0f) (a0l (a0m K) (pvI 7) (a0i a1k (a0l (a0m K) (pvI 3) a0b (fun _ _=>rfl)) a0b) (fun _ _=>rfl))) (a0a a0b a0c)))))) a0y) (a0e (a1j (a0v a4l (pvI 6) a0b (a1g _)) (a0e (a0n (i:=7) a1v.nd rfl (Or.inl rfl) (a1f (a0a a0f (a0a a0f (a0a a0f (a0a a0f (a0a a0f (a0a a0f (a0a (a0i a0w a0f (a0i c3o a0f a0b)) (a0a a0f (a0a a0f a0c))))))))))) (a0g (a0o (a1h (a0a (a0i a0w (a0i a0w (a0i a0w a0f (pvI 4)) a0f) (a0l (a0m K) (pvI 7) (a0i a1k (a0l (a0m K) (pvI 3) a0b (fun _ _=>rfl)) a0b) (fun _ _=>rfl))) (a0a a0b a0c)))))) a0y) (a0e (a0n (i:=7) a1v.nd rfl (Or.inl rfl) (a0u D_l_no_rows hr a1i (a0a (pvI 4) (a0a (pvI 5) a0c)))) (a0g (a0o (a1h (a0a (a0l (a0m K) (pvI 7) (a0i a1k (a0l (a0m K) (pvI 3) a0b (fun _ _=>rfl)) (a0z (a2b K) (by rfl) B.len PySem.boot_len (a0a (pvI 7) a0c))) (fun _ _=>rfl)) (a0a a0b a0c))))))))))))))))),?_⟩
 walk_at "rd"
 refine⟨c,4,rfl,by decide,fun lx xs H1 s1 hx0 hx hxl hnn=>?_⟩
 have nn:∀ j:Nat,0≤xs.getD j 0:=fun j=>b7m (fun x h=>(hnn x h).1) j
 have hx1:SqL K H1 lx (xs.map V.int):=SqL.of hx
 have hn1:=s1 _ _ hln
 walk_at "rd"
 have pick:∀ i:Int,0≤i→i<3→∃ n,atI [V.str n0,.str n1,.str n2] i=some (.str n)∧Nm n:=by
   intro i hi0 hi3
   have:i=0∨i=1∨i=2:=by omega
   rcases this with rfl | rfl | rfl
   · exact⟨n0,rfl,h0⟩
   · exact⟨n1,rfl,h1⟩
   · exact⟨n2,rfl,h2⟩
 have nn0:=nn 0
 have nn1:=nn 1
 have nn2:=nn 2
 have nn3:=nn 3
 obtain⟨a,ea,ha⟩:=pick (xs.getD 0 0 % 3) (by omega) (by omega)
 obtain⟨b,eb,hb⟩:=pick (xs.getD 1 0 % 3) (by omega) (by omega)
 refine⟨ln,_,_,_,rfl,rfl,SqL.of hn1,ea,?_⟩
 walk_at "rd"
 intro pt hpt
 have t1:=Same.new (o:=.tup [V.int 2,.int 4]) hpt
 have gt:=a0h (H:=H1) (a:=pt) (o:=.tup [V.int 2,.int 4])
 replace hx:=t1 _ _ hx
 replace hx1:SqL K _ lx (xs.map V.int):=SqL.of hx
 replace hn1:=t1 _ _ hn1
 change rIn K false (.int (xs.getD 2 0 % 7)) (.ref pt) (upd H1 pt (.tup [V.int 2,.int 4])) _
 have s2:=s1.trans t1
 generalize upd H1 pt (.tup [V.int 2,.int 4])=H2 at *
 obtain⟨w,ew⟩ : ∃ w,w=xs.getD 2 0 % 7:=⟨_,rfl⟩
 have hw:0≤w∧w<7:=by omega
 refine⟨pt,_,rfl,.inr (SqT.of gt),rfl,rfl,_,rfl,?_⟩
 refine c4p (fun σ' H'=>H'=H2∧∃ (a b:Str),σ'=[some (.int c),some (.ref ln),some (.str s),some (.ref lx),some (.str a),some (.str b),some (.int w),none]∧Nm a∧Nm b) ?_ (fun N hR _=>?_) (fun _=>⟨rfl,a,b,by rw[ew];rfl,ha,hb⟩)
 rotate_left
 · obtain⟨a',ea',ha'⟩:=pick (xs.getD 0 0 % 2*2) (by omega) (by omega)
   obtain⟨b',eb',hb'⟩:=pick (xs.getD 1 0 % 2*2) (by omega) (by omega)
   walk_at "rd"
   exact hR _ _ ⟨rfl,a',b',by rw[ew];rfl,ha',hb'⟩
 clear ea eb ha hb
 rintro σ' H' ⟨rfl,a,b,rfl,ha,hb⟩
 walk_at "rd"
 by_cases e0:w=0
 · refine ifT (by simp[e0]) ?_
   walk_at "rd"
   intro p1 hp1
   have t2:=Same.new (o:=.lst ((oddS.take 15).map V.str)) hp1
   have g1:=a0h (H:=H') (a:=p1) (o:=.lst ((oddS.take 15).map V.str))
   change a3l 7 (.ref p1) _ (upd H' p1 (.lst ((oddS.take 15).map V.str))) _
   replace hx:=t2 _ _ hx
   replace hx1:SqL K _ lx (xs.map V.int):=SqL.of hx
   have s3:=s2.trans t2
   generalize upd H' p1 (.lst ((oddS.take 15).map V.str))=H3 at *
   walk_at "rd"
   rw[repS_one]
   intro p2 hp2
   have t3:=Same.new (o:=.lst [V.str (stL oneL)]) hp2
   change rCat (.ref p1) (.ref p2) (upd H3 p2 (.lst [V.str (stL oneL)])) _
   refine⟨p1,p2,_,_,rfl,rfl,t3 _ _ g1,a0h,by decide +kernel,fun p3 hp3=>?_⟩
   have t4:=Same.new (o:=.lst (oddS.map V.str)) hp3
   have g3:=a0h (H:=upd H3 p2 (.lst [V.str (stL oneL)])) (a:=p3) (o:=.lst (oddS.map V.str))
   replace hx:=t4 _ _ (t3 _ _ hx)
   replace hx1:SqL K _ lx (xs.map V.int):=SqL.of hx
   have s4:=(s3.trans t3).trans t4
   change tOp _ _ _ _ (upd (upd H3 p2 (.lst [V.str (stL oneL)])) p3 (.lst (oddS.map V.str))) _
   generalize upd (upd H3 p2 (.lst [V.str (stL oneL)])) p3 (.lst (oddS.map V.str))=H4 at *
   obtain⟨o,eo,mo⟩:=a9g (oddS.map V.str) (xs.getD 3 0 / 16 % 16) (by omega) (by show _<(16:Int);omega)
   obtain⟨o,mo',rfl⟩:=c7d.mp mo
   walk_at "rd"
   obtain⟨w1,w2⟩:=oddS_ok mo'
   refine⟨a,b,o,rfl,ha,hb,w1,w2,fun l us H5 s5 hl hul hbv=>?_⟩
   have hl1:SqL K H5 l us:=SqL.of hl
   replace hx:=s5 _ _ hx
   replace hx1:SqL K _ lx (xs.map V.int):=SqL.of hx
   obtain⟨v,ev,mv⟩:=a9g us (xs.getD 3 0 % (us.length:Int)) (c7l _ (by omega)) (c7g _ (by omega))
   walk_at "rd"
   refine⟨by show (0:Int)<(us.length:Int);omega,?_⟩
   walk_at "rd"
   intro g hg
   have t9:=Same.new (o:=.tup [v,.int 0]) hg
   exact k g v 0 _ ((s4.trans s5).trans t9) a0h (.bad ((hbv v mv).same t9))
 refine ifF (by simp[e0]) ?_
 walk_at "rd"
 by_cases e1:w=1
 · refine ifT (by simp[e1]) ?_
   walk_at "rd"
   intro p1 hp1
   have t2:=Same.new (o:=.lst (oddN.map V.str)) hp1
   have g1:=a0h (H:=H') (a:=p1) (o:=.lst (oddN.map V.str))
   change a3l 7 (.ref p1) _ (upd H' p1 (.lst (oddN.map V.str))) _
   replace hx:=t2 _ _ hx
   replace hx1:SqL K _ lx (xs.map V.int):=SqL.of hx
   have s3:=s2.trans t2
   generalize upd H' p1 (.lst (oddN.map V.str))=H3 at *
   obtain⟨o,eo,mo⟩:=a9g (oddN.map V.str) (xs.getD 3 0 / 16 % 9) (by omega) (by show _<(9:Int);omega)
   obtain⟨o,mo',rfl⟩:=c7d.mp mo
   walk_at "rd"
   obtain⟨w1,w2⟩:=oddN_ok mo'
   refine⟨a,b,o,rfl,ha,hb,w1,w2,fun l us H5 s5 hl hul hbv=>?_⟩
   have hl1:SqL K H5 l us:=SqL.of hl
   replace hx:=s5 _ _ hx
   replace hx1:SqL K _ lx (xs.map V.int):=SqL.of hx
   obtain⟨v,ev,mv⟩:=a9g us (xs.getD 3 0 % (us.length:Int)) (c7l _ (by omega)) (c7g _ (by omega))
   walk_at "rd"
   refine⟨by show (0:Int)<(us.length:Int);omega,?_⟩
   walk_at "rd"
   intro g hg
   have t9:=Same.new (o:=.tup [v,.int 0]) hg
   exact k g v 0 _ ((s3.trans s5).trans t9) a0h (.bad ((hbv v mv).same t9))
 refine ifF (by simp[e1]) ?_
 walk_at "rd"
 by_cases e2:w=2
 · refine ifT (by simp[e2]) ?_
   walk_at "rd"
   refine⟨a,s,rfl,ha,hs,fun l us H5 s5 hl hul hbv=>?_⟩
   have hl1:SqL K H5 l us:=SqL.of hl
   replace hx:=s5 _ _ hx
   replace hx1:SqL K _ lx (xs.map V.int):=SqL.of hx
   obtain⟨v,ev,mv⟩:=a9g us (xs.getD 3 0 % (us.length:Int)) (c7l _ (by omega)) (c7g _ (by omega))
   walk_at "rd"
   refine⟨by show (0:Int)<(us.length:Int);omega,?_⟩
   walk_at "rd"
   intro g hg
   have t9:=Same.new (o:=.tup [v,.int 1]) hg
   exact k g v 1 _ ((s2.trans s5).trans t9) a0h (.str (hbv v mv))
 refine ifF (by simp[e2]) ?_
 walk_at "rd"
 have ha12:=ha.2.1
 have hb12:=hb.2.1
 have h112:=h1.2.1
 have h212:=h2.2.1
 by_cases e3:w=3
 · refine ifT (by simp[e3]) ?_
   walk_at "rd"
   refine⟨c6d (a0j (by show 6+n1.length≤100000;omega)),?_⟩
   walk_at "rd"
   intro q1 hq1
   have r1:=Same.new (o:=.tup [.str ("raise " ++ n1),.int 2]) hq1
   have z1:=a0h (H:=H') (a:=q1) (o:=.tup [.str ("raise " ++ n1),.int 2])
   replace hx:=r1 _ _ hx
   replace hx1:SqL K _ lx (xs.map V.int):=SqL.of hx
   replace hn1:=r1 _ _ hn1
   have s3:=s2.trans r1
   generalize upd H' q1 (.tup [.str ("raise " ++ n1),.int 2])=H3 at *
   walk_at "rd"
   refine⟨c6d (a0j (by show 6+n2.length≤100000;omega)),?_⟩
   walk_at "rd"
   intro q2 hq2
   have r2:=Same.new (o:=.tup [.str ("lower " ++ n2),.int 3]) hq2
   have z2:=a0h (H:=H3) (a:=q2) (o:=.tup [.str ("lower " ++ n2),.int 3])
   replace hx:=r2 _ _ hx
   replace hx1:SqL K _ lx (xs.map V.int):=SqL.of hx
   replace z1:=r2 _ _ z1
   have s4:=s3.trans r2
   generalize upd H3 q2 (.tup [.str ("lower " ++ n2),.int 3])=H4 at *
   walk_at "rd"
   intro q3 hq3
   have r3:=Same.new (o:=.lst [.ref q1,.ref q2]) hq3
   have z3:=a0h (H:=H4) (a:=q3) (o:=.lst [.ref q1,.ref q2])
   replace hx:=r3 _ _ hx
   replace hx1:SqL K _ lx (xs.map V.int):=SqL.of hx
   replace z1:=r3 _ _ z1
   replace z2:=r3 _ _ z2
   have s5:=s4.trans r3
   generalize upd H4 q3 (.lst [.ref q1,.ref q2])=H5 at *
   have hi:xs.getD 3 0 % 2=0∨xs.getD 3 0 % 2=1:=by omega
   rcases hi with hi | hi
   · have ev:atI [V.ref q1,.ref q2] (xs.getD 3 0 % 2)=some (.ref q1):=by rw[hi];rfl
     walk_at "rd"
     exact k q1 _ 2 _ s5 z1 (.rs rfl)
   · have ev:atI [V.ref q1,.ref q2] (xs.getD 3 0 % 2)=some (.ref q2):=by rw[hi];rfl
     walk_at "rd"
     exact k q2 _ 3 _ s5 z2 (.lw rfl)
 refine ifF (by simp[e3]) ?_
 walk_at "rd"
 by_cases e4:w=4
 · refine ifT (by simp[e4]) ?_
   walk_at "rd"
   intro p1 hp1
   have t2:=Same.new (o:=.lst (lvlT.map V.str)) hp1
   have g1:=a0h (H:=H') (a:=p1) (o:=.lst (lvlT.map V.str))
   change a3l 7 (.ref p1) _ (upd H' p1 (.lst (lvlT.map V.str))) _
   replace hx:=t2 _ _ hx
   replace hx1:SqL K _ lx (xs.map V.int):=SqL.of hx
   have s3:=s2.trans t2
   generalize upd H' p1 (.lst (lvlT.map V.str))=H3 at *
   obtain⟨o,eo,mo⟩:=a9g (lvlT.map V.str) (xs.getD 3 0 % 8) (by omega) (by show _<(8:Int);omega)
   obtain⟨o,mo',rfl⟩:=c7d.mp mo
   have o60:=of_decide_eq_true (c6g.mp lvlT_ln _ mo')
   have l1:∀ n m:Nat,n+m≤1000→n+m≤sizeLine:=fun n m h=>c6d (a0j (by omega))
   walk_at "rd"
   refine⟨l1 _ _ (by simp only[a2e,a1l.1,a1l.2.1,a1l.2.2];omega),?_⟩
   walk_at "rd"
   refine⟨l1 _ _ (by simp only[a2e,a1l.1,a1l.2.1,a1l.2.2];omega),?_⟩
   walk_at "rd"
   refine⟨l1 _ _ (by simp only[a2e,a1l.1,a1l.2.1,a1l.2.2];omega),?_⟩
   walk_at "rd"
   refine⟨l1 _ _ (by simp only[a2e,a1l.1,a1l.2.1,a1l.2.2];omega),?_⟩
   walk_at "rd"
   refine⟨l1 _ _ (by simp only[a2e,a1l.1,a1l.2.1,a1l.2.2];omega),?_⟩
   walk_at "rd"
   intro g hg
   exact k g _ 0 _ (s3.trans (Same.new hg)) a0h (.bad (meet_bad ha hb mo'))
 refine ifF (by simp[e4]) ?_
 walk_at "rd"
 by_cases e5:w=5
 · refine ifT (by simp[e5]) ?_
   walk_at "rd"
   rw[repS_pts]
   intro p1 hp1
   have t2:=Same.new (o:=.lst (ptsT.map V.str)) hp1
   have g1:=a0h (H:=H') (a:=p1) (o:=.lst (ptsT.map V.str))
   change a3l 7 (.ref p1) _ (upd H' p1 (.lst (ptsT.map V.str))) _
   replace hx:=t2 _ _ hx
   replace hx1:SqL K _ lx (xs.map V.int):=SqL.of hx
   have s3:=s2.trans t2
   generalize upd H' p1 (.lst (ptsT.map V.str))=H3 at *
   obtain⟨o,eo,mo⟩:=a9g (ptsT.map V.str) (xs.getD 3 0 % 9) (by omega) (by show _<(9:Int);omega)
   obtain⟨o,mo',rfl⟩:=c7d.mp mo
   have o60:=of_decide_eq_true (c6g.mp ptsT_ln _ mo')
   have l1:∀ n m:Nat,n+m≤1000→n+m≤sizeLine:=fun n m h=>c6d (a0j (by omega))
   walk_at "rd"
   refine⟨l1 _ _ (by simp only[a2e,a1l.1,a1l.2.1,a1l.2.2];omega),?_⟩
   walk_at "rd"
   refine⟨l1 _ _ (by simp only[a2e,a1l.1,a1l.2.1,a1l.2.2];omega),?_⟩
   walk_at "rd"
   refine⟨l1 _ _ (by simp only[a2e,a1l.1,a1l.2.1,a1l.2.2];omega),?_⟩
   walk_at "rd"
   intro g hg
   exact k g _ 0 _ (s3.trans (Same.new hg)) a0h (.bad (c5h ha mo'))
 refine ifF (by simp[e5]) ?_
 walk_at "rd"
 refine⟨a,b,rfl,ha,hb,fun l us H5 s5 hl hul hbv=>?_⟩
 have hl1:SqL K H5 l us:=SqL.of hl
 replace hx:=s5 _ _ hx
 replace hx1:SqL K _ lx (xs.map V.int):=SqL.of hx
 obtain⟨v,ev,mv⟩:=a9g us (xs.getD 3 0 % (us.length:Int)) (c7l _ (by omega)) (c7g _ (by omega))
 walk_at "rd"
 refine⟨by show (0:Int)<(us.length:Int);omega,?_⟩
 walk_at "rd"
 intro g hg
 have t9:=Same.new (o:=.tup [v,.int 0]) hg
 exact k g v 0 _ ((s2.trans s5).trans t9) a0h (.bad ((hbv v mv).same t9))
theorem b5k(F:a0k K mg "_law_cell_at" a4k ["_law_script","_law_k"])(B:Blt mg):a0r P w K mg base CX0 1 "_law_cell_at" ["_law_script","_law_k"] (spCell K):=by
 refine a1c F b4r (fun vs H Q E h=>?_) (fun f cdv A outer s H vs Q E hr h=>?_)
 · obtain⟨a,ns,i,rfl,_⟩:=h;rfl
 obtain⟨a,ns,i,rfl,hS,h0,k⟩:=h
 have hu:=hr.units
 refine⟨_,(a0e (a1j (a0v op_lt (pvI 1) (a0z (a2b K) (by rfl) B.len PySem.boot_len (a0a (pvI 0) a0c)) (a1g _)) (a0g (a0o (a0l (a0m K) (pvI 0) (pvI 1) (fun _ _=>rfl)))) a0y) (a0g (a0o a0b))),?_⟩
 refine⟨_,rfl,_,rfl,a,_,rfl,.inl hS,_,_,rfl,rfl,_,rfl,a4e (fun hn=>?_) (fun hn=>?_)⟩
 · rw[c5u] at hn
   refine⟨_,rfl,_,rfl,a,_,_,_,rfl,rfl,hS,b7w ns i h0 hn,?_⟩
   exact k _
 · exact k 0
theorem b0s(F:a0k K mg "_law_share_text" a2r ["_law_one"])(B:Blt mg):a0r P w K mg base CX0 1 "_law_share_text" ["_law_one"] spLTxS:=by
 refine a1c F b0g (fun vs H Q E h=>?_) (fun f cdv A outer s H vs Q E hr h=>?_)
 · obtain⟨v,q,rfl,_⟩:=h;rfl
 obtain⟨_,q,rfl,⟨a,rfl,ha⟩,hq,k⟩:=h
 have hu:=hr.units
 refine⟨_,(a0e (a1j (a0v a4l (a0l (a1d K) (pvI 0) a0b (fun _ _=>rfl)) a0b (a1g _)) (a0g (a0o (a4a a4b rfl B.str c8a (a0a (a0l (a1d K) (pvI 0) a0b (fun _ _=>rfl)) a0c)))) a0y) (a0g (a0o (a0i a0w (a0i a0w (a4a a4b rfl B.str c8a (a0a (a0l (a1d K) (pvI 0) a0b (fun _ _=>rfl)) a0c)) a0f) (a4a a4b rfl B.str c8a (a0a (a0l (a1d K) (pvI 0) a0b (fun _ _=>rfl)) a0c)))))),?_⟩
 have l1:=a8o (k:=300) (by decide) (show FgN 300 q.num from hq.1)
 have hdn:FgN 300 (q.den:Int):=by unfold FgN;rw[c6w];exact hq.2
 have l2:=a8o (k:=300) (by decide) hdn
 have g1:=a8f (i:=q.num) hq.1
 have g2:=a8f (i:=(q.den:Int)) hdn
 walk_at "rd"
 refine a4e (fun h=>?_) (fun h=>?_)
 · have hd1:q.den=1:=by exact_mod_cast V.int.inj h
   walk_at "rd"
   refine⟨g1,?_⟩
   have e:tN q.num=tSh q:=(if_pos hd1).symm
   show Q (.str (tN q.num)) H
   rw[e]
   exact k
 · have hd1:q.den≠1:=fun e=>h (by rw[e];rfl)
   walk_at "rd"
   refine⟨g1,?_⟩
   refine⟨_,_,rfl,rfl,c6d (a0j (by show (tN q.num).length+1≤100000;omega)),?_⟩
   walk_at "rd"
   refine⟨g2,?_⟩
   refine⟨_,_,rfl,rfl,c6d (a0j (by rw[a2e];show (tN q.num).length+1+(tN (q.den:Int)).length≤100000;omega)),?_⟩
   have e:tN q.num ++ "/" ++ tN (q.den:Int)=tSh q:=(if_neg hd1).symm
   show Q (.str (tN q.num ++ "/" ++ tN (q.den:Int))) H
   rw[e]
   exact k
theorem b0t(F:a0k K mg "_law_point_text" a2s ["_law_place_here"])(D_l_share_text:a0r P w K mg base CX0 1 "_law_share_text" ["_law_one"] spLTxS):a0r P w K mg base CX0 2 "_law_point_text" ["_law_place_here"] spLTxP:=by
 refine a1c F b0h (fun vs H Q E h=>?_) (fun f cdv A outer s H vs Q E hr h=>?_)
 · obtain⟨v,x,y,rfl,_⟩:=h;rfl
 obtain⟨_,x,y,rfl,⟨a,vx,vy,rfl,ha,hx,hy⟩,hq,k⟩:=h
 have hu:=hr.units
 refine⟨_,(a0g (a0o (a0i a0w (a0i a0w (a0u D_l_share_text hr a1i (a0a (a0l (a1d K) (pvI 0) a0b (fun _ _=>rfl)) a0c)) a0f) (a0u D_l_share_text hr a1i (a0a (a0l (a1d K) (pvI 0) a0b (fun _ _=>rfl)) a0c))))),?_⟩
 have l1:=a9v (k:=300) (by decide) hq.1
 have l2:=a9v (k:=300) (by decide) hq.2
 dsimp only at l1 l2
 walk_at "rd"
 refine⟨vx,x,rfl,hx,hq.1,?_⟩
 walk_at "rd"
 refine⟨c6d (a0j (by show (tSh x).length+1≤100000;omega)),?_⟩
 walk_at "rd"
 refine⟨vy,y,rfl,hy,hq.2,?_⟩
 refine⟨_,_,rfl,rfl,c6d (a0j (by rw[a2e];show (tSh x).length+1+(tSh y).length≤100000;omega)),?_⟩
 exact k
theorem b0u(F:a0k K mg "_law_curve_text" a2d ["_law_curve"])(D_l_point_text:a0r P w K mg base CX0 2 "_law_point_text" ["_law_place_here"] spLTxP):a0r P w K mg base CX0 3 "_law_curve_text" ["_law_curve"] (spLTxC K):=by
 refine a1c F b0i (fun vs H Q E h=>?_) (fun f cdv A outer s H vs Q E hr h=>?_)
 · obtain⟨a,ws,ps,rfl,_⟩:=h;rfl
 obtain⟨a,ws,ps,rfl,ha,hP,hq,hn,k⟩:=h
 have hu:=hr.units
 refine⟨_,(a0g (a0o (show PEi _ _ (tBM K _ _ _ _) from (a5p c7n c9a c9b (a8e K) a0f (a0a (a1o (os:=["_law_place_here"]) (caps:=[]) ["_law_curve"] (a0d a2d) (a1r K (pvI 0)) (fun _ _ _ _ _=>(a0q (i:=0) (show c7j (["_law_place_here"]:List Str) from by decide +kernel) rfl (Or.inl rfl))) (fun _ _ _ _ _=>(a0u D_l_point_text hr a1i (a0a (pvI 0) a0c))) (by decide +kernel)) a0c))))),?_⟩
 have hwl:=hP.len
 walk_at "rd"
 refine⟨⟨_,SqL.of ha⟩,a6p (a2h (SqL.of ha)) (by omega) (fun i v H=>∀ p,ps[i]?=some p→v=.str (tPt p)) (fun _ _ _ _ tt h=>h) (fun i H2 kk hi s2 hk=>?_) (fun D ys H2 hD s2 hd hl hr=>?_)⟩
 · have hi':i<ps.length:=by omega
   have ep:ps[i]?=some (ps[i]'hi'):=c5v _
   obtain⟨v,ev,gv⟩:=hP.at ep
   have hp:=hq _ (c6t ep)
   generalize ps[i]'hi'=p at *
   rw[show (ws[i]?).getD .non=v by rw[ev];rfl]
   walk_at "rd"
   refine⟨v,_,_,rfl,gv.same s2,hp,?_⟩
   refine hk _ _ (L2.Same.refl _) fun p' e=>?_
   rw[ep] at e;cases e
   rfl
 have ey:ys=(ps.map tPt).map V.str:=c1i (by omega) hr
 rw[ey] at hd
 walk_at "rd"
 refine⟨_,D,ps.map tPt,rfl,rfl,SqL.of hd,b1c (B:=1207) (fun t ht=>by obtain⟨p,hp,rfl⟩:=c7d.mp ht;exact b4d (by decide) (hq p hp)) ?_,?_⟩
 · rw[c5u]
   have e:(" " : Str).length=1:=rfl
   rw[e];omega
 rw[a7q]
 exact k H2 s2
theorem c0b(F:a0k K mg "_law_share" a5w ["_law_top","_law_bottom"])(B:Blt mg):a0r P w K mg base CX0 1 "_law_share" ["_law_top","_law_bottom"] b8m:=by
 refine a1c F a4y (fun vs H Q E h=>?_) (fun f cdv A outer s H vs Q E hr h=>?_)
 · obtain⟨a,b,rfl,_⟩:=h;rfl
 obtain⟨t,b,rfl,hb,hz,k⟩:=h
 have hu:=hr.units
 refine⟨_,(a0e (a0n (i:=2) a4y.nd rfl (Or.inl rfl) (a0z b3u (by rfl) B.abs PyProof.Rows.boot_abs (a0a (pvI 0) a0c))) (a0e (a0n (i:=3) a4y.nd rfl (Or.inl rfl) (pvI 1)) (a0e (a7z PassesOwn.never (a0v b9x (pvI 3) a0b (a1g _)) (a0e (a0n (i:=4) a4y.nd rfl (Or.inl rfl) (a0i a1k (pvI 2) (pvI 3))) (a0e (a0n (i:=2) a4y.nd rfl (Or.inl rfl) (pvI 3)) (a0g (a0n (i:=3) a4y.nd rfl (Or.inl rfl) (pvI 4)))))) (a0g (a0o (a1h (a0a (a0i a5q (pvI 0) (pvI 2)) (a0a (a0i a5q (pvI 1) (pvI 2)) a0c)))))))),?_⟩
 have g0:(c6o t b:Int)≠0:=b9e t b (by omega)
 have gz:Sz 9000 (c6o t b:Int):=hz.le (by
   rw[c6w]
   exact Nat.le_of_dvd (by omega) (Int.gcd_dvd_natAbs_right t b))
 walk_at "rd"
 refine a9n (fun σ H'=>∃ (x y:Int) (z:Option V),σ=[some (.int t),some (.int b),some (.int x),some (.int y),z]∧H'=H∧0≤x∧0≤y∧c6o x y=c6o t b) (fun σ _=>match σ with | [_,_,_,some (.int y),_]=>y.natAbs | _=>0) ⟨_,b,none,rfl,rfl,by split<;>omega,by omega,gcd_abs t b⟩ ?_ ?_
 · rintro σ H' ⟨x,y,z,rfl,rfl,hx,hy,e⟩
   refine⟨_,rfl,_,_,rfl,rfl,_,rfl,a4e (fun h0=>?_) (fun h0=>?_)⟩
   · refine⟨_,rfl,_,rfl,_,_,rfl,rfl,h0,?_⟩
     walk_at "rd"
     refine⟨⟨_,_,_,rfl,rfl,hy,c7l x (by omega),?_⟩,?_⟩
     · rw[emod_gcd x y h0];exact e
     · show (x % y).natAbs<y.natAbs
       have:=c7g x h0
       have:=c7l x (b:=y) (by omega)
       omega
   · have h0':y=0:=by omega
     subst h0'
     have hg:=low_gcd hx e
     subst hg
     refine⟨_,rfl,_,rfl,_,_,rfl,rfl,⟨g0,gz⟩,_,rfl,_,rfl,_,_,rfl,rfl,⟨g0,gz⟩,(by show 2≤sizeLine;decide),fun p hp=>?_⟩
     have e:=b0b t b hb
     refine k _ _ (Same.new hp) ⟨p,rfl,?_⟩
     rw[a0h,← e.1,← e.2]
 · rintro σ H' Q Q' hq ⟨v,h1,i,j,h2,h3,c,h4,h5⟩
   exact⟨v,h1,i,j,h2,h3,c,h4,hq _ _ h5⟩
theorem b7f(F:a0k K mg "_law_handed" a4j ["_law_places","_law_bottom"])(D_l_share:a0r P w K mg base CX0 1 "_law_share" ["_law_top","_law_bottom"] b8m):a0r P w K mg base CX0 2 "_law_handed" ["_law_places","_law_bottom"] (b8p K):=by
 refine a1c F b6r (fun vs H Q E h=>?_) (fun f cdv A outer s H vs Q E hr h=>?_)
 · obtain⟨a,ws,pl,B,rfl,_⟩:=h;rfl
 obtain⟨a,ws,pl,B,rfl,hS,hP,B1,zB,h1000,k⟩:=h
 have hu:=hr.units
 refine⟨_,(a0g (a0o (a1o (os:=["_law_x","_law_y"]) (caps:=[(1,"_law_bottom")]) ["_law_places","_law_bottom"] (a0d a4j) (a1r K (pvI 0)) (fun _ _ _ _ _=>(a3d (n:=2) K rfl (a1b (a0q (i:=0) (show c7j (["_law_x","_law_y","_law_bottom"]:List Str) from by decide +kernel) rfl (Or.inl rfl)) (a1b (a0q (i:=1) (show c7j (["_law_x","_law_y","_law_bottom"]:List Str) from by decide +kernel) rfl (Or.inl rfl)) a2n)))) (fun _ _ _ _ _=>(a1h (a0a (a0u D_l_share hr a1i (a0a (pvI 0) (a0a (pvI 2) a0c))) (a0a (a0u D_l_share hr a1i (a0a (pvI 1) (a0a (pvI 2) a0c))) a0c)))) (by decide +kernel)))),?_⟩
 walk_at "rd"
 refine⟨⟨_,hS⟩,comp2 (c2z hS hP) (by omega) (fun i v H=>PtV H v (c6y ((pl[i]?).getD (0,0)).1 B) (c6y ((pl[i]?).getD (0,0)).2 B)) (fun _ _ _ _ t h=>h.tup t) (fun i H2 kk hi s2 hk=>?_) (fun E us H2 hE s2 hE2 hl hr=>?_)⟩
 · walk_at "rd"
   refine⟨_,_,rfl,by omega,zB,fun v3 H3 s3 w3=>?_⟩
   walk_at "rd"
   refine⟨_,_,rfl,by omega,zB,fun v4 H4 s4 w4=>?_⟩
   walk_at "rd"
   intro p hp
   exact hk _ _ (by walk_at "sm") ⟨p,v3,v4,rfl,a0h,by walk_at "mv",by walk_at "mv"⟩
 · refine k E us H2 s2 hE hE2 ⟨by rw[hl];unfold a6s;rw[c5u],fun i v p e1 e2=>?_⟩
   unfold a6s at e2
   rw[c6c] at e2
   have:=hr i v e1
   cases e3:pl[i]? with
   | none=>rw[e3] at e2;cases e2
   | some q=>rw[e3] at e2 this;cases e2;exact this
theorem c0e(F:a0k K mg "_law_names" a4p ["_law_cell","_law_many"])(B:Blt mg)(D_l_stream:a0r P w K mg base CX0 1 "_law_stream" ["_law_cell","_law_many"] a5t):a0r P w K mg base CX0 2 "_law_names" ["_law_cell","_law_many"] b4i:=by
 refine a1c F a1s (fun vs H Q E h=>?_) (fun f cdv A outer s H vs Q E hr h=>?_)
 · obtain⟨c,m,rfl,_⟩:=h;rfl
 obtain⟨c,m,rfl,m1,m12,k⟩:=h
 have hu:=hr.units
 refine⟨_,(a0e (a0n (i:=2) a1s.nd rfl (Or.inr rfl) a0f) (a0e (a0n (i:=3) a1s.nd rfl (Or.inr rfl) (a0u D_l_stream hr a1i (a0a (pvI 0) (a0a a0b a0c)))) (a0e (a0n (i:=4) a1s.nd rfl (Or.inl rfl) (a0i a2v a0b (a0i a1k (a0l (a0m K) (pvI 3) a0b (fun _ _=>rfl)) a0b))) (a0e (a0n (i:=5) a1s.nd rfl (Or.inl rfl) (a0i a1k (a0l (a0m K) (pvI 3) a0b (fun _ _=>rfl)) (pvI 4))) (a0e (a1j (a0v a4l (a0i a1k (a0l (a0m K) (pvI 3) a0b (fun _ _=>rfl)) a0b) a0b (a1g _)) (a0e (a0n (i:=6) a1s.nd rfl (Or.inr rfl) (show PEi _ _ (tBM K _ _ _ _) from (a5p c7n c9a c9b (a8e K) a0f (a0a (a1o (os:=["_law_j"]) (caps:=[(2,"_law_letters"),(3,"_law_row")]) ["_law_cell","_law_many","_law_letters","_law_row","_law_size","_law_at","_law_word","_law_found","_law_k","_law_name","_law_j","_law_place_here"] (a0d a4p) (a3z rfl B.range (a0a a0b a0c)) (fun _ _ _ _ _=>(a0q (i:=0) (show c7j (["_law_j","_law_letters","_law_row"]:List Str) from by decide +kernel) rfl (Or.inl rfl))) (fun _ _ _ _ _=>(a0l c4i (pvI 1) (a0i a1k (a0l (a0m K) (pvI 2) (a0i a2v a0b (pvI 0)) (fun _ _=>rfl)) a0b) (fun _ _=>rfl))) (by decide +kernel)) a0c)))) (a0g (a0o (a1o (os:=["_law_k"]) (caps:=[(6,"_law_word"),(3,"_law_row"),(1,"_law_many")]) ["_law_cell","_law_many","_law_letters","_law_row","_law_size","_law_at","_law_word","_law_found","_law_k","_law_name","_law_j","_law_place_here"] (a0d a4p) (a3z rfl B.range (a0a (pvI 1) a0c)) (fun _ _ _ _ _=>(a0q (i:=0) (show c7j (["_law_k","_law_word","_law_row","_law_many"]:List Str) from by decide +kernel) rfl (Or.inl rfl))) (fun _ _ _ _ _=>(a6t sl_str (pvI 1) a8b (a8a (a0i a2v (a0i a2v (pvI 0) a0b) (a0i a1k (a0l (a0m K) (pvI 2) a0b (fun _ _=>rfl)) (a0i a4t a0b (pvI 3))))))) (by decide +kernel))))) a0y) (a0e (a0n (i:=7) a1s.nd rfl (Or.inl rfl) (a1f a0c)) (a0e (a5j PassesOwn.never rfl (a3z rfl B.range (a0a (pvI 1) a0c)) (a0q (i:=8) a1s.nd rfl (Or.inl rfl)) (a0e (a0n (i:=9) a1s.nd rfl (Or.inl rfl) a0f) (a0e (a5j PassesOwn.never rfl (a3z rfl B.range (a0a (pvI 4) a0c)) (a0q (i:=10) a1s.nd rfl (Or.inl rfl)) (a0e (a0n (i:=11) a1s.nd rfl (Or.inl rfl) (a0l (a0m K) (pvI 3) (a0i a2v a0b (pvI 10)) (fun _ _=>rfl))) (a0e (a1j (a0v a4l (pvI 10) (pvI 5) (a1g _)) (a0g (a0n (i:=11) a1s.nd rfl (Or.inl rfl) (a0i a2v (pvI 11) (pvI 8)))) a0y) (a0g (a0n (i:=9) a1s.nd rfl (Or.inl rfl) (a0i a0w (pvI 9) (a0l c4i (pvI 2) (a0i a1k (pvI 11) a0b) (fun _ _=>rfl)))))))) (a0g (a6j (show PEi _ _ (tBM K _ _ _ _) from (a5p c8k c8p c8q a5l (pvI 7) (a0a (pvI 9) a0c)))))))) (a0g (a0o (pvI 7)))))))))),?_⟩
 walk_at "rd"
 refine⟨c,15,rfl,by decide,fun lr xs H1 s1 hlr0 hlr hxl hx0=>?_⟩
 have b0:=c7l (xs.getD (c7s 0) 0) (b:=12) (by decide)
 have b1:=c7g (xs.getD (c7s 0) 0) (b:=12) (by decide)
 walk_at "rd"
 refine⟨by show (0:Int)<1+xs.getD (c7s 0) 0 % 12;omega,?_⟩
 walk_at "rd"
 dsimp only
 have ltr:∀ (j:Int),0≤j→j<26→∃ c,atI ("abcdefghijklmnopqrstuvwxyz" : Str).cps.toList j=some c∧97≤c∧c≤122:=fun j=>let_at
 have ltrN:∀ (j:Int),0≤j→j<26→∃ c,atI ("abcdefghijklmnopqrstuvwxyz" : Str).cps.toList j=some c∧c=97+j.toNat:=fun j=>let_atN
 have lsz:("abcdefghijklmnopqrstuvwxyz" : Str).length≤sizeLine:=c6d (a0j (by decide))
 refine ite2 (fun _=>?_) (fun _=>?_)
 · walk_at "rd"
   refine a6p (a7k _ _ _) (by decide) (fun i v H=>∃ c,v=.str ⟨#[c]⟩∧97≤c∧c≤122) (fun _ _ _ _ tt h=>h) (fun i H2 kk hi s2 hk=>?_) (fun D ys H2 hD s2 hd hl hr=>?_)
   · have hi12:i<12:=hi
     have hlr2:=s2 _ _ hlr
     walk_at "rd"
     obtain⟨cc,ec,hc⟩:=ltr (xs.getD (2+(0+(i:Int))).toNat 0 % 26) (c7l _ (by decide)) (c7g _ (by decide))
     refine⟨_,_,cc,rfl,rfl,lsz,ec,?_⟩
     exact hk _ _ (L2.Same.refl _) ⟨cc,rfl,hc⟩
   have hl12:ys.length=12:=hl
   obtain⟨ts,ey,ht⟩ : ∃ ts:List Str,ys=ts.map V.str∧∀ t∈ts,∃ c,t=⟨#[c]⟩∧97≤c∧c≤122:=c3s hr
   subst ey
   rw[c5u] at hl12
   obtain⟨j1,j2⟩:=c3t ht
   have hlr2:=s2 _ _ hlr
   walk_at "rd"
   refine⟨_,D,ts,rfl,rfl,SqL.of hd,b1c (B:=1) (fun t h=>by obtain⟨c,rfl,_⟩:=ht t h;exact c6l _) ?_,?_⟩
   · have e:("" : Str).length=0:=rfl
     rw[e,hl12];decide
   rw[a7q]
   generalize Str.join "" ts=word at *
   have d0:(0:Int)<13 - (m:Int):=by omega
   have r0:=c7l (xs.getD (c7s 0) 0) (b:=13 - (m:Int)) (by omega)
   have r1:=c7g (xs.getD (c7s 0) 0) (b:=13 - (m:Int)) (by omega)
   walk_at "rd"
   refine⟨by omega,by omega,?_⟩
   refine a6p (a7k _ _ _) (by show (m:Int).toNat≤100000;omega) (fun i v H=>∃ s,v=.str s∧Nm s∧(s.length:Int)=0+(i:Int)+1+xs.getD (c7s 0) 0 % (13 - (m:Int))) (fun _ _ _ _ tt h=>h) (fun i H3 kk hi s3 hk=>?_) (fun D3 ys3 H3 hD3 s3 hd3 hl3 hr3=>?_)
   · have hi12:i<m:=by simpa using hi
     have hlr3:=s3 _ _ hlr2
     walk_at "rd"
     refine⟨d0,?_⟩
     walk_at "rd"
     refine⟨by omega,?_⟩
     refine hk _ _ (L2.Same.refl _) ⟨_,rfl,nm_slice j2 ?_ ?_ ?_,c2e ?_ ?_⟩
     · show 1≤0+(i:Int)+1+xs.getD (c7s 0) 0 % (13 - (m:Int));omega
     · show 0+(i:Int)+1+xs.getD (c7s 0) 0 % (13 - (m:Int))≤_;omega
     · show 0+(i:Int)+1+xs.getD (c7s 0) 0 % (13 - (m:Int))≤_;omega
     · show 1≤0+(i:Int)+1+xs.getD (c7s 0) 0 % (13 - (m:Int));omega
     · show 0+(i:Int)+1+xs.getD (c7s 0) 0 % (13 - (m:Int))≤_;omega
   obtain⟨ss,rfl,hss⟩:=b8g (P:=fun i s=>Nm s∧(s.length:Int)=0+(i:Int)+1+xs.getD (c7s 0) 0 % (13 - (m:Int))) 0 fun i v e=>by rw[Nat.zero_add];exact hr3 i v e
   have s12:=s1.trans s2
   exact k D3 ss H3 (s12.trans s3) (s12.free hD3) hd3 (by rw[c5u] at hl3;rw[hl3];show (m:Int).toNat=m;omega) (fun s h=>by obtain⟨i,hi,rfl⟩:=c7u h;exact (hss i _ (c5v hi)).1) (b5l (fun s=>(s.length:Int)) (fun i=>0+((0+i:Nat):Int)+1+xs.getD (c7s 0) 0 % (13 - (m:Int))) (fun i s e=>(hss i s e).2) fun i j _ _ e=>by omega)
 · walk_at "rd"
   intro lf hlf
   have v2:=Same.new (o:=.lst []) hlf
   have k2:=a0h (H:=H1) (a:=lf) (o:=.lst [])
   have hlr1:=hlr
   generalize hgs:1+xs.getD (c7s 0) 0 % 12=sz at *
   generalize hga:xs.getD (c7s 1) 0 % sz=at0 at *
   have z1:1≤sz:=by omega
   have z12:sz≤12:=by omega
   have a0:0≤at0:=hga ▸ c7l _ (by omega)
   have a1:at0<sz:=hga ▸ c7g _ (by omega)
   walk_at "rd"
   refine⟨by omega,by omega,a6u (fun i σ H'=>∃ (y8 y9 y10 y11:Option V) (ss:List Str),σ=[some (.int c),some (.int (m:Int)),some (.str "abcdefghijklmnopqrstuvwxyz"),some (.ref lr),some (.int sz),some (.int at0),none,some (.ref lf),y8,y9,y10,y11]∧Same H1 H'∧H' lf=some (.lst (ss.map V.str))∧ss.length=i∧(∀ s∈ss,Nm s)∧∀ (i:Nat) (s:Str),ss[i]?=some s→SgN (xs.getD (2+at0).toNat 0) at0.toNat i s) ⟨none,none,none,none,[],rfl,v2,k2,rfl,(fun s h=>nomatch h),fun i s h=>by cases h⟩ ?_ ?_⟩
   · rintro i σ H2 hi ⟨y8,y9,y10,y11,ss,rfl,s2,hf2,hl2,hss,hsg⟩
     have him:i<m:=by have:i<(m:Int).toNat:=hi;omega
     have hlr2:=s2 _ _ hlr1
     walk_at "rd"
     refine⟨by omega,by omega,a6u (fun j σ H'=>∃ (y10 y11:Option V) (s:Str),σ=[some (.int c),some (.int (m:Int)),some (.str "abcdefghijklmnopqrstuvwxyz"),some (.ref lr),some (.int sz),some (.int at0),none,some (.ref lf),some (.int (0+(i:Int))),some (.str s),y10,y11]∧H'=H2∧s.length=j∧Lt s∧(at0.toNat<j→SgN (xs.getD (2+at0).toNat 0) at0.toNat i s)) ⟨_,_,"",rfl,rfl,rfl,lt_empty,fun h=>absurd h (Nat.not_lt_zero _)⟩ ?_ ?_⟩
     · rintro j σ H3 hj ⟨y10,y11,s,rfl,rfl,hs1,hs2,hs3⟩
       have hj12:j<12:=by have:j<sz.toNat:=hj;omega
       walk_at "rd"
       dsimp only
       refine ite2 (fun hb=>?_) (fun hb=>?_)
       · walk_at "rd"
         obtain⟨cc,ec,hcN⟩:=ltrN ((xs.getD (2+(0+(j:Int))).toNat 0+(0+(i:Int))) % 26) (c7l _ (by decide)) (c7g _ (by decide))
         refine⟨_,_,cc,rfl,rfl,lsz,ec,?_⟩
         refine⟨_,_,rfl,rfl,c6d (a0j (by show s.length+1≤100000;omega)),?_⟩
         exact⟨_,_,_,rfl,rfl,by rw[b8y,hs1],c4d hs2 (by omega),c2g hs1 hs3 fun e=>by rw[hcN,show (2+(0+(j:Int)))=2+at0 from by omega]⟩
       · walk_at "rd"
         obtain⟨cc,ec,hc⟩:=ltr (xs.getD (2+(0+(j:Int))).toNat 0 % 26) (c7l _ (by decide)) (c7g _ (by decide))
         refine⟨_,_,cc,rfl,rfl,lsz,ec,?_⟩
         refine⟨_,_,rfl,rfl,c6d (a0j (by show s.length+1≤100000;omega)),?_⟩
         exact⟨_,_,_,rfl,rfl,by rw[b8y,hs1],c4d hs2 hc,c2g hs1 hs3 fun e=>absurd hb (by simp;omega)⟩
     · rintro σ H3 ⟨y10,y11,s,rfl,rfl,hs1,hs2,hs3⟩
       walk_at "rd"
       refine⟨.inl ⟨rfl,_,SqL.of hf2⟩,?_⟩
       walk_at "rd"
       refine⟨lf,_,_,rfl,rfl,hf2,?_,?_⟩
       · rw[c5u,hl2];exact a0j (by omega)
       · refine⟨_,_,_,_,ss++[s],rfl,fun b o e=>?_,?_,?_,?_,?_⟩
         · rw[a1a (a0x e hlf)];exact s2 b o e
         · rw[a0h,c9d];rfl
         · rw[c6m,hl2];rfl
         · intro z hz
           rcases c7t.mp hz with hz | hz
           · exact hss z hz
           · cases c7b.mp hz
             exact⟨by omega,by omega,hs2⟩
         · intro i' z e
           rcases Nat.lt_or_ge i' ss.length with h | h
           · rw[c7c h] at e;exact hsg i' z e
           · have:i'=i:=by
               have:=(c6h.mp e).1
               rw[c6m] at this
               have:i' < ss.length+1:=this
               omega
             subst this
             rw[c6v h,hl2,Nat.sub_self] at e
             cases e
             exact hs3 (by show at0.toNat<sz.toNat;omega)
   · rintro σ H2 ⟨y8,y9,y10,y11,ss,rfl,s2,hf2,hl2,hss,hsg⟩
     walk_at "rd"
     exact k lf ss H2 (s1.trans s2) (s1.free hlf) hf2 (by rw[hl2];show (m:Int).toNat=m;omega) hss (sg_nodup (by rw[hl2];show (m:Int).toNat≤12;omega) hsg)
theorem b5i{C_Desk:Addr}(T_Desk:ClsK K mg "Desk" C_Desk)(N_Desk_kept:a6y K C_Desk "kept")(F:a0k K mg "_law_refused" a3j ["_law_desk","_law_row","_law_kind"])(B:Blt mg){C_SeatError C_NoText C_NoName C_TooMany C_NoLower C_NoShare C_NoMap C_NoJoin C_NoPlace:Addr}(X:Exc K mg C_SeatError C_NoText C_NoName C_TooMany C_NoLower C_NoShare C_NoMap C_NoJoin C_NoPlace)(D_Desk_say:a8l P w K mg base (CXx P w) 8 C_Desk "say" ["self","row"] (b8i K C_Desk C_NoText C_NoName C_TooMany C_NoLower)):a0r P w K mg base CX0 9 "_law_refused" ["_law_desk","_law_row","_law_kind"] (spRefd K C_Desk):=by
 refine a1c F a6r (fun vs H Q E h=>?_) (fun f cdv A outer s H vs Q E hr h=>?_)
 · obtain⟨x,d,v,cs,kd,n1,n2,s,rfl,_⟩:=h;rfl
 obtain⟨x,d,v,cs,kd,n1,n2,s,rfl,hA,hC,hB,k⟩:=h
 have hu:=hr.units
 refine⟨_,(a0e (c2w (n:=3) X.SeatError a6r.nd (fun xe pn Ex hx=>(a0g (a6j (c3e T_Desk D_Desk_say (pvI 0) hr hx (a0a (pvI 1) a0c))))) (fun x=>(a0e (a1j (a8k (b1y (a6i (a0z c5k (by rfl) B.isinstance c7o (a0a (pvI 3) (a0a (a1h (a0a (a1m (v:=.ref C_NoJoin) rfl X.NoJoin rfl) (a0a (a1m (v:=.ref C_NoMap) rfl X.NoMap rfl) (a0a (a1m (v:=.ref C_NoPlace) rfl X.NoPlace rfl) (a0a (a1m (v:=.ref C_NoShare) rfl X.NoShare rfl) a0c))))) a0c)))) (a8w (a5r (a6i (a0z (a6w K) (by rfl) B.isinstance c7o (a0a (pvI 3) (a0a (b2w (v:=.ty "ValueError") rfl B.ValueError PyProof.Rows.Boot.«ValueError» rfl) a0c)))))))) (a0g (a0o b4y)) a0y) (a0e (a0n (i:=4) a6r.nd rfl (Or.inl rfl) (a1f (a0a (a0z (a6w K) (by rfl) B.isinstance c7o (a0a (pvI 3) (a0a (a1m (v:=.ref C_NoText) rfl X.NoText rfl) a0c))) (a0a (a0z (a6w K) (by rfl) B.isinstance c7o (a0a (pvI 3) (a0a (a1m (v:=.ref C_NoName) rfl X.NoName rfl) a0c))) (a0a (a0z (a6w K) (by rfl) B.isinstance c7o (a0a (pvI 3) (a0a (a1m (v:=.ref C_TooMany) rfl X.TooMany rfl) a0c))) (a0a (a0z (a6w K) (by rfl) B.isinstance c7o (a0a (pvI 3) (a0a (a1m (v:=.ref C_NoLower) rfl X.NoLower rfl) a0c))) a0c)))))) (a0g (a0o (a7g (op_eqB K hu) (pvI 4) (b9v (os:=["_law_k"]) (caps:=[(2,"_law_kind")]) ["_law_desk","_law_row","_law_kind","e","_law_kinds"] (a0d a3j) (c3b (x:=x) rfl rfl B.range (a0a a0b a0c)) (fun _ _ _ _ _=>(a0q (i:=0) (show c7j (["_law_k","_law_kind"]:List Str) from by decide +kernel) rfl (Or.inl rfl))) (fun _ _ _ _ _=>(a7g a4l (pvI 0) (pvI 1) (a1g _))) (by decide +kernel)) (a1g _)))))))) (a0g (a0o b4y))),?_⟩
 have kf:∀ Ca,c0y C_NoText C_NoName C_TooMany C_NoLower kd Ca→KF K C_SeatError C_NoText C_NoName C_TooMany C_NoLower [C_NoJoin,C_NoMap,C_NoPlace,C_NoShare] kd Ca:=by
   intro Ca h
   cases h with
   | text=>exact⟨X.mNoText,X.nNoText,X.vNoText,all4 X.fNoText_NoJoin X.fNoText_NoMap X.fNoText_NoPlace X.fNoText_NoShare,a9r K _,X.fNoText_NoName,X.fNoText_TooMany,X.fNoText_NoLower⟩
   | name=>exact⟨X.mNoName,X.nNoName,X.vNoName,all4 X.fNoName_NoJoin X.fNoName_NoMap X.fNoName_NoPlace X.fNoName_NoShare,X.fNoName_NoText,a9r K _,X.fNoName_TooMany,X.fNoName_NoLower⟩
   | many=>exact⟨X.mTooMany,X.nTooMany,X.vTooMany,all4 X.fTooMany_NoJoin X.fTooMany_NoMap X.fTooMany_NoPlace X.fTooMany_NoShare,X.fTooMany_NoText,X.fTooMany_NoName,a9r K _,X.fTooMany_NoLower⟩
   | low=>exact⟨X.mNoLower,X.nNoLower,X.vNoLower,all4 X.fNoLower_NoJoin X.fNoLower_NoMap X.fNoLower_NoPlace X.fNoLower_NoShare,X.fNoLower_NoText,X.fNoLower_NoName,X.fNoLower_TooMany,a9r K _⟩
 refine⟨fun σ cls dd H'=>σ=[some (.ref x),some v,some (.int kd),none,none]∧(∃ Ca,cls=.ref Ca∧KF K C_SeatError C_NoText C_NoName C_TooMany C_NoLower [C_NoJoin,C_NoMap,C_NoPlace,C_NoShare] kd Ca)∧dd=none∧Same H H',?_,?_⟩
 · obtain⟨⟨dx,hx⟩,hD⟩:=id hA
   refine⟨_,rfl,x,dx,_,rfl,hx,rfl,?_⟩
   refine⟨_,rfl,x,d,v,cs,rfl,hA,refd_say hD hC hB fun Ca hc H' s'=>⟨rfl,⟨Ca,rfl,kf Ca hc⟩,rfl,s'⟩⟩
 rintro cls y H' σ' ⟨rfl,⟨Ca,rfl,c⟩,_,hs⟩ hy hl
 clear kf hC hB hA
 refine⟨c.m,?_⟩
 have sx:Same H' (upd H' y (ExcO y (.ref Ca))):=Same.new hy
 have hx1:(upd H' y (ExcO y (.ref Ca))) y=some (ExcO y (.ref Ca)):=a0h
 generalize upd H' y (ExcO y (.ref Ca))=H1 at *
 refine⟨_,rfl,?_⟩
 walk_at "rd"
 intro pt hpt
 have t1:=Same.new (o:=.tup [V.ref C_NoJoin,.ref C_NoMap,.ref C_NoPlace,.ref C_NoShare]) hpt
 have gt:=a0h (H:=H1) (a:=pt) (o:=.tup [V.ref C_NoJoin,.ref C_NoMap,.ref C_NoPlace,.ref C_NoShare])
 have hx2:=t1 _ _ hx1
 have s2:=(hs.trans sx).trans t1
 generalize upd H1 pt (.tup [V.ref C_NoJoin,.ref C_NoMap,.ref C_NoPlace,.ref C_NoShare])=H2 at *
 refine⟨y,Ca,pt,[C_NoJoin,C_NoMap,C_NoPlace,C_NoShare],rfl,hx2,gt,c.n,c.f,?_⟩
 refine⟨false,rfl,ifF rfl ?_⟩
 refine⟨_,rfl,y,Ca,_,_,true,rfl,hx2,rfl,c.n,c.v,true,rfl,?_⟩
 refine ifF rfl ?_
 refine⟨_,rfl,y,Ca,_,_,_,rfl,hx2,rfl,c.n,c.k0,?_⟩
 refine⟨_,rfl,y,Ca,_,_,_,rfl,hx2,rfl,c.n,c.k1,?_⟩
 refine⟨_,rfl,y,Ca,_,_,_,rfl,hx2,rfl,c.n,c.k2,?_⟩
 refine⟨_,rfl,y,Ca,_,_,_,rfl,hx2,rfl,c.n,c.k3,?_⟩
 refine⟨by show 4≤sizeLine;decide,fun l1 hl1=>?_⟩
 have t2:=Same.new (o:=.lst ([decide (kd=0),decide (kd=1),decide (kd=2),decide (kd=3)].map V.bl)) hl1
 have g1:=a0h (H:=H2) (a:=l1) (o:=.lst ([decide (kd=0),decide (kd=1),decide (kd=2),decide (kd=3)].map V.bl))
 have hx3:=t2 _ _ hx2
 have s3:=s2.trans t2
 change a3l 4 (.ref l1) _ (upd H2 l1 (.lst ([decide (kd=0),decide (kd=1),decide (kd=2),decide (kd=3)].map V.bl))) _
 generalize upd H2 l1 (.lst ([decide (kd=0),decide (kd=1),decide (kd=2),decide (kd=3)].map V.bl))=H3 at *
 walk_at "rd"
 refine⟨4,Ca,rfl,by decide,by decide,hx3,?_⟩
 refine a6p (b4v _ _ _ hx3) (by decide) (fun i v _=>v=.bl (decide ((i:Int)=kd))) (fun _ _ _ _ _ h=>h) (fun i H5 kk hi s5 hk=>?_) (fun l us H5 hl0 s5 hl hul hr=>?_)
 · walk_at "rd"
   exact hk _ _ (Same.refl _) (by simp only[V.int.injEq])
 rw[kinds4 hul hr] at hl
 obtain⟨e1,e2⟩:=eqv4 (decide (kd=0)) (decide (kd=1)) (decide (kd=2)) (decide (kd=3))
 refine⟨l1,l,_,_,rfl,rfl,SqL.of (s5 _ _ g1),SqL.of hl,e1,e1,?_⟩
 rw[e2]
 exact k _ (s3.trans s5)
theorem c0d(F:a0k K mg "_law_place" a5x ["_law_cell","_law_way_here"])(D_l_stream:a0r P w K mg base CX0 1 "_law_stream" ["_law_cell","_law_many"] a5t):a0r P w K mg base CX0 2 "_law_place" ["_law_cell","_law_way_here"] c1x:=by
 refine a1c F a4z (fun vs H Q E h=>?_) (fun f cdv A outer s H vs Q E hr h=>?_)
 · obtain⟨c,w,B,kd,rfl,_⟩:=h;rfl
 obtain⟨c,_,B,kd,rfl,⟨a,s,b,sx,sy,bx,by_,rfl,ha,hs,hb,B1,B2,z1,z2,z3,z4⟩,k⟩:=h
 have hu:=hr.units
 refine⟨_,(a0e (a4s (pvI 1) (a3d (n:=4) K rfl (a1b (a0q (i:=2) a4z.nd rfl (Or.inl rfl)) (a1b (a0q (i:=3) a4z.nd rfl (Or.inl rfl)) (a1b (a0q (i:=4) a4z.nd rfl (Or.inl rfl)) (a1b (a0q (i:=5) a4z.nd rfl (Or.inl rfl)) a2n)))))) (a0e (a0n (i:=6) a4z.nd rfl (Or.inl rfl) (a0u D_l_stream hr a1i (a0a (pvI 0) (a0a a0b a0c)))) (a0e (a1j (a0v a4l (pvI 3) a0b (a1g _)) (a0g (a0o (a1h (a0a (a0i a4t (a0i a1k (pvI 0) (a0i b0q a0b a0b)) (a0i a1n a0b (a0i b0q a0b a0b))) (a0a (a0i a4t (a0i a1k (a0i a1n (pvI 0) (a0l (a0m K) (pvI 6) a0b (fun _ _=>rfl))) (a0i b0q a0b a0b)) (a0i a1n a0b (a0i b0q a0b a0b))) a0c))))) a0y) (a0e (a1j (a0v a4l (pvI 3) a0b (a1g _)) (a0g (a0o (a1h (a0a (a0i a2v (a0l (a1d K) (pvI 4) a0b (fun _ _=>rfl)) (a0i a1n (a0l (a1d K) (pvI 5) a0b (fun _ _=>rfl)) (a0i a1k (a0l (a0m K) (pvI 6) a0b (fun _ _=>rfl)) a0b))) (a0a (a0i a2v (a0l (a1d K) (pvI 4) a0b (fun _ _=>rfl)) (a0i a1n (a0l (a1d K) (pvI 5) a0b (fun _ _=>rfl)) (a0i a1k (a0l (a0m K) (pvI 6) a0b (fun _ _=>rfl)) a0b))) a0c))))) a0y) (a0e (a1j (a0v a4l (pvI 3) a0b (a1g _)) (a0g (a0o (a1h (a0a (a0i a2v (a0l (a1d K) (pvI 4) a0b (fun _ _=>rfl)) (a0i a1n (a0i a1k (a0l (a0m K) (pvI 6) a0b (fun _ _=>rfl)) a0b) (a0l (a1d K) (pvI 5) a0b (fun _ _=>rfl)))) (a0a (a0l (a1d K) (pvI 4) a0b (fun _ _=>rfl)) a0c))))) a0y) (a0e (a1j (a0v a4l (pvI 3) a0b (a1g _)) (a0g (a0o (a1h (a0a (a0i a2v (a0i a1n (a0l (a1d K) (pvI 4) a0b (fun _ _=>rfl)) (a0i b0q a0b a0b)) (a0i a1k (a0l (a0m K) (pvI 6) a0b (fun _ _=>rfl)) a0b)) (a0a (a0i a2v (a0i a1n (a0l (a1d K) (pvI 4) a0b (fun _ _=>rfl)) (a0i b0q a0b a0b)) (a0i a1k (a0l (a0m K) (pvI 6) a0b (fun _ _=>rfl)) a0b)) a0c))))) a0y) (a0e (a1j (a0v b9x (pvI 0) a0b (a1g _)) (a0g (a0o (a1h (a0a (a0i a4t (a0i a1k (pvI 0) a0b) a0b) (a0a (a0i a4t (a0i a1k (a0i b7c (pvI 0) a0b) a0b) a0b) a0c))))) a0y) (a0g (a0o (a1h (a0a (a0i a4t (a0i a1k (a0l (a0m K) (pvI 6) a0b (fun _ _=>rfl)) a0b) a0b) (a0a (a0i a4t (a0i a1k (a0l (a0m K) (pvI 6) a0b (fun _ _=>rfl)) a0b) a0b) a0c)))))))))))),?_⟩
 walk_at "rd"
 refine⟨a,_,rfl,SqT.of ha,rfl,_,_,rfl,_,_,rfl,_,_,rfl,_,_,rfl,rfl,?_⟩
 walk_at "rd"
 refine⟨c,4,rfl,by decide,fun lx xs H1 s1 hx0 hx hxl hnn=>?_⟩
 have nn:∀ j:Nat,0≤xs.getD j 0:=fun j=>b7m (fun x h=>(hnn x h).1) j
 have n0:=nn 0
 have n1:=nn 1
 have m0:xs.getD 0 0≤2147483647:=by
   have e:xs[0]?=some (xs[0]'(by omega (config:={}))):=c5v _
   rw[c8x,e];exact (hnn _ (c7h _)).2
 have m0':xs.getD (c7s 0) 0≤2147483647:=m0
 have n0':0≤xs.getD (c7s 0) 0:=n0
 have n1':0≤xs.getD (c7s 1) 0:=n1
 have hx1:SqL K H1 lx (xs.map V.int):=SqL.of hx
 walk_at "rd"
 refine ifB (fun _=>?_) (fun _=>?_)
 · walk_at "rd"
   intro g hg
   rw[p29,p30] at *
   have a1:=c7l c (b:=1000000000000000000000000000000) (by decide)
   have a2:=c7g c (b:=1000000000000000000000000000000) (by decide)
   have a3:=c7l (c*xs.getD (c7s 0) 0) (b:=1000000000000000000000000000000) (by decide)
   have a4:=c7g (c*xs.getD (c7s 0) 0) (b:=1000000000000000000000000000000) (by decide)
   exact k _ _ _ _ (by walk_at "sm") ⟨g,rfl,a0h⟩ (a9h (b:=1000000000000000000000000000000) (by omega) (by decide)) (a9h (b:=1000000000000000000000000000000) (by omega) (by decide))
 have hs1:=s1 _ _ hs
 have hb1:=s1 _ _ hb
 have f9:∀ (u v:Int),u.natAbs≤3→0≤v→v<9→(u*v).natAbs≤27:=fun u v h1 h2 h3=>by
   rw[Int.natAbs_mul]
   exact c6x (Nat.mul_le_mul h1 (show v.natAbs≤9 by omega)) (by decide)
 walk_at "rd"
 refine ifB (fun _=>?_) (fun _=>?_)
 · walk_at "rd"
   intro g hg
   have q1:=f9 bx (xs.getD (c7s 0) 0 % 9) z3 (by omega) (by omega)
   have q2:=f9 by_ (xs.getD (c7s 0) 0 % 9) z4 (by omega) (by omega)
   exact k _ _ _ _ (by walk_at "sm") ⟨g,rfl,a0h⟩ (a9h (b:=1000000000000000000000000000000) (by omega) (by decide)) (a9h (b:=1000000000000000000000000000000) (by omega) (by decide))
 walk_at "rd"
 refine ifB (fun _=>?_) (fun _=>?_)
 · walk_at "rd"
   intro g hg
   have q1:=f9 bx (xs.getD (c7s 0) 0 % 2) z3 (by omega) (by omega)
   rw[Int.mul_comm] at q1
   exact k _ _ _ _ (by walk_at "sm") ⟨g,rfl,a0h⟩ (a9h (b:=1000000000000000000000000000000) (by omega) (by decide)) (a9h (b:=1000000000000000000000000000000) (by omega) (by decide))
 walk_at "rd"
 refine ifB (fun _=>?_) (fun _=>?_)
 · walk_at "rd"
   intro g hg
   rw[p25] at *
   exact k _ _ _ _ (by walk_at "sm") ⟨g,rfl,a0h⟩ (a9h (b:=1000000000000000000000000000000) (by omega) (by decide)) (a9h (b:=1000000000000000000000000000000) (by omega) (by decide))
 walk_at "rd"
 refine a4e (fun _=>?_) (fun _=>?_)
 · walk_at "rd"
   intro g hg
   exact k _ _ _ _ (by walk_at "sm") ⟨g,rfl,a0h⟩ (a9h (b:=1000000000000000000000000000000) (by omega) (by decide)) (a9h (b:=1000000000000000000000000000000) (by omega) (by decide))
 walk_at "rd"
 intro g hg
 exact k _ _ _ _ (by walk_at "sm") ⟨g,rfl,a0h⟩ (a9h (b:=1000000000000000000000000000000) (by omega) (by decide)) (a9h (b:=1000000000000000000000000000000) (by omega) (by decide))
theorem c0c(F:a0k K mg "_law_seats" a5i ["_law_cell","_law_many","_law_way_here"])(D_l_stream:a0r P w K mg base CX0 1 "_law_stream" ["_law_cell","_law_many"] a5t)(D_l_place:a0r P w K mg base CX0 2 "_law_place" ["_law_cell","_law_way_here"] c1x):a0r P w K mg base CX0 3 "_law_seats" ["_law_cell","_law_many","_law_way_here"] (b8j K):=by
 refine a1c F b9q (fun vs H Q E h=>?_) (fun f cdv A outer s H vs Q E hr h=>?_)
 · obtain⟨c,m,w,B,kd,rfl,_⟩:=h;rfl
 obtain⟨c,m,w,B,kd,rfl,hm,hW,k⟩:=h
 have hu:=hr.units
 refine⟨_,(a0g (a0o (a1o (os:=["_law_one"]) (caps:=[(2,"_law_way_here"),(0,"_law_cell")]) ["_law_cell","_law_many","_law_way_here"] (a0d a5i) (a1r K (a0u D_l_stream hr a1i (a0a (pvI 0) (a0a (pvI 1) a0c)))) (fun _ _ _ _ _=>(a0q (i:=0) (show c7j (["_law_one","_law_way_here","_law_cell"]:List Str) from by decide +kernel) rfl (Or.inl rfl))) (fun _ _ _ _ _=>(a0u D_l_place hr a1i (a0a (a0i a2v (a0i a1n (pvI 0) (pvI 0)) (pvI 2)) (a0a (pvI 1) a0c)))) (by decide +kernel)))),?_⟩
 walk_at "rd"
 refine⟨c,m,rfl,by omega,fun ls xs H1 s1 hls hx hxl hxx=>?_⟩
 walk_at "rd"
 refine⟨⟨_,SqL.of hx⟩,a6p (a2h (SqL.of hx)) (by rw[c5u];omega) (fun i v H=>∃ x y:Int,RwV H v x y∧Sz 110 x∧Sz 110 y) (fun _ _ _ _ t h=>by obtain⟨x,y,h1,h2⟩:=h;exact⟨x,y,h1.tup t,h2⟩) (fun i H2 kk hi s2 hk=>?_) (fun D us H2 hD s2 hd hul hr=>?_)⟩
 · rw[c5u] at hi
   have e1:xs[i]?=some (xs[i]'hi):=c5v _
   have b1:=hxx _ (c6t e1)
   rw[c4n e1]
   walk_at "rd"
   refine⟨_,w,B,kd,rfl,(hW.same s1).same s2,fun v x y H3 s3 hv zx zy=>?_⟩
   exact hk v H3 s3 ⟨x,y,hv,zx,zy⟩
 obtain⟨pl,hP,hZ⟩:=b4u hr
 rw[c5u,hxl] at hul
 exact k D us pl H2 (s1.trans s2) (s1.free hD) hd hP (by rw[← hP.len,hul]) hZ
theorem c0a{C_Desk:Addr}(T_Desk:ClsK K mg "Desk" C_Desk)(N_Desk_kept:a6y K C_Desk "kept")(F:a0k K mg "_law_state" a5h ["_law_desk","_law_names_here"]){C_NoText:Addr}{C_NoName:Addr}{C_TooMany:Addr}{C_NoLower:Addr}(D_Desk_say:a8l P w K mg base (CXx P w) 8 C_Desk "say" ["self","row"] (b8i K C_Desk C_NoText C_NoName C_TooMany C_NoLower)):a0r P w K mg base CX0 9 "_law_state" ["_law_desk","_law_names_here"] (c1s C_Desk):=by
 refine a1c F b9p (fun vs H Q E h=>?_) (fun f cdv A outer s H vs Q E hr h=>?_)
 · obtain⟨x,d,ln,cs,rfl,_⟩:=h;rfl
 obtain⟨x,d,ln,cs,rfl,hA,hln,g,k⟩:=h
 have hu:=hr.units
 refine⟨_,(a0g (a0o (a0i a4u (a1f (a0a (b6x T_Desk D_Desk_say (pvI 0) hr c3k (a0a a0f a0c)) a0c)) (a1o (os:=["_law_name"]) (caps:=[(0,"_law_desk")]) ["_law_desk","_law_names_here"] (a0d a5h) (a1r K (pvI 1)) (fun _ _ _ _ _=>(a0q (i:=0) (show c7j (["_law_name","_law_desk"]:List Str) from by decide +kernel) rfl (Or.inl rfl))) (fun _ _ _ _ _=>(b6x T_Desk D_Desk_say (pvI 1) hr c3k (a0a (a0i a0w a0f (pvI 0)) a0c))) (by decide +kernel))))),?_⟩
 obtain⟨⟨dx,hx⟩,hD⟩:=id hA
 walk_at "rd"
 refine⟨x,dx,_,rfl,hx,rfl,?_⟩
 walk_at "rd"
 refine⟨x,d,_,cs,rfl,hA,c2k hD g fun ss' H1 s1 pm so=>?_⟩
 refine⟨by show 1≤sizeLine;decide,fun p1 hp1=>?_⟩
 have t1:=Same.new (o:=.lst [V.str (Str.join " " ss')]) hp1
 have g1:=a0h (H:=H1) (a:=p1) (o:=.lst [V.str (Str.join " " ss')])
 change a5n _ _ _ _ _ _ (upd H1 p1 (.lst [V.str (Str.join " " ss')])) _
 have s2:=s1.trans t1
 generalize upd H1 p1 (.lst [V.str (Str.join " " ss')])=H2 at *
 have hl2:=s2 _ _ hln
 have g3:=g.ln
 walk_at "rd"
 refine⟨⟨_,SqL.of hl2⟩,a6p (a2h (SqL.of hl2)) (by rw[c5u,c5u];omega) (fun i v _=>∀ c,cs[i]?=some c→v=.str (tCv c.2)) (fun _ _ _ _ _ h=>h) (fun i H5 kk hi s5 hk=>?_) (fun l us H5 hl0 s5 hl hul hr=>?_)⟩
 · rw[c5u,c5u] at hi
   have e1:cs[i]?=some (cs[i]'hi):=c5v _
   have e2:(((cs.map (·.1)).map V.str)[i]?).getD .non=.str (cs[i]'hi).1:=by rw[c6c,c6c,e1];rfl
   rw[e2]
   have hm:=c7h hi
   generalize cs[i]'hi=c at *
   have hA5:=hA.same (s2.trans s5)
   obtain⟨⟨dx5,hx5⟩,hD5⟩:=id hA5
   have h12:=(g.nm c hm).2.1
   walk_at "rd"
   refine⟨x,dx5,_,rfl,hx5,rfl,?_⟩
   walk_at "rd"
   refine⟨c6d (a0j (by show 5+c.1.length≤100000;omega)),?_⟩
   walk_at "rd"
   refine⟨x,d,_,cs,rfl,hA5,say_tell hD5 g hm fun H6 s6=>hk _ _ s6 fun c' e=>?_⟩
   rw[e1] at e;cases e;rfl
 rw[c5u,c5u] at hul
 have eu:us=(cs.map fun c=>tCv c.2).map V.str:=by
   refine c8s fun i=>?_
   rw[c6c,c6c]
   cases e:cs[i]? with
   | none=>rw[c9e] at e;exact c7k (by omega)
   | some c=>
     have hi:i<us.length:=by have:=(c6h.mp e).1;omega
     rw[c5v hi,hr i _ (c5v hi) c e];rfl
 subst eu
 refine⟨p1,l,_,_,rfl,rfl,s5 _ _ g1,hl,c6d (a0j (by rw[c5u,c5u];show 1+cs.length≤100000;omega)),fun pz hpz=>?_⟩
 exact k pz ss' _ ((s2.trans s5).trans (Same.new hpz)) pm so a0h
theorem ok_l_way(F:a0k K mg "_law_way" a8v ["_law_cell"])(D_l_stream:a0r P w K mg base CX0 1 "_law_stream" ["_law_cell","_law_many"] a5t):a0r P w K mg base CX0 2 "_law_way" ["_law_cell"] spWay:=by
 refine a1c F a9q (fun vs H Q E h=>?_) (fun f cdv A outer s H vs Q E hr h=>?_)
 · obtain⟨c,rfl,_⟩:=h;rfl
 obtain⟨c,rfl,k⟩:=h
 have hu:=hr.units
 refine⟨_,(a0e (a0n (i:=1) a9q.nd rfl (Or.inl rfl) (a0u D_l_stream hr a1i (a0a (pvI 0) (a0a a0b a0c)))) (a0e (a0n (i:=2) a9q.nd rfl (Or.inl rfl) (a0l (a0m K) (a1f (a0a a0b (a0a a0b (a0a a0b (a0a a0b (a0a a0b (a0a a0b (a0a a0b (a0a (a0i a2v (a0i b0q a0b a0b) a0b) a0c))))))))) (a0i a1k (a0l (a0m K) (pvI 1) a0b (fun _ _=>rfl)) a0b) (fun _ _=>rfl))) (a0e (a0n (i:=3) a9q.nd rfl (Or.inl rfl) (a1h (a0a (a0i a4t (a0i a1k (a0l (a0m K) (pvI 1) a0b (fun _ _=>rfl)) a0b) a0b) (a0a (a0i a4t (a0i a1k (a0l (a0m K) (pvI 1) a0b (fun _ _=>rfl)) a0b) a0b) a0c)))) (a0g (a0o (a1h (a0a (pvI 2) (a0a (a0i a1k (a0l (a0m K) (pvI 1) a0b (fun _ _=>rfl)) a0b) (a0a (pvI 3) (a0a (a1h (a0a (a0i a4t (a0i a1k (a0l (a0m K) (pvI 1) a0b (fun _ _=>rfl)) a0b) a0b) (a0a (a0i a4t (a0i a1k (a0l (a0m K) (pvI 1) a0b (fun _ _=>rfl)) a0b) a0b) a0c))) a0c)))))))))),?_⟩
 walk_at "rd"
 refine⟨c,6,rfl,by decide,fun lx xs H1 s1 hx0 hx hxl hnn=>?_⟩
 have nn:∀ j:Nat,0≤xs.getD j 0:=fun j=>b7m (fun x h=>(hnn x h).1) j
 have n0:=nn 0
 have n1:=nn 1
 have n2:=nn 2
 have n3:=nn 3
 have n4:=nn 4
 have n5:=nn 5
 have hx1:SqL K H1 lx (xs.map V.int):=SqL.of hx
 walk_at "rd"
 intro lb hlb
 walk_at "rd"
 obtain⟨B,hB,B1,B2⟩:=tab [1,1,2,3,6,12,8,(10:Int)^(9:Int).toNat+7] 1 1000000007 (xs.getD (c7s 0) 0 % 8) (by rw[p9];decide) (by omega) (by show _<(8:Int);omega)
 refine⟨_,_,_,_,rfl,rfl,SqL.of a0h,hB,?_⟩
 walk_at "rd"
 intro ls hls
 walk_at "rd"
 intro lz hlz
 walk_at "rd"
 intro la hla
 exact k _ B _ _ (by walk_at "sm") ⟨la,ls,lz,_,_,_,_,rfl,a0h,by walk_at "hf",by walk_at "hf",by omega,by omega,by omega,by omega,by omega,by omega⟩
theorem ok_law{C_Desk:Addr}(T_Desk:ClsK K mg "Desk" C_Desk)(N_Desk_kept:a6y K C_Desk "kept")(F:a0k K mg "law" b2u ["_law_script"])(B:Blt mg){C_NoText:Addr}{C_NoName:Addr}{C_TooMany:Addr}{C_NoLower:Addr}(D_Desk___init__:a8l P w K mg base CX0 1 C_Desk "__init__" ["self"] (c2b C_Desk))(D_Desk_say:a8l P w K mg base (CXx P w) 8 C_Desk "say" ["self","row"] (b8i K C_Desk C_NoText C_NoName C_TooMany C_NoLower))(D_l_case:a0r P w K mg base CX0 3 "_law_case" ["_law_cell","_law_names_here","_law_stranger"] (spCase K))(D_l_cell_at:a0r P w K mg base CX0 1 "_law_cell_at" ["_law_script","_law_k"] (spCell K))(D_l_curve_text:a0r P w K mg base CX0 3 "_law_curve_text" ["_law_curve"] (spLTxC K))(D_l_handed:a0r P w K mg base CX0 2 "_law_handed" ["_law_places","_law_bottom"] (b8p K))(D_l_names:a0r P w K mg base CX0 2 "_law_names" ["_law_cell","_law_many"] b4i)(D_l_refused:a0r P w K mg base CX0 9 "_law_refused" ["_law_desk","_law_row","_law_kind"] (spRefd K C_Desk))(D_l_seats:a0r P w K mg base CX0 3 "_law_seats" ["_law_cell","_law_many","_law_way_here"] (b8j K))(D_l_state:a0r P w K mg base CX0 9 "_law_state" ["_law_desk","_law_names_here"] (c1s C_Desk))(D_l_way:a0r P w K mg base CX0 2 "_law_way" ["_law_cell"] spWay):a0r P w K mg base CX0 10 "law" ["_law_script"] (spLaw K):=by
 refine a1c F a6n (fun vs H Q E h=>?_) (fun f cdv A outer s H vs Q E hr h=>?_)
 · obtain⟨a,ns,rfl,_⟩:=h;rfl
 obtain⟨a,ns,rfl,hS,hlen,k⟩:=h
 have hu:=hr.units
 refine⟨_,(a0e (a0n (i:=1) a6n.nd rfl (Or.inl rfl) (a0u D_l_names hr a1i (a0a (a0u D_l_cell_at hr a1i (a0a (pvI 0) (a0a a0b a0c))) (a0a a0b a0c)))) (a0e (a0n (i:=2) a6n.nd rfl (Or.inl rfl) (show PEi _ _ (tBM0 K _ _ _) from (b6y c8k PySem.F.slot_list_pop PySem.F.type_list_pop mt_pop (pvI 1)))) (a0e (a0n (i:=3) a6n.nd rfl (Or.inl rfl) (pe_mk0I T_Desk D_Desk___init__ hr a1i)) (a0e (a0n (i:=4) a6n.nd rfl (Or.inl rfl) (a0u D_l_way hr a1i (a0a (a0u D_l_cell_at hr a1i (a0a (pvI 0) (a0a a0b a0c))) a0c))) (a0e (a0n (i:=5) a6n.nd rfl (Or.inl rfl) (a1f (a0a (show PEi _ _ (tBM K _ _ _ _) from (a5p c7n c9a c9b (a8e K) a0f (a0a (a0z (c0v K) (by rfl) B.sorted PyProof.Rows.boot_sorted (a0a (pvI 1) a0c)) a0c))) a0c))) (a0e (a5j PassesOwn.never rfl (a3z rfl B.range (a0a a0b a0c)) (a0q (i:=6) a6n.nd rfl (Or.inl rfl)) (a0e (a0n (i:=7) a6n.nd rfl (Or.inl rfl) (a0l (a0m K) (a1f (a0a (a0i a2v a0b (a0i a1k (a0u D_l_cell_at hr a1i (a0a (pvI 0) (a0a a0b a0c))) a0b)) (a0a a0b (a0a a0b a0c)))) (pvI 6) (fun _ _=>rfl))) (a0e (a0n (i:=8) a6n.nd rfl (Or.inl rfl) (a0u D_l_curve_text hr a1i (a0a (a0u D_l_handed hr a1i (a0a (a0u D_l_seats hr a1i (a0a (a0i a2v (a0u D_l_cell_at hr a1i (a0a (pvI 0) (a0a a0b a0c))) (pvI 6)) (a0a (pvI 7) (a0a (pvI 4) a0c)))) (a0a (a0l (a1d K) (pvI 4) a0b (fun _ _=>rfl)) a0c))) a0c))) (a0e (a6j (b6x T_Desk D_Desk_say (pvI 3) hr c3k (a0a (a0i a0w (a0i a0w (a0i a0w a0f (a0l (a0m K) (pvI 1) (pvI 6) (fun _ _=>rfl))) a0f) (pvI 8)) a0c))) (a0g (a6j (show PEi _ _ (tBM K _ _ _ _) from (a5p c8k c8p c8q a5l (pvI 5) (a0a (pvI 8) a0c))))))))) (a0e (a5j PassesOwn.never rfl (a3z rfl B.range (a0a (a0i a2v a0b (a0i a1k (a0u D_l_cell_at hr a1i (a0a (pvI 0) (a0a a0b a0c))) a0b)) a0c)) (a0q (i:=6) a6n.nd rfl (Or.inl rfl)) (a0e (a4s (a0u D_l_case hr a1i (a0a (a0i a2v (a0u D_l_cell_at hr a1i (a0a (pvI 0) (a0a (a0i a2v a0b (pvI 6)) a0c))) (a0i a1n a0b (pvI 6))) (a0a (pvI 1) (a0a (pvI 2) a0c)))) (a3d (n:=2) K rfl (a1b (a0q (i:=9) a6n.nd rfl (Or.inl rfl)) (a1b (a0q (i:=10) a6n.nd rfl (Or.inl rfl)) a2n)))) (a0g (a1j (a8k (b1y (a5r (a6i (a0u D_l_refused hr a1i (a0a (pvI 3) (a0a (pvI 9) (a0a (pvI 10) a0c)))))) (a8w (a0v (c3q K hu) (a0u D_l_state hr a1i (a0a (pvI 3) (a0a (pvI 1) a0c))) (pvI 5) (a1g _))))) (a0g (a0o b4y)) a0y)))) (a0g (a0o b4y))))))))),?_⟩
 walk_at "rd"
 refine⟨a,ns,0,rfl,hS,by decide,fun z0=>?_⟩
 walk_at "rd"
 refine⟨z0,4,rfl,by decide,by decide,fun ln ss H1 s1 hln0 hln hsl hss hnd=>?_⟩
 obtain⟨n0,n1,n2,st,rfl⟩ : ∃ n0 n1 n2 st,ss=[n0,n1,n2,st]:=by
   match ss,hsl with
   | [n0,n1,n2,st],_=>exact⟨n0,n1,n2,st,rfl⟩
 have h0:Nm n0:=hss _ (by simp)
 have h1:Nm n1:=hss _ (by simp)
 have h2:Nm n2:=hss _ (by simp)
 have h3:Nm st:=hss _ (by simp)
 walk_at "rd"
 refine⟨.inl ⟨rfl,_,SqL.of hln⟩,ln,_,_,rfl,rfl,hln,rfl,?_⟩
 have s2:Same H (upd H1 ln (.lst [V.str n0,.str n1,.str n2])):=b2t hln0 s1
 change a3l 2 (.str st) _ (upd H1 ln (.lst [V.str n0,.str n1,.str n2])) _
 replace hln:=a0h (H:=H1) (a:=ln) (o:=.lst [V.str n0,.str n1,.str n2])
 replace hS:SqL K _ a (ns.map V.int):=SqL.same' hS s2
 generalize upd H1 ln (.lst [V.str n0,.str n1,.str n2])=H2 at *
 clear s1 s2 hln0 hss hsl
 walk_at "rd"
 intro x dx hx0 hdx nex
 have v1:=same_ins (C:=C_Desk) hx0 hdx
 have hx':(upd (upd H2 dx (.own x)) x (.ins C_Desk dx [])) x=some (.ins C_Desk dx []):=a0h
 generalize upd (upd H2 dx (.own x)) x (.ins C_Desk dx [])=H3 at *
 refine⟨x,dx,rfl,hx',fun d H4 si hd0 hd=>⟨rfl,?_⟩⟩
 have hA:=a4v.made hx' hd0 hd
 have sx:Same H2 (upd H4 x (.ins C_Desk dx (b3p d))):=b2t hx0 (v1.trans si)
 generalize upd H4 x (.ins C_Desk dx (b3p d))=H5 at *
 clear v1 hx' si hd0 hd hx0 hdx nex
 replace hln:=sx _ _ hln
 replace hS:SqL K H5 a (ns.map V.int):=SqL.same' hS sx
 clear sx
 walk_at "rd"
 refine⟨a,ns,1,rfl,hS,by decide,fun z1=>?_⟩
 walk_at "rd"
 intro vw B kd H6 s6 hw
 replace hln:=s6 _ _ hln
 replace hS:SqL K H6 a (ns.map V.int):=SqL.same' hS s6
 replace hA:=hA.same s6
 clear s6
 walk_at "rd"
 refine⟨ln,[n0,n1,n2],rfl,SqL.of hln,by show 3<64;decide,fun lz ss' hlz pm so=>?_⟩
 have v7:=Same.new (o:=.lst (ss'.map V.str)) hlz
 have gz:=a0h (H:=H6) (a:=lz) (o:=.lst (ss'.map V.str))
 replace hln:=v7 _ _ hln
 replace hS:=SqL.same' hS v7
 replace hA:=hA.same v7
 replace hw:=hw.same v7
 generalize upd H6 lz (.lst (ss'.map V.str))=H7 at *
 walk_at "rd"
 refine⟨_,lz,ss',rfl,rfl,SqL.of gz,b1c (B:=12) (fun t ht=>?_) (by rw[pm.length_eq];show 3*12+3*1≤16777216;decide),?_⟩
 · have:=pm.mem_iff.mp ht
   simp only[c6e,c6u,or_false] at this
   rcases this with rfl | rfl | rfl
   · exact h0.2.1
   · exact h1.2.1
   · exact h2.2.1
 rw[a7q]
 refine⟨by show 1≤sizeLine;decide,fun ld hld=>?_⟩
 have v8:=Same.new (o:=.lst [V.str (Str.join " " ss')]) hld
 have hdue:=a0h (H:=H7) (a:=ld) (o:=.lst [V.str (Str.join " " ss')])
 change a3l 5 (.ref ld) _ (upd H7 ld (.lst [V.str (Str.join " " ss')])) _
 obtain⟨kv7,hd7⟩:=hA.2.at
 replace hA:=hA.same v8
 have e7:Ex d H7 (upd H7 ld (.lst [V.str (Str.join " " ss')])):=fun b o _ h=>v8 b o h
 generalize upd H7 ld (.lst [V.str (Str.join " " ss')])=H8 at *
 clear gz hlz v7 v8
 walk_at "rd"
 refine a6u (fun i σ H'=>∃ (y6 y7 y8:Option V) (cs:List (Str×List Pt)),σ=[some (.ref a),some (.ref ln),some (.str st),some (.ref x),some vw,some (.ref ld),y6,y7,y8,none,none]∧Ex d H7 H'∧a4v C_Desk H' x d cs∧H' ld=some (.lst ((Str.join " " ss'::cs.map fun c=>tCv c.2).map V.str))∧Gr B [n0,n1,n2] i cs) ⟨none,none,none,[],rfl,e7,hA,hdue,⟨rfl,(fun c h=>nomatch h),(fun c h=>nomatch h),fun c h=>nomatch h⟩⟩ ?_ ?_
 · clear hA hdue e7
   rintro i σ HA hi ⟨y6,y7,y8,cs,rfl,e7,hA,hdue,g⟩
   have hi3:i<3:=hi
   have hln7:=hln
   replace hln:=e7.lst hd7 hln
   replace hS:=SqL.ex2 hS (Ex2.of_l (b:=d) e7) hd7 hd7
   replace hw:=hw.tup (e7.tup hd7)
   walk_at "rd"
   refine⟨a,ns,2,rfl,hS,by decide,fun z2=>?_⟩
   have z20:=c7l z2 (b:=5) (by decide)
   have z25:=c7g z2 (b:=5) (by decide)
   walk_at "rd"
   intro lm hlm
   have u1:=Same.new (o:=.lst [.int (2+z2 % 5),.int 12,.int 1]) hlm
   have gm:=a0h (H:=HA) (a:=lm) (o:=.lst [.int (2+z2 % 5),.int 12,.int 1])
   replace hln:=u1 _ _ hln
   replace hS:=SqL.same' hS u1
   replace hA:=hA.same u1
   replace hw:=hw.same u1
   replace hdue:=u1 _ _ hdue
   generalize upd HA lm (.lst [.int (2+z2 % 5),.int 12,.int 1])=HB at *
   obtain⟨m,em,m1,m12,me1,me2⟩ : ∃ m:Nat,atI [V.int (2+z2 % 5),.int 12,.int 1] (0+(i:Int))=some (.int (m:Int))∧1≤m∧m≤12∧(i=1→m=12)∧(i=2→m=1):=by
     have:i=0∨i=1∨i=2:=by omega
     rcases this with rfl | rfl | rfl
     · exact⟨(2+z2 % 5).toNat,by rw[Int.toNat_of_nonneg (by omega)];rfl,by omega,by omega,by omega,by omega⟩
     · exact⟨12,rfl,by decide,by decide,fun _=>rfl,fun h=>absurd h (by decide)⟩
     · exact⟨1,rfl,by decide,by decide,fun h=>absurd h (by decide),fun _=>rfl⟩
   obtain⟨n,en,hn⟩ : ∃ n:Str,[n0,n1,n2][i]?=some n∧Nm n:=by
     have:i=0∨i=1∨i=2:=by omega
     rcases this with rfl | rfl | rfl
     · exact⟨n0,rfl,h0⟩
     · exact⟨n1,rfl,h1⟩
     · exact⟨n2,rfl,h2⟩
   have hcl:=g.len (c6d hi3)
   walk_at "rd"
   refine⟨a,ns,3,rfl,hS,by decide,fun z3=>?_⟩
   walk_at "rd"
   refine⟨_,m,vw,B,kd,rfl,by omega,hw,fun l us pl HC s3 hl0 hl hP hpl hsz=>?_⟩
   replace hw:=hw.same s3
   have hw0:=hw
   obtain⟨aw,sw,bw,sx,sy,bx,by_,rfl,haw,_,_,B1,B2,_⟩:=hw
   walk_at "rd"
   refine⟨l,us,pl,B,rfl,SqL.of hl,hP,B1,⟨by show B.natAbs<2^9000;exact c6j (show B.natAbs<2^60 by omega) (c9x (by decide) (by decide))⟩,by omega,fun l6 us6 HD s6 hl60 hl6 hP6=>?_⟩
   walk_at "rd"
   have fg:=fg_any B1 B2 hsz
   have hpl':(a6s B pl).length=pl.length:=c2v _ _
   refine⟨l6,us6,a6s B pl,rfl,hl6,hP6,fun p hp=>b9i (fg p hp).1 (by decide),by omega,fun HE s7=>?_⟩
   have s67:=(s3.trans s6).trans s7
   have lt7:(tCv (a6s B pl)).length≤4896:=c6x (tCv_ln (k:=100) (by decide) fun p hp=>(fg p hp).1) (by rw[hpl'];show _*408≤12*408;exact Nat.mul_le_mul_right _ (by omega))
   replace hln:=s67 _ _ hln
   replace hS:=SqL.same' hS s67
   replace hA:=hA.same s67
   replace hw:=hw0.same (s6.trans s7)
   replace hdue:=s67 _ _ hdue
   clear hw0 haw hl hP hl6 hP6 gm hl0 hl60 hlm
   obtain⟨⟨dx5,hx5⟩,hD5⟩:=id hA
   have ln0:n.length≤12:=hn.2.1
   have ln1:("curve " ++ n).length≤18:=by rw[a2e];show 6+n.length≤18;omega
   have ln2:("curve " ++ n ++ " ").length≤19:=by rw[a2e];show _+1≤19;omega
   walk_at "rd"
   refine⟨x,dx5,_,rfl,hx5,kept_no d (by decide +kernel),?_⟩
   walk_at "rd"
   refine⟨ln,_,_,_,rfl,rfl,SqL.of hln,a8j (v:=.str n) (j:=i) (by omega) (by rw[show [V.str n0,.str n1,.str n2]=[n0,n1,n2].map V.str from rfl,c6c,en];rfl),?_⟩
   walk_at "rd"
   refine⟨c6d (a0j (by show 6+n.length≤100000;omega)),?_⟩
   walk_at "rd"
   refine⟨c6d (a0j (by show ("curve " ++ n).length+1≤100000;omega)),?_⟩
   walk_at "rd"
   refine⟨c6d (a0j (by show ("curve " ++ n ++ " ").length+(tCv (a6s B pl)).length≤100000;omega)),?_⟩
   walk_at "rd"
   have nn:n∉cs.map (·.1):=by
     rw[g.keys]
     intro z
     obtain⟨q,hq,eq⟩:=c7u z
     rw[c8i] at hq
     rw[List.getElem_take] at eq
     have nd3:[n0,n1,n2].Nodup:=hnd.sublist (List.sublist_append_left [n0,n1,n2] [st])
     have:=(c6h.mp en).2
     have:=(List.getElem_inj nd3).mp (eq.trans this.symm)
     omega
   refine⟨x,d,_,cs,rfl,hA,c2l hD5 hn (by omega) (by omega) (fun p hp=>(fg p hp).1) (by omega) fun HF e8 hC8=>?_⟩
   obtain⟨kvd,hkd,_⟩:=id hD5
   have hA8:=hA.own e8 hC8
   rw[putA_new nn] at hA8
   replace hdue:=e8.lst hkd hdue
   have e9:Ex d H7 HF:=fun b o n h=>e8 b o n ((u1.trans s67) b o (e7 b o n h))
   have gs:=g.snoc en fg (by omega) (by omega) (fun h=>by rw[hpl',hpl];exact me1 h) (fun h=>by rw[hpl',hpl];exact me2 h)
   walk_at "rd"
   refine⟨.inl ⟨rfl,_,SqL.of hdue⟩,?_⟩
   walk_at "rd"
   refine⟨ld,_,_,rfl,rfl,hdue,by rw[c5u,c6z,c5u,hcl];exact a0j (by omega),?_⟩
   refine⟨_,_,_,_,rfl,fun b o n h=>?_,hA8.updL hdue fun c hc=>(gs.ok c hc).2.1,?_,gs⟩
   · rw[a1a (a0x h hld)];exact e9 b o n h
   · rw[a0h,c9d];simp
 clear hA hdue e7
 rintro σ HA ⟨y6,y7,y8,cs,rfl,e7,hA,hdue,g⟩
 have gk:cs.map (·.1)=[n0,n1,n2]:=g.keys
 replace hln:=e7.lst hd7 hln
 replace hS:=SqL.ex2 hS (Ex2.of_l (b:=d) e7) hd7 hd7
 obtain⟨_,_,_,_,_,_,_,_,_,_,_,B1,B2,_⟩:=hw
 obtain⟨g3,bk⟩:=g.book hnd B1 B2 h0 h1 h2
 have hs3:∀ s∈ss',Nm s:=fun s h=>by
   have:=pm.mem_iff.mp h
   simp only[c6e,c6u,or_false] at this
   rcases this with rfl | rfl | rfl<;>assumption
 have okd:=kqd_strs (c1m (cs:=cs) hs3)
 clear g B1 B2 e7 hd7 hld
 walk_at "rd"
 refine⟨a,ns,4,rfl,hS,by decide,fun z4=>?_⟩
 have z40:=c7l z4 (b:=12) (by decide)
 have z42:=c7g z4 (b:=12) (by decide)
 walk_at "rd"
 refine⟨by omega,by omega,a6u (fun i σ H'=>∃ (y6 y9 y10:Option V),σ=[some (.ref a),some (.ref ln),some (.str st),some (.ref x),some vw,some (.ref ld),y6,y7,y8,y9,y10]∧Same HA H') ⟨_,_,_,rfl,Same.refl _⟩ ?_ ?_⟩
 rotate_left
 · rintro σ HB ⟨y6,y9,y10,rfl,sB⟩
   exact k HB
 rintro i σ HB hi ⟨y6,y9,y10,rfl,sB⟩
 replace hln:=sB _ _ hln
 replace hS:=SqL.same' hS sB
 replace hA:=hA.same sB
 replace hdue:=sB _ _ hdue
 walk_at "rd"
 refine⟨a,ns,_,rfl,hS,by omega,fun z5=>?_⟩
 walk_at "rd"
 refine⟨_,ln,n0,n1,n2,st,rfl,hln,h0,h1,h2,h3,fun gg v kk HC sC hgg hc=>?_⟩
 replace hln:=sC _ _ hln
 replace hA:=hA.same sC
 replace hdue:=sC _ _ hdue
 refine⟨gg,_,rfl,SqT.of hgg,rfl,_,_,rfl,?_⟩
 refine⟨_,_,rfl,?_⟩
 walk_at "rd"
 refine⟨x,d,v,cs,kk,n1,n2,st,rfl,hA,hc,bk,fun HD sD=>?_⟩
 replace hln:=sD _ _ hln
 replace hA:=hA.same sD
 replace hdue:=sD _ _ hdue
 refine⟨true,rfl,?_⟩
 refine ifF rfl ?_
 walk_at "rd"
 refine⟨x,d,ln,cs,rfl,hA,by rw[gk];exact hln,g3,fun l ss2 HE sE pm2 so2 hl=>?_⟩
 replace hdue:=sE _ _ hdue
 rw[b9n (pm2.trans (gk ▸ pm.symm)) so2 so] at hl
 walk_at "rd"
 refine⟨_,_,c4x hl,c4x hdue,okd,okd,fun b hb=>?_⟩
 rw[hb.mpr rfl]
 refine⟨false,rfl,ifF rfl ?_⟩
 exact⟨_,_,_,rfl,((sB.trans sC).trans sD).trans sE⟩
end
theorem all_mk{w:World}{K:c5t}{h:Heap}{mg:Str→Option Value}{fa:Addr}(KX:K.In h)(GN:h.Ns mainGlobals mg)(hfa:mg "law" = some (.ref fa)){f0:Addr}{od0 an0:Option Addr}{sl0:Array (Option Value)}{oc0 kV0 dc0 pm0 cd0 ct0:Value}{f1:Addr}{od1 an1:Option Addr}{sl1:Array (Option Value)}{oc1 kV1 dc1 pm1 cd1 ct1:Value}{f2:Addr}{od2 an2:Option Addr}{sl2:Array (Option Value)}{oc2 kV2 dc2 pm2 cd2 ct2:Value}{f3:Addr}{od3 an3:Option Addr}{sl3:Array (Option Value)}{oc3 kV3 dc3 pm3 cd3 ct3:Value}{f4:Addr}{od4 an4:Option Addr}{sl4:Array (Option Value)}{oc4 kV4 dc4 pm4 cd4 ct4:Value}{f5:Addr}{od5 an5:Option Addr}{sl5:Array (Option Value)}{oc5 kV5 dc5 pm5 cd5 ct5:Value}{f6:Addr}{od6 an6:Option Addr}{sl6:Array (Option Value)}{oc6 kV6 dc6 pm6 cd6 ct6:Value}{f7:Addr}{od7 an7:Option Addr}{sl7:Array (Option Value)}{oc7 kV7 dc7 pm7 cd7 ct7:Value}{f8:Addr}{od8 an8:Option Addr}{sl8:Array (Option Value)}{oc8 kV8 dc8 pm8 cd8 ct8:Value}{f9:Addr}{od9 an9:Option Addr}{sl9:Array (Option Value)}{oc9 kV9 dc9 pm9 cd9 ct9:Value}{f10:Addr}{od10 an10:Option Addr}{sl10:Array (Option Value)}{oc10 kV10 dc10 pm10 cd10 ct10:Value}{f11:Addr}{od11 an11:Option Addr}{sl11:Array (Option Value)}{oc11 kV11 dc11 pm11 cd11 ct11:Value}{f12:Addr}{od12 an12:Option Addr}{sl12:Array (Option Value)}{oc12 kV12 dc12 pm12 cd12 ct12:Value}{f13:Addr}{od13 an13:Option Addr}{sl13:Array (Option Value)}{oc13 kV13 dc13 pm13 cd13 ct13:Value}{f14:Addr}{od14 an14:Option Addr}{sl14:Array (Option Value)}{oc14 kV14 dc14 pm14 cd14 ct14:Value}{f15:Addr}{od15 an15:Option Addr}{sl15:Array (Option Value)}{oc15 kV15 dc15 pm15 cd15 ct15:Value}{f16:Addr}{od16 an16:Option Addr}{sl16:Array (Option Value)}{oc16 kV16 dc16 pm16 cd16 ct16:Value}{f17:Addr}{od17 an17:Option Addr}{sl17:Array (Option Value)}{oc17 kV17 dc17 pm17 cd17 ct17:Value}{f18:Addr}{od18 an18:Option Addr}{sl18:Array (Option Value)}{oc18 kV18 dc18 pm18 cd18 ct18:Value}{f19:Addr}{od19 an19:Option Addr}{sl19:Array (Option Value)}{oc19 kV19 dc19 pm19 cd19 ct19:Value}{f20:Addr}{od20 an20:Option Addr}{sl20:Array (Option Value)}{oc20 kV20 dc20 pm20 cd20 ct20:Value}{f21:Addr}{od21 an21:Option Addr}{sl21:Array (Option Value)}{oc21 kV21 dc21 pm21 cd21 ct21:Value}{f22:Addr}{od22 an22:Option Addr}{sl22:Array (Option Value)}{oc22 kV22 dc22 pm22 cd22 ct22:Value}{f23:Addr}{od23 an23:Option Addr}{sl23:Array (Option Value)}{oc23 kV23 dc23 pm23 cd23 ct23:Value}{f24:Addr}{od24 an24:Option Addr}{sl24:Array (Option Value)}{oc24 kV24 dc24 pm24 cd24 ct24:Value}{f25:Addr}{od25 an25:Option Addr}{sl25:Array (Option Value)}{oc25 kV25 dc25 pm25 cd25 ct25:Value}{f26:Addr}{od26 an26:Option Addr}{sl26:Array (Option Value)}{oc26 kV26 dc26 pm26 cd26 ct26:Value}{f27:Addr}{od27 an27:Option Addr}{sl27:Array (Option Value)}{oc27 kV27 dc27 pm27 cd27 ct27:Value}{f28:Addr}{od28 an28:Option Addr}{sl28:Array (Option Value)}{oc28 kV28 dc28 pm28 cd28 ct28:Value}{f29:Addr}{od29 an29:Option Addr}{sl29:Array (Option Value)}{oc29 kV29 dc29 pm29 cd29 ct29:Value}{f30:Addr}{od30 an30:Option Addr}{sl30:Array (Option Value)}{oc30 kV30 dc30 pm30 cd30 ct30:Value}{f31:Addr}{od31 an31:Option Addr}{sl31:Array (Option Value)}{oc31 kV31 dc31 pm31 cd31 ct31:Value}{f32:Addr}{od32 an32:Option Addr}{sl32:Array (Option Value)}{oc32 kV32 dc32 pm32 cd32 ct32:Value}{f33:Addr}{od33 an33:Option Addr}{sl33:Array (Option Value)}{oc33 kV33 dc33 pm33 cd33 ct33:Value}{f34:Addr}{od34 an34:Option Addr}{sl34:Array (Option Value)}{oc34 kV34 dc34 pm34 cd34 ct34:Value}{f35:Addr}{od35 an35:Option Addr}{sl35:Array (Option Value)}{oc35 kV35 dc35 pm35 cd35 ct35:Value}{f36:Addr}{od36 an36:Option Addr}{sl36:Array (Option Value)}{oc36 kV36 dc36 pm36 cd36 ct36:Value}{f37:Addr}{od37 an37:Option Addr}{sl37:Array (Option Value)}{oc37 kV37 dc37 pm37 cd37 ct37:Value}{f38:Addr}{od38 an38:Option Addr}{sl38:Array (Option Value)}{oc38 kV38 dc38 pm38 cd38 ct38:Value}{f39:Addr}{od39 an39:Option Addr}{sl39:Array (Option Value)}{oc39 kV39 dc39 pm39 cd39 ct39:Value}{f40:Addr}{od40 an40:Option Addr}{sl40:Array (Option Value)}{oc40 kV40 dc40 pm40 cd40 ct40:Value}{f41:Addr}{od41 an41:Option Addr}{sl41:Array (Option Value)}{oc41 kV41 dc41 pm41 cd41 ct41:Value}{f42:Addr}{od42 an42:Option Addr}{sl42:Array (Option Value)}{oc42 kV42 dc42 pm42 cd42 ct42:Value}{f43:Addr}{od43 an43:Option Addr}{sl43:Array (Option Value)}{oc43 kV43 dc43 pm43 cd43 ct43:Value}{f44:Addr}{od44 an44:Option Addr}{sl44:Array (Option Value)}{oc44 kV44 dc44 pm44 cd44 ct44:Value}{f45:Addr}{od45 an45:Option Addr}{sl45:Array (Option Value)}{oc45 kV45 dc45 pm45 cd45 ct45:Value}{f46:Addr}{od46 an46:Option Addr}{sl46:Array (Option Value)}{oc46 kV46 dc46 pm46 cd46 ct46:Value}{f47:Addr}{od47 an47:Option Addr}{sl47:Array (Option Value)}{oc47 kV47 dc47 pm47 cd47 ct47:Value}{f48:Addr}{od48 an48:Option Addr}{sl48:Array (Option Value)}{oc48 kV48 dc48 pm48 cd48 ct48:Value}{f49:Addr}{od49 an49:Option Addr}{sl49:Array (Option Value)}{oc49 kV49 dc49 pm49 cd49 ct49:Value}{f50:Addr}{od50 an50:Option Addr}{sl50:Array (Option Value)}{oc50 kV50 dc50 pm50 cd50 ct50:Value}{f51:Addr}{od51 an51:Option Addr}{sl51:Array (Option Value)}{oc51 kV51 dc51 pm51 cd51 ct51:Value}{f52:Addr}{od52 an52:Option Addr}{sl52:Array (Option Value)}{oc52 kV52 dc52 pm52 cd52 ct52:Value}{f53:Addr}{od53 an53:Option Addr}{sl53:Array (Option Value)}{oc53 kV53 dc53 pm53 cd53 ct53:Value}{f54:Addr}{od54 an54:Option Addr}{sl54:Array (Option Value)}{oc54 kV54 dc54 pm54 cd54 ct54:Value}{f55:Addr}{od55 an55:Option Addr}{sl55:Array (Option Value)}{oc55 kV55 dc55 pm55 cd55 ct55:Value}{f56:Addr}{od56 an56:Option Addr}{sl56:Array (Option Value)}{oc56 kV56 dc56 pm56 cd56 ct56:Value}{f57:Addr}{od57 an57:Option Addr}{sl57:Array (Option Value)}{oc57 kV57 dc57 pm57 cd57 ct57:Value}{f58:Addr}{od58 an58:Option Addr}{sl58:Array (Option Value)}{oc58 kV58 dc58 pm58 cd58 ct58:Value}{f59:Addr}{od59 an59:Option Addr}{sl59:Array (Option Value)}{oc59 kV59 dc59 pm59 cd59 ct59:Value}{f60:Addr}{od60 an60:Option Addr}{sl60:Array (Option Value)}{oc60 kV60 dc60 pm60 cd60 ct60:Value}{f61:Addr}{od61 an61:Option Addr}{sl61:Array (Option Value)}{oc61 kV61 dc61 pm61 cd61 ct61:Value}{f62:Addr}{od62 an62:Option Addr}{sl62:Array (Option Value)}{oc62 kV62 dc62 pm62 cd62 ct62:Value}{C_Desk:Addr}(aC_Desk:c5w K mainGlobals "Desk" = some (some (.ref C_Desk)))(pg_Desk:d0a K C_Desk Str.empty=true)(hd_Desk:d0i K C_Desk=true)(po_Desk:PySem.W.plainOver K C_Desk=true)(sa_Desk:c6p K (.ref C_Desk) "__setattr__" = some (some (.builtin "object.__setattr__")))(mk_Desk:PySem.W.makesIn K C_Desk=true)(kc_Desk:c5z K (.ref C_Desk)=true)(nA_Desk_kept:c6p K (.ref C_Desk) "kept" = some none)(a0:c6p K (.ref C_Desk) "__init__" = some (some (.ref f0)))(i0:d0f K (.ref f0)=true)(l0:K.lookup f0=some ⟨oc0,od0,.func (c6b "__init__" "Desk.__init__" (a0s a2g) (a0p a2g) (a0d a2g) .none kV0 dc0 pm0 an0 cd0 ct0),sl0⟩)(c0:c6a K cd0 "Desk.__init__" = true)(k0:c5z K (.ref f0)=true)(a1:c5w K mainGlobals "keep_curve" = some (some (.ref f1)))(l1:K.lookup f1=some ⟨oc1,od1,.func (c6b "keep_curve" "keep_curve" (a0s a3x) (a0p a3x) (a0d a3x) .none kV1 dc1 pm1 an1 cd1 ct1),sl1⟩)(c1:c6a K cd1 "keep_curve" = true)(k1:c5z K (.ref f1)=true)(a2:c5w K mainGlobals "last_is_spare" = some (some (.ref f2)))(l2:K.lookup f2=some ⟨oc2,od2,.func (c6b "last_is_spare" "last_is_spare" (a0s a2f) (a0p a2f) (a0d a2f) .none kV2 dc2 pm2 an2 cd2 ct2),sl2⟩)(c2:c6a K cd2 "last_is_spare" = true)(k2:c5z K (.ref f2)=true)(a3:c5w K mainGlobals "greatest_common" = some (some (.ref f3)))(l3:K.lookup f3=some ⟨oc3,od3,.func (c6b "greatest_common" "greatest_common" (a0s a1u) (a0p a1u) (a0d a1u) .none kV3 dc3 pm3 an3 cd3 ct3),sl3⟩)(c3:c6a K cd3 "greatest_common" = true)(k3:c5z K (.ref f3)=true)(a4:c5w K mainGlobals "common_bottoms" = some (some (.ref f4)))(l4:K.lookup f4=some ⟨oc4,od4,.func (c6b "common_bottoms" "common_bottoms" (a0s a1y) (a0p a1y) (a0d a1y) .none kV4 dc4 pm4 an4 cd4 ct4),sl4⟩)(c4:c6a K cd4 "common_bottoms" = true)(k4:c5z K (.ref f4)=true)(a5:c5w K mainGlobals "product" = some (some (.ref f5)))(l5:K.lookup f5=some ⟨oc5,od5,.func (c6b "product" "product" (a0s a5u) (a0p a5u) (a0d a5u) .none kV5 dc5 pm5 an5 cd5 ct5),sl5⟩)(c5:c6a K cd5 "product" = true)(k5:c5z K (.ref f5)=true)(a6:c5w K mainGlobals "axis" = some (some (.ref f6)))(l6:K.lookup f6=some ⟨oc6,od6,.func (c6b "axis" "axis" (a0s b0k) (a0p b0k) (a0d b0k) .none kV6 dc6 pm6 an6 cd6 ct6),sl6⟩)(c6:c6a K cd6 "axis" = true)(k6:c5z K (.ref f6)=true)(a7:c5w K mainGlobals "axes" = some (some (.ref f7)))(l7:K.lookup f7=some ⟨oc7,od7,.func (c6b "axes" "axes" (a0s a9d) (a0p a9d) (a0d a9d) .none kV7 dc7 pm7 an7 cd7 ct7),sl7⟩)(c7:c6a K cd7 "axes" = true)(k7:c5z K (.ref f7)=true)(a8:c5w K mainGlobals "spread" = some (some (.ref f8)))(l8:K.lookup f8=some ⟨oc8,od8,.func (c6b "spread" "spread" (a0s a6g) (a0p a6g) (a0d a6g) .none kV8 dc8 pm8 an8 cd8 ct8),sl8⟩)(c8:c6a K cd8 "spread" = true)(k8:c5z K (.ref f8)=true)(a9:c5w K mainGlobals "sums_from" = some (some (.ref f9)))(l9:K.lookup f9=some ⟨oc9,od9,.func (c6b "sums_from" "sums_from" (a0s a4f) (a0p a4f) (a0d a4f) .none kV9 dc9 pm9 an9 cd9 ct9),sl9⟩)(c9:c6a K cd9 "sums_from" = true)(k9:c5z K (.ref f9)=true)(a10:c5w K mainGlobals "axis_seats" = some (some (.ref f10)))(l10:K.lookup f10=some ⟨oc10,od10,.func (c6b "axis_seats" "axis_seats" (a0s a3y) (a0p a3y) (a0d a3y) .none kV10 dc10 pm10 an10 cd10 ct10),sl10⟩)(c10:c6a K cd10 "axis_seats" = true)(k10:c5z K (.ref f10)=true)(a11:c5w K mainGlobals "share_over" = some (some (.ref f11)))(l11:K.lookup f11=some ⟨oc11,od11,.func (c6b "share_over" "share_over" (a0s a3t) (a0p a3t) (a0d a3t) .none kV11 dc11 pm11 an11 cd11 ct11),sl11⟩)(c11:c6a K cd11 "share_over" = true)(k11:c5z K (.ref f11)=true)(a12:c5w K mainGlobals "points_of" = some (some (.ref f12)))(l12:K.lookup f12=some ⟨oc12,od12,.func (c6b "points_of" "points_of" (a0s a3i) (a0p a3i) (a0d a3i) .none kV12 dc12 pm12 an12 cd12 ct12),sl12⟩)(c12:c6a K cd12 "points_of" = true)(k12:c5z K (.ref f12)=true)(a13:c5w K mainGlobals "of_powers" = some (some (.ref f13)))(l13:K.lookup f13=some ⟨oc13,od13,.func (c6b "of_powers" "of_powers" (a0s a4i) (a0p a4i) (a0d a4i) .none kV13 dc13 pm13 an13 cd13 ct13),sl13⟩)(c13:c6a K cd13 "of_powers" = true)(k13:c5z K (.ref f13)=true)(a14:c5w K mainGlobals "axis_powers" = some (some (.ref f14)))(l14:K.lookup f14=some ⟨oc14,od14,.func (c6b "axis_powers" "axis_powers" (a0s a2l) (a0p a2l) (a0d a2l) .none kV14 dc14 pm14 an14 cd14 ct14),sl14⟩)(c14:c6a K cd14 "axis_powers" = true)(k14:c5z K (.ref f14)=true)(a15:c5w K mainGlobals "powers" = some (some (.ref f15)))(l15:K.lookup f15=some ⟨oc15,od15,.func (c6b "powers" "powers" (a0s a7c) (a0p a7c) (a0d a7c) .none kV15 dc15 pm15 an15 cd15 ct15),sl15⟩)(c15:c6a K cd15 "powers" = true)(k15:c5z K (.ref f15)=true)(a16:c5w K mainGlobals "lowered" = some (some (.ref f16)))(l16:K.lookup f16=some ⟨oc16,od16,.func (c6b "lowered" "lowered" (a0s a5v) (a0p a5v) (a0d a5v) .none kV16 dc16 pm16 an16 cd16 ct16),sl16⟩)(c16:c6a K cd16 "lowered" = true)(k16:c5z K (.ref f16)=true)(a17:c5w K mainGlobals "lower_curve" = some (some (.ref f17)))(l17:K.lookup f17=some ⟨oc17,od17,.func (c6b "lower_curve" "lower_curve" (a0s a3c) (a0p a3c) (a0d a3c) .none kV17 dc17 pm17 an17 cd17 ct17),sl17⟩)(c17:c6a K cd17 "lower_curve" = true)(k17:c5z K (.ref f17)=true)(a18:c5w K mainGlobals "share" = some (some (.ref f18)))(l18:K.lookup f18=some ⟨oc18,od18,.func (c6b "share" "share" (a0s a8t) (a0p a8t) (a0d a8t) .none kV18 dc18 pm18 an18 cd18 ct18),sl18⟩)(c18:c6a K cd18 "share" = true)(k18:c5z K (.ref f18)=true)(a19:c5w K mainGlobals "minus" = some (some (.ref f19)))(l19:K.lookup f19=some ⟨oc19,od19,.func (c6b "minus" "minus" (a0s a8u) (a0p a8u) (a0d a8u) .none kV19 dc19 pm19 an19 cd19 ct19),sl19⟩)(c19:c6a K cd19 "minus" = true)(k19:c5z K (.ref f19)=true)(a20:c5w K mainGlobals "plus" = some (some (.ref f20)))(l20:K.lookup f20=some ⟨oc20,od20,.func (c6b "plus" "plus" (a0s b1x) (a0p b1x) (a0d b1x) .none kV20 dc20 pm20 an20 cd20 ct20),sl20⟩)(c20:c6a K cd20 "plus" = true)(k20:c5z K (.ref f20)=true)(a21:c5w K mainGlobals "times" = some (some (.ref f21)))(l21:K.lookup f21=some ⟨oc21,od21,.func (c6b "times" "times" (a0s a8s) (a0p a8s) (a0d a8s) .none kV21 dc21 pm21 an21 cd21 ct21),sl21⟩)(c21:c6a K cd21 "times" = true)(k21:c5z K (.ref f21)=true)(a22:c5w K mainGlobals "between" = some (some (.ref f22)))(l22:K.lookup f22=some ⟨oc22,od22,.func (c6b "between" "between" (a0s a5y) (a0p a5y) (a0d a5y) .none kV22 dc22 pm22 an22 cd22 ct22),sl22⟩)(c22:c6a K cd22 "between" = true)(k22:c5z K (.ref f22)=true)(a23:c5w K mainGlobals "on_way" = some (some (.ref f23)))(l23:K.lookup f23=some ⟨oc23,od23,.func (c6b "on_way" "on_way" (a0s a7e) (a0p a7e) (a0d a7e) .none kV23 dc23 pm23 an23 cd23 ct23),sl23⟩)(c23:c6a K cd23 "on_way" = true)(k23:c5z K (.ref f23)=true)(a24:c5w K mainGlobals "raised" = some (some (.ref f24)))(l24:K.lookup f24=some ⟨oc24,od24,.func (c6b "raised" "raised" (a0s a6h) (a0p a6h) (a0d a6h) .none kV24 dc24 pm24 an24 cd24 ct24),sl24⟩)(c24:c6a K cd24 "raised" = true)(k24:c5z K (.ref f24)=true)(a25:c5w K mainGlobals "raise_curve" = some (some (.ref f25)))(l25:K.lookup f25=some ⟨oc25,od25,.func (c6b "raise_curve" "raise_curve" (a0s a3b) (a0p a3b) (a0d a3b) .none kV25 dc25 pm25 an25 cd25 ct25),sl25⟩)(c25:c6a K cd25 "raise_curve" = true)(k25:c5z K (.ref f25)=true)(a26:c5w K mainGlobals "kinds_behind" = some (some (.ref f26)))(l26:K.lookup f26=some ⟨oc26,od26,.func (c6b "kinds_behind" "kinds_behind" (a0s a2t) (a0p a2t) (a0d a2t) .none kV26 dc26 pm26 an26 cd26 ct26),sl26⟩)(c26:c6a K cd26 "kinds_behind" = true)(k26:c5z K (.ref f26)=true)(a27:c5w K mainGlobals "read_level" = some (some (.ref f27)))(l27:K.lookup f27=some ⟨oc27,od27,.func (c6b "read_level" "read_level" (a0s a2y) (a0p a2y) (a0d a2y) .none kV27 dc27 pm27 an27 cd27 ct27),sl27⟩)(c27:c6a K cd27 "read_level" = true)(k27:c5z K (.ref f27)=true)(a28:c5w K mainGlobals "read_name" = some (some (.ref f28)))(l28:K.lookup f28=some ⟨oc28,od28,.func (c6b "read_name" "read_name" (a0s a3h) (a0p a3h) (a0d a3h) .none kV28 dc28 pm28 an28 cd28 ct28),sl28⟩)(c28:c6a K cd28 "read_name" = true)(k28:c5z K (.ref f28)=true)(a29:c5w K mainGlobals "pieces" = some (some (.ref f29)))(l29:K.lookup f29=some ⟨oc29,od29,.func (c6b "pieces" "pieces" (a0s a7d) (a0p a7d) (a0d a7d) .none kV29 dc29 pm29 an29 cd29 ct29),sl29⟩)(c29:c6a K cd29 "pieces" = true)(k29:c5z K (.ref f29)=true)(a30:c5w K mainGlobals "read_figures" = some (some (.ref f30)))(l30:K.lookup f30=some ⟨oc30,od30,.func (c6b "read_figures" "read_figures" (a0s a2c) (a0p a2c) (a0d a2c) .none kV30 dc30 pm30 an30 cd30 ct30),sl30⟩)(c30:c6a K cd30 "read_figures" = true)(k30:c5z K (.ref f30)=true)(a31:c5w K mainGlobals "read_whole" = some (some (.ref f31)))(l31:K.lookup f31=some ⟨oc31,od31,.func (c6b "read_whole" "read_whole" (a0s a3u) (a0p a3u) (a0d a3u) .none kV31 dc31 pm31 an31 cd31 ct31),sl31⟩)(c31:c6a K cd31 "read_whole" = true)(k31:c5z K (.ref f31)=true)(a32:c5w K mainGlobals "read_share" = some (some (.ref f32)))(l32:K.lookup f32=some ⟨oc32,od32,.func (c6b "read_share" "read_share" (a0s a3v) (a0p a3v) (a0d a3v) .none kV32 dc32 pm32 an32 cd32 ct32),sl32⟩)(c32:c6a K cd32 "read_share" = true)(k32:c5z K (.ref f32)=true)(a33:c5w K mainGlobals "read_point" = some (some (.ref f33)))(l33:K.lookup f33=some ⟨oc33,od33,.func (c6b "read_point" "read_point" (a0s a3w) (a0p a3w) (a0d a3w) .none kV33 dc33 pm33 an33 cd33 ct33),sl33⟩)(c33:c6a K cd33 "read_point" = true)(k33:c5z K (.ref f33)=true)(a34:c5w K mainGlobals "read_word" = some (some (.ref f34)))(l34:K.lookup f34=some ⟨oc34,od34,.func (c6b "read_word" "read_word" (a0s a4g) (a0p a4g) (a0d a4g) .none kV34 dc34 pm34 an34 cd34 ct34),sl34⟩)(c34:c6a K cd34 "read_word" = true)(k34:c5z K (.ref f34)=true)(a35:c5w K mainGlobals "read_row" = some (some (.ref f35)))(l35:K.lookup f35=some ⟨oc35,od35,.func (c6b "read_row" "read_row" (a0s a4h) (a0p a4h) (a0d a4h) .none kV35 dc35 pm35 an35 cd35 ct35),sl35⟩)(c35:c6a K cd35 "read_row" = true)(k35:c5z K (.ref f35)=true)(a36:c5w K mainGlobals "show_whole" = some (some (.ref f36)))(l36:K.lookup f36=some ⟨oc36,od36,.func (c6b "show_whole" "show_whole" (a0s a3q) (a0p a3q) (a0d a3q) .none kV36 dc36 pm36 an36 cd36 ct36),sl36⟩)(c36:c6a K cd36 "show_whole" = true)(k36:c5z K (.ref f36)=true)(a37:c5w K mainGlobals "show_share" = some (some (.ref f37)))(l37:K.lookup f37=some ⟨oc37,od37,.func (c6b "show_share" "show_share" (a0s a3r) (a0p a3r) (a0d a3r) .none kV37 dc37 pm37 an37 cd37 ct37),sl37⟩)(c37:c6a K cd37 "show_share" = true)(k37:c5z K (.ref f37)=true)(a38:c5w K mainGlobals "show_point" = some (some (.ref f38)))(l38:K.lookup f38=some ⟨oc38,od38,.func (c6b "show_point" "show_point" (a0s a3s) (a0p a3s) (a0d a3s) .none kV38 dc38 pm38 an38 cd38 ct38),sl38⟩)(c38:c6a K cd38 "show_point" = true)(k38:c5z K (.ref f38)=true)(a39:c5w K mainGlobals "show_curve" = some (some (.ref f39)))(l39:K.lookup f39=some ⟨oc39,od39,.func (c6b "show_curve" "show_curve" (a0s a2x) (a0p a2x) (a0d a2x) .none kV39 dc39 pm39 an39 cd39 ct39),sl39⟩)(c39:c6a K cd39 "show_curve" = true)(k39:c5z K (.ref f39)=true)(a40:c5w K mainGlobals "tell_curve" = some (some (.ref f40)))(l40:K.lookup f40=some ⟨oc40,od40,.func (c6b "tell_curve" "tell_curve" (a0s a3p) (a0p a3p) (a0d a3p) .none kV40 dc40 pm40 an40 cd40 ct40),sl40⟩)(c40:c6a K cd40 "tell_curve" = true)(k40:c5z K (.ref f40)=true)(a41:c5w K mainGlobals "tell_names" = some (some (.ref f41)))(l41:K.lookup f41=some ⟨oc41,od41,.func (c6b "tell_names" "tell_names" (a0s a3o) (a0p a3o) (a0d a3o) .none kV41 dc41 pm41 an41 cd41 ct41),sl41⟩)(c41:c6a K cd41 "tell_names" = true)(k41:c5z K (.ref f41)=true)(a42:c6p K (.ref C_Desk) "say" = some (some (.ref f42)))(i42:d0f K (.ref f42)=true)(l42:K.lookup f42=some ⟨oc42,od42,.func (c6b "say" "Desk.say" (a0s a5c) (a0p a5c) (a0d a5c) .none kV42 dc42 pm42 an42 cd42 ct42),sl42⟩)(c42:c6a K cd42 "Desk.say" = true)(k42:c5z K (.ref f42)=true)(a43:c5w K mainGlobals "_law_filled" = some (some (.ref f43)))(l43:K.lookup f43=some ⟨oc43,od43,.func (c6b "_law_filled" "_law_filled" (a0s a5b) (a0p a5b) (a0d a5b) .none kV43 dc43 pm43 an43 cd43 ct43),sl43⟩)(c43:c6a K cd43 "_law_filled" = true)(k43:c5z K (.ref f43)=true)(a44:c5w K mainGlobals "_law_no_names" = some (some (.ref f44)))(l44:K.lookup f44=some ⟨oc44,od44,.func (c6b "_law_no_names" "_law_no_names" (a0s a3a) (a0p a3a) (a0d a3a) .none kV44 dc44 pm44 an44 cd44 ct44),sl44⟩)(c44:c6a K cd44 "_law_no_names" = true)(k44:c5z K (.ref f44)=true)(a45:c5w K mainGlobals "_law_no_rows" = some (some (.ref f45)))(l45:K.lookup f45=some ⟨oc45,od45,.func (c6b "_law_no_rows" "_law_no_rows" (a0s a3k) (a0p a3k) (a0d a3k) .none kV45 dc45 pm45 an45 cd45 ct45),sl45⟩)(c45:c6a K cd45 "_law_no_rows" = true)(k45:c5z K (.ref f45)=true)(a46:c5w K mainGlobals "_law_no_words" = some (some (.ref f46)))(l46:K.lookup f46=some ⟨oc46,od46,.func (c6b "_law_no_words" "_law_no_words" (a0s a2z) (a0p a2z) (a0d a2z) .none kV46 dc46 pm46 an46 cd46 ct46),sl46⟩)(c46:c6a K cd46 "_law_no_words" = true)(k46:c5z K (.ref f46)=true)(a47:c5w K mainGlobals "_law_strangers" = some (some (.ref f47)))(l47:K.lookup f47=some ⟨oc47,od47,.func (c6b "_law_strangers" "_law_strangers" (a0s a2k) (a0p a2k) (a0d a2k) .none kV47 dc47 pm47 an47 cd47 ct47),sl47⟩)(c47:c6a K cd47 "_law_strangers" = true)(k47:c5z K (.ref f47)=true)(a48:c5w K mainGlobals "_law_stream" = some (some (.ref f48)))(l48:K.lookup f48=some ⟨oc48,od48,.func (c6b "_law_stream" "_law_stream" (a0s a5a) (a0p a5a) (a0d a5a) .none kV48 dc48 pm48 an48 cd48 ct48),sl48⟩)(c48:c6a K cd48 "_law_stream" = true)(k48:c5z K (.ref f48)=true)(a49:c5w K mainGlobals "_law_case" = some (some (.ref f49)))(l49:K.lookup f49=some ⟨oc49,od49,.func (c6b "_law_case" "_law_case" (a0s a7f) (a0p a7f) (a0d a7f) .none kV49 dc49 pm49 an49 cd49 ct49),sl49⟩)(c49:c6a K cd49 "_law_case" = true)(k49:c5z K (.ref f49)=true)(a50:c5w K mainGlobals "_law_cell_at" = some (some (.ref f50)))(l50:K.lookup f50=some ⟨oc50,od50,.func (c6b "_law_cell_at" "_law_cell_at" (a0s a4k) (a0p a4k) (a0d a4k) .none kV50 dc50 pm50 an50 cd50 ct50),sl50⟩)(c50:c6a K cd50 "_law_cell_at" = true)(k50:c5z K (.ref f50)=true)(a51:c5w K mainGlobals "_law_share_text" = some (some (.ref f51)))(l51:K.lookup f51=some ⟨oc51,od51,.func (c6b "_law_share_text" "_law_share_text" (a0s a2r) (a0p a2r) (a0d a2r) .none kV51 dc51 pm51 an51 cd51 ct51),sl51⟩)(c51:c6a K cd51 "_law_share_text" = true)(k51:c5z K (.ref f51)=true)(a52:c5w K mainGlobals "_law_point_text" = some (some (.ref f52)))(l52:K.lookup f52=some ⟨oc52,od52,.func (c6b "_law_point_text" "_law_point_text" (a0s a2s) (a0p a2s) (a0d a2s) .none kV52 dc52 pm52 an52 cd52 ct52),sl52⟩)(c52:c6a K cd52 "_law_point_text" = true)(k52:c5z K (.ref f52)=true)(a53:c5w K mainGlobals "_law_curve_text" = some (some (.ref f53)))(l53:K.lookup f53=some ⟨oc53,od53,.func (c6b "_law_curve_text" "_law_curve_text" (a0s a2d) (a0p a2d) (a0d a2d) .none kV53 dc53 pm53 an53 cd53 ct53),sl53⟩)(c53:c6a K cd53 "_law_curve_text" = true)(k53:c5z K (.ref f53)=true)(a54:c5w K mainGlobals "_law_share" = some (some (.ref f54)))(l54:K.lookup f54=some ⟨oc54,od54,.func (c6b "_law_share" "_law_share" (a0s a5w) (a0p a5w) (a0d a5w) .none kV54 dc54 pm54 an54 cd54 ct54),sl54⟩)(c54:c6a K cd54 "_law_share" = true)(k54:c5z K (.ref f54)=true)(a55:c5w K mainGlobals "_law_handed" = some (some (.ref f55)))(l55:K.lookup f55=some ⟨oc55,od55,.func (c6b "_law_handed" "_law_handed" (a0s a4j) (a0p a4j) (a0d a4j) .none kV55 dc55 pm55 an55 cd55 ct55),sl55⟩)(c55:c6a K cd55 "_law_handed" = true)(k55:c5z K (.ref f55)=true)(a56:c5w K mainGlobals "_law_names" = some (some (.ref f56)))(l56:K.lookup f56=some ⟨oc56,od56,.func (c6b "_law_names" "_law_names" (a0s a4p) (a0p a4p) (a0d a4p) .none kV56 dc56 pm56 an56 cd56 ct56),sl56⟩)(c56:c6a K cd56 "_law_names" = true)(k56:c5z K (.ref f56)=true)(a57:c5w K mainGlobals "_law_refused" = some (some (.ref f57)))(l57:K.lookup f57=some ⟨oc57,od57,.func (c6b "_law_refused" "_law_refused" (a0s a3j) (a0p a3j) (a0d a3j) .none kV57 dc57 pm57 an57 cd57 ct57),sl57⟩)(c57:c6a K cd57 "_law_refused" = true)(k57:c5z K (.ref f57)=true)(a58:c5w K mainGlobals "_law_place" = some (some (.ref f58)))(l58:K.lookup f58=some ⟨oc58,od58,.func (c6b "_law_place" "_law_place" (a0s a5x) (a0p a5x) (a0d a5x) .none kV58 dc58 pm58 an58 cd58 ct58),sl58⟩)(c58:c6a K cd58 "_law_place" = true)(k58:c5z K (.ref f58)=true)(a59:c5w K mainGlobals "_law_seats" = some (some (.ref f59)))(l59:K.lookup f59=some ⟨oc59,od59,.func (c6b "_law_seats" "_law_seats" (a0s a5i) (a0p a5i) (a0d a5i) .none kV59 dc59 pm59 an59 cd59 ct59),sl59⟩)(c59:c6a K cd59 "_law_seats" = true)(k59:c5z K (.ref f59)=true)(a60:c5w K mainGlobals "_law_state" = some (some (.ref f60)))(l60:K.lookup f60=some ⟨oc60,od60,.func (c6b "_law_state" "_law_state" (a0s a5h) (a0p a5h) (a0d a5h) .none kV60 dc60 pm60 an60 cd60 ct60),sl60⟩)(c60:c6a K cd60 "_law_state" = true)(k60:c5z K (.ref f60)=true)(a61:c5w K mainGlobals "_law_way" = some (some (.ref f61)))(l61:K.lookup f61=some ⟨oc61,od61,.func (c6b "_law_way" "_law_way" (a0s a8v) (a0p a8v) (a0d a8v) .none kV61 dc61 pm61 an61 cd61 ct61),sl61⟩)(c61:c6a K cd61 "_law_way" = true)(k61:c5z K (.ref f61)=true)(a62:c5w K mainGlobals "law" = some (some (.ref f62)))(l62:K.lookup f62=some ⟨oc62,od62,.func (c6b "law" "law" (a0s b2u) (a0p b2u) (a0d b2u) .none kV62 dc62 pm62 an62 cd62 ct62),sl62⟩)(c62:c6a K cd62 "law" = true)(k62:c5z K (.ref f62)=true)(z_len:c5w K mainGlobals "len" = some none)(z_abs:c5w K mainGlobals "abs" = some none)(z_range:c5w K mainGlobals "range" = some none)(z_max:c5w K mainGlobals "max" = some none)(z_min:c5w K mainGlobals "min" = some none)(z_any:c5w K mainGlobals "any" = some none)(z_all:c5w K mainGlobals "all" = some none)(z_sum:c5w K mainGlobals "sum" = some none)(z_isinstance:c5w K mainGlobals "isinstance" = some none)(z_int:c5w K mainGlobals "int" = some none)(z_bool:c5w K mainGlobals "bool" = some none)(z_tuple:c5w K mainGlobals "tuple" = some none)(z_list:c5w K mainGlobals "list" = some none)(z_str:c5w K mainGlobals "str" = some none)(z_ValueError:c5w K mainGlobals "ValueError" = some none)(z_zip:c5w K mainGlobals "zip" = some none)(z_reversed:c5w K mainGlobals "reversed" = some none)(z_enumerate:c5w K mainGlobals "enumerate" = some none)(z_sorted:c5w K mainGlobals "sorted" = some none)(z_dict:c5w K mainGlobals "dict" = some none){C_SeatError C_NoText C_NoName C_TooMany C_NoLower C_NoShare C_NoMap C_NoJoin C_NoPlace:Addr}(a_SeatError:c5w K mainGlobals "SeatError" = some (some (.ref C_SeatError)))(a_NoText:c5w K mainGlobals "NoText" = some (some (.ref C_NoText)))(a_NoName:c5w K mainGlobals "NoName" = some (some (.ref C_NoName)))(a_TooMany:c5w K mainGlobals "TooMany" = some (some (.ref C_TooMany)))(a_NoLower:c5w K mainGlobals "NoLower" = some (some (.ref C_NoLower)))(a_NoShare:c5w K mainGlobals "NoShare" = some (some (.ref C_NoShare)))(a_NoMap:c5w K mainGlobals "NoMap" = some (some (.ref C_NoMap)))(a_NoJoin:c5w K mainGlobals "NoJoin" = some (some (.ref C_NoJoin)))(a_NoPlace:c5w K mainGlobals "NoPlace" = some (some (.ref C_NoPlace))){nm_NoText q_NoText:Str}{N_NoText:Addr}{bs_NoText bm_NoText:List Value}{hd_NoText:Bool}{sn_NoText:List Str}{sub_NoText:List Value}{ab_NoText:Bool}{col_NoText:Option Bool}{dd_NoText:Option Addr}{k0_NoText k1_NoText k2_NoText k3_NoText k5_NoText:Option Value}(l_NoText:K.lookup C_NoText=some (excClassObj nm_NoText q_NoText C_NoText N_NoText bs_NoText bm_NoText hd_NoText sn_NoText sub_NoText ab_NoText col_NoText dd_NoText k0_NoText k1_NoText k2_NoText k3_NoText k5_NoText "ValueError.__new__"))(n_NoText:d0g K N_NoText=true)(i_NoText:c5w K N_NoText "__init__" = some none)(t_NoText:d0h K mroV bm_NoText=true)(m_NoText:c7m K (.ref C_NoText) (.ref C_SeatError)=some true)(v_NoText:c5x K (.ref C_NoText) (.type "ValueError")=some true){nm_NoName q_NoName:Str}{N_NoName:Addr}{bs_NoName bm_NoName:List Value}{hd_NoName:Bool}{sn_NoName:List Str}{sub_NoName:List Value}{ab_NoName:Bool}{col_NoName:Option Bool}{dd_NoName:Option Addr}{k0_NoName k1_NoName k2_NoName k3_NoName k5_NoName:Option Value}(l_NoName:K.lookup C_NoName=some (excClassObj nm_NoName q_NoName C_NoName N_NoName bs_NoName bm_NoName hd_NoName sn_NoName sub_NoName ab_NoName col_NoName dd_NoName k0_NoName k1_NoName k2_NoName k3_NoName k5_NoName "ValueError.__new__"))(n_NoName:d0g K N_NoName=true)(i_NoName:c5w K N_NoName "__init__" = some none)(t_NoName:d0h K mroV bm_NoName=true)(m_NoName:c7m K (.ref C_NoName) (.ref C_SeatError)=some true)(v_NoName:c5x K (.ref C_NoName) (.type "ValueError")=some true){nm_TooMany q_TooMany:Str}{N_TooMany:Addr}{bs_TooMany bm_TooMany:List Value}{hd_TooMany:Bool}{sn_TooMany:List Str}{sub_TooMany:List Value}{ab_TooMany:Bool}{col_TooMany:Option Bool}{dd_TooMany:Option Addr}{k0_TooMany k1_TooMany k2_TooMany k3_TooMany k5_TooMany:Option Value}(l_TooMany:K.lookup C_TooMany=some (excClassObj nm_TooMany q_TooMany C_TooMany N_TooMany bs_TooMany bm_TooMany hd_TooMany sn_TooMany sub_TooMany ab_TooMany col_TooMany dd_TooMany k0_TooMany k1_TooMany k2_TooMany k3_TooMany k5_TooMany "ValueError.__new__"))(n_TooMany:d0g K N_TooMany=true)(i_TooMany:c5w K N_TooMany "__init__" = some none)(t_TooMany:d0h K mroV bm_TooMany=true)(m_TooMany:c7m K (.ref C_TooMany) (.ref C_SeatError)=some true)(v_TooMany:c5x K (.ref C_TooMany) (.type "ValueError")=some true){nm_NoLower q_NoLower:Str}{N_NoLower:Addr}{bs_NoLower bm_NoLower:List Value}{hd_NoLower:Bool}{sn_NoLower:List Str}{sub_NoLower:List Value}{ab_NoLower:Bool}{col_NoLower:Option Bool}{dd_NoLower:Option Addr}{k0_NoLower k1_NoLower k2_NoLower k3_NoLower k5_NoLower:Option Value}(l_NoLower:K.lookup C_NoLower=some (excClassObj nm_NoLower q_NoLower C_NoLower N_NoLower bs_NoLower bm_NoLower hd_NoLower sn_NoLower sub_NoLower ab_NoLower col_NoLower dd_NoLower k0_NoLower k1_NoLower k2_NoLower k3_NoLower k5_NoLower "ValueError.__new__"))(n_NoLower:d0g K N_NoLower=true)(i_NoLower:c5w K N_NoLower "__init__" = some none)(t_NoLower:d0h K mroV bm_NoLower=true)(m_NoLower:c7m K (.ref C_NoLower) (.ref C_SeatError)=some true)(v_NoLower:c5x K (.ref C_NoLower) (.type "ValueError")=some true)(m_SNoText:c7m K (.ref C_NoText) (.ref C_NoText)=some true)(xhg_NoText:c6p K (.ref C_NoText) "__getattribute__" = some (some (.builtin "BaseException.__getattribute__")))(xhk_NoText:c6p K (.ref C_NoText) "__getattr__" = some none)(xhd_NoText:(c8v K C_NoText).isSome=true)(xha_NoText:c6p K (.ref C_NoText) "__class__" = some (some (.builtin "object.__class__")))(xhn_NoText:c9h K (.builtin "object.__class__") "__get__" = some (some (.builtin "getset_descriptor.__get__")))(xht_NoText:c9p K (.builtin "object.__class__")=some true)(xhm_NoText:c8j K C_NoText (.type "object")=some true)(xhb_NoText:c8j K C_NoText (.type "BaseException")=some true)(v_NoText_NoName:c5x K (.ref C_NoText) (.ref C_NoName)=some false)(v_NoText_TooMany:c5x K (.ref C_NoText) (.ref C_TooMany)=some false)(v_NoText_NoLower:c5x K (.ref C_NoText) (.ref C_NoLower)=some false)(v_NoText_NoShare:c5x K (.ref C_NoText) (.ref C_NoShare)=some false)(v_NoText_NoMap:c5x K (.ref C_NoText) (.ref C_NoMap)=some false)(v_NoText_NoJoin:c5x K (.ref C_NoText) (.ref C_NoJoin)=some false)(v_NoText_NoPlace:c5x K (.ref C_NoText) (.ref C_NoPlace)=some false)(m_SNoName:c7m K (.ref C_NoName) (.ref C_NoName)=some true)(xhg_NoName:c6p K (.ref C_NoName) "__getattribute__" = some (some (.builtin "BaseException.__getattribute__")))(xhk_NoName:c6p K (.ref C_NoName) "__getattr__" = some none)(xhd_NoName:(c8v K C_NoName).isSome=true)(xha_NoName:c6p K (.ref C_NoName) "__class__" = some (some (.builtin "object.__class__")))(xhn_NoName:c9h K (.builtin "object.__class__") "__get__" = some (some (.builtin "getset_descriptor.__get__")))(xht_NoName:c9p K (.builtin "object.__class__")=some true)(xhm_NoName:c8j K C_NoName (.type "object")=some true)(xhb_NoName:c8j K C_NoName (.type "BaseException")=some true)(v_NoName_NoText:c5x K (.ref C_NoName) (.ref C_NoText)=some false)(v_NoName_TooMany:c5x K (.ref C_NoName) (.ref C_TooMany)=some false)(v_NoName_NoLower:c5x K (.ref C_NoName) (.ref C_NoLower)=some false)(v_NoName_NoShare:c5x K (.ref C_NoName) (.ref C_NoShare)=some false)(v_NoName_NoMap:c5x K (.ref C_NoName) (.ref C_NoMap)=some false)(v_NoName_NoJoin:c5x K (.ref C_NoName) (.ref C_NoJoin)=some false)(v_NoName_NoPlace:c5x K (.ref C_NoName) (.ref C_NoPlace)=some false)(m_STooMany:c7m K (.ref C_TooMany) (.ref C_TooMany)=some true)(xhg_TooMany:c6p K (.ref C_TooMany) "__getattribute__" = some (some (.builtin "BaseException.__getattribute__")))(xhk_TooMany:c6p K (.ref C_TooMany) "__getattr__" = some none)(xhd_TooMany:(c8v K C_TooMany).isSome=true)(xha_TooMany:c6p K (.ref C_TooMany) "__class__" = some (some (.builtin "object.__class__")))(xhn_TooMany:c9h K (.builtin "object.__class__") "__get__" = some (some (.builtin "getset_descriptor.__get__")))(xht_TooMany:c9p K (.builtin "object.__class__")=some true)(xhm_TooMany:c8j K C_TooMany (.type "object")=some true)(xhb_TooMany:c8j K C_TooMany (.type "BaseException")=some true)(v_TooMany_NoText:c5x K (.ref C_TooMany) (.ref C_NoText)=some false)(v_TooMany_NoName:c5x K (.ref C_TooMany) (.ref C_NoName)=some false)(v_TooMany_NoLower:c5x K (.ref C_TooMany) (.ref C_NoLower)=some false)(v_TooMany_NoShare:c5x K (.ref C_TooMany) (.ref C_NoShare)=some false)(v_TooMany_NoMap:c5x K (.ref C_TooMany) (.ref C_NoMap)=some false)(v_TooMany_NoJoin:c5x K (.ref C_TooMany) (.ref C_NoJoin)=some false)(v_TooMany_NoPlace:c5x K (.ref C_TooMany) (.ref C_NoPlace)=some false)(m_SNoLower:c7m K (.ref C_NoLower) (.ref C_NoLower)=some true)(xhg_NoLower:c6p K (.ref C_NoLower) "__getattribute__" = some (some (.builtin "BaseException.__getattribute__")))(xhk_NoLower:c6p K (.ref C_NoLower) "__getattr__" = some none)(xhd_NoLower:(c8v K C_NoLower).isSome=true)(xha_NoLower:c6p K (.ref C_NoLower) "__class__" = some (some (.builtin "object.__class__")))(xhn_NoLower:c9h K (.builtin "object.__class__") "__get__" = some (some (.builtin "getset_descriptor.__get__")))(xht_NoLower:c9p K (.builtin "object.__class__")=some true)(xhm_NoLower:c8j K C_NoLower (.type "object")=some true)(xhb_NoLower:c8j K C_NoLower (.type "BaseException")=some true)(v_NoLower_NoText:c5x K (.ref C_NoLower) (.ref C_NoText)=some false)(v_NoLower_NoName:c5x K (.ref C_NoLower) (.ref C_NoName)=some false)(v_NoLower_TooMany:c5x K (.ref C_NoLower) (.ref C_TooMany)=some false)(v_NoLower_NoShare:c5x K (.ref C_NoLower) (.ref C_NoShare)=some false)(v_NoLower_NoMap:c5x K (.ref C_NoLower) (.ref C_NoMap)=some false)(v_NoLower_NoJoin:c5x K (.ref C_NoLower) (.ref C_NoJoin)=some false)(v_NoLower_NoPlace:c5x K (.ref C_NoLower) (.ref C_NoPlace)=some false){t_MOST_SEATS:Tok}(a_MOST_SEATS:c5w K mainGlobals "MOST_SEATS" = some (some (.int 12 t_MOST_SEATS))){t_MOST_LEVEL:Tok}(a_MOST_LEVEL:c5w K mainGlobals "MOST_LEVEL" = some (some (.int 6 t_MOST_LEVEL))){t_FIGURES:Tok}(a_FIGURES:c5w K mainGlobals "FIGURES" = some (some (.str "0123456789" t_FIGURES))){t_MOST_FIGURES:Tok}(a_MOST_FIGURES:c5w K mainGlobals "MOST_FIGURES" = some (some (.int 100 t_MOST_FIGURES))){t_PIECE_FIGURES:Tok}(a_PIECE_FIGURES:c5w K mainGlobals "PIECE_FIGURES" = some (some (.int 64 t_PIECE_FIGURES))){t_PIECE:Tok}(a_PIECE:c5w K mainGlobals "PIECE" = some (some (.int 10000000000000000000000000000000000000000000000000000000000000000 t_PIECE)))(a_divmod:c5w K mainGlobals "divmod" = some none){t_LETTERS:Tok}(a_LETTERS:c5w K mainGlobals "LETTERS" = some (some (.str "abcdefghijklmnopqrstuvwxyz" t_LETTERS))){t_MOST_LETTERS:Tok}(a_MOST_LETTERS:c5w K mainGlobals "MOST_LETTERS" = some (some (.int 12 t_MOST_LETTERS))){A_FORMS:Addr}{es_FORMS:Array DictEntry}{ep_FORMS:Nat}(a_FORMS:c5w K mainGlobals "FORMS" = some (some (.ref A_FORMS)))(lA_FORMS:K.lookup A_FORMS=some ⟨.type "dict",none,.dict es_FORMS ep_FORMS,#[]⟩)(n_b_FORMS:(A_FORMS == sysModules)=false)(q_FORMS:b6j w es_FORMS a3m){A_DEEDS:Addr}{es_DEEDS:Array DictEntry}{ep_DEEDS:Nat}{F_keep_curve F_tell_curve F_tell_names F_tell_point F_keep_cut F_keep_stretch F_turn_curve F_raise_curve F_lower_curve F_lower_fully F_keep_speed F_move_curve F_tell_same F_tell_hull F_tell_box F_tell_part F_tell_meet F_tell_join:Addr}(a_DEEDS:c5w K mainGlobals "DEEDS" = some (some (.ref A_DEEDS)))(lA_DEEDS:K.lookup A_DEEDS=some ⟨.type "dict",none,.dict es_DEEDS ep_DEEDS,#[]⟩)(n_b_DEEDS:(A_DEEDS == sysModules)=false)(q_DEEDS:b6j w es_DEEDS [(.inr "curve",.ref F_keep_curve),(.inr "tell",.ref F_tell_curve),(.inr "names",.ref F_tell_names),(.inr "point",.ref F_tell_point),(.inr "cut",.ref F_keep_cut),(.inr "stretch",.ref F_keep_stretch),(.inr "turn",.ref F_turn_curve),(.inr "raise",.ref F_raise_curve),(.inr "lower",.ref F_lower_curve),(.inr "least",.ref F_lower_fully),(.inr "speed",.ref F_keep_speed),(.inr "move",.ref F_move_curve),(.inr "same",.ref F_tell_same),(.inr "hull",.ref F_tell_hull),(.inr "box",.ref F_tell_box),(.inr "part",.ref F_tell_part),(.inr "meet",.ref F_tell_meet),(.inr "join",.ref F_tell_join)])(ag_keep_curve:c5w K mainGlobals "keep_curve" = some (some (.ref F_keep_curve)))(ag_tell_curve:c5w K mainGlobals "tell_curve" = some (some (.ref F_tell_curve)))(ag_tell_names:c5w K mainGlobals "tell_names" = some (some (.ref F_tell_names)))(ag_raise_curve:c5w K mainGlobals "raise_curve" = some (some (.ref F_raise_curve)))(ag_lower_curve:c5w K mainGlobals "lower_curve" = some (some (.ref F_lower_curve))){A_NOUGHT B_NOUGHT C_NOUGHT:Addr}{dA_NOUGHT dB_NOUGHT dC_NOUGHT:Option Addr}{sA_NOUGHT sB_NOUGHT sC_NOUGHT:Array (Option Value)}{nA_NOUGHT nB_NOUGHT nC_NOUGHT:Nat}{t1_NOUGHT t2_NOUGHT t3_NOUGHT t4_NOUGHT:Tok}(a_NOUGHT:c5w K mainGlobals "NOUGHT" = some (some (.ref A_NOUGHT)))(lA_NOUGHT:K.lookup A_NOUGHT=some ⟨.type "tuple",dA_NOUGHT,.seq #[.ref B_NOUGHT,.ref C_NOUGHT] nA_NOUGHT,sA_NOUGHT⟩)(lB_NOUGHT:K.lookup B_NOUGHT=some ⟨.type "tuple",dB_NOUGHT,.seq #[.int 0 t1_NOUGHT,.int 1 t2_NOUGHT] nB_NOUGHT,sB_NOUGHT⟩)(lC_NOUGHT:K.lookup C_NOUGHT=some ⟨.type "tuple",dC_NOUGHT,.seq #[.int 0 t3_NOUGHT,.int 1 t4_NOUGHT] nC_NOUGHT,sC_NOUGHT⟩)
   : ∃ fd:FuncData,(∀ (s:Shared) (v:Value),BindsTo s fd ⟨[v],[]⟩ [("_law_script",v)])∧∀ (P:Program) (base:Heap),K.In base→base.Ns mainGlobals mg→FnOk P w K mg base CX0 10 fa fd ["_law_script"] ((spLaw K)):=by
 have e:=hfa.symm.trans (c5y KX GN a62)
 cases e
 have B:Blt mg:=⟨c6r KX GN z_len,c6r KX GN z_abs,c6r KX GN z_range,c6r KX GN z_max,c6r KX GN z_min,c6r KX GN z_any,c6r KX GN z_all,c6r KX GN z_sum,c6r KX GN z_isinstance,c6r KX GN z_int,c6r KX GN z_bool,c6r KX GN z_tuple,c6r KX GN z_list,c6r KX GN z_str,c6r KX GN z_ValueError,c6r KX GN z_zip,c6r KX GN z_reversed,c6r KX GN z_enumerate,c6r KX GN z_sorted,c6r KX GN z_dict⟩
 have X:Exc K mg C_SeatError C_NoText C_NoName C_TooMany C_NoLower C_NoShare C_NoMap C_NoJoin C_NoPlace:=⟨c5y KX GN a_SeatError,c5y KX GN a_NoText,c5y KX GN a_NoName,c5y KX GN a_TooMany,c5y KX GN a_NoLower,c5y KX GN a_NoShare,c5y KX GN a_NoMap,c5y KX GN a_NoJoin,c5y KX GN a_NoPlace,⟨c5y KX GN a_NoText,_,_,_,_,_,_,_,_,_,_,_,_,_,_,_,_,l_NoText,n_NoText,i_NoText,t_NoText⟩,m_NoText,v_NoText,⟨c5y KX GN a_NoName,_,_,_,_,_,_,_,_,_,_,_,_,_,_,_,_,l_NoName,n_NoName,i_NoName,t_NoName⟩,m_NoName,v_NoName,⟨c5y KX GN a_TooMany,_,_,_,_,_,_,_,_,_,_,_,_,_,_,_,_,l_TooMany,n_TooMany,i_TooMany,t_TooMany⟩,m_TooMany,v_TooMany,⟨c5y KX GN a_NoLower,_,_,_,_,_,_,_,_,_,_,_,_,_,_,_,_,l_NoLower,n_NoLower,i_NoLower,t_NoLower⟩,m_NoLower,v_NoLower,m_SNoText,⟨xhg_NoText,xhk_NoText,xhd_NoText,xha_NoText,xhn_NoText,xht_NoText,xhm_NoText,xhb_NoText⟩,v_NoText_NoName,v_NoText_TooMany,v_NoText_NoLower,v_NoText_NoShare,v_NoText_NoMap,v_NoText_NoJoin,v_NoText_NoPlace,m_SNoName,⟨xhg_NoName,xhk_NoName,xhd_NoName,xha_NoName,xhn_NoName,xht_NoName,xhm_NoName,xhb_NoName⟩,v_NoName_NoText,v_NoName_TooMany,v_NoName_NoLower,v_NoName_NoShare,v_NoName_NoMap,v_NoName_NoJoin,v_NoName_NoPlace,m_STooMany,⟨xhg_TooMany,xhk_TooMany,xhd_TooMany,xha_TooMany,xhn_TooMany,xht_TooMany,xhm_TooMany,xhb_TooMany⟩,v_TooMany_NoText,v_TooMany_NoName,v_TooMany_NoLower,v_TooMany_NoShare,v_TooMany_NoMap,v_TooMany_NoJoin,v_TooMany_NoPlace,m_SNoLower,⟨xhg_NoLower,xhk_NoLower,xhd_NoLower,xha_NoLower,xhn_NoLower,xht_NoLower,xhm_NoLower,xhb_NoLower⟩,v_NoLower_NoText,v_NoLower_NoName,v_NoLower_TooMany,v_NoLower_NoShare,v_NoLower_NoMap,v_NoLower_NoJoin,v_NoLower_NoPlace⟩
 have G:Cst K mg w A_FORMS A_DEEDS F_keep_curve F_tell_curve F_tell_names F_tell_point F_keep_cut F_keep_stretch F_turn_curve F_raise_curve F_lower_curve F_lower_fully F_keep_speed F_move_curve F_tell_same F_tell_hull F_tell_box F_tell_part F_tell_meet F_tell_join A_NOUGHT t_MOST_SEATS t_MOST_LEVEL t_FIGURES t_MOST_FIGURES t_PIECE_FIGURES t_PIECE t_LETTERS t_MOST_LETTERS:=⟨c5y KX GN a_MOST_SEATS,c5y KX GN a_MOST_LEVEL,c5y KX GN a_FIGURES,c5y KX GN a_MOST_FIGURES,c5y KX GN a_PIECE_FIGURES,c5y KX GN a_PIECE,c6r KX GN a_divmod,c5y KX GN a_LETTERS,c5y KX GN a_MOST_LETTERS,c5y KX GN a_FORMS,fun P=>dkn_of (P:=P) lA_FORMS q_FORMS (show ([.inr "tell",.inr "names",.inr "point",.inr "cut",.inr "stretch",.inr "turn",.inr "raise",.inr "lower",.inr "least",.inr "speed",.inr "move",.inr "same",.inr "hull",.inr "box",.inr "part",.inr "meet",.inr "join"]:List Key).Nodup from by decide) n_b_FORMS,c5y KX GN a_DEEDS,fun P=>dkn_of (P:=P) lA_DEEDS q_DEEDS (show ([.inr "curve",.inr "tell",.inr "names",.inr "point",.inr "cut",.inr "stretch",.inr "turn",.inr "raise",.inr "lower",.inr "least",.inr "speed",.inr "move",.inr "same",.inr "hull",.inr "box",.inr "part",.inr "meet",.inr "join"]:List Key).Nodup from by decide) n_b_DEEDS,c5y KX GN ag_keep_curve,c5y KX GN ag_tell_curve,c5y KX GN ag_tell_names,c5y KX GN ag_raise_curve,c5y KX GN ag_lower_curve,c5y KX GN a_NOUGHT,fun _=>kPoint lA_NOUGHT lB_NOUGHT lC_NOUGHT⟩
 have T_Desk:ClsK K mg "Desk" C_Desk:=⟨⟨pg_Desk,hd_Desk,po_Desk,sa_Desk⟩,mk_Desk,kc_Desk,c5y KX GN aC_Desk⟩
 have F0:b1r K C_Desk "__init__" "Desk.__init__" a2g ["self"]:=b1r.mk' a0 i0 l0 c0 k0 fun _ _ _ _ _ _ us hl=>uln1 (fun _=>rfl) us hl
 have F1:a0k K mg "keep_curve" a3x ["kept","things"]:=a0k.mk' (c5y KX GN a1) l1 c1 k1 fun _ _ _ _ _ _ us hl=>uln2 (fun _ _=>rfl) us hl
 have F2:a0k K mg "last_is_spare" a2f ["some"]:=a0k.mk' (c5y KX GN a2) l2 c2 k2 fun _ _ _ _ _ _ us hl=>uln1 (fun _=>rfl) us hl
 have F3:a0k K mg "greatest_common" a1u ["one","other"]:=a0k.mk' (c5y KX GN a3) l3 c3 k3 fun _ _ _ _ _ _ us hl=>uln2 (fun _ _=>rfl) us hl
 have F4:a0k K mg "common_bottoms" a1y ["shares"]:=a0k.mk' (c5y KX GN a4) l4 c4 k4 fun _ _ _ _ _ _ us hl=>uln1 (fun _=>rfl) us hl
 have F5:a0k K mg "product" a5u ["numbers"]:=a0k.mk' (c5y KX GN a5) l5 c5 k5 fun _ _ _ _ _ _ us hl=>uln1 (fun _=>rfl) us hl
 have F6:a0k K mg "axis" b0k ["shares"]:=a0k.mk' (c5y KX GN a6) l6 c6 k6 fun _ _ _ _ _ _ us hl=>uln1 (fun _=>rfl) us hl
 have F7:a0k K mg "axes" a9d ["points"]:=a0k.mk' (c5y KX GN a7) l7 c7 k7 fun _ _ _ _ _ _ us hl=>uln1 (fun _=>rfl) us hl
 have F8:a0k K mg "spread" a6g ["n","one","other"]:=a0k.mk' (c5y KX GN a8) l8 c8 k8 fun _ _ _ _ _ _ us hl=>uln3 (fun _ _ _=>rfl) us hl
 have F9:a0k K mg "sums_from" a4f ["first","steps"]:=a0k.mk' (c5y KX GN a9) l9 c9 k9 fun _ _ _ _ _ _ us hl=>uln2 (fun _ _=>rfl) us hl
 have F10:a0k K mg "axis_seats" a3y ["one"]:=a0k.mk' (c5y KX GN a10) l10 c10 k10 fun _ _ _ _ _ _ us hl=>uln1 (fun _=>rfl) us hl
 have F11:a0k K mg "share_over" a3t ["top","bottoms"]:=a0k.mk' (c5y KX GN a11) l11 c11 k11 fun _ _ _ _ _ _ us hl=>uln2 (fun _ _=>rfl) us hl
 have F12:a0k K mg "points_of" a3i ["xs","ys"]:=a0k.mk' (c5y KX GN a12) l12 c12 k12 fun _ _ _ _ _ _ us hl=>uln2 (fun _ _=>rfl) us hl
 have F13:a0k K mg "of_powers" a4i ["some"]:=a0k.mk' (c5y KX GN a13) l13 c13 k13 fun _ _ _ _ _ _ us hl=>uln1 (fun _=>rfl) us hl
 have F14:a0k K mg "axis_powers" a2l ["one"]:=a0k.mk' (c5y KX GN a14) l14 c14 k14 fun _ _ _ _ _ _ us hl=>uln1 (fun _=>rfl) us hl
 have F15:a0k K mg "powers" a7c ["curve"]:=a0k.mk' (c5y KX GN a15) l15 c15 k15 fun _ _ _ _ _ _ us hl=>uln1 (fun _=>rfl) us hl
 have F16:a0k K mg "lowered" a5v ["curve"]:=a0k.mk' (c5y KX GN a16) l16 c16 k16 fun _ _ _ _ _ _ us hl=>uln1 (fun _=>rfl) us hl
 have F17:a0k K mg "lower_curve" a3c ["kept","things"]:=a0k.mk' (c5y KX GN a17) l17 c17 k17 fun _ _ _ _ _ _ us hl=>uln2 (fun _ _=>rfl) us hl
 have F18:a0k K mg "share" a8t ["top","bottom"]:=a0k.mk' (c5y KX GN a18) l18 c18 k18 fun _ _ _ _ _ _ us hl=>uln2 (fun _ _=>rfl) us hl
 have F19:a0k K mg "minus" a8u ["one","other"]:=a0k.mk' (c5y KX GN a19) l19 c19 k19 fun _ _ _ _ _ _ us hl=>uln2 (fun _ _=>rfl) us hl
 have F20:a0k K mg "plus" b1x ["one","other"]:=a0k.mk' (c5y KX GN a20) l20 c20 k20 fun _ _ _ _ _ _ us hl=>uln2 (fun _ _=>rfl) us hl
 have F21:a0k K mg "times" a8s ["one","other"]:=a0k.mk' (c5y KX GN a21) l21 c21 k21 fun _ _ _ _ _ _ us hl=>uln2 (fun _ _=>rfl) us hl
 have F22:a0k K mg "between" a5y ["one","other","t"]:=a0k.mk' (c5y KX GN a22) l22 c22 k22 fun _ _ _ _ _ _ us hl=>uln3 (fun _ _ _=>rfl) us hl
 have F23:a0k K mg "on_way" a7e ["one","other","t"]:=a0k.mk' (c5y KX GN a23) l23 c23 k23 fun _ _ _ _ _ _ us hl=>uln3 (fun _ _ _=>rfl) us hl
 have F24:a0k K mg "raised" a6h ["curve"]:=a0k.mk' (c5y KX GN a24) l24 c24 k24 fun _ _ _ _ _ _ us hl=>uln1 (fun _=>rfl) us hl
 have F25:a0k K mg "raise_curve" a3b ["kept","things"]:=a0k.mk' (c5y KX GN a25) l25 c25 k25 fun _ _ _ _ _ _ us hl=>uln2 (fun _ _=>rfl) us hl
 have F26:a0k K mg "kinds_behind" a2t ["first","many"]:=a0k.mk' (c5y KX GN a26) l26 c26 k26 fun _ _ _ _ _ _ us hl=>uln2 (fun _ _=>rfl) us hl
 have F27:a0k K mg "read_level" a2y ["word"]:=a0k.mk' (c5y KX GN a27) l27 c27 k27 fun _ _ _ _ _ _ us hl=>uln1 (fun _=>rfl) us hl
 have F28:a0k K mg "read_name" a3h ["word"]:=a0k.mk' (c5y KX GN a28) l28 c28 k28 fun _ _ _ _ _ _ us hl=>uln1 (fun _=>rfl) us hl
 have F29:a0k K mg "pieces" a7d ["text","sign"]:=a0k.mk' (c5y KX GN a29) l29 c29 k29 fun _ _ _ _ _ _ us hl=>uln2 (fun _ _=>rfl) us hl
 have F30:a0k K mg "read_figures" a2c ["text"]:=a0k.mk' (c5y KX GN a30) l30 c30 k30 fun _ _ _ _ _ _ us hl=>uln1 (fun _=>rfl) us hl
 have F31:a0k K mg "read_whole" a3u ["text"]:=a0k.mk' (c5y KX GN a31) l31 c31 k31 fun _ _ _ _ _ _ us hl=>uln1 (fun _=>rfl) us hl
 have F32:a0k K mg "read_share" a3v ["text"]:=a0k.mk' (c5y KX GN a32) l32 c32 k32 fun _ _ _ _ _ _ us hl=>uln1 (fun _=>rfl) us hl
 have F33:a0k K mg "read_point" a3w ["text"]:=a0k.mk' (c5y KX GN a33) l33 c33 k33 fun _ _ _ _ _ _ us hl=>uln1 (fun _=>rfl) us hl
 have F34:a0k K mg "read_word" a4g ["kind","word"]:=a0k.mk' (c5y KX GN a34) l34 c34 k34 fun _ _ _ _ _ _ us hl=>uln2 (fun _ _=>rfl) us hl
 have F35:a0k K mg "read_row" a4h ["row"]:=a0k.mk' (c5y KX GN a35) l35 c35 k35 fun _ _ _ _ _ _ us hl=>uln1 (fun _=>rfl) us hl
 have F36:a0k K mg "show_whole" a3q ["number"]:=a0k.mk' (c5y KX GN a36) l36 c36 k36 fun _ _ _ _ _ _ us hl=>uln1 (fun _=>rfl) us hl
 have F37:a0k K mg "show_share" a3r ["one"]:=a0k.mk' (c5y KX GN a37) l37 c37 k37 fun _ _ _ _ _ _ us hl=>uln1 (fun _=>rfl) us hl
 have F38:a0k K mg "show_point" a3s ["one"]:=a0k.mk' (c5y KX GN a38) l38 c38 k38 fun _ _ _ _ _ _ us hl=>uln1 (fun _=>rfl) us hl
 have F39:a0k K mg "show_curve" a2x ["curve"]:=a0k.mk' (c5y KX GN a39) l39 c39 k39 fun _ _ _ _ _ _ us hl=>uln1 (fun _=>rfl) us hl
 have F40:a0k K mg "tell_curve" a3p ["kept","things"]:=a0k.mk' (c5y KX GN a40) l40 c40 k40 fun _ _ _ _ _ _ us hl=>uln2 (fun _ _=>rfl) us hl
 have F41:a0k K mg "tell_names" a3o ["kept","things"]:=a0k.mk' (c5y KX GN a41) l41 c41 k41 fun _ _ _ _ _ _ us hl=>uln2 (fun _ _=>rfl) us hl
 have F42:b1r K C_Desk "say" "Desk.say" a5c ["self","row"]:=b1r.mk' a42 i42 l42 c42 k42 fun _ _ _ _ _ _ us hl=>uln2 (fun _ _=>rfl) us hl
 have F43:a0k K mg "_law_filled" a5b ["_law_text","_law_a","_law_b","_law_odd"]:=a0k.mk' (c5y KX GN a43) l43 c43 k43 fun _ _ _ _ _ _ us hl=>uln4 (fun _ _ _ _=>rfl) us hl
 have F44:a0k K mg "_law_no_names" a3a ["_law_a","_law_b","_law_odd"]:=a0k.mk' (c5y KX GN a44) l44 c44 k44 fun _ _ _ _ _ _ us hl=>uln3 (fun _ _ _=>rfl) us hl
 have F45:a0k K mg "_law_no_rows" a3k ["_law_a","_law_b"]:=a0k.mk' (c5y KX GN a45) l45 c45 k45 fun _ _ _ _ _ _ us hl=>uln2 (fun _ _=>rfl) us hl
 have F46:a0k K mg "_law_no_words" a2z ["_law_a","_law_b","_law_odd"]:=a0k.mk' (c5y KX GN a46) l46 c46 k46 fun _ _ _ _ _ _ us hl=>uln3 (fun _ _ _=>rfl) us hl
 have F47:a0k K mg "_law_strangers" a2k ["_law_a","_law_odd"]:=a0k.mk' (c5y KX GN a47) l47 c47 k47 fun _ _ _ _ _ _ us hl=>uln2 (fun _ _=>rfl) us hl
 have F48:a0k K mg "_law_stream" a5a ["_law_cell","_law_many"]:=a0k.mk' (c5y KX GN a48) l48 c48 k48 fun _ _ _ _ _ _ us hl=>uln2 (fun _ _=>rfl) us hl
 have F49:a0k K mg "_law_case" a7f ["_law_cell","_law_names_here","_law_stranger"]:=a0k.mk' (c5y KX GN a49) l49 c49 k49 fun _ _ _ _ _ _ us hl=>uln3 (fun _ _ _=>rfl) us hl
 have F50:a0k K mg "_law_cell_at" a4k ["_law_script","_law_k"]:=a0k.mk' (c5y KX GN a50) l50 c50 k50 fun _ _ _ _ _ _ us hl=>uln2 (fun _ _=>rfl) us hl
 have F51:a0k K mg "_law_share_text" a2r ["_law_one"]:=a0k.mk' (c5y KX GN a51) l51 c51 k51 fun _ _ _ _ _ _ us hl=>uln1 (fun _=>rfl) us hl
 have F52:a0k K mg "_law_point_text" a2s ["_law_place_here"]:=a0k.mk' (c5y KX GN a52) l52 c52 k52 fun _ _ _ _ _ _ us hl=>uln1 (fun _=>rfl) us hl
 have F53:a0k K mg "_law_curve_text" a2d ["_law_curve"]:=a0k.mk' (c5y KX GN a53) l53 c53 k53 fun _ _ _ _ _ _ us hl=>uln1 (fun _=>rfl) us hl
 have F54:a0k K mg "_law_share" a5w ["_law_top","_law_bottom"]:=a0k.mk' (c5y KX GN a54) l54 c54 k54 fun _ _ _ _ _ _ us hl=>uln2 (fun _ _=>rfl) us hl
 have F55:a0k K mg "_law_handed" a4j ["_law_places","_law_bottom"]:=a0k.mk' (c5y KX GN a55) l55 c55 k55 fun _ _ _ _ _ _ us hl=>uln2 (fun _ _=>rfl) us hl
 have F56:a0k K mg "_law_names" a4p ["_law_cell","_law_many"]:=a0k.mk' (c5y KX GN a56) l56 c56 k56 fun _ _ _ _ _ _ us hl=>uln2 (fun _ _=>rfl) us hl
 have F57:a0k K mg "_law_refused" a3j ["_law_desk","_law_row","_law_kind"]:=a0k.mk' (c5y KX GN a57) l57 c57 k57 fun _ _ _ _ _ _ us hl=>uln3 (fun _ _ _=>rfl) us hl
 have F58:a0k K mg "_law_place" a5x ["_law_cell","_law_way_here"]:=a0k.mk' (c5y KX GN a58) l58 c58 k58 fun _ _ _ _ _ _ us hl=>uln2 (fun _ _=>rfl) us hl
 have F59:a0k K mg "_law_seats" a5i ["_law_cell","_law_many","_law_way_here"]:=a0k.mk' (c5y KX GN a59) l59 c59 k59 fun _ _ _ _ _ _ us hl=>uln3 (fun _ _ _=>rfl) us hl
 have F60:a0k K mg "_law_state" a5h ["_law_desk","_law_names_here"]:=a0k.mk' (c5y KX GN a60) l60 c60 k60 fun _ _ _ _ _ _ us hl=>uln2 (fun _ _=>rfl) us hl
 have F61:a0k K mg "_law_way" a8v ["_law_cell"]:=a0k.mk' (c5y KX GN a61) l61 c61 k61 fun _ _ _ _ _ _ us hl=>uln1 (fun _=>rfl) us hl
 have F62:a0k K mg "law" b2u ["_law_script"]:=a0k.mk' (c5y KX GN a62) l62 c62 k62 fun _ _ _ _ _ _ us hl=>uln1 (fun _=>rfl) us hl
 refine⟨c6b "law" "law" (a0s b2u) (a0p b2u) (a0d b2u) .none kV62 dc62 pm62 an62 cd62 ct62,fun s v=>.of_eq rfl,fun P base _ _=>?_⟩
 have D0:=a9l (P:=P) (w:=w) (base:=base) T_Desk nA_Desk_kept F0
 have D1:=b3l (P:=P) (w:=w) (base:=base) F1
 have D2:=a9k (P:=P) (w:=w) (base:=base) F2 B G
 have D3:=a8d (P:=P) (w:=w) (base:=base) F3 B
 have D4:=a8y (P:=P) (w:=w) (base:=base) F4 D3
 have D5:=b9y (P:=P) (w:=w) (base:=base) F5
 have D6:=ok_axis (P:=P) (w:=w) (base:=base) F6 D4 D5
 have D7:=ok_axes (P:=P) (w:=w) (base:=base) F7 D6
 have D8:=c3u (P:=P) (w:=w) (base:=base) F8 B
 have D9:=b5d (P:=P) (w:=w) (base:=base) F9
 have D10:=b3m (P:=P) (w:=w) (base:=base) F10 D6 D8 D9
 have D11:=b3e (P:=P) (w:=w) (base:=base) F11 D3
 have D12:=b5g (P:=P) (w:=w) (base:=base) F12 B D11
 have D13:=b5h (P:=P) (w:=w) (base:=base) F13 D7 D10 D12
 have D14:=b1q (P:=P) (w:=w) (base:=base) F14 B D8
 have D15:=c3w (P:=P) (w:=w) (base:=base) F15 D7 D12 D14
 have D16:=b9z (P:=P) (w:=w) (base:=base) F16 X D2 D13 D15
 have D17:=b1o (P:=P) (w:=w) (base:=base) F17 D16
 have D18:=ok_share (P:=P) (w:=w) (base:=base) F18 D3
 have D19:=ok_minus (P:=P) (w:=w) (base:=base) F19 D18
 have D20:=ok_plus (P:=P) (w:=w) (base:=base) F20 D18
 have D21:=ok_times (P:=P) (w:=w) (base:=base) F21 D18
 have D22:=c0f (P:=P) (w:=w) (base:=base) F22 D19 D20 D21
 have D23:=c3y (P:=P) (w:=w) (base:=base) F23 D22
 have D24:=c3v (P:=P) (w:=w) (base:=base) F24 B X G D18 D23
 have D25:=b1n (P:=P) (w:=w) (base:=base) F25 D24
 have D26:=b0v (P:=P) (w:=w) (base:=base) F26 B X G
 have D27:=b3i (P:=P) (w:=w) (base:=base) F27 B X G
 have D28:=b5f (P:=P) (w:=w) (base:=base) F28 B X G
 have D29:=c3x (P:=P) (w:=w) (base:=base) F29 B X
 have D30:=b0r (P:=P) (w:=w) (base:=base) F30 B X G
 have D31:=b3f (P:=P) (w:=w) (base:=base) F31 X D30
 have D32:=b3g (P:=P) (w:=w) (base:=base) F32 B X D18 D29 D30 D31
 have D33:=b3h (P:=P) (w:=w) (base:=base) F33 B X D29 D32
 have D34:=b5e (P:=P) (w:=w) (base:=base) F34 D27 D28 D32 D33
 have D35:=b7d (P:=P) (w:=w) (base:=base) F35 B X D26 D34
 have D36:=b3a (P:=P) (w:=w) (base:=base) F36 B G
 have D37:=b3b (P:=P) (w:=w) (base:=base) F37 D36
 have D38:=b3c (P:=P) (w:=w) (base:=base) F38 D37
 have D39:=b3d (P:=P) (w:=w) (base:=base) F39 D38
 have D40:=b2z (P:=P) (w:=w) (base:=base) F40 D39
 have D41:=b2y (P:=P) (w:=w) (base:=base) F41 B
 have D42:=b7h (P:=P) (w:=w) (base:=base) T_Desk nA_Desk_kept F42 B X G D1 D17 D25 D35 D40 D41
 have D43:=b7g (P:=P) (w:=w) (base:=base) F43
 have D44:=b3k (P:=P) (w:=w) (base:=base) F44 D43
 have D45:=b5j (P:=P) (w:=w) (base:=base) F45 D43
 have D46:=b3j (P:=P) (w:=w) (base:=base) F46 D43
 have D47:=b1p (P:=P) (w:=w) (base:=base) F47 D43
 have D48:=b7e (P:=P) (w:=w) (base:=base) F48 B
 have D49:=c3z (P:=P) (w:=w) (base:=base) F49 B D44 D45 D46 D47 D48
 have D50:=b5k (P:=P) (w:=w) (base:=base) F50 B
 have D51:=b0s (P:=P) (w:=w) (base:=base) F51 B
 have D52:=b0t (P:=P) (w:=w) (base:=base) F52 D51
 have D53:=b0u (P:=P) (w:=w) (base:=base) F53 D52
 have D54:=c0b (P:=P) (w:=w) (base:=base) F54 B
 have D55:=b7f (P:=P) (w:=w) (base:=base) F55 D54
 have D56:=c0e (P:=P) (w:=w) (base:=base) F56 B D48
 have D57:=b5i (P:=P) (w:=w) (base:=base) T_Desk nA_Desk_kept F57 B X D42
 have D58:=c0d (P:=P) (w:=w) (base:=base) F58 D48
 have D59:=c0c (P:=P) (w:=w) (base:=base) F59 D48 D58
 have D60:=c0a (P:=P) (w:=w) (base:=base) T_Desk nA_Desk_kept F60 D42
 have D61:=ok_l_way (P:=P) (w:=w) (base:=base) F61 D48
 have D62:=ok_law (P:=P) (w:=w) (base:=base) T_Desk nA_Desk_kept F62 B D0 D42 D49 D50 D53 D55 D56 D57 D59 D60 D61
 exact D62.law l62 (c5y KX GN a62)
end Cv
open PySem PySem.W PyProof.Rows
set_option maxHeartbeats 0 in
theorem PySem.Challenge.cw_curveseat_k83_rows_refused_holds : PySem.Challenge.rw_curveseat_k83_rows_refused.Holds := by
 w_on;o_law;k_head;(case hw=>w_witness2)
 k_fill
 refine Cv.walk (l:=PySem.Challenge.rw_curveseat_k83_rows_refused) (k:=10) (x := "_law_script") (CX:=L2.CX0) (sp:=fun K=>(Cv.spLaw K)) rfl rfl ⟨rfl,by decide,by decide⟩ (fun w h Y=>PySem.W.kIn_of Y) ?F (fun K H a ns h1 h2 h3=>⟨a,ns,rfl,h3,h1,fun _=>rfl⟩) (fun _ _ _ _ z=>z)
 case F=>
   intro w mg fa h KX G hmg
   refine' Cv.all_mk KX G hmg ?aC_Desk ?pg_Desk ?hd_Desk ?po_Desk ?sa_Desk ?mk_Desk ?kc_Desk ?nA_Desk_kept ?a0 ?i0 ?l0 ?c0 ?k0 ?a1 ?l1 ?c1 ?k1 ?a2 ?l2 ?c2 ?k2 ?a3 ?l3 ?c3 ?k3 ?a4 ?l4 ?c4 ?k4 ?a5 ?l5 ?c5 ?k5 ?a6 ?l6 ?c6 ?k6 ?a7 ?l7 ?c7 ?k7 ?a8 ?l8 ?c8 ?k8 ?a9 ?l9 ?c9 ?k9 ?a10 ?l10 ?c10 ?k10 ?a11 ?l11 ?c11 ?k11 ?a12 ?l12 ?c12 ?k12 ?a13 ?l13 ?c13 ?k13 ?a14 ?l14 ?c14 ?k14 ?a15 ?l15 ?c15 ?k15 ?a16 ?l16 ?c16 ?k16 ?a17 ?l17 ?c17 ?k17 ?a18 ?l18 ?c18 ?k18 ?a19 ?l19 ?c19 ?k19 ?a20 ?l20 ?c20 ?k20 ?a21 ?l21 ?c21 ?k21 ?a22 ?l22 ?c22 ?k22 ?a23 ?l23 ?c23 ?k23 ?a24 ?l24 ?c24 ?k24 ?a25 ?l25 ?c25 ?k25 ?a26 ?l26 ?c26 ?k26 ?a27 ?l27 ?c27 ?k27 ?a28 ?l28 ?c28 ?k28 ?a29 ?l29 ?c29 ?k29 ?a30 ?l30 ?c30 ?k30 ?a31 ?l31 ?c31 ?k31 ?a32 ?l32 ?c32 ?k32 ?a33 ?l33 ?c33 ?k33 ?a34 ?l34 ?c34 ?k34 ?a35 ?l35 ?c35 ?k35 ?a36 ?l36 ?c36 ?k36 ?a37 ?l37 ?c37 ?k37 ?a38 ?l38 ?c38 ?k38 ?a39 ?l39 ?c39 ?k39 ?a40 ?l40 ?c40 ?k40 ?a41 ?l41 ?c41 ?k41 ?a42 ?i42 ?l42 ?c42 ?k42 ?a43 ?l43 ?c43 ?k43 ?a44 ?l44 ?c44 ?k44 ?a45 ?l45 ?c45 ?k45 ?a46 ?l46 ?c46 ?k46 ?a47 ?l47 ?c47 ?k47 ?a48 ?l48 ?c48 ?k48 ?a49 ?l49 ?c49 ?k49 ?a50 ?l50 ?c50 ?k50 ?a51 ?l51 ?c51 ?k51 ?a52 ?l52 ?c52 ?k52 ?a53 ?l53 ?c53 ?k53 ?a54 ?l54 ?c54 ?k54 ?a55 ?l55 ?c55 ?k55 ?a56 ?l56 ?c56 ?k56 ?a57 ?l57 ?c57 ?k57 ?a58 ?l58 ?c58 ?k58 ?a59 ?l59 ?c59 ?k59 ?a60 ?l60 ?c60 ?k60 ?a61 ?l61 ?c61 ?k61 ?a62 ?l62 ?c62 ?k62 ?z_len ?z_abs ?z_range ?z_max ?z_min ?z_any ?z_all ?z_sum ?z_isinstance ?z_int ?z_bool ?z_tuple ?z_list ?z_str ?z_ValueError ?z_zip ?z_reversed ?z_enumerate ?z_sorted ?z_dict ?a_SeatError ?a_NoText ?a_NoName ?a_TooMany ?a_NoLower ?a_NoShare ?a_NoMap ?a_NoJoin ?a_NoPlace ?l_NoText ?n_NoText ?i_NoText ?t_NoText ?m_NoText ?v_NoText ?l_NoName ?n_NoName ?i_NoName ?t_NoName ?m_NoName ?v_NoName ?l_TooMany ?n_TooMany ?i_TooMany ?t_TooMany ?m_TooMany ?v_TooMany ?l_NoLower ?n_NoLower ?i_NoLower ?t_NoLower ?m_NoLower ?v_NoLower ?m_SNoText ?xhg_NoText ?xhk_NoText ?xhd_NoText ?xha_NoText ?xhn_NoText ?xht_NoText ?xhm_NoText ?xhb_NoText ?v_NoText_NoName ?v_NoText_TooMany ?v_NoText_NoLower ?v_NoText_NoShare ?v_NoText_NoMap ?v_NoText_NoJoin ?v_NoText_NoPlace ?m_SNoName ?xhg_NoName ?xhk_NoName ?xhd_NoName ?xha_NoName ?xhn_NoName ?xht_NoName ?xhm_NoName ?xhb_NoName ?v_NoName_NoText ?v_NoName_TooMany ?v_NoName_NoLower ?v_NoName_NoShare ?v_NoName_NoMap ?v_NoName_NoJoin ?v_NoName_NoPlace ?m_STooMany ?xhg_TooMany ?xhk_TooMany ?xhd_TooMany ?xha_TooMany ?xhn_TooMany ?xht_TooMany ?xhm_TooMany ?xhb_TooMany ?v_TooMany_NoText ?v_TooMany_NoName ?v_TooMany_NoLower ?v_TooMany_NoShare ?v_TooMany_NoMap ?v_TooMany_NoJoin ?v_TooMany_NoPlace ?m_SNoLower ?xhg_NoLower ?xhk_NoLower ?xhd_NoLower ?xha_NoLower ?xhn_NoLower ?xht_NoLower ?xhm_NoLower ?xhb_NoLower ?v_NoLower_NoText ?v_NoLower_NoName ?v_NoLower_TooMany ?v_NoLower_NoShare ?v_NoLower_NoMap ?v_NoLower_NoJoin ?v_NoLower_NoPlace ?a_MOST_SEATS ?a_MOST_LEVEL ?a_FIGURES ?a_MOST_FIGURES ?a_PIECE_FIGURES ?a_PIECE ?a_divmod ?a_LETTERS ?a_MOST_LETTERS ?a_FORMS ?lA_FORMS ?n_b_FORMS ?q_FORMS ?a_DEEDS ?lA_DEEDS ?n_b_DEEDS ?q_DEEDS ?ag_keep_curve ?ag_tell_curve ?ag_tell_names ?ag_raise_curve ?ag_lower_curve ?a_NOUGHT ?lA_NOUGHT ?lB_NOUGHT ?lC_NOUGHT
   (case aC_Desk=>k_is)
   (case pg_Desk=>k_is)
   (case hd_Desk=>k_is)
   (case po_Desk=>k_is)
   (case sa_Desk=>k_is)
   (case mk_Desk=>k_is)
   (case kc_Desk=>k_is)
   (case nA_Desk_kept=>k_is)
   (case a0=>k_is)
   (case i0=>k_is)
   (case l0=>k_is)
   (case c0=>k_is)
   (case k0=>k_is)
   (case a1=>k_is)
   (case l1=>k_is)
   (case c1=>k_is)
   (case k1=>k_is)
   (case a2=>k_is)
   (case l2=>k_is)
   (case c2=>k_is)
   (case k2=>k_is)
   (case a3=>k_is)
   (case l3=>k_is)
   (case c3=>k_is)
   (case k3=>k_is)
   (case a4=>k_is)
   (case l4=>k_is)
   (case c4=>k_is)
   (case k4=>k_is)
   (case a5=>k_is)
   (case l5=>k_is)
   (case c5=>k_is)
   (case k5=>k_is)
   (case a6=>k_is)
   (case l6=>k_is)
   (case c6=>k_is)
   (case k6=>k_is)
   (case a7=>k_is)
   (case l7=>k_is)
   (case c7=>k_is)
   (case k7=>k_is)
   (case a8=>k_is)
   (case l8=>k_is)
   (case c8=>k_is)
   (case k8=>k_is)
   (case a9=>k_is)
   (case l9=>k_is)
   (case c9=>k_is)
   (case k9=>k_is)
   (case a10=>k_is)
   (case l10=>k_is)
   (case c10=>k_is)
   (case k10=>k_is)
   (case a11=>k_is)
   (case l11=>k_is)
   (case c11=>k_is)
   (case k11=>k_is)
   (case a12=>k_is)
   (case l12=>k_is)
   (case c12=>k_is)
   (case k12=>k_is)
   (case a13=>k_is)
   (case l13=>k_is)
   (case c13=>k_is)
   (case k13=>k_is)
   (case a14=>k_is)
   (case l14=>k_is)
   (case c14=>k_is)
   (case k14=>k_is)
   (case a15=>k_is)
   (case l15=>k_is)
   (case c15=>k_is)
   (case k15=>k_is)
   (case a16=>k_is)
   (case l16=>k_is)
   (case c16=>k_is)
   (case k16=>k_is)
   (case a17=>k_is)
   (case l17=>k_is)
   (case c17=>k_is)
   (case k17=>k_is)
   (case a18=>k_is)
   (case l18=>k_is)
   (case c18=>k_is)
   (case k18=>k_is)
   (case a19=>k_is)
   (case l19=>k_is)
   (case c19=>k_is)
   (case k19=>k_is)
   (case a20=>k_is)
   (case l20=>k_is)
   (case c20=>k_is)
   (case k20=>k_is)
   (case a21=>k_is)
   (case l21=>k_is)
   (case c21=>k_is)
   (case k21=>k_is)
   (case a22=>k_is)
   (case l22=>k_is)
   (case c22=>k_is)
   (case k22=>k_is)
   (case a23=>k_is)
   (case l23=>k_is)
   (case c23=>k_is)
   (case k23=>k_is)
   (case a24=>k_is)
   (case l24=>k_is)
   (case c24=>k_is)
   (case k24=>k_is)
   (case a25=>k_is)
   (case l25=>k_is)
   (case c25=>k_is)
   (case k25=>k_is)
   (case a26=>k_is)
   (case l26=>k_is)
   (case c26=>k_is)
   (case k26=>k_is)
   (case a27=>k_is)
   (case l27=>k_is)
   (case c27=>k_is)
   (case k27=>k_is)
   (case a28=>k_is)
   (case l28=>k_is)
   (case c28=>k_is)
   (case k28=>k_is)
   (case a29=>k_is)
   (case l29=>k_is)
   (case c29=>k_is)
   (case k29=>k_is)
   (case a30=>k_is)
   (case l30=>k_is)
   (case c30=>k_is)
   (case k30=>k_is)
   (case a31=>k_is)
   (case l31=>k_is)
   (case c31=>k_is)
   (case k31=>k_is)
   (case a32=>k_is)
   (case l32=>k_is)
   (case c32=>k_is)
   (case k32=>k_is)
   (case a33=>k_is)
   (case l33=>k_is)
   (case c33=>k_is)
   (case k33=>k_is)
   (case a34=>k_is)
   (case l34=>k_is)
   (case c34=>k_is)
   (case k34=>k_is)
   (case a35=>k_is)
   (case l35=>k_is)
   (case c35=>k_is)
   (case k35=>k_is)
   (case a36=>k_is)
   (case l36=>k_is)
   (case c36=>k_is)
   (case k36=>k_is)
   (case a37=>k_is)
   (case l37=>k_is)
   (case c37=>k_is)
   (case k37=>k_is)
   (case a38=>k_is)
   (case l38=>k_is)
   (case c38=>k_is)
   (case k38=>k_is)
   (case a39=>k_is)
   (case l39=>k_is)
   (case c39=>k_is)
   (case k39=>k_is)
   (case a40=>k_is)
   (case l40=>k_is)
   (case c40=>k_is)
   (case k40=>k_is)
   (case a41=>k_is)
   (case l41=>k_is)
   (case c41=>k_is)
   (case k41=>k_is)
   (case a42=>k_is)
   (case i42=>k_is)
   (case l42=>k_is)
   (case c42=>k_is)
   (case k42=>k_is)
   (case a43=>k_is)
   (case l43=>k_is)
   (case c43=>k_is)
   (case k43=>k_is)
   (case a44=>k_is)
   (case l44=>k_is)
   (case c44=>k_is)
   (case k44=>k_is)
   (case a45=>k_is)
   (case l45=>k_is)
   (case c45=>k_is)
   (case k45=>k_is)
   (case a46=>k_is)
   (case l46=>k_is)
   (case c46=>k_is)
   (case k46=>k_is)
   (case a47=>k_is)
   (case l47=>k_is)
   (case c47=>k_is)
   (case k47=>k_is)
   (case a48=>k_is)
   (case l48=>k_is)
   (case c48=>k_is)
   (case k48=>k_is)
   (case a49=>k_is)
   (case l49=>k_is)
   (case c49=>k_is)
   (case k49=>k_is)
   (case a50=>k_is)
   (case l50=>k_is)
   (case c50=>k_is)
   (case k50=>k_is)
   (case a51=>k_is)
   (case l51=>k_is)
   (case c51=>k_is)
   (case k51=>k_is)
   (case a52=>k_is)
   (case l52=>k_is)
   (case c52=>k_is)
   (case k52=>k_is)
   (case a53=>k_is)
   (case l53=>k_is)
   (case c53=>k_is)
   (case k53=>k_is)
   (case a54=>k_is)
   (case l54=>k_is)
   (case c54=>k_is)
   (case k54=>k_is)
   (case a55=>k_is)
   (case l55=>k_is)
   (case c55=>k_is)
   (case k55=>k_is)
   (case a56=>k_is)
   (case l56=>k_is)
   (case c56=>k_is)
   (case k56=>k_is)
   (case a57=>k_is)
   (case l57=>k_is)
   (case c57=>k_is)
   (case k57=>k_is)
   (case a58=>k_is)
   (case l58=>k_is)
   (case c58=>k_is)
   (case k58=>k_is)
   (case a59=>k_is)
   (case l59=>k_is)
   (case c59=>k_is)
   (case k59=>k_is)
   (case a60=>k_is)
   (case l60=>k_is)
   (case c60=>k_is)
   (case k60=>k_is)
   (case a61=>k_is)
   (case l61=>k_is)
   (case c61=>k_is)
   (case k61=>k_is)
   (case a62=>k_is)
   (case l62=>k_is)
   (case c62=>k_is)
   (case k62=>k_is)
   (case z_len=>k_is)
   (case z_abs=>k_is)
   (case z_range=>k_is)
   (case z_max=>k_is)
   (case z_min=>k_is)
   (case z_any=>k_is)
   (case z_all=>k_is)
   (case z_sum=>k_is)
   (case z_isinstance=>k_is)
   (case z_int=>k_is)
   (case z_bool=>k_is)
   (case z_tuple=>k_is)
   (case z_list=>k_is)
   (case z_str=>k_is)
   (case z_ValueError=>k_is)
   (case z_zip=>k_is)
   (case z_reversed=>k_is)
   (case z_enumerate=>k_is)
   (case z_sorted=>k_is)
   (case z_dict=>k_is)
   (case a_SeatError=>k_is)
   (case a_NoText=>k_is)
   (case a_NoName=>k_is)
   (case a_TooMany=>k_is)
   (case a_NoLower=>k_is)
   (case a_NoShare=>k_is)
   (case a_NoMap=>k_is)
   (case a_NoJoin=>k_is)
   (case a_NoPlace=>k_is)
   (case l_NoText=>k_is)
   (case n_NoText=>kernel_rfl)
   (case i_NoText=>k_is)
   (case t_NoText=>kernel_rfl)
   (case m_NoText=>kts_exm)
   (case v_NoText=>kit_is)
   (case l_NoName=>k_is)
   (case n_NoName=>kernel_rfl)
   (case i_NoName=>k_is)
   (case t_NoName=>kernel_rfl)
   (case m_NoName=>kts_exm)
   (case v_NoName=>kit_is)
   (case l_TooMany=>k_is)
   (case n_TooMany=>kernel_rfl)
   (case i_TooMany=>k_is)
   (case t_TooMany=>kernel_rfl)
   (case m_TooMany=>kts_exm)
   (case v_TooMany=>kit_is)
   (case l_NoLower=>k_is)
   (case n_NoLower=>kernel_rfl)
   (case i_NoLower=>k_is)
   (case t_NoLower=>kernel_rfl)
   (case m_NoLower=>kts_exm)
   (case v_NoLower=>kit_is)
   (case m_SNoText=>kts_exm)
   (case xhg_NoText=>k_is)
   (case xhk_NoText=>k_is)
   (case xhd_NoText=>kernel_rfl)
   (case xha_NoText=>k_is)
   (case xhn_NoText=>k_is)
   (case xht_NoText=>k_is)
   (case xhm_NoText=>k_is)
   (case xhb_NoText=>k_is)
   (case v_NoText_NoName=>kit_is)
   (case v_NoText_TooMany=>kit_is)
   (case v_NoText_NoLower=>kit_is)
   (case v_NoText_NoShare=>kit_is)
   (case v_NoText_NoMap=>kit_is)
   (case v_NoText_NoJoin=>kit_is)
   (case v_NoText_NoPlace=>kit_is)
   (case m_SNoName=>kts_exm)
   (case xhg_NoName=>k_is)
   (case xhk_NoName=>k_is)
   (case xhd_NoName=>kernel_rfl)
   (case xha_NoName=>k_is)
   (case xhn_NoName=>k_is)
   (case xht_NoName=>k_is)
   (case xhm_NoName=>k_is)
   (case xhb_NoName=>k_is)
   (case v_NoName_NoText=>kit_is)
   (case v_NoName_TooMany=>kit_is)
   (case v_NoName_NoLower=>kit_is)
   (case v_NoName_NoShare=>kit_is)
   (case v_NoName_NoMap=>kit_is)
   (case v_NoName_NoJoin=>kit_is)
   (case v_NoName_NoPlace=>kit_is)
   (case m_STooMany=>kts_exm)
   (case xhg_TooMany=>k_is)
   (case xhk_TooMany=>k_is)
   (case xhd_TooMany=>kernel_rfl)
   (case xha_TooMany=>k_is)
   (case xhn_TooMany=>k_is)
   (case xht_TooMany=>k_is)
   (case xhm_TooMany=>k_is)
   (case xhb_TooMany=>k_is)
   (case v_TooMany_NoText=>kit_is)
   (case v_TooMany_NoName=>kit_is)
   (case v_TooMany_NoLower=>kit_is)
   (case v_TooMany_NoShare=>kit_is)
   (case v_TooMany_NoMap=>kit_is)
   (case v_TooMany_NoJoin=>kit_is)
   (case v_TooMany_NoPlace=>kit_is)
   (case m_SNoLower=>kts_exm)
   (case xhg_NoLower=>k_is)
   (case xhk_NoLower=>k_is)
   (case xhd_NoLower=>kernel_rfl)
   (case xha_NoLower=>k_is)
   (case xhn_NoLower=>k_is)
   (case xht_NoLower=>k_is)
   (case xhm_NoLower=>k_is)
   (case xhb_NoLower=>k_is)
   (case v_NoLower_NoText=>kit_is)
   (case v_NoLower_NoName=>kit_is)
   (case v_NoLower_TooMany=>kit_is)
   (case v_NoLower_NoShare=>kit_is)
   (case v_NoLower_NoMap=>kit_is)
   (case v_NoLower_NoJoin=>kit_is)
   (case v_NoLower_NoPlace=>kit_is)
   (case a_MOST_SEATS=>k_is)
   (case a_MOST_LEVEL=>k_is)
   (case a_FIGURES=>k_is)
   (case a_MOST_FIGURES=>k_is)
   (case a_PIECE_FIGURES=>k_is)
   (case a_PIECE=>k_is)
   (case a_divmod=>k_is)
   (case a_LETTERS=>k_is)
   (case a_MOST_LETTERS=>k_is)
   (case a_FORMS=>k_is)
   (case lA_FORMS=>k_is)
   (case n_b_FORMS=>kernel_rfl)
   (case q_FORMS=>(unfold Cv.b6j;repeat (first | exact PySem.Paired.nil | (refine PySem.Paired.cons ⟨rfl,rfl,?_⟩ ?_;(first | exact⟨_,rfl⟩ | rfl)))))
   (case a_DEEDS=>k_is)
   (case lA_DEEDS=>k_is)
   (case n_b_DEEDS=>kernel_rfl)
   (case q_DEEDS=>(unfold Cv.b6j;repeat (first | exact PySem.Paired.nil | (refine PySem.Paired.cons ⟨rfl,rfl,?_⟩ ?_;(first | exact⟨_,rfl⟩ | rfl)))))
   (case ag_keep_curve=>k_is)
   (case ag_tell_curve=>k_is)
   (case ag_tell_names=>k_is)
   (case ag_raise_curve=>k_is)
   (case ag_lower_curve=>k_is)
   (case a_NOUGHT=>k_is)
   (case lA_NOUGHT=>k_is)
   (case lB_NOUGHT=>k_is)
   (case lC_NOUGHT=>k_is)
#print axioms PySem.Challenge.cw_curveseat_k83_rows_refused_holds
